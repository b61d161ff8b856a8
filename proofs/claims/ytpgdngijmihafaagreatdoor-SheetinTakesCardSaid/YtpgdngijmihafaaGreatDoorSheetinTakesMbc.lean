/- Texts that SheetinTakes's proof stands on, part 29 of 52. No condition of its own. -/
import Derived.Test.YtpgdngijmihafaaGreatDoorSheetinTakesMd
import Derived.Test.YtpgdngijmihafaaGreatDoorSheetinTakesMh
import Derived.Test.YtpgdngijmihafaaGreatDoorSheetinTakesMy
import Derived.StillTailTactics
import Derived.Deep.CutRange
import Derived.Deep.DeepCutAuto
import Derived.Maps.AppendAt
import Derived.Laws.OwnMore
import Derived.RegionTactic
import Derived.Deep.RegionWith
namespace Go.Proofs.YtpgdngijmihafaaGreatDoor
open Go.RowKit Go.Lib
def Ytd (last:Bool) (run amt:Nat):ByteArray:=if inT last run amt then Yq5 (plT last run amt) else ⟨#[]⟩
theorem Yqf (l:List ByteArray):(Yx8 l).length=l.length:=List.length_map _
theorem Yd3 (last:Bool) (run:Nat):(Yb5 last run).length=Yf5 last run:=by unfold Yb5;rw [List.length_map,List.length_range]
theorem Yna (last:Bool) (run:Nat):(Ymh last run).length=Yf5 last run:=by unfold Ymh;rw [List.length_map,Yd3]
theorem Y2r {l:List ByteArray} {last:Bool} {run:Nat} (h:Yx8 l=Ymh last run) {i:Nat} (hi:i<Yf5 last run):∃h2:i<l.length,l[i]=Yq5 (Yh7 last+Ymw last run+i):=by
 have hl:l.length=Yf5 last run:=by rw [←Yqf,h,Yna]
 refine ⟨by omega,Yzr.2 ?_⟩
 have h1:(Yx8 l)[i]? = some l[i].data.toList:=by unfold Yx8;rw [List.getElem?_map,List.getElem?_eq_getElem (by omega)];rfl
 rw [h] at h1
 unfold Ymh Yb5 at h1
 rw [List.getElem?_map,List.getElem?_map,List.getElem?_range hi] at h1
 simp only [Option.map_some,Option.some.injEq] at h1
 exact h1.symm
set_option maxRecDepth 100000 in
set_option maxHeartbeats 1000000 in
theorem Yx3 (last:Bool) (run amt:Nat) (hr:run<64) (h1:1≤amt) (h2:amt≤200) (w:World):Calls Tryz.prog 101 #[.bool last,.int .i64 (run:Int),.int .i64 (amt:Int)] w fun e w'=> e = .returned (.string (Ytd last run amt))∧Below w.heap.size w w':=by
 have hro:=fun x=> Yt8 last run hr x
 by_cases h:amt≤Yf5 last run
 ·have F:=Lib.hid (show Ytd last run amt=Yq5 (plT last run amt) by unfold Ytd;rw [if_pos (Ynq.2 ⟨h1,h⟩)])
  rw [F.out]
  obtain ⟨i,rfl⟩:∃i,amt=i+1:=⟨amt-1,by omega⟩
  have hat:=fun (l:List ByteArray) (hl:Yx8 l=Ymh last run)=> Y2r hl (i:=i) (by omega)
  have hpl:plT last run (i+1)=Yh7 last+Ymw last run+i:=by unfold plT;omega
  rw [hpl]
  generalize Yq5 (Yh7 last+Ymw last run+i)=y at hat ⊢
  have AT:=Lib.hid hat
  clear hat F hpl h
  go_enter Tryz.func101,Tryz.ntmps101
  go_wp2_with fail
  refine (hro _).mono ?_
  rintro e w1 ⟨l,q,cap,rfl,hl,hst,_,hb⟩
  obtain ⟨hil,hy⟩:=AT.out l hl
  obtain ⟨b,o,rfl,_,hc⟩:=hst.at (by omega)
  have c0:w1.cell? ⟨b,o+i,none⟩=some (.string y):=(hc i hil).trans (by rw [hy])
  have t0:decide ((l.length:Int)<(i:Int)+1)=false:=by simp;omega
  obtain ⟨n,hn⟩:∃n,l.length=n:=⟨_,rfl⟩
  rw [hn] at t0 hil ⊢
  clear hc hl hst hy hn
  go_wp2
  go_ret
  exact ⟨rfl,hb⟩
 ·have F:=Lib.hid (show Ytd last run amt=⟨#[]⟩ by unfold Ytd;rw [if_neg (by rw [Ynq];omega)])
  rw [F.out]
  have hln:=fun (l:List ByteArray) (hl:Yx8 l=Ymh last run)=> (show l.length<amt by rw [←Yqf,hl,Yna];omega)
  clear F h
  go_enter Tryz.func101,Tryz.ntmps101
  go_wp2_with fail
  refine (hro _).mono ?_
  rintro e w1 ⟨l,q,cap,rfl,hl,hst,_,hb⟩
  have hlt:=hln l hl
  have t0:decide ((l.length:Int)<(amt:Int))=true:=by simp;omega
  generalize l.length=n at hlt t0 ⊢
  have t1:decide (n<amt)=true:=by simpa using hlt
  clear hl hst
  go_wp2
  go_ret
  exact ⟨rfl,hb⟩
theorem Ykw (n:Int) (h1:-200≤n) (h2:n≤200) (w:World):Calls Tryz.prog 102 #[.int .i64 n] w fun e w'=> e = .returned (.int .i64 (n.natAbs:Nat))∧w=w':=by
 by_cases h:n<0
 ·have t0:decide (n<0)=true:=by simpa using h
  have F:=Lib.hid (show ((n.natAbs:Nat):Int) = -n by omega)
  rw [F.out]
  go_enter Tryz.func102,Tryz.ntmps102
  go_wp2
  go_ret
  exact ⟨Yby (by rfl),rfl⟩
 ·have t0:decide (n<0)=false:=by simpa using h
  have F:=Lib.hid (show ((n.natAbs:Nat):Int)=n by omega)
  rw [F.out]
  go_enter Tryz.func102,Tryz.ntmps102
  go_wp2
  go_ret
  exact ⟨rfl,rfl⟩
def Yyz (run:Nat):List Nat:=(List.range run).flatMap fun r=> Yb5 false r++Yb5 true r
def Yco (run k:Nat):List Nat:=102::Yyz run++(if 1≤k then Yb5 false run else [])++(if 2≤k then Yb5 true run else [])
theorem Yvt (run:Nat):Yco run 2=Yco (run+1) 0:=by
 unfold Yco Yyz
 simp [List.range_succ,List.flatMap_append]
theorem Yti {run k:Nat} (h:k<2):Yco run (k+1)=Yco run k++Yb5 (k==1) run:=by
 unfold Yco
 rcases (by omega:k=0∨k=1) with rfl | rfl <;> simp
theorem Y0p {last:Bool} {run i:Nat} (h:i<Yf5 last run):(Yb5 last run).take (i+1)=(Yb5 last run).take i ++ [Yh7 last+Ymw last run+i]:=by
 rw [List.take_succ_eq_append_getElem (by rw [Yd3];exact h)]
 simp [Yb5]
theorem Ysl:∀run,(Yyz run).length≤24*run
 | 0=> Nat.le_refl _
 | r+1=> by
  have h:=Ysl r
  have h1:=Ydc false r
  have h2:=Ydc true r
  have e:Yyz (r+1)=Yyz r++(Yb5 false r++Yb5 true r):=by
   unfold Yyz
   rw [List.range_succ,List.flatMap_append]
   simp
  rw [e,List.length_append,List.length_append,Yd3,Yd3]
  omega
theorem Yvg {run k:Nat} (h:run≤64):(Yco run k).length≤1600:=by
 have h0:=Ysl run
 have h1:=Ydc false run
 have h2:=Ydc true run
 unfold Yco
 simp only [List.length_append,List.length_cons]
 split <;> split <;> simp [Yd3] <;> omega
def Ydh:List Nat:=Yco 64 0
theorem Ysn:Ydh.Perm (List.range 103):=by decide +kernel
theorem Yez:Ydh.length=103:=by decide +kernel
theorem Yuj:Ydh[0]? = some 102:=rfl
theorem Y0h:∀j,j<103→(Ydh[j]?.getD 0)<103∧(0<j→(Ydh[j]?.getD 0)<102):=by decide +kernel
def Y4e (p:Nat):List Value:=[.bool (evT p).1,.int .i64 ((evT p).2.1:Int),.int .i64 ((evT p).2.2:Int)]
theorem tkA (b:List UInt8):tk ((Ydh.map Yq5).map fun x=> x.data.toList) b 25 1=tk rowsT b 25 1:=by
 rw [List.map_map]
 refine Ynx ?_ b 25 1
 have:=Ysn.map (fun p=> rowC (Ykr p))
 unfold rowsT allT
 rw [List.map_map]
 exact this
theorem Yn1 {P:Program} {w:World} {ops:Array Oper} {rest:List Oper} {o:Oper} {a:Act} {Q:Exit→Act→World→Prop} {sl x:Operand} {t base e c:Nat} {i:TypeInfo} {z v:Value} {n:Nat} {xs:List Value} {K:Nat} {y0:ByteArray}
  (hgd:o.guard=none) (ho:o.op = .call {callee:=.builtin .append,args:=#[sl,x],argTypes:=#[t,t]})
  (ht:P.underlying t=some (.slice e)) (hi:P.info? e=some i) (hz:i.zero=some z) (hzs:z.cells.size=1) (hsize:i.size=1) (hby:i.bytes=16)
  (hs:a.eval sl=v) (hown:w.ownsRow base e 1 v n xs) (hx:a.eval x = .slice (some ⟨K,0,none⟩) 1 c) (c0:w.cell? ⟨K,0,none⟩=some (.string y0)) (hn:n≤1048576) (hbase:base≤w.heap.size)
  (h:∀v' w',w'.ownsRow base e 1 v' (n+1) (xs ++ [.string y0])→w.grownBy w' v.ownBlock→(v'.ownBlock=v.ownBlock∨v'.ownBlock=some w.heap.size)→wpList P ops Q rest (a.put o.dst v') w'):wpList P ops Q (o::rest) a w:=
 wpList_append_own_at w hgd sl x t ho base e i z 1 16 ht hi hz hsize hby hzs (by decide) v n xs hs hown ⟨K,0,none⟩ 1 c [.string y0] hx rfl
  (fun j u hj=> by
   match j,hj with
   | 0,hj=> cases hj;exact c0)
  (by intro u hu;rw [List.mem_singleton] at hu;subst hu;rfl) (by unfold maxLen;omega) (by omega) hbase
  fun v' w' h1 h2 _ h4=> h v' w' h1 h2 h4
theorem Qab (l:List Nat):∀(i:Nat) (h:i<l.length),(l.flatMap Y4e)[3*i]? = some (.bool (evT l[i]).1)∧(l.flatMap Y4e)[3*i+1]? = some (.int .i64 ((evT l[i]).2.1:Int))∧(l.flatMap Y4e)[3*i+2]? = some (.int .i64 ((evT l[i]).2.2:Int)):=by
 induction l with
 | nil=> intro i h;cases h
 | cons p l ih=>
  intro i h
  match i with
  | 0=> exact ⟨rfl,rfl,rfl⟩
  | i+1=>
   have:=ih i (by simpa using h)
   rw [List.flatMap_cons,show 3*(i+1)=(Y4e p).length+3*i by simp [Y4e];omega]
   rw [List.getElem?_append_right (by omega),Nat.add_sub_cancel_left,Nat.add_assoc,Nat.add_assoc,List.getElem?_append_right (by omega),List.getElem?_append_right (by omega),Nat.add_sub_cancel_left,Nat.add_sub_cancel_left]
   exact this
def Yob (O:Nat) (P:List Nat) (u v:Value) (wr:World):Prop:=
 wr.ownsRow O 9 1 u P.length (Ybe (P.map Yq5))∧wr.ownsRow O 111 3 v P.length (P.flatMap Y4e)
theorem Yob.below {O:Nat} {P:List Nat} {u v:Value} {w x:World} (h:Yob O P u v w) (hb:Below w.heap.size w x):Yob O P u v x:=
 ⟨h.1.kept (Yal hb none) (Classical.em _),h.2.kept (Yal hb none) (Classical.em _)⟩
theorem Yob.lt {O:Nat} {P:List Nat} {u v:Value} {w:World} (h:Yob O P u v w):(∀k,u.ownBlock=some k→k<w.heap.size)∧∀k,v.ownBlock=some k→k<w.heap.size:=
 ⟨fun k e=> (h.1.lt k e).2,fun k e=> (h.2.lt k e).2⟩
theorem Ypm {w x:World} {q:Option Addr} {l:List ByteArray} {row:Option Nat} (h:Yjw w q l) (hg:w.grownBy x row) (hne:∀a,q=some a→some a.block≠row):Yjw x q l:=by
 rcases h with h | ⟨b,o,rfl,h2,h3⟩
 ·exact .inl h
 ·refine .inr ⟨b,o,rfl,Nat.lt_of_lt_of_le h2 hg.size,fun i hi=> ?_⟩
  exact (World.cell?_of_block (a:=⟨b,o+i,none⟩) (hg.block b h2 (hne _ rfl))).trans (h3 i hi)
theorem Y83 {w:World} {q:Option Addr} {l:List ByteArray} (h:Yjw w q l) (h0:0<l.length):∀a,q=some a→a.block<w.heap.size:=by
 obtain ⟨b,o,rfl,h2,_⟩:=h.at h0
 intro a e
 cases e
 exact h2
def Y0g (q:Option Addr) (u v:Value):Prop:=∀a,q=some a→some a.block≠u.ownBlock∧some a.block≠v.ownBlock
theorem Y64 {O n:Nat} {u v v2:Value} {wr w2 wA:World} {ob:Obj} {q:Option Addr} {l:List ByteArray} {xs ys:List Value} (o1:wr.ownsRow O 9 1 u n xs) (o2:wr.ownsRow O 111 3 v n ys) (hb:Below O wA wr) (hz:O≤wr.heap.size)
  (hst:Yjw wr q l) (hap:Y0g q u v) (hq:∀a,q=some a→a.block<wr.heap.size) (hgr:(wr.alloc ob).grownBy w2 u.ownBlock) (hat:v2.ownBlock=u.ownBlock∨v2.ownBlock=some (wr.alloc ob).heap.size):
  w2.ownsRow O 111 3 v n ys∧Below O wA w2∧O≤w2.heap.size∧Yjw w2 q l∧Y0g q v2 v∧∀a,q=some a→a.block<w2.heap.size:=by
 have hs1:(wr.alloc ob).heap.size=wr.heap.size+1:=by simp
 refine ⟨Yo6 (o2.alloc _) (o1.alloc _) (by decide) hgr,(hb.alloc hz _).grown hgr (by omega) (fun k hk=> (o1.lt k hk).1),Nat.le_trans (by omega) hgr.size,Ypm (hst.below ((Below.refl _ wr).alloc (Nat.le_refl _) _)) hgr (fun a ha=> (hap a ha).1),fun a ha=> ⟨?_,(hap a ha).2⟩,fun a ha=> ?_⟩
 ·rcases hat with h | h
  ·rw [h];exact (hap a ha).1
  ·rw [h];intro e;injection e with e;have:=hq a ha;omega
 ·have:=hq a ha;have:=hgr.size;omega
theorem Y96 {O n m:Nat} {u v v2:Value} {wr w2 wA:World} {ob:Obj} {q:Option Addr} {l:List ByteArray} {xs ys:List Value} (o1:wr.ownsRow O 9 1 u n xs) (o2:wr.ownsRow O 111 3 v m ys) (hb:Below O wA wr) (hz:O≤wr.heap.size)
  (hst:Yjw wr q l) (hap:Y0g q u v) (hq:∀a,q=some a→a.block<wr.heap.size) (hgr:(wr.alloc ob).grownBy w2 v.ownBlock) (hat:v2.ownBlock=v.ownBlock∨v2.ownBlock=some (wr.alloc ob).heap.size):
  w2.ownsRow O 9 1 u n xs∧Below O wA w2∧O≤w2.heap.size∧Yjw w2 q l∧Y0g q u v2:=by
 have hs1:(wr.alloc ob).heap.size=wr.heap.size+1:=by simp
 refine ⟨Yo6 (o1.alloc _) (o2.alloc _) (by decide) hgr,(hb.alloc hz _).grown hgr (by omega) (fun k hk=> (o2.lt k hk).1),Nat.le_trans (by omega) hgr.size,Ypm (hst.below ((Below.refl _ wr).alloc (Nat.le_refl _) _)) hgr (fun a ha=> (hap a ha).2),fun a ha=> ⟨(hap a ha).1,?_⟩⟩
 rcases hat with h | h
 ·rw [h];exact (hap a ha).2
 ·rw [h];intro e;injection e with e;have:=hq a ha;omega
def Yrt (b:List UInt8) (at_:Nat) (w:World) (e:Ending) (w':World):Prop:=
 e = .returned (.tuple #[Yug (etk b).1,.int .i64 ((at_+(etk b).2.2:Nat):Int),.int .i64 (etk b).2.1])∧Below w.heap.size w w'
theorem Yg8 {bs:List UInt8} {at_ n:Nat} {z:Int} {w w':World} {l:Bool} {r:Nat} {v f:Int} (h:etk bs=((l,r,v),f,n)) (ht:((at_+n:Nat):Int)=z) (hb:Below w.heap.size w w'):
  Yrt bs at_ w (.returned (.tuple #[.agg #[.bool l,.int .i64 (r:Int),.int .i64 v],.int .i64 z,.int .i64 f])) w':=by
 subst ht
 unfold Yrt
 rw [h]
 exact ⟨rfl,hb⟩
theorem Ye6 {bs:List UInt8} {at_:Nat} {w w':World} {f:Int} (h:etk bs=((false,0,0),f,0)) (hb:Below w.heap.size w w'):
  Yrt bs at_ w (.returned (.tuple #[.agg #[.bool false,.int .i64 0,.int .i64 0],.int .i64 (at_:Int),.int .i64 f])) w':=Yg8 (r:=0) (n:=0) h rfl hb
set_option maxRecDepth 100000 in
set_option maxHeartbeats 4000000 in
theorem Yv6 (s:ByteArray) (at_:Nat) (w:World) (hs:s.size≤1048576) (ha:at_≤s.size) (hrow:Yba s.data.toList=true):
  Calls Tryz.prog 71 #[.string s,.int .i64 (at_:Int)] w (Yrt (s.data.toList.drop at_) at_ w):=by
 obtain ⟨i0,hi,jz0,jz1,jz2⟩:=info_parts Ylf
 obtain ⟨i1,hj,kz0,kz1,kz2⟩:=info_parts Yvn
 obtain ⟨B,hB⟩:∃B,w.heap.size=B:=⟨_,rfl⟩
 obtain ⟨wA,hwA⟩:∃wA,w.alloc (.cells #[.bool false,.int .i64 0,.int .i64 0] 111 (0,0))=wA:=⟨_,rfl⟩
 have hzA:wA.heap.size=B+1:=by rw [←hwA,←hB];simp
 have hbA:Below B w wA:=by rw [←hwA,←hB];exact (Below.refl _ w).alloc (Nat.le_refl _) _
 have hhA:wA.heap[B]? = some (Ybq false 0 0):=by rw [←hwA,←hB];exact heap_alloc_new w _
 obtain ⟨wB,hwB⟩:∃wB,(wA.alloc (.cells #[.string ⟨#[48,48,48,48,48,49,49]⟩] 9 (0,0))).alloc (.cells #[.bool false,.int .i64 0,.int .i64 0] 111 (0,0))=wB:=⟨_,rfl⟩
 have hbB:Below (B+1) wA wB:=by rw [←hwB,←hzA];exact ((Below.refl _ wA).alloc (Nat.le_refl _) _).alloc (by simp) _
 have hzB:B+1≤wB.heap.size:=by rw [←hzA];exact hbB.size
 have hown0:Yob (B+1) (Yco 0 0) (.slice (some ⟨B+1,0,none⟩) 1 1) (.slice (some ⟨B+1+1,0,none⟩) 1 1) wB:=by
  rw [←hwB,←hzA]
  refine ⟨World.ownsRow.alloc (World.ownsRow_lit wA #[.string ⟨#[48,48,48,48,48,49,49]⟩] 1 (Nat.le_refl _) (by unfold maxLen;omega) rfl) _,?_⟩
  have:=World.ownsRow_lit (base:=wA.heap.size) (e:=111) (size:=3) (wA.alloc (.cells #[.string ⟨#[48,48,48,48,48,49,49]⟩] 9 (0,0))) #[.bool false,.int .i64 0,.int .i64 0] 1 (by simp) (by unfold maxLen;omega) rfl
  rw [show (wA.alloc (.cells #[.string ⟨#[48,48,48,48,48,49,49]⟩] 9 (0,0))).heap.size=wA.heap.size+1 by simp] at this
  exact this
 have HB:=Lib.hid hB
 have HWB:=Lib.hid (show ((w.alloc (.cells #[.bool false,.int .i64 0,.int .i64 0] 111 (0,0))).alloc (.cells #[.string ⟨#[48,48,48,48,48,49,49]⟩] 9 (0,0))).alloc (.cells #[.bool false,.int .i64 0,.int .i64 0] 111 (0,0))=wB by rw [hwA];exact hwB)
 have HBA:=Lib.hid hbA
 have HHA:=Lib.hid hhA
 have HZA:=Lib.hid hzA
 clear hB hwA hwB hbA hhA hzA
 go_enter Tryz.func71,Tryz.ntmps71
 go_wp2
 rw [HWB.out,HB.out]
 go_loopw [7,8,9] (fun u v z wr=>∃run:Nat,run≤64∧z = .int .i64 run∧Yob (B+1) (Yco run 0) u v wr∧Below (B+1) wA wr∧B+1≤wr.heap.size) (fun _ _ z _=> 64-(intOf z).toNat)
 case atStart=> exact ⟨0,by omega,rfl,hown0,hbB,hzB⟩
 case round=>
  clear hown0 hbB hzB
  obtain ⟨run,hrun,rfl,hown,hb,hz⟩:=hrel
  by_cases hlt:run<64
  ·have t0:decide ((run:Int)≤63)=true:=by simp;omega
   go_wp2_with fail
   obtain ⟨wo,rfl⟩:∃wo:World,wo=wr:=⟨_,rfl⟩
   go_loopw [7,8,10] (fun u v z wr=>∃k:Nat,k≤2∧z = .int .i64 k∧Yob (B+1) (Yco run k) u v wr∧Below (B+1) wA wr∧B+1≤wr.heap.size) (fun _ _ z _=> 2-(intOf z).toNat)
   case atStart=> exact ⟨0,by omega,rfl,hown,hb,hz⟩
   case round=>
    clear hown hb hz
    obtain ⟨k,hk,rfl,hown,hb,hz⟩:=hrel
    by_cases hk2:k<2
    ·obtain ⟨la,hla⟩:∃la,(k==1)=la:=⟨_,rfl⟩
     have g0:((k:Int)==1)=la:=by rw [←hla,Bool.eq_iff_iff,beq_iff_eq,beq_iff_eq];omega
     have t1:decide ((k:Int)<2)=true:=by simp;omega
     have LA:=Lib.hid hla
     clear hla
     go_wp2_with fail
     refine (Yt8 la run hlt _).mono ?_
     rintro e ws ⟨l,q,cap,rfl,hl,hst,hfr,hbs⟩
     have hown2:=hown.below hbs
     have hap:Y0g q u7 u8:=by
      obtain ⟨l1,l2⟩:=hown.lt
      intro a ha
      have:=hfr a ha
      exact ⟨fun e=> by have:=l1 _ e.symm;omega,fun e=> by have:=l2 _ e.symm;omega⟩
     have hb2:=hb.trans (hbs.mono hz)
     have hz2:=Nat.le_trans hz hbs.size
     have hn:l.length=Yf5 la run:=by rw [←Yqf,hl,Yna]
     have HL:=Lib.hid hl
     obtain ⟨n,hnn⟩:∃n,Yf5 la run=n:=⟨_,rfl⟩
     rw [hnn] at hn
     have HN:=Lib.hid hn
     have HNN:=Lib.hid hnn
     have hn12:n≤12:=by rw [←hnn];exact Ydc la run
     have hst2:=hst
     clear hown hb hz hbs hfr hl hst hnn
     go_wp2_with fail
     obtain ⟨wo2,rfl⟩:∃wo2:World,wo2=ws:=⟨_,rfl⟩
     go_loopw [7,8,12] (fun u v z wr=>∃i:Nat,i≤n∧z = .int .i64 i∧Yob (B+1) (Yco run k++(Yb5 la run).take i) u v wr∧Below (B+1) wA wr∧B+1≤wr.heap.size∧Yjw wr q l∧Y0g q u v) (fun _ _ z _=> n-(intOf z).toNat)
     case atStart=> exact ⟨0,by omega,rfl,by rw [List.take_zero,List.append_nil];exact hown2,hb2,hz2,hst2,hap⟩
     case round=>
      clear hown2 hb2 hz2 hst2 hap
      obtain ⟨i,hin,rfl,hown,hb,hz,hst,hap⟩:=hrel
      by_cases hlt2:i<n
      ·have hia:i<Yf5 la run:=by rw [HNN.out];exact hlt2
       obtain ⟨hil,hy⟩:=Y2r HL.out (i:=i) hia
       obtain ⟨p,hp⟩:∃p,Yh7 la+Ymw la run+i=p:=⟨_,rfl⟩
       have htk:=Y0p hia
       rw [hp] at hy htk
       have hev:evT p=(la,run,i+1):=by
        have h2:plT la run (i+1)=p:=by unfold plT;omega
        rw [←h2]
        exact Qbq hlt (Ynq.2 ⟨by omega,by omega⟩)
       have hlen:(Yco run k++(Yb5 la run).take i).length≤1700:=by
        have:=Yvg (run:=run) (k:=k) hrun
        rw [List.length_append,List.length_take]
        omega
       have hqlt:=Y83 hst (by omega)
       obtain ⟨b,o,rfl,hbl,hcells⟩:=hst.at (by omega)
       have c0:wr.cell? ⟨b,o+i,none⟩=some (.string (Yq5 p)):=(hcells i hil).trans (by rw [hy])
       obtain ⟨y,hyy⟩:∃y,Yq5 p=y:=⟨_,rfl⟩
       rw [hyy] at c0
       obtain ⟨P,hP⟩:∃P,Yco run k++(Yb5 la run).take i=P:=⟨_,rfl⟩
       have hP2:Yco run k++(Yb5 la run).take (i+1)=P ++ [p]:=by rw [htk,←List.append_assoc,hP]
       rw [hP] at hown hlen
       have S1:=Lib.hid (show Ybe ((P ++ [p]).map Yq5)=Ybe (P.map Yq5) ++ [.string y] by rw [List.map_append,List.map_singleton,Ydn,hyy])
       have S2:=Lib.hid (show (P ++ [p]).flatMap Y4e=P.flatMap Y4e ++ [.bool la,.int .i64 (run:Int),.int .i64 ((i:Int)+1)] by rw [List.flatMap_append];simp [Y4e,hev])
       have HP2:=Lib.hid hP2
       obtain ⟨o1,o2⟩:=hown
       clear hP2 hP hyy hcells hil hy hp htk hev hia
       go_wp2_with (first
        | (at_builtin;refine Yn1 (y0:=y) rfl rfl Tryz.underlying106 hi jz0 rfl jz1 jz2 rfl (o1.alloc _) rfl ?d1 ?d2 ?d3 ?_;(case d1=> go_cell);(case d2=> omega);(case d3=> (simp;omega));intro v2 w2 q1 hgr hat;obtain ⟨q2,hb3,hz3,hst3,hap3,hql3⟩:=Y64 o1 o2 hb hz hst hap hqlt hgr hat;clear hgr hat)
        | (at_builtin;refine Ycd (y0:=la) (y1:=(run:Int)) (y2:=(i:Int)+1) rfl rfl Tryz.underlying47 hj kz0 rfl kz1 kz2 rfl (q2.alloc _) rfl ?e0 ?e1 ?e2 ?d2 ?d3 ?_;(case e0=> go_cell);(case e1=> go_cell);(case e2=> go_cell);(case d2=> omega);(case d3=> (simp;omega));intro v3 w3 q3 hgr2 hat2;obtain ⟨q4,hb4,hz4,hst4,hap4⟩:=Y96 q1 q2 hb3 hz3 hst3 hap3 hql3 hgr2 hat2;clear hgr2 hat2))
       go_roundw
       case rel=> exact ⟨i+1,by omega,by go_num,by rw [HP2.out];unfold Yob;rw [S1.out,S2.out,List.length_append,List.length_singleton];exact ⟨q4,q3⟩,hb4,hz4,hst4,hap4⟩
       case measure=> simp [intOf];omega
      ·obtain rfl:i=n:=by omega
       have HQ:=Lib.hid (show Yco run k++(Yb5 la run).take i=Yco run (k+1) by
        rw [Yti hk2,←LA.out,List.take_of_length_le (by rw [Yd3,LA.out,HNN.out];exact Nat.le_refl _)])
       rw [HQ.out] at hown
       go_wp2
       go_roundw
       case rel=> exact ⟨k+1,by omega,by go_num,hown,hb,hz⟩
       case measure=> simp [intOf];omega
    ·obtain rfl:k=2:=by omega
     rw [Yvt] at hown
     go_wp2
     go_roundw
     case rel=> exact ⟨run+1,by omega,by go_num,hown,hb,hz⟩
     case measure=> simp [intOf];omega
  ·obtain rfl:run=64:=by omega
   have t0:decide (((64:Nat):Int)≤63)=false:=by decide
   obtain ⟨o1,o2⟩:=hown
   have o1':wr.ownsRow (B+1) 9 1 u7 (Ydh.map Yq5).length (Ybe (Ydh.map Yq5)):=by rw [List.length_map];exact o1
   obtain ⟨q,cq,rfl,hq⟩:=Yiy o1'
   have hmap:(Ydh.map Yq5).length=103:=by rw [List.length_map,Yez]
   have o2':wr.ownsRow (B+1) 111 3 u8 103 (Ydh.flatMap Y4e):=by rw [←Yez];exact o2
   obtain ⟨g,ce,rfl,hBg,hglt⟩:=o2'.form (by omega)
   have hcell:=fun j hj=> o2'.cellAt j hj
   obtain ⟨bs,hbs⟩:∃bs,s.data.toList.drop at_=bs:=⟨_,rfl⟩
   have hbl:bs.length=s.size-at_:=by rw [←hbs,List.length_drop];rfl
   obtain ⟨f,n,hk⟩:∃f n,tk rowsT bs 25 1=(f,n):=⟨_,_,rfl⟩
   have htr:=Yhu (Ydh.map Yq5) q cq s at_ wr hq (by rw [hmap];decide) hs ha
   have HCX:=Lib.hid (fun (x:World) (hx:Below wr.heap.size wr x) (j:Nat) (hj:j<309)=> ((World.cell?_of_block (a:=⟨g,j,none⟩) (hx.block g hglt)).trans (hcell j (by omega)):x.cell? ⟨g,j,none⟩=(Ydh.flatMap Y4e)[j]?))
   rw [hbs] at htr
   rw [hmap] at htr ⊢
   have HBS:=Lib.hid hbs
   have BL:=Lib.hid hbl
   have HK:=Lib.hid hk
   have HTR:=Lib.hid htr
   have HX:=Lib.hid (fun (x:World) (hx:Below wr.heap.size wr x)=> ((((hb.trans (hx.mono hz)).block B (by omega)).trans HHA.out):x.heap[B]? = some (Ybq false 0 0)))
   have HBX:=Lib.hid (fun (x:World) (hx:Below wr.heap.size wr x)=> (HBA.out.trans ((hb.trans (hx.mono hz)).mono (by omega)):Below B w x))
   clear o1 o1' o2 o2' hcell hbs hbl hk htr hb hz hq hglt
   go_wp2_with fail
   refine HTR.out.mono ?_
   rintro e w2 ⟨j,rfl,hj0,hj1,hb2⟩
   rw [tkA,HK.out] at hj0 hj1 ⊢
   have hh2:=HX.out _ hb2
   have hbw2:=HBX.out _ hb2
   obtain ⟨d0,d1,d2,f0,f1,f2⟩:=Ya3 hh2
   by_cases hf:f=0
   ·subst hf
    obtain ⟨hjl,hjr⟩:=hj0 rfl
    clear hj0 hj1
    have hj103:j<103:=by rw [hmap] at hjl;exact hjl
    obtain ⟨p,hp⟩:∃p,Ydh[j]?.getD 0=p:=⟨_,rfl⟩
    obtain ⟨p1,p2⟩:=Y0h j hj103
    rw [hp] at p1 p2
    have hpe:Ydh[j]'(by rw [Yez];exact hj103)=p:=by
     rw [←hp,List.getElem?_eq_getElem (by rw [Yez];exact hj103)]
     rfl
    have hpr:rowC (Ykr p)=bs.take n:=by
     rw [←hjr,List.getElem_map,hpe]
     rfl
    have hg:=Yu0 Ynr HK.out (Yl9 p1) hpr
    have hnl:=(Yoq HK.out).2.1
    have hnp:n=Ycs p:=by
     have:=congrArg List.length hpr
     rw [Yd7,List.length_take,Nat.min_eq_left hnl] at this
     exact this.symm
    have hg2:gtk allT bs=((p:Int),0,n):=hg
    have HG:=Lib.hid hg2
    have hn12:n≤12:=by rw [hnp];exact (Ycv p p1).2.1
    by_cases hj0:0<j
    ·have hp102:=p2 hj0
     have t1:decide (0<(j:Int))=true:=by simp;omega
     have t2:decide (0<j)=true:=by simpa using hj0
     obtain ⟨e0,e1,e2⟩:=Qab Ydh j (by rw [Yez];exact hj103)
     rw [hpe,Nat.mul_comm 3 j] at e0 e1 e2
     obtain ⟨⟨l,r,a⟩,hev⟩:∃x,evT p=x:=⟨_,rfl⟩
     have ha12:=(Y3t p hp102).2.2.2
     rw [hev] at e0 e1 e2 ha12
     have c0:=(HCX.out _ hb2 (j*3) (by omega)).trans e0
     have c1:=(HCX.out _ hb2 (j*3+1) (by omega)).trans e1
     have c2:=(HCX.out _ hb2 (j*3+2) (by omega)).trans e2
     by_cases hend:at_+n=s.size
     ·have F:=Lib.hid (Yq2 hg2 (by rw [if_neg (by omega),←hnp,BL.out];omega))
      have g0:((at_:Int)+n==s.size)=true:=by rw [beq_iff_eq];omega
      clear hpr hpe hjr hjl hg hg2 hnp hnl p2 hp hend e0 e1 e2 hev c0 c1 c2
      go_wp2
      refine bodyPost_ret (Yaf rfl _ _ B 111 _ (0,0) _ rfl (Ydi hh2 false 0 0) Tryz.underlying111 rfl (by kernel_rfl)) rfl ?_
      exact Ye6 (f:=2) (by rw [HBS.out];exact F.out) (by rw [HB.out];exact ((hbw2.setCell (Nat.le_refl _) _).setCell (Nat.le_refl _) _).setCell (Nat.le_refl _) _)
     ·have hlt2:at_+n<s.size:=by rw [BL.out] at hnl;omega
      have F0:=Ymg hg2 (by omega) (by rw [←hnp,BL.out];omega)
      rw [←hnp,hev] at F0
      have hnum:=Ylz bs n (by rw [BL.out];omega)
      have hbn:bs[n]'(by rw [BL.out];omega)=s[at_+n]:=by
       have:=HBS.out
       subst this
       rw [List.getElem_drop]
       rfl
      rw [hbn] at hnum
      have hdig:=Yfr s.data.toList (at_+n) hlt2 hrow
      have hdig2:s[at_+n].toNat=48∨s[at_+n].toNat=49:=hdig
      have g0:((at_:Int)+n==s.size)=false:=by rw [beq_eq_false_iff_ne];omega
      have hb3:Below wr.heap.size wr (w2.alloc (.cells #[.bool l,.int .i64 (r:Int),.int .i64 (a:Int)] 111 (0,0))):=hb2.alloc hb2.size _
      have hh3:=HX.out _ hb3
      have hbw3:=HBX.out _ hb3
      have hx3:(w2.alloc (.cells #[.bool l,.int .i64 (r:Int),.int .i64 (a:Int)] 111 (0,0))).heap[w2.heap.size]? = some (Ybq l r a):=heap_alloc_new w2 _
      have hBX:B<w2.heap.size:=(Array.getElem?_eq_some_iff.1 hh2).1
      obtain ⟨m0,m1,m2,k0,k1,k2⟩:=Ya3 hh3
      obtain ⟨x0,x1,x2,y0,y1,y2⟩:=Ya3 hx3
      clear hpr hpe hjr hjl hg hg2 hnp hnl p2 hp hend e0 e1 e2 hev hbn hdig
      rcases hdig2 with h48 | h49
      ·have F:=Lib.hid (show etk bs=((l,r,(a:Int)),0,n+1) by
        rw [F0,hnum,h48,show (2*num (bs.take n)+(48-48))%2=0 by omega]
        rfl)
       have g1:((s[at_+n].toNat:Int)==49)=false:=by rw [h48];rfl
       clear F0 hnum
       go_wp2
       refine bodyPost_ret (Yaf rfl _ _ B 111 _ (0,0) _ rfl (Yat (Ydi hh2 l r a)) Tryz.underlying111 rfl (by kernel_rfl)) rfl ?_
       exact Yg8 (n:=n+1) (by rw [HBS.out];exact F.out) (by omega) (by rw [HB.out];exact (((hbw2.setCell (Nat.le_refl _) _).setCell (Nat.le_refl _) _).setCell (Nat.le_refl _) _).alloc (by simp;omega) _)
      ·have F:=Lib.hid (show etk bs=((l,r,-(a:Int)),0,n+1) by
        rw [F0,hnum,h49,show (2*num (bs.take n)+(49-48))%2=1 by omega]
        rfl)
       have g1:((s[at_+n].toNat:Int)==49)=true:=by rw [h49];rfl
       clear F0 hnum
       go_wp2
       refine bodyPost_ret (Yaf rfl _ _ B 111 _ (0,0) _ rfl (Yat (Ydi hh2 l r (-(a:Int)))) Tryz.underlying111 rfl (by kernel_rfl)) rfl ?_
       exact Yg8 (n:=n+1) (by rw [HBS.out];exact F.out) (by omega) (by rw [HB.out];exact (((hbw2.setCell (Nat.le_refl _) _).setCell (Nat.le_refl _) _).setCell (Nat.le_refl _) _).alloc (by simp;omega) _)
    ·obtain rfl:j=0:=by omega
     have hp2:p=102:=by
      rw [Yuj] at hp
      exact hp.symm
     subst hp2
     have hn7:n=7:=by rw [hnp];decide +kernel
     subst hn7
     clear hpr hpe hjr hjl hg hnp p2 hp hj103 hj0
     by_cases hsh:s.size<at_+22
     ·have F:=Lib.hid (Yq2 hg2 (by rw [if_pos rfl,BL.out];omega))
      have g0:decide ((s.size:Int)-((at_:Int)+7)<15)=true:=by simp;omega
      clear hg2 hnl
      go_wp2
      refine bodyPost_ret (Yaf rfl _ _ B 111 _ (0,0) _ rfl (Ydi hh2 false 0 0) Tryz.underlying111 rfl (by kernel_rfl)) rfl ?_
      exact Ye6 (f:=2) (by rw [HBS.out];exact F.out) (by rw [HB.out];exact ((hbw2.setCell (Nat.le_refl _) _).setCell (Nat.le_refl _) _).setCell (Nat.le_refl _) _)
     ·have F0:=Yj3 hg2 (by rw [BL.out];omega)
      have g0:decide ((s.size:Int)-((at_:Int)+7)<15)=false:=by simp;omega
      obtain ⟨T,hT⟩:∃T:Nat,at_+7=T:=⟨_,rfl⟩
      have hTi:(at_:Int)+7=(T:Int):=by omega
      have hT15:T+15≤s.size:=by omega
      have hTlt:T<s.size:=by omega
      have hrow2:Yba bs=true:=by rw [←HBS.out];exact Yax _ _ hrow
      obtain ⟨x1,hx1⟩:∃x1,s.extract (T+1) (T+7)=x1:=⟨_,rfl⟩
      obtain ⟨x2,hx2⟩:∃x2,s.extract (T+7) (T+15)=x2:=⟨_,rfl⟩
      have hd1:x1.data.toList=(bs.drop 8).take 6:=by
       rw [←hx1,Lib.extract_data,←HBS.out,List.drop_drop,show T+7-(T+1)=6 by omega,show at_+8=T+1 by omega]
      have hd2:x2.data.toList=(bs.drop 14).take 8:=by
       rw [←hx2,Lib.extract_data,←HBS.out,List.drop_drop,show T+15-(T+7)=8 by omega,show at_+14=T+7 by omega]
      have hl1:x1.data.toList.length=6:=by rw [hd1,List.length_take,List.length_drop,BL.out];omega
      have hl2:x2.data.toList.length=8:=by rw [hd2,List.length_take,List.length_drop,BL.out];omega
      have hr1:Yba x1.data.toList=true:=by rw [hd1];exact Ya9 _ _ (Yax _ _ hrow2)
      have hr2:Yba x2.data.toList=true:=by rw [hd2];exact Ya9 _ _ (Yax _ _ hrow2)
      obtain ⟨r,hr⟩:∃r,num x1.data.toList=r:=⟨_,rfl⟩
      obtain ⟨v8,hv8⟩:∃v8,num x2.data.toList=v8:=⟨_,rfl⟩
      have hr64:r<64:=by
       have:=Yhj _ hr1 6 (by omega)
       rw [List.take_of_length_le (by omega),hr] at this
       exact this
      have hv256:v8<256:=by
       have:=Yhj _ hr2 8 (by omega)
       rw [List.take_of_length_le (by omega),hv8] at this
       exact this
      obtain ⟨c,hc⟩:∃c,s[T].toNat-48=c:=⟨_,rfl⟩
      have hc01:(s[T].toNat=48∧c=0)∨(s[T].toNat=49∧c=1):=by
       have hdig:s[T].toNat=48∨s[T].toNat=49:=Yfr s.data.toList T (by show T<s.size;omega) hrow
       omega
      have hb7:bs[7]'(by rw [BL.out];omega)=s[T]:=by
       have:=HBS.out
       subst this
       subst hT
       rw [List.getElem_drop]
       rfl
      have hnum:num (bs.take 22)=((2*num (bs.take 7)+c)*64+r)*256+v8:=by
       have e1:bs.take 22=bs.take 8++((bs.drop 8).take 6++(bs.drop 14).take 8):=by
        rw [show (22:Nat)=8+(6+8) by rfl,List.take_add,List.take_add,List.drop_drop]
       rw [e1,Ydl,Ydl,←hd1,←hd2,hr,hv8,List.length_append,hl1,hl2,Ylz bs 7 (by rw [BL.out];omega),hb7,hc]
       omega
      have hesc:Ynz (num (bs.take 22))=(c==1,r,if 127<v8 then (v8:Int)-256 else (v8:Int)):=by
       rw [hnum]
       obtain ⟨z,hz⟩:∃z,num (bs.take 7)=z:=⟨_,rfl⟩
       rw [hz]
       unfold Ynz
       rw [show (((2*z+c)*64+r)*256+v8) / 16384%2=c by omega,show (((2*z+c)*64+r)*256+v8) / 256%64=r by omega,show (((2*z+c)*64+r)*256+v8)%256=v8 by omega]
      rw [hesc] at F0
      have hn1:=fun x=> Ycz x1 (by have:x1.data.toList.length=x1.size:=rfl;omega) hr1 x
      have hn2:=fun x=> Ycz x2 (by have:x2.data.toList.length=x2.size:=rfl;omega) hr2 x
      rw [hr] at hn1
      rw [hv8] at hn2
      rw [←hx1] at hn1
      rw [←hx2] at hn2
      have hbyte:((s[T].toNat:Int)==49)=(c==1):=by rcases hc01 with ⟨h1,h2⟩ | ⟨h1,h2⟩ <;> rw [h1,h2] <;> rfl
      obtain ⟨la,hla⟩:∃la,(c==1)=la:=⟨_,rfl⟩
      rw [hla] at F0 hbyte
      have TE:=Lib.hid hT
      have F1:=Lib.hid F0
      clear hg2 hnl hT hrow2 hx1 hx2 hd1 hd2 hl1 hl2 hr1 hr2 hr hv8 hc hc01 hb7 hnum hesc hla F0
      go_wp2_with fail
      have sw1:IntKind.i64.wrap ((T:Int)+1)=(T:Int)+1:=IntWalk.i64_in _ (by omega)
      have sw2:IntKind.i64.wrap ((T:Int)+7)=(T:Int)+7:=IntWalk.i64_in _ (by omega)
      have sw3:IntKind.i64.wrap ((T:Int)+15)=(T:Int)+15:=IntWalk.i64_in _ (by omega)
      have k1:((T:Int)+1).toNat=T+1:=by omega
      have k2:((T:Int)+7).toNat=T+7:=by omega
      have k3:((T:Int)+15).toNat=T+15:=by omega
      have p1:0≤(T:Int)+7∧(T:Int)+7≤(s.size:Int):=by omega
      have p2:0≤(T:Int)+1:=by omega
      have p3:0≤(T:Int)+15∧(T:Int)+15≤(s.size:Int):=by omega
      have p4:0≤(T:Int)+7:=by omega
      clear d0 d1 d2 f0 f1 f2
      go_cut [17] from 98 to 116 (fun v wx=> v = .pointer (some ⟨w2.heap.size,0,none⟩)∧Below wr.heap.size wr wx∧wx.heap[w2.heap.size]? = some (Ybq la r v8))
      case first=>
       refine wp_region_any (by kernel_rfl) ?_
       change wpAny _ _ _ _ _ _ _ (World.drew _)
       refine Yar 0 (some 98) (v:=?_) rfl rfl (by kernel_rfl) (by kernel_rfl) (by kernel_rfl) (fun _ _ _ h=> h) (Or.inl ⟨by rfl,?_⟩) ?_
       rotate_left
       ·(intro w;go_simp;try with_reducible rfl)
       rotate_right
       refine Yar 1 (some 99) (v:=?_) rfl rfl (by kernel_rfl) (by kernel_rfl) (by kernel_rfl) (fun _ _ _ h=> h) (Or.inl ⟨by rfl,?_⟩) ?_
       rotate_left
       ·(intro w;go_simp;try with_reducible rfl)
       rotate_right
       refine Yar 2 (some 100) (v:=?_) rfl rfl (by kernel_rfl) (by kernel_rfl) (by kernel_rfl) (fun _ _ _ h=> h) (Or.inl ⟨by rfl,?_⟩) ?_
       rotate_left
       ·(intro w;go_simp;try with_reducible rfl)
       rotate_right
       refine Yar 3 (some 101) (v:=?_) rfl rfl (by kernel_rfl) (by kernel_rfl) (by kernel_rfl) (fun _ _ _ h=> h) (Or.inl ⟨by rfl,?_⟩) ?_
       rotate_left
       ·(intro w;go_simp;try with_reducible rfl)
       rotate_right
       refine Yar 4 (some 102) (v:=?_) rfl rfl (by kernel_rfl) (by kernel_rfl) (by kernel_rfl) (fun _ _ _ h=> h) (Or.inl ⟨by rfl,?_⟩) ?_
       rotate_left
       ·(intro w;go_simp;try with_reducible rfl)
       rotate_right
       refine Yar 5 (some 103) (v:=?_) rfl rfl (by kernel_rfl) (by kernel_rfl) (by kernel_rfl) (fun _ _ _ h=> h) (Or.inl ⟨by rfl,?_⟩) ?_
       rotate_left
       ·(intro w;go_simp;try with_reducible rfl)
       rotate_right
       refine Yar 6 (some 104) (v:=?_) rfl rfl (by kernel_rfl) (by kernel_rfl) (by kernel_rfl) (fun _ _ _ h=> h) (Or.inl ⟨by rfl,?_⟩) ?_
       rotate_left
       ·(intro w;go_simp;try with_reducible rfl)
       rotate_right
       refine Yar 7 (some 105) (v:=?_) rfl rfl (by kernel_rfl) (by kernel_rfl) (by kernel_rfl) (fun _ _ _ h=> h) (Or.inl ⟨by rfl,?_⟩) ?_
       rotate_left
       ·(intro w;go_simp;try with_reducible rfl)
       rotate_right
       refine Yar 8 (some 106) (v:=?_) rfl rfl (by kernel_rfl) (by kernel_rfl) (by kernel_rfl) (fun _ _ _ h=> h) (Or.inl ⟨by rfl,?_⟩) ?_
       rotate_left
       ·(intro w;go_simp;try with_reducible rfl)
       rotate_right
       refine Yar 9 (some 107) (v:=?_) rfl rfl (by kernel_rfl) (by kernel_rfl) (by kernel_rfl) (fun _ _ _ h=> h) (Or.inl ⟨by rfl,?_⟩) ?_
       rotate_left
       ·(intro w;go_simp;try with_reducible rfl)
       rotate_right
       refine Yar 11 (some 109) (v:=?_) rfl rfl (by kernel_rfl) (by kernel_rfl) (by kernel_rfl) (fun _ _ _ h=> h) (Or.inl ⟨by rfl,?_⟩) ?_
       rotate_left
       ·(intro w;go_simp;try with_reducible rfl)
       rotate_right
       refine Yar 12 (some 110) (v:=?_) rfl rfl (by kernel_rfl) (by kernel_rfl) (by kernel_rfl) (fun _ _ _ h=> h) (Or.inl ⟨by rfl,?_⟩) ?_
       rotate_left
       ·(intro w;go_simp;try with_reducible rfl)
       rotate_right
       refine Yar 13 (some 111) (v:=?_) rfl rfl (by kernel_rfl) (by kernel_rfl) (by kernel_rfl) (fun _ _ _ h=> h) (Or.inl ⟨by rfl,?_⟩) ?_
       rotate_left
       ·(intro w;go_simp;try with_reducible rfl)
       rotate_right
       refine Yar 14 (some 112) (v:=?_) rfl rfl (by kernel_rfl) (by kernel_rfl) (by kernel_rfl) (fun _ _ _ h=> h) (Or.inl ⟨by rfl,?_⟩) ?_
       rotate_left
       ·(intro w;go_simp;try with_reducible rfl)
       rotate_right
       refine Yar 15 (some 113) (v:=?_) rfl rfl (by kernel_rfl) (by kernel_rfl) (by kernel_rfl) (fun _ _ _ h=> h) (Or.inl ⟨by rfl,?_⟩) ?_
       rotate_left
       ·(intro w;go_simp;try with_reducible rfl)
       rotate_right
       refine Yar 16 (some 114) (v:=?_) rfl rfl (by kernel_rfl) (by kernel_rfl) (by kernel_rfl) (fun _ _ _ h=> h) (Or.inl ⟨by rfl,?_⟩) ?_
       rotate_left
       ·(intro w;go_simp;try with_reducible rfl)
       rotate_right
       refine wpAny_ready (rs:=[10,19]) (by kernel_rfl) (by simp) ?_
       refine AllReady.cons rfl (fun K hK=> ?_) (AllReady.cons rfl (fun K hK=> ?_) AllReady.nil)
       ·go_simp
        go_wp2_with (go_at_call 37;with_reducible refine (hn1 _).mono ?_;rintro e w3 ⟨rfl,rfl⟩)
        refine wpAny_ready (rs:=[17,19]) (by kernel_rfl) (by simp) ?_
        refine AllReady.cons rfl (fun K hK=> ?_) (AllReady.cons rfl (fun K hK=> ?_) AllReady.nil)
        ·go_simp
         go_wp2_with (go_at_call 37;with_reducible refine (hn2 _).mono ?_;rintro e w3 ⟨rfl,rfl⟩)
         refine Yar 18 (some 116) (v:=?_) rfl rfl (by kernel_rfl) (by kernel_rfl) (by kernel_rfl) (fun _ _ _ h=> h) (Or.inl ⟨by rfl,?_⟩) ?_
         rotate_left
         ·(intro w;go_simp;try with_reducible rfl)
         rotate_right
         refine wpAny_ready (rs:=[19]) (by kernel_rfl) (by simp) ?_
         refine AllReady.cons rfl (fun K hK=> ?_) AllReady.nil
         go_simp
         refine hK _ _ ?_;clear hK K
         refine wpAny_ready (rs:=[20]) (by kernel_rfl) (by simp) ?_
         refine AllReady.cons rfl (fun K hK=> ?_) AllReady.nil
         go_simp
         refine hK _ _ ?_;clear hK K
         refine wpAny_done (by kernel_rfl) ?_ _
         go_wp2
         go_meet
         exact ⟨rfl,(hb2.alloc hb2.size _).drew,heap_alloc_new w2 _⟩
        ·go_simp
         refine hK _ _ ?_;clear hK K
         refine wpAny_ready (rs:=[17]) (by kernel_rfl) (by simp) ?_
         refine AllReady.cons rfl (fun K hK=> ?_) AllReady.nil
         go_simp
         go_wp2_with (go_at_call 37;with_reducible refine (hn2 _).mono ?_;rintro e w3 ⟨rfl,rfl⟩)
         refine Yar 18 (some 116) (v:=?_) rfl rfl (by kernel_rfl) (by kernel_rfl) (by kernel_rfl) (fun _ _ _ h=> h) (Or.inl ⟨by rfl,?_⟩) ?_
         rotate_left
         ·(intro w;go_simp;try with_reducible rfl)
         rotate_right
         refine wpAny_ready (rs:=[20]) (by kernel_rfl) (by simp) ?_
         refine AllReady.cons rfl (fun K hK=> ?_) AllReady.nil
         go_simp
         refine hK _ _ ?_;clear hK K
         refine wpAny_done (by kernel_rfl) ?_ _
         go_wp2
         go_meet
         exact ⟨rfl,(hb2.alloc hb2.size _).drew,heap_alloc_new w2 _⟩
       ·go_simp
        refine hK _ _ ?_;clear hK K
        refine wpAny_ready (rs:=[10]) (by kernel_rfl) (by simp) ?_
        refine AllReady.cons rfl (fun K hK=> ?_) AllReady.nil
        go_simp
        go_wp2_with (go_at_call 37;with_reducible refine (hn1 _).mono ?_;rintro e w3 ⟨rfl,rfl⟩)
        refine wpAny_ready (rs:=[17]) (by kernel_rfl) (by simp) ?_
        refine AllReady.cons rfl (fun K hK=> ?_) AllReady.nil
        go_simp
        go_wp2_with (go_at_call 37;with_reducible refine (hn2 _).mono ?_;rintro e w3 ⟨rfl,rfl⟩)
        refine Yar 18 (some 116) (v:=?_) rfl rfl (by kernel_rfl) (by kernel_rfl) (by kernel_rfl) (fun _ _ _ h=> h) (Or.inl ⟨by rfl,?_⟩) ?_
        rotate_left
        ·(intro w;go_simp;try with_reducible rfl)
        rotate_right
        refine wpAny_ready (rs:=[20]) (by kernel_rfl) (by simp) ?_
        refine AllReady.cons rfl (fun K hK=> ?_) AllReady.nil
        go_simp
        refine hK _ _ ?_;clear hK K
        refine wpAny_done (by kernel_rfl) ?_ _
        go_wp2
        go_meet
        exact ⟨rfl,(hb2.alloc hb2.size _).drew,heap_alloc_new w2 _⟩
      case rest=>
       clear p1 p2 p3 p4 k1 k2 k3 sw1 sw2 sw3 hbyte hn1 hn2 hbw2 hh2 HTR HCX
       obtain ⟨rfl,hbc,hxc⟩:=hcut
       obtain ⟨X,hX⟩:∃X,w2.heap.size=X:=⟨_,rfl⟩
       have hXw:wr.heap.size≤X:=by rw [←hX];exact hb2.size
       rw [hX] at hxc ⊢
       have hhc:=HX.out _ hbc
       have hBX:B≠X:=by
        intro e
        have h1:=(Array.getElem?_eq_some_iff.1 hhc).1
        have h2:=(Array.getElem?_eq_some_iff.1 (HX.out _ (Below.refl _ wr))).1
        omega
       obtain ⟨x0,x1,x2,y0,y1,y2⟩:=Ya3 hxc
       clear hX hb2
       by_cases h127:127<v8
       ·rw [if_pos h127] at F1
        have t3:decide (127<(v8:Int))=true:=by simp;omega
        have t4:decide (127<v8)=true:=by simpa using h127
        have hbd:Below wr.heap.size wr (wc.setCell ⟨X,2,none⟩ (.int .i64 ((v8:Int)-256))):=hbc.setCell hXw _
        have hxd:=Yym hxc ((v8:Int)-256)
        obtain ⟨wd,hwd⟩:∃wd,wc.setCell ⟨X,2,none⟩ (.int .i64 ((v8:Int)-256))=wd:=⟨_,rfl⟩
        rw [hwd] at hbd hxd
        have HWD:=Lib.hid hwd
        clear hwd
        obtain ⟨y,hy⟩:∃y:Int,(v8:Int)-256=y:=⟨_,rfl⟩
        rw [hy] at F1 hxd
        clear hy
        have hri:=fun x=> Ymu la (r:Int) y x
        have hed:wd.drew.heap[X]? = some (Ybq la r y):=hxd
        have hbdd:Below wr.heap.size wr wd.drew:=hbd.drew
        obtain ⟨a0,a1,a2,_,_,_⟩:=Ya3 hed
        have hXd:X<wd.drew.heap.size:=(Array.getElem?_eq_some_iff.1 hed).1
        go_wp2_with fail
        rw [HWD.out]
        clear t3 t4 x0 x1 x2 y0 y1 y2 hhc hbc hxc HWD
        go_cut [137] from 124 to 136 (fun v wx=> v = .bool (!Yc4 (r:Int) y || inT la r y.natAbs)∧Below wr.heap.size wr wx∧wx.heap[X]? = some (Ybq la r y))
        case first=>
         cases hrt:Yc4 (r:Int) y with
         | false=>
          rw [hrt] at hri
          refine wp_region_any (by kernel_rfl) ?_
          change wpAny _ _ _ _ _ _ _ (World.drew _)
          refine wpAny_ready (rs:=[0]) (by kernel_rfl) (by simp) ?_
          refine AllReady.cons rfl (fun K hK=> ?_) AllReady.nil
          go_simp
          refine hK _ _ ?_;clear hK K
          refine wpAny_ready (rs:=[1]) (by kernel_rfl) (by simp) ?_
          refine AllReady.cons rfl (fun K hK=> ?_) AllReady.nil
          go_simp
          go_wp2_with (go_at_call 100;refine (hri _).mono ?_;rintro e w3 ⟨rfl,hb3⟩)
          refine Yar 2 (some 126) (v:=?_) rfl rfl (by kernel_rfl) (by kernel_rfl) (by kernel_rfl) (fun _ _ _ h=> h) (Or.inl ⟨by rfl,?_⟩) ?_
          rotate_left
          ·(intro w;go_simp;try with_reducible rfl)
          rotate_right
          refine Yar 3 (some 127) (v:=?_) rfl rfl (by kernel_rfl) (by kernel_rfl) (by kernel_rfl) (fun _ _ _ h=> h) (Or.inl ⟨by rfl,?_⟩) ?_
          rotate_left
          ·(intro w;go_simp;try with_reducible rfl)
          rotate_right
          have hx3:w3.heap[X]? = some (Ybq la r y):=(hb3.block X hXd).trans hed
          have hb4:=hbdd.trans (hb3.mono hbdd.size)
          refine Yar 4 (some 128) (v:=undef) rfl rfl (by kernel_rfl) (by kernel_rfl) (by kernel_rfl) (fun _ _ _ h=> h) (Or.inr ⟨by kernel_rfl,rfl⟩) ?_
          refine Yar 5 (some 129) (v:=undef) rfl rfl (by kernel_rfl) (by kernel_rfl) (by kernel_rfl) (fun _ _ _ h=> h) (Or.inr ⟨by kernel_rfl,rfl⟩) ?_
          refine Yar 6 (some 130) (v:=undef) rfl rfl (by kernel_rfl) (by kernel_rfl) (by kernel_rfl) (fun _ _ _ h=> h) (Or.inr ⟨by kernel_rfl,rfl⟩) ?_
          refine Yar 7 (some 131) (v:=undef) rfl rfl (by kernel_rfl) (by kernel_rfl) (by kernel_rfl) (fun _ _ _ h=> h) (Or.inr ⟨by kernel_rfl,rfl⟩) ?_
          refine Yar 8 (some 132) (v:=undef) rfl rfl (by kernel_rfl) (by kernel_rfl) (by kernel_rfl) (fun _ _ _ h=> h) (Or.inr ⟨by kernel_rfl,rfl⟩) ?_
          refine Yar 9 (some 133) (v:=undef) rfl rfl (by kernel_rfl) (by kernel_rfl) (by kernel_rfl) (fun _ _ _ h=> h) (Or.inr ⟨by kernel_rfl,rfl⟩) ?_
          refine Yar 10 (some 134) (v:=undef) rfl rfl (by kernel_rfl) (by kernel_rfl) (by kernel_rfl) (fun _ _ _ h=> h) (Or.inr ⟨by kernel_rfl,rfl⟩) ?_
          refine Yar 11 (some 135) (v:=undef) rfl rfl (by kernel_rfl) (by kernel_rfl) (by kernel_rfl) (fun _ _ _ h=> h) (Or.inr ⟨by kernel_rfl,rfl⟩) ?_
          refine Yar 12 (some 136) (v:=undef) rfl rfl (by kernel_rfl) (by kernel_rfl) (by kernel_rfl) (fun _ _ _ h=> h) (Or.inr ⟨by kernel_rfl,rfl⟩) ?_
          refine wpAny_ready (rs:=[13]) (by kernel_rfl) (by simp) ?_
          refine AllReady.cons rfl (fun K hK=> ?_) AllReady.nil
          go_simp
          refine hK _ _ ?_;clear hK K
          refine wpAny_done (by kernel_rfl) ?_ _
          go_wp2
          go_meet
          exact ⟨by rw [hrt];rfl,hb4,hx3⟩
         | true=>
          obtain ⟨_,_,u0,u1,u2⟩:=Ykb.1 hrt
          have ham2:∀x,Calls Tryz.prog 102 #[.int .i64 y] x fun e w'=> e = .returned (.int .i64 (y.natAbs:Nat))∧w'=x:=fun x=> (Ykw y (by omega) (by omega) x).mono fun _ _ ⟨h1,h2⟩=> ⟨h1,h2.symm⟩
          have hha:=fun x=> Yx3 la r y.natAbs hr64 (by omega) (by omega) x
          rw [hrt] at hri
          refine wp_region_any (by kernel_rfl) ?_
          change wpAny _ _ _ _ _ _ _ (World.drew _)
          refine wpAny_ready (rs:=[0]) (by kernel_rfl) (by simp) ?_
          refine AllReady.cons rfl (fun K hK=> ?_) AllReady.nil
          go_simp
          refine hK _ _ ?_;clear hK K
          refine wpAny_ready (rs:=[1]) (by kernel_rfl) (by simp) ?_
          refine AllReady.cons rfl (fun K hK=> ?_) AllReady.nil
          go_simp
          go_wp2_with (go_at_call 100;refine (hri _).mono ?_;rintro e w3 ⟨rfl,hb3⟩)
          refine Yar 2 (some 126) (v:=?_) rfl rfl (by kernel_rfl) (by kernel_rfl) (by kernel_rfl) (fun _ _ _ h=> h) (Or.inl ⟨by rfl,?_⟩) ?_
          rotate_left
          ·(intro w;go_simp;try with_reducible rfl)
          rotate_right
          refine Yar 3 (some 127) (v:=?_) rfl rfl (by kernel_rfl) (by kernel_rfl) (by kernel_rfl) (fun _ _ _ h=> h) (Or.inl ⟨by rfl,?_⟩) ?_
          rotate_left
          ·(intro w;go_simp;try with_reducible rfl)
          rotate_right
          have hx3:w3.heap[X]? = some (Ybq la r y):=(hb3.block X hXd).trans hed
          have hb4:=hbdd.trans (hb3.mono hbdd.size)
          obtain ⟨b0,b1,b2,_,_,_⟩:=Ya3 hx3
          refine Yr7 4 11 (Yff (Yff (Yff (Yff (Ysy 11) (by kernel_rfl) (by decide)) (by kernel_rfl) (by decide)) (by kernel_rfl) (by decide)) (by kernel_rfl) (by decide)) (by kernel_rfl) (by decide) (by decide) (by kernel_rfl) (by kernel_rfl) (by kernel_rfl) rfl ?_
          simp only [List.take_succ_cons,List.take_zero,List.drop_succ_cons,List.drop_zero]
          iterate 6 still_step
          still_call (ham2 _)
          refine wpStill_nil ?_
          change wpList _ _ _ _ _ w3
          have hz4:=hb4.size
          have hX3:X<w3.heap.size:=(Array.getElem?_eq_some_iff.1 hx3).1
          cases hin:inT la r y.natAbs with
          | true=>
           obtain ⟨tx,htx⟩:∃tx,Ytd la r y.natAbs=tx:=⟨_,rfl⟩
           have hne:tx.toList≠[]∧tx.toList.isEmpty=false:=by
            rw [←htx]
            have h1:(Ytd la r y.natAbs).data.toList.length=Ycs (plT la r y.natAbs):=by unfold Ytd;rw [hin,if_pos rfl];exact Yd7 _
            have h2:=(Ycv _ (Nat.lt_trans (Y8h hr64 hin) (show 102<103 by decide))).1
            have h3:(Ytd la r y.natAbs).data.toList≠[]:=by
             intro h
             rw [h,List.length_nil] at h1
             omega
            exact ⟨by rw [Lib.toList_data];exact h3,by rw [Lib.toList_data];simpa using h3⟩
           obtain ⟨hn1,hn2⟩:=hne
           rw [htx] at hha
           go_wp2_with (go_at_call 101;refine (hha _).mono ?_;rintro e w4 ⟨rfl,hb5⟩)
           go_meet
           exact ⟨by rw [hrt,hin];rfl,hb4.trans (hb5.mono hz4),(hb5.block X hX3).trans hx3⟩
          | false=>
           rw [show Ytd la r y.natAbs=⟨#[]⟩ by unfold Ytd;rw [hin,if_neg (by decide)]] at hha
           go_wp2_with (go_at_call 101;refine (hha _).mono ?_;rintro e w4 ⟨rfl,hb5⟩)
           go_meet
           exact ⟨by rw [hrt,hin];rfl,hb4.trans (hb5.mono hz4),(hb5.block X hX3).trans hx3⟩
        case rest=>
         clear hri hed hbdd a0 a1 a2 hXd hbd hxd
         obtain ⟨rfl,hb6,hx6⟩:=hcut
         have hh6:=HX.out _ hb6
         have hbw6:=HBX.out _ hb6
         obtain ⟨n0,n1,n2,k0,k1,k2⟩:=Ya3 hh6
         obtain ⟨z0,z1,z2,_,_,_⟩:=Ya3 hx6
         obtain ⟨bad,hbad⟩:∃bad,(!Yc4 (r:Int) y || inT la r y.natAbs)=bad:=⟨_,rfl⟩
         have F2:etk bs=if bad then ((false,0,0),7,0) else ((la,r,y),0,22):=by
          rw [F1.out,←hbad]
          cases Yc4 (r:Int) y <;> cases inT la r y.natAbs <;> rfl
         rw [hbad]
         clear hbad F1
         cases bad with
         | true=>
          have F:=Lib.hid (show etk bs=((false,0,0),7,0) from F2)
          clear F2
          go_wp2
          refine bodyPost_ret (Yaf rfl _ _ B 111 _ (0,0) _ rfl (Ydi hh6 false 0 0) Tryz.underlying111 rfl (by kernel_rfl)) rfl ?_
          exact Ye6 (f:=7) (by rw [HBS.out];exact F.out) (by rw [HB.out];exact ((hbw6.setCell (Nat.le_refl _) _).setCell (Nat.le_refl _) _).setCell (Nat.le_refl _) _)
         | false=>
          have F:=Lib.hid (show etk bs=((la,r,y),0,22) from F2)
          clear F2
          go_wp2
          refine bodyPost_ret (Yaf rfl _ _ B 111 _ (0,0) _ rfl (Ydi hh6 la r y) Tryz.underlying111 rfl (by kernel_rfl)) rfl ?_
          exact Yg8 (n:=22) (by rw [HBS.out];exact F.out) (by have:=TE.out;omega) (by rw [HB.out];exact ((hbw6.setCell (Nat.le_refl _) _).setCell (Nat.le_refl _) _).setCell (Nat.le_refl _) _)
       ·rw [if_neg h127] at F1
        have t3:decide (127<(v8:Int))=false:=by simp;omega
        have t4:decide (127<v8)=false:=by simpa using h127
        have hbd:=hbc
        have hxd:=hxc
        obtain ⟨wd,hwd⟩:∃wd,wc=wd:=⟨_,rfl⟩
        rw [hwd] at hbd hxd
        have HWD:=Lib.hid hwd
        clear hwd
        obtain ⟨y,hy⟩:∃y:Int,(v8:Int)=y:=⟨_,rfl⟩
        rw [hy] at F1 hxd
        clear hy
        have hri:=fun x=> Ymu la (r:Int) y x
        have hed:wd.drew.heap[X]? = some (Ybq la r y):=hxd
        have hbdd:Below wr.heap.size wr wd.drew:=hbd.drew
        obtain ⟨a0,a1,a2,_,_,_⟩:=Ya3 hed
        have hXd:X<wd.drew.heap.size:=(Array.getElem?_eq_some_iff.1 hed).1
        go_wp2_with fail
        rw [HWD.out]
        clear t3 t4 x0 x1 x2 y0 y1 y2 hhc hbc hxc HWD
        go_cut [137] from 124 to 136 (fun v wx=> v = .bool (!Yc4 (r:Int) y || inT la r y.natAbs)∧Below wr.heap.size wr wx∧wx.heap[X]? = some (Ybq la r y))
        case first=>
         cases hrt:Yc4 (r:Int) y with
         | false=>
          rw [hrt] at hri
          refine wp_region_any (by kernel_rfl) ?_
          change wpAny _ _ _ _ _ _ _ (World.drew _)
          refine wpAny_ready (rs:=[0]) (by kernel_rfl) (by simp) ?_
          refine AllReady.cons rfl (fun K hK=> ?_) AllReady.nil
          go_simp
          refine hK _ _ ?_;clear hK K
          refine wpAny_ready (rs:=[1]) (by kernel_rfl) (by simp) ?_
          refine AllReady.cons rfl (fun K hK=> ?_) AllReady.nil
          go_simp
          go_wp2_with (go_at_call 100;refine (hri _).mono ?_;rintro e w3 ⟨rfl,hb3⟩)
          refine Yar 2 (some 126) (v:=?_) rfl rfl (by kernel_rfl) (by kernel_rfl) (by kernel_rfl) (fun _ _ _ h=> h) (Or.inl ⟨by rfl,?_⟩) ?_
          rotate_left
          ·(intro w;go_simp;try with_reducible rfl)
          rotate_right
          refine Yar 3 (some 127) (v:=?_) rfl rfl (by kernel_rfl) (by kernel_rfl) (by kernel_rfl) (fun _ _ _ h=> h) (Or.inl ⟨by rfl,?_⟩) ?_
          rotate_left
          ·(intro w;go_simp;try with_reducible rfl)
          rotate_right
          have hx3:w3.heap[X]? = some (Ybq la r y):=(hb3.block X hXd).trans hed
          have hb4:=hbdd.trans (hb3.mono hbdd.size)
          refine Yar 4 (some 128) (v:=undef) rfl rfl (by kernel_rfl) (by kernel_rfl) (by kernel_rfl) (fun _ _ _ h=> h) (Or.inr ⟨by kernel_rfl,rfl⟩) ?_
          refine Yar 5 (some 129) (v:=undef) rfl rfl (by kernel_rfl) (by kernel_rfl) (by kernel_rfl) (fun _ _ _ h=> h) (Or.inr ⟨by kernel_rfl,rfl⟩) ?_
          refine Yar 6 (some 130) (v:=undef) rfl rfl (by kernel_rfl) (by kernel_rfl) (by kernel_rfl) (fun _ _ _ h=> h) (Or.inr ⟨by kernel_rfl,rfl⟩) ?_
          refine Yar 7 (some 131) (v:=undef) rfl rfl (by kernel_rfl) (by kernel_rfl) (by kernel_rfl) (fun _ _ _ h=> h) (Or.inr ⟨by kernel_rfl,rfl⟩) ?_
          refine Yar 8 (some 132) (v:=undef) rfl rfl (by kernel_rfl) (by kernel_rfl) (by kernel_rfl) (fun _ _ _ h=> h) (Or.inr ⟨by kernel_rfl,rfl⟩) ?_
          refine Yar 9 (some 133) (v:=undef) rfl rfl (by kernel_rfl) (by kernel_rfl) (by kernel_rfl) (fun _ _ _ h=> h) (Or.inr ⟨by kernel_rfl,rfl⟩) ?_
          refine Yar 10 (some 134) (v:=undef) rfl rfl (by kernel_rfl) (by kernel_rfl) (by kernel_rfl) (fun _ _ _ h=> h) (Or.inr ⟨by kernel_rfl,rfl⟩) ?_
          refine Yar 11 (some 135) (v:=undef) rfl rfl (by kernel_rfl) (by kernel_rfl) (by kernel_rfl) (fun _ _ _ h=> h) (Or.inr ⟨by kernel_rfl,rfl⟩) ?_
          refine Yar 12 (some 136) (v:=undef) rfl rfl (by kernel_rfl) (by kernel_rfl) (by kernel_rfl) (fun _ _ _ h=> h) (Or.inr ⟨by kernel_rfl,rfl⟩) ?_
          refine wpAny_ready (rs:=[13]) (by kernel_rfl) (by simp) ?_
          refine AllReady.cons rfl (fun K hK=> ?_) AllReady.nil
          go_simp
          refine hK _ _ ?_;clear hK K
          refine wpAny_done (by kernel_rfl) ?_ _
          go_wp2
          go_meet
          exact ⟨by rw [hrt];rfl,hb4,hx3⟩
         | true=>
          obtain ⟨_,_,u0,u1,u2⟩:=Ykb.1 hrt
          have ham2:∀x,Calls Tryz.prog 102 #[.int .i64 y] x fun e w'=> e = .returned (.int .i64 (y.natAbs:Nat))∧w'=x:=fun x=> (Ykw y (by omega) (by omega) x).mono fun _ _ ⟨h1,h2⟩=> ⟨h1,h2.symm⟩
          have hha:=fun x=> Yx3 la r y.natAbs hr64 (by omega) (by omega) x
          rw [hrt] at hri
          refine wp_region_any (by kernel_rfl) ?_
          change wpAny _ _ _ _ _ _ _ (World.drew _)
          refine wpAny_ready (rs:=[0]) (by kernel_rfl) (by simp) ?_
          refine AllReady.cons rfl (fun K hK=> ?_) AllReady.nil
          go_simp
          refine hK _ _ ?_;clear hK K
          refine wpAny_ready (rs:=[1]) (by kernel_rfl) (by simp) ?_
          refine AllReady.cons rfl (fun K hK=> ?_) AllReady.nil
          go_simp
          go_wp2_with (go_at_call 100;refine (hri _).mono ?_;rintro e w3 ⟨rfl,hb3⟩)
          refine Yar 2 (some 126) (v:=?_) rfl rfl (by kernel_rfl) (by kernel_rfl) (by kernel_rfl) (fun _ _ _ h=> h) (Or.inl ⟨by rfl,?_⟩) ?_
          rotate_left
          ·(intro w;go_simp;try with_reducible rfl)
          rotate_right
          refine Yar 3 (some 127) (v:=?_) rfl rfl (by kernel_rfl) (by kernel_rfl) (by kernel_rfl) (fun _ _ _ h=> h) (Or.inl ⟨by rfl,?_⟩) ?_
          rotate_left
          ·(intro w;go_simp;try with_reducible rfl)
          rotate_right
          have hx3:w3.heap[X]? = some (Ybq la r y):=(hb3.block X hXd).trans hed
          have hb4:=hbdd.trans (hb3.mono hbdd.size)
          obtain ⟨b0,b1,b2,_,_,_⟩:=Ya3 hx3
          refine Yr7 4 11 (Yff (Yff (Yff (Yff (Ysy 11) (by kernel_rfl) (by decide)) (by kernel_rfl) (by decide)) (by kernel_rfl) (by decide)) (by kernel_rfl) (by decide)) (by kernel_rfl) (by decide) (by decide) (by kernel_rfl) (by kernel_rfl) (by kernel_rfl) rfl ?_
          simp only [List.take_succ_cons,List.take_zero,List.drop_succ_cons,List.drop_zero]
          iterate 6 still_step
          still_call (ham2 _)
          refine wpStill_nil ?_
          change wpList _ _ _ _ _ w3
          have hz4:=hb4.size
          have hX3:X<w3.heap.size:=(Array.getElem?_eq_some_iff.1 hx3).1
          cases hin:inT la r y.natAbs with
          | true=>
           obtain ⟨tx,htx⟩:∃tx,Ytd la r y.natAbs=tx:=⟨_,rfl⟩
           have hne:tx.toList≠[]∧tx.toList.isEmpty=false:=by
            rw [←htx]
            have h1:(Ytd la r y.natAbs).data.toList.length=Ycs (plT la r y.natAbs):=by unfold Ytd;rw [hin,if_pos rfl];exact Yd7 _
            have h2:=(Ycv _ (Nat.lt_trans (Y8h hr64 hin) (show 102<103 by decide))).1
            have h3:(Ytd la r y.natAbs).data.toList≠[]:=by
             intro h
             rw [h,List.length_nil] at h1
             omega
            exact ⟨by rw [Lib.toList_data];exact h3,by rw [Lib.toList_data];simpa using h3⟩
           obtain ⟨hn1,hn2⟩:=hne
           rw [htx] at hha
           go_wp2_with (go_at_call 101;refine (hha _).mono ?_;rintro e w4 ⟨rfl,hb5⟩)
           go_meet
           exact ⟨by rw [hrt,hin];rfl,hb4.trans (hb5.mono hz4),(hb5.block X hX3).trans hx3⟩
          | false=>
           rw [show Ytd la r y.natAbs=⟨#[]⟩ by unfold Ytd;rw [hin,if_neg (by decide)]] at hha
           go_wp2_with (go_at_call 101;refine (hha _).mono ?_;rintro e w4 ⟨rfl,hb5⟩)
           go_meet
           exact ⟨by rw [hrt,hin];rfl,hb4.trans (hb5.mono hz4),(hb5.block X hX3).trans hx3⟩
        case rest=>
         clear hri hed hbdd a0 a1 a2 hXd hbd hxd
         obtain ⟨rfl,hb6,hx6⟩:=hcut
         have hh6:=HX.out _ hb6
         have hbw6:=HBX.out _ hb6
         obtain ⟨n0,n1,n2,k0,k1,k2⟩:=Ya3 hh6
         obtain ⟨z0,z1,z2,_,_,_⟩:=Ya3 hx6
         obtain ⟨bad,hbad⟩:∃bad,(!Yc4 (r:Int) y || inT la r y.natAbs)=bad:=⟨_,rfl⟩
         have F2:etk bs=if bad then ((false,0,0),7,0) else ((la,r,y),0,22):=by
          rw [F1.out,←hbad]
          cases Yc4 (r:Int) y <;> cases inT la r y.natAbs <;> rfl
         rw [hbad]
         clear hbad F1
         cases bad with
         | true=>
          have F:=Lib.hid (show etk bs=((false,0,0),7,0) from F2)
          clear F2
          go_wp2
          refine bodyPost_ret (Yaf rfl _ _ B 111 _ (0,0) _ rfl (Ydi hh6 false 0 0) Tryz.underlying111 rfl (by kernel_rfl)) rfl ?_
          exact Ye6 (f:=7) (by rw [HBS.out];exact F.out) (by rw [HB.out];exact ((hbw6.setCell (Nat.le_refl _) _).setCell (Nat.le_refl _) _).setCell (Nat.le_refl _) _)
         | false=>
          have F:=Lib.hid (show etk bs=((la,r,y),0,22) from F2)
          clear F2
          go_wp2
          refine bodyPost_ret (Yaf rfl _ _ B 111 _ (0,0) _ rfl (Ydi hh6 la r y) Tryz.underlying111 rfl (by kernel_rfl)) rfl ?_
          exact Yg8 (n:=22) (by rw [HBS.out];exact F.out) (by have:=TE.out;omega) (by rw [HB.out];exact ((hbw6.setCell (Nat.le_refl _) _).setCell (Nat.le_refl _) _).setCell (Nat.le_refl _) _)
   ·obtain rfl:=hj1 hf
    have F:=Lib.hid (Yup (Ygi (all:=allT) HK.out hf) hf)
    have g0:(f != 0)=true:=by simpa using hf
    clear hj0 hj1 hf
    go_wp2
    refine bodyPost_ret (Yaf rfl _ _ B 111 _ (0,0) _ rfl (Ydi hh2 false 0 0) Tryz.underlying111 rfl (by kernel_rfl)) rfl ?_
    exact Ye6 (by rw [HBS.out];exact F.out) (by rw [HB.out];exact ((hbw2.setCell (Nat.le_refl _) _).setCell (Nat.le_refl _) _).setCell (Nat.le_refl _) _)
theorem Yzt (i:Bool) (w:World):Calls Tryz.prog 70 #[.bool i] w fun e w'=> e = .returned (.int .i64 (Ydx i:Nat))∧w=w':=by
 cases i
 all_goals
  go_enter Tryz.func70,Tryz.ntmps70
  go_wp2
  go_ret
  exact ⟨rfl,rfl⟩
theorem Ydp {fn:Func} {t u v x:Tmp} (h:fn.results = #[.tmp t,.tmp u,.tmp v,.tmp x]) (tmps:Array Value) (P:Program) (w:World):
  (results fn tmps).run P w = .ok (.tuple #[tmps.getD t undef,tmps.getD u undef,tmps.getD v undef,tmps.getD x undef]) w:=by
 simp [results,h]
def Yik (S:List UInt8) (at_:Nat) (i c:Bool) (w:World) (e:Ending) (w':World):Prop:=
 ∃(d:Int) (L:List Ev) (f:Int) (t m:Nat) (q:Option Addr) (cap:Nat),btk S at_ i c=(d,L,t,f)∧e = .returned (.tuple #[.int .i64 d,.slice q m cap,.int .i64 (t:Int),.int .i64 f])∧L.length=m∧Yea w' q L∧Yc3 w.heap.size q∧Below w.heap.size w w'
theorem Yu2 {S:List UInt8} {at_:Nat} {i c:Bool} {w w':World} {f:Int} (h:btk S at_ i c=(0,[],at_,f)) (hb:Below w.heap.size w w'):Yik S at_ i c w (.returned (.tuple #[.int .i64 0,.slice none 0 0,.int .i64 (at_:Int),.int .i64 f])) w':=
 ⟨0,[],f,at_,0,none,0,h,rfl,rfl,.inl rfl,Yc3.none _,hb⟩
theorem Y0u {S:List UInt8} {at_ t m cap:Nat} {i c:Bool} {w w':World} {d:Int} {L:List Ev} {q:Option Addr} (h:btk S at_ i c=(d,L,t,0)) (hm:L.length=m) (he:Yea w' q L) (hr:Yc3 w.heap.size q) (hb:Below w.heap.size w w'):Yik S at_ i c w (.returned (.tuple #[.int .i64 d,.slice q m cap,.int .i64 (t:Int),.int .i64 0])) w':=
 ⟨d,L,0,t,m,q,cap,h,rfl,hm,he,hr,hb⟩
set_option maxRecDepth 100000 in
set_option maxHeartbeats 4000000 in
theorem Yyv (s:ByteArray) (at_:Nat) (i c:Bool) (w:World) (hs:s.size≤1048576) (ha:at_≤s.size) (hrow:Yba s.data.toList=true):
  Calls Tryz.prog 44 #[.string s,.int .i64 (at_:Int),.bool i,.bool c] w (Yik s.data.toList at_ i c w):=by
 obtain ⟨i1,hj,kz0,kz1,kz2⟩:=info_parts Yvn
 obtain ⟨B,hB⟩:∃B,w.heap.size=B:=⟨_,rfl⟩
 have HB:=Lib.hid hB
 have hz0:B≤w.heap.size:=by omega
 have hfr:=fun x=> Yzt i x
 have hget:=fun x (t:Nat) (ht:t≤s.size)=> Yv6 s t x hs ht hrow
 unfold Yrt at hget
 have hbl:(s.data.toList.drop at_).length=s.size-at_:=by rw [List.length_drop];rfl
 have hnum:=fun (h:at_+8≤s.size)=> Ycz (s.extract at_ (at_+8)) (by rw [ByteArray.size_extract];omega) (by rw [Yrh];exact Ya9 _ _ (Yax _ _ hrow))
 rw [Yrh] at hnum
 have hsl:s.data.toList.length=s.size:=rfl
 generalize s.data.toList=S at hget hbl hnum hsl hrow ⊢
 have START:(i=false∧dcT (S.drop at_) i=(0,0,0))∨(i=true∧s.size<at_+8∧dcT (S.drop at_) i=(0,2,0))∨(i=true∧at_+8≤s.size∧∃v:Nat,v<256∧num ((S.drop at_).take 8)=v∧(((v=0∨v=128)∧dcT (S.drop at_) i=(0,7,0))∨(v=255∧dcT (S.drop at_) i=(128,0,8))∨(v≠0∧v≠128∧v≠255∧dcT (S.drop at_) i=((v:Int),0,8)))):=by
  cases i with
  | false=> exact .inl ⟨rfl,rfl⟩
  | true=>
   by_cases h8:s.size<at_+8
   ·exact .inr (.inl ⟨rfl,h8,Yl4 (by omega)⟩)
   ·have hge:8≤(S.drop at_).length:=by omega
    refine .inr (.inr ⟨rfl,by omega,num ((S.drop at_).take 8),?_,rfl,?_⟩)
    ·exact Yhj (S.drop at_) (Yax _ _ hrow) 8 hge
    ·by_cases h0:num ((S.drop at_).take 8)=0∨num ((S.drop at_).take 8)=128
     ·exact .inl ⟨h0,Yqs hge h0⟩
     ·by_cases h255:num ((S.drop at_).take 8)=255
      ·exact .inr (.inl ⟨h255,Yuy hge h255⟩)
      ·exact .inr (.inr ⟨fun h=> h0 (.inl h),fun h=> h0 (.inr h),h255,Y3h hge rfl (fun h=> h0 (.inl h)) (fun h=> h0 (.inr h)) h255⟩)
 obtain ⟨a,hfa⟩:∃a,Ydx i=a:=⟨_,rfl⟩
 have ha1:a≤1:=by rw [←hfa];cases i <;> decide
 rw [hfa] at hfr
 have GET:=Lib.hid hget
 have SL:=Lib.hid hsl
 have FE:=Lib.hid (fun (d:Int) (n:Nat) (f:Int) (L:List Ev) (e:Nat) (h:dcT (S.drop at_) i=(d,0,n)) (hc:c=true) (he:Ycl S (65-a) [] (at_+n) a=(L,f,e)) (hf:f≠0)=> (by subst hc;exact Y2h h (by rw [hfa];exact he) hf:btk S at_ i c=(0,[],at_,f)))
 have FB:=Lib.hid (fun (d:Int) (n:Nat) (L:List Ev) (t:Nat) (h:dcT (S.drop at_) i=(d,0,n)) (hc:(c=false∧L = []∧t=at_+n)∨(c=true∧Ycl S (65-a) [] (at_+n) a=(L,0,t)))=> (by
  rcases hc with ⟨rfl,rfl,rfl⟩ | ⟨rfl,he⟩
  ·exact Yqp h
  ·exact Ywt h (by rw [hfa];exact he):btk S at_ i c=(d,L,t,0)))
 have FD:=Lib.hid (fun (d f:Int) (n:Nat) (h:dcT (S.drop at_) i=(d,f,n)) (hf:f≠0)=> (Y4f h hf:btk S at_ i c=(0,[],at_,f)))
 have BR:=Lib.hid (fun (f:Int) (x:World) (h:btk S at_ i c=(0,[],at_,f)) (hb:Below B w x)=> (Yu2 h (by rw [hB];exact hb):Yik S at_ i c w (.returned (.tuple #[.int .i64 0,.slice none 0 0,.int .i64 (at_:Int),.int .i64 f])) x))
 have BA:=Lib.hid (fun (d:Int) (L:List Ev) (t m cap:Nat) (q:Option Addr) (x:World) (h:btk S at_ i c=(d,L,t,0)) (hm:L.length=m) (he:Yea x q L) (hr:Yc3 B q) (hb:Below B w x)=> (Y0u h hm he (by rw [hB];exact hr) (by rw [hB];exact hb):Yik S at_ i c w (.returned (.tuple #[.int .i64 d,.slice q m cap,.int .i64 (t:Int),.int .i64 0])) x))
 have hb0:Below B w w:=Below.refl _ _
 obtain ⟨QQ,hQQ⟩:∃QQ,Yik S at_ i c w=QQ:=⟨_,rfl⟩
 rw [hQQ] at BR BA ⊢
 clear hget hfa hB hbl hrow hsl hQQ
 rcases START with ⟨rfl,h0⟩ | ⟨rfl,h8,h0⟩ | ⟨rfl,h8,v,hv,hnv,⟨h7,h0⟩ | ⟨rfl,h0⟩ | ⟨n0,n128,n255,h0⟩⟩
 case inr.inl=>
  have F:=Lib.hid (BR.out 2 w (FD.out _ _ _ h0 (by decide)) hb0)
  have t0:decide ((s.size:Int)-(at_:Int)<8)=true:=by simp;omega
  clear h0 h8 hnum
  go_enter Tryz.func44,Tryz.ntmps44
  go_wp2
  refine bodyPost_ret (Ydp rfl _ _ _) rfl ?_
  exact F.out
 case inr.inr.inl=>
  have F:=Lib.hid (BR.out 7 w (FD.out _ _ _ h0 (by decide)) hb0)
  have t0:decide ((s.size:Int)-(at_:Int)<8)=false:=by simp;omega
  have hnu:=hnum h8
  rw [hnv] at hnu
  clear h0 hnum hnv hv
  rcases h7 with rfl | rfl
  all_goals
   go_enter Tryz.func44,Tryz.ntmps44
   go_wp2_with fail
   refine (hnu _).mono ?_
   rintro e w1 ⟨rfl,rfl⟩
   go_wp2
   refine bodyPost_ret (Ydp rfl _ _ _) rfl ?_
   exact F.out
 case' inl=>
  obtain ⟨T,hT⟩:∃T,at_=T:=⟨_,rfl⟩
  have FBX:=Lib.hid (fun L t=> FB.out _ _ L t h0)
  have FEX:=Lib.hid (fun f L e=> FE.out _ _ f L e h0)
  rw [show at_+0=T from hT] at FBX FEX
  have hTs:T≤s.size:=by omega
  have TI:=Lib.hid (show (at_:Int)=(T:Int) by omega)
  clear hnum h0 hT
  go_enter Tryz.func44,Tryz.ntmps44
  go_wp2_with fail
  refine (hfr _).mono ?_
  rintro e w1 ⟨rfl,rfl⟩
  go_wp2
 case' inr.inr.inr.inl=>
  obtain ⟨T,hT⟩:∃T,at_+8=T:=⟨_,rfl⟩
  have FBX:=Lib.hid (fun L t=> FB.out _ _ L t h0)
  have FEX:=Lib.hid (fun f L e=> FE.out _ _ f L e h0)
  rw [hT] at FBX FEX
  have hTs:T≤s.size:=by omega
  have TI:=Lib.hid (show (at_:Int)+8=(T:Int) by omega)
  have t0:decide ((s.size:Int)-(at_:Int)<8)=false:=by simp;omega
  have hnu:=hnum h8
  rw [hnv] at hnu
  clear h0 hnum hnv hv hT
  go_enter Tryz.func44,Tryz.ntmps44
  go_wp2_with fail
  refine (hnu _).mono ?_
  rintro e w1 ⟨rfl,rfl⟩
  go_wp2_with fail
  refine (hfr _).mono ?_
  rintro e w1 ⟨rfl,rfl⟩
  go_wp2
 case' inr.inr.inr.inr=>
  obtain ⟨T,hT⟩:∃T,at_+8=T:=⟨_,rfl⟩
  have FBX:=Lib.hid (fun L t=> FB.out _ _ L t h0)
  have FEX:=Lib.hid (fun f L e=> FE.out _ _ f L e h0)
  rw [hT] at FBX FEX
  have hTs:T≤s.size:=by omega
  have TI:=Lib.hid (show (at_:Int)+8=(T:Int) by omega)
  have t0:decide ((s.size:Int)-(at_:Int)<8)=false:=by simp;omega
  have g0:((v:Int)==0)=false:=by rw [beq_eq_false_iff_ne];omega
  have g1:((v:Int)==128)=false:=by rw [beq_eq_false_iff_ne];omega
  have g2:((v:Int)==255)=false:=by rw [beq_eq_false_iff_ne];omega
  have hnu:=hnum h8
  rw [hnv] at hnu
  clear h0 hnum hnv n0 n128 n255 hT
  go_enter Tryz.func44,Tryz.ntmps44
  go_wp2_with fail
  refine (hnu _).mono ?_
  rintro e w1 ⟨rfl,rfl⟩
  go_wp2_with fail
  refine (hfr _).mono ?_
  rintro e w1 ⟨rfl,rfl⟩
  go_wp2
 all_goals
  go_loopw [3,13,14,15] (fun u3 u13 u14 u15 wr=>∃(b:Bool) (acc:List Ev) (m t:Nat) (z:Int),u3 = .bool b∧u13 = .int .i64 (t:Int)∧u15 = .int .i64 z∧Hid (z+1=(m:Int))∧-1≤z∧z≤63∧t≤s.size∧acc.length≤m∧wr.ownsRow B 111 3 u14 acc.length (Ye1 acc)∧Hid ((b=true→c=true∧EvR S a T acc m t)∧(b=false→(c=false∧acc = []∧t=T)∨(c=true∧Ycl S (65-a) [] T a=(acc,0,t))))∧Below B w wr∧B≤wr.heap.size) (fun _ _ _ u15 _=> (64-RowKit.intOf u15).toNat)
  case atStart=> exact ⟨c,[],a,T,(a:Int)-1,rfl,by rw [TI.out],rfl,Lib.hid (by omega),by omega,by omega,hTs,Nat.zero_le _,World.ownsRow_nil _ _ _ _,Lib.hid ⟨fun h=> ⟨h,EvR.first _ _ _⟩,fun h=> .inl ⟨h,rfl,rfl⟩⟩,hb0,hz0⟩
  case round=>
   clear hb0 hz0
   obtain ⟨b,acc,m,t,z,rfl,rfl,rfl,hzm,hz1,hz2,hts,hal,hown,hst,hb,hz⟩:=hrel
   have hm64:m≤64:=by have:=hzm.out;omega
   obtain ⟨al,hal2⟩:∃al,acc.length=al:=⟨_,rfl⟩
   have AL:=Lib.hid hal2
   cases b with
   | false=>
    obtain ⟨q,cap,rfl,hev⟩:=Yxk hown
    have F:=Lib.hid (BA.out _ acc t al cap q wr (FBX.out acc t (hst.out.2 rfl)) hal2 hev (Yun hown) hb)
    rw [hal2]
    clear hal2 hev hown hst hb hal
    go_wp2
    refine bodyPost_ret (Ydp rfl _ _ _) rfl ?_
    exact F.out
   | true=>
    obtain ⟨hc,hst⟩:=hst.out.1 rfl
    obtain ⟨⟨l,r,v⟩,f,n,het⟩:∃x f n,etk (S.drop t)=(x,f,n):=⟨_,_,_,rfl⟩
    obtain ⟨hr63,hnl⟩:=Yq6 het
    have hge:=GET.out wr t hts
    rw [het] at hge
    simp only [Yug] at hge
    rw [hal2] at hown hal
    have HET:=Lib.hid het
    have ST:=Lib.hid hst
    have HC:=Lib.hid hc
    have HB2:=Lib.hid (fun (x:World) (hx:Below wr.heap.size wr x)=> (⟨hb.trans (hx.mono hz),Nat.le_trans hz hx.size,hown.kept (Yal hx none) (Classical.em _)⟩:Below B w x∧B≤x.heap.size∧x.ownsRow B 111 3 u14 al (Ye1 acc)))
    have htn:t+n≤s.size:=by rw [List.length_drop] at hnl;have:=SL.out;omega
    obtain ⟨t2,ht2⟩:∃t2,t+n=t2:=⟨_,rfl⟩
    have HT2:=Lib.hid ht2
    rw [ht2] at hge htn
    clear het hnl hown hst hal2 hc ht2 hb hz
    go_wp2_with fail
    refine hge.mono ?_
    rintro e w1 ⟨rfl,hb1⟩
    obtain ⟨hb2,hz2',hown2⟩:=HB2.out _ hb1
    clear hb1 hge HB2
    by_cases hf:f=0
    ·have g0:(f != 0)=false:=by simpa using hf
     have het:=HET.out
     rw [hf] at het
     have HET:=Lib.hid het
     clear hf het
     obtain ⟨X,hX⟩:∃X,w1.heap.size=X:=⟨_,rfl⟩
     obtain ⟨wx,hwx⟩:∃wx,w1.alloc (.cells #[.bool l,.int .i64 (r:Int),.int .i64 v] 111 (0,0))=wx:=⟨_,rfl⟩
     have hzx:wx.heap.size=X+1:=by rw [←hwx,←hX];simp
     have hhx:wx.heap[X]? = some (Ybq l (r:Int) v):=by rw [←hwx,←hX];exact heap_alloc_new w1 _
     have hbx:Below B w wx:=by rw [←hwx];exact hb2.alloc hz2' _
     have hox:wx.ownsRow B 111 3 u14 al (Ye1 acc):=by rw [←hwx];exact hown2.alloc _
     have hoX:∀q,Value.ownBlock u14=some q→B≤q∧q<X:=fun q hq=> by have:=hown2.lt q hq;omega
     have HX:=Lib.hid hX
     have HWX:=Lib.hid hwx
     have HXB:=Lib.hid (show B≤X by omega)
     have NEW:=Lib.hid (fun (x:World) (o:Obj) (hx:(wx.alloc o).grownBy x (Value.ownBlock u14))=> (by
      have hb:Below B w x:=(hbx.alloc (by have:=HXB.out;omega) o).grown hx (by simp;have:=HXB.out;omega) (fun q hq=> (hoX q hq).1)
      have hbk:x.heap[X]? = some (Ybq l (r:Int) v):=by
       rw [hx.block X (by simp;omega) (fun e=> by have:=(hoX X e.symm).2;omega)]
       exact Yat hhx
      have hsz:wx.heap.size+1≤x.heap.size:=by have:=hx.size;simpa using this
      exact ⟨hb,by have:=HXB.out;omega,hbk⟩:Below B w x∧B≤x.heap.size∧x.heap[X]? = some (Ybq l (r:Int) v)))
     obtain ⟨c0,c1,c2,_,_,_⟩:=Ya3 hhx
     have hzB:B≤wx.heap.size:=by omega
     by_cases h63:63<m+r
     ·have t3:decide (63<z+(r:Int)+1)=true:=by have:=hzm.out;simp;omega
      have F:=Lib.hid (BR.out 7 wx (FEX.out 7 _ _ HC.out (ST.out.far hm64 HET.out h63) (by decide)) hbx)
      clear h63 hwx hX hbx hhx hoX hb2 hown2 NEW hox
      go_wp2
      rw [HWX.out]
      refine bodyPost_ret (Ydp rfl _ _ _) rfl ?_
      exact F.out
     ·have t3:decide (63<z+(r:Int)+1)=false:=by have:=hzm.out;simp;omega
      cases l with
      | true=>
       have EN:=Lib.hid (ST.out.end hm64 HET.out (by omega))
       have HLEN:=Lib.hid (show (acc ++ [(true,(r:Int),v)]).length=al+1 by rw [List.length_append,AL.out];rfl)
       have HCS:=Lib.hid (Ygg acc (true,(r:Int),v))
       have HZ:=Lib.hid (show z+(r:Int)+1+1=((m+r+1:Nat):Int) by have:=hzm.out;omega)
       have hzr:z+(r:Int)+1≤63:=by have:=hzm.out;omega
       clear h63 hwx hX hbx hhx hoX hb2 hown2
       go_wp2_with (at_builtin;rw [HWX.out,HX.out,←hzx];refine Ycd (y0:=true) (y1:=(r:Int)) (y2:=v) rfl rfl Tryz.underlying47 hj kz0 rfl kz1 kz2 rfl (hox.alloc _) rfl ?d1 ?d2 ?d3 ?d4 ?d5 ?_;(case d1=> go_cell);(case d2=> go_cell);(case d3=> go_cell);(case d4=> omega);(case d5=> (simp;omega));intro v2 w2 ho3 hgrow hat;clear hat;obtain ⟨hb3,hz3,hh3⟩:=NEW.out _ _ hgrow;obtain ⟨e0,e1,e2,_,_,_⟩:=Ya3 hh3;clear hgrow)
       go_roundw
       case rel=> exact ⟨false,acc ++ [(true,(r:Int),v)],m+r+1,t2,z+(r:Int)+1,rfl,rfl,rfl,HZ,by omega,hzr,htn,by rw [HLEN.out];omega,by rw [HLEN.out,HCS.out];exact ho3,Lib.hid ⟨fun h=> (by cases h),fun _=> .inr ⟨HC.out,by rw [EN.out,HT2.out]⟩⟩,hb3,hz3⟩
       case measure=> simp [RowKit.intOf];omega
      | false=>
       have N:=Lib.hid (ST.out.on hm64 HET.out (by omega))
       have HLEN:=Lib.hid (show (acc ++ [(false,(r:Int),v)]).length=al+1 by rw [List.length_append,AL.out];rfl)
       have HCS:=Lib.hid (Ygg acc (false,(r:Int),v))
       have HZ:=Lib.hid (show z+(r:Int)+1+1=((m+r+1:Nat):Int) by have:=hzm.out;omega)
       have hzr:z+(r:Int)+1≤63:=by have:=hzm.out;omega
       clear h63 hwx hX hbx hhx hoX hb2 hown2
       go_wp2_with (at_builtin;rw [HWX.out,HX.out,←hzx];refine Ycd (y0:=false) (y1:=(r:Int)) (y2:=v) rfl rfl Tryz.underlying47 hj kz0 rfl kz1 kz2 rfl (hox.alloc _) rfl ?d1 ?d2 ?d3 ?d4 ?d5 ?_;(case d1=> go_cell);(case d2=> go_cell);(case d3=> go_cell);(case d4=> omega);(case d5=> (simp;omega));intro v2 w2 ho3 hgrow hat;clear hat;obtain ⟨hb3,hz3,hh3⟩:=NEW.out _ _ hgrow;obtain ⟨e0,e1,e2,_,_,_⟩:=Ya3 hh3;clear hgrow)
       go_roundw
       case rel=> exact ⟨true,acc ++ [(false,(r:Int),v)],m+r+1,t2,z+(r:Int)+1,rfl,rfl,rfl,HZ,by omega,hzr,htn,by rw [HLEN.out];omega,by rw [HLEN.out,HCS.out];exact ho3,Lib.hid ⟨fun _=> ⟨HC.out,by rw [←HT2.out];exact N.out⟩,fun h=> by cases h⟩,hb3,hz3⟩
       case measure=> simp [RowKit.intOf];omega
    ·have g0:(f != 0)=true:=by simpa using hf
     have F:=Lib.hid (fun (x:World) (hx:Below B w x)=> BR.out f x (FEX.out f _ _ HC.out (ST.out.err hm64 HET.out hf) hf) hx)
     have hbx:=hb2.alloc hz2' (.cells #[.bool l,.int .i64 (r:Int),.int .i64 v] 111 (0,0))
     have HBX:=Lib.hid hbx
     clear hf hbx hb2 hown2
     go_wp2
     refine bodyPost_ret (Ydp rfl _ _ _) rfl ?_
     exact F.out _ HBX.out
end Go.Proofs.YtpgdngijmihafaaGreatDoor