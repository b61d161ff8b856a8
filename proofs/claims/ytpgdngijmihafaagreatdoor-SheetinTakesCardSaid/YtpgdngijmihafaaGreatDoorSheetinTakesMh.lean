/- Texts that SheetinTakes's proof stands on, part 8 of 52. No condition of its own. -/
import Derived.Test.YtpgdngijmihafaaGreatDoorSheetinTakesMa
import Derived.Test.YtpgdngijmihafaaGreatDoorSheetinTakesMd
import Derived.Test.YtpgdngijmihafaaGreatDoorSheetinTakesMe
import Derived.WalkMore
import Derived.Test.YtpgdngijmihafaaGreatDoorChecked
import Derived.Lib.Hide
import Derived.Below
import Derived.WalkKit
import Derived.OwnWalk
import Derived.IntWalk
import Derived.Laws.ResultCell
import Derived.Laws.Rows
import Derived.Laws.OwnMore
import Derived.Deep.AppendLies
import Derived.Maps.AppendAt
import Derived.Deep.Slices
import Derived.Deep.MidRow
import Derived.ChangeKeysEq
import Derived.RegionTactic
namespace Go.Proofs.YtpgdngijmihafaaGreatDoor
open Go.RowKit Go.Lib Go.ChangeShapes Go.WideShapes Go.ChangeAt
def Yc4 (run level:Int):Bool:=decide (0≤run)&&decide (run≤63)&&decide (-127≤level)&&decide (level≤127) && !(level==0)
theorem Ykb {run level:Int}:Yc4 run level=true↔0≤run∧run≤63∧-127≤level∧level≤127∧level≠0:=by
 unfold Yc4
 simp [Bool.and_eq_true,and_assoc]
def Ybq (last:Bool) (run level:Int):Obj:=.cells [.bool last,.int .i64 run,.int .i64 level].toArray 111 (0,0)
theorem Yzf (last:Bool) (run level:Int) (w:World):Calls Tryz.prog 155 #[.agg #[.bool last,.int .i64 run,.int .i64 level]] w fun e w'=> e = .returned (.bool (Yc4 run level))∧Below w.heap.size w w':=by
 have hb:∀o,Below w.heap.size w (w.alloc o):=fun o=> (Below.refl _ w).alloc (Nat.le_refl _) o
 have hT:Yc4 run level=(decide (0≤run)&&decide (run≤63)&&decide (-127≤level)&&decide (level≤127) && !(level==0)):=rfl
 have HT:=Lib.hid hT
 clear hT
 cases g0:decide (0≤run)
 ·go_enter Tryz.func155,Tryz.ntmps155
  go_wp2
  go_ret
  exact ⟨Yap (by rw [HT.out,g0];rfl),hb _⟩
 cases g1:decide (run≤63)
 ·go_enter Tryz.func155,Tryz.ntmps155
  go_wp2
  go_ret
  exact ⟨Yap (by rw [HT.out,g0,g1];rfl),hb _⟩
 cases g2:decide (-127≤level)
 ·go_enter Tryz.func155,Tryz.ntmps155
  go_wp2
  go_ret
  exact ⟨Yap (by rw [HT.out,g0,g1,g2];rfl),hb _⟩
 cases g3:decide (level≤127)
 ·go_enter Tryz.func155,Tryz.ntmps155
  go_wp2
  go_ret
  exact ⟨Yap (by rw [HT.out,g0,g1,g2,g3];rfl),hb _⟩
 cases g4:level==0
 all_goals
  have g5:=Lib.hid (show (level != 0) = !(level==0) from rfl)
  go_enter Tryz.func155,Tryz.ntmps155
  go_wp2
  go_ret
  exact ⟨Yap (by rw [HT.out,g5.out,g0,g1,g2,g3,g4];rfl),hb _⟩
theorem Ymu (last:Bool) (run level:Int) (w:World):Calls Tryz.prog 100 #[.agg #[.bool last,.int .i64 run,.int .i64 level]] w fun e w'=> e = .returned (.bool (Yc4 run level))∧Below w.heap.size w w':=by
 have hb:∀o,Below w.heap.size w (w.alloc o):=fun o=> (Below.refl _ w).alloc (Nat.le_refl _) o
 have hT:Yc4 run level=(decide (0≤run)&&decide (run≤63)&&decide (-127≤level)&&decide (level≤127) && !(level==0)):=rfl
 have HT:=Lib.hid hT
 clear hT
 cases g0:decide (0≤run)
 ·go_enter Tryz.func100,Tryz.ntmps100
  go_wp2
  go_ret
  exact ⟨Yap (by rw [HT.out,g0];rfl),hb _⟩
 cases g1:decide (run≤63)
 ·go_enter Tryz.func100,Tryz.ntmps100
  go_wp2
  go_ret
  exact ⟨Yap (by rw [HT.out,g0,g1];rfl),hb _⟩
 cases g2:decide (-127≤level)
 ·go_enter Tryz.func100,Tryz.ntmps100
  go_wp2
  go_ret
  exact ⟨Yap (by rw [HT.out,g0,g1,g2];rfl),hb _⟩
 cases g3:decide (level≤127)
 ·go_enter Tryz.func100,Tryz.ntmps100
  go_wp2
  go_ret
  exact ⟨Yap (by rw [HT.out,g0,g1,g2,g3];rfl),hb _⟩
 cases g4:level==0
 all_goals
  have g5:=Lib.hid (show (level != 0) = !(level==0) from rfl)
  go_enter Tryz.func100,Tryz.ntmps100
  go_wp2
  go_ret
  exact ⟨Yap (by rw [HT.out,g5.out,g0,g1,g2,g3,g4];rfl),hb _⟩
def Yug (x:Bool×Nat×Int):Value:=.agg #[.bool x.1,.int .i64 (x.2.1:Int),.int .i64 x.2.2]
theorem Ya3 {x:World} {B:Nat} {last:Bool} {r v:Int} (h:x.heap[B]? = some (Ybq last r v)):
  x.cell? ⟨B,0,none⟩=some (.bool last)∧x.cell? ⟨B,1,none⟩=some (.int .i64 r)∧x.cell? ⟨B,2,none⟩=some (.int .i64 v)∧x.frozen? ⟨B,0,none⟩=false∧x.frozen? ⟨B,1,none⟩=false∧x.frozen? ⟨B,2,none⟩=false:=
 ⟨Yaa h rfl,Yaa h rfl,Yaa h rfl,Yag (o:=0) h,Yag (o:=1) h,Yag (o:=2) h⟩
theorem Y2f {x:World} {B:Nat} {last:Bool} {r v:Int} (h:x.heap[B]? = some (Ybq last r v)) (k:Int):(x.setCell ⟨B,1,none⟩ (.int .i64 k)).heap[B]? = some (Ybq last k v):=Yau (o:=1) (.int .i64 k) h
theorem Yym {x:World} {B:Nat} {last:Bool} {r v:Int} (h:x.heap[B]? = some (Ybq last r v)) (k:Int):(x.setCell ⟨B,2,none⟩ (.int .i64 k)).heap[B]? = some (Ybq last r k):=Yau (o:=2) (.int .i64 k) h
theorem Y9l {x:World} {B:Nat} {last:Bool} {r v:Int} (h:x.heap[B]? = some (Ybq last r v)) (k:Bool):(x.setCell ⟨B,0,none⟩ (.bool k)).heap[B]? = some (Ybq k r v):=Yau (o:=0) (.bool k) h
theorem Ydi {x:World} {B:Nat} {last:Bool} {r v:Int} (h:x.heap[B]? = some (Ybq last r v)) (l':Bool) (r' v':Int):
  (((x.setCell ⟨B,0,none⟩ (.bool l')).setCell ⟨B,1,none⟩ (.int .i64 r')).setCell ⟨B,2,none⟩ (.int .i64 v')).heap[B]? = some (Ybq l' r' v'):=Yym (Y2f (Y9l h l') r') v'
theorem Ycd {P:Program} {w:World} {ops:Array Oper} {rest:List Oper} {o:Oper} {a:Act} {Q:Exit→Act→World→Prop} {sl x:Operand} {t base e c:Nat} {i:TypeInfo} {z v:Value} {n:Nat} {xs:List Value} {K:Nat} {y0:Bool} {y1 y2:Int}
  (hgd:o.guard=none) (ho:o.op = .call {callee:=.builtin .append,args:=#[sl,x],argTypes:=#[t,t]})
  (ht:P.underlying t=some (.slice e)) (hi:P.info? e=some i) (hz:i.zero=some z) (hzs:z.cells.size=3) (hsize:i.size=3) (hby:i.bytes=24)
  (hs:a.eval sl=v) (hown:w.ownsRow base e 3 v n xs) (hx:a.eval x = .slice (some ⟨K,0,none⟩) 1 c) (c0:w.cell? ⟨K,0,none⟩=some (.bool y0)) (c1:w.cell? ⟨K,1,none⟩=some (.int .i64 y1)) (c2:w.cell? ⟨K,2,none⟩=some (.int .i64 y2)) (hn:n≤1048576) (hbase:base≤w.heap.size)
  (h:∀v' w',w'.ownsRow base e 3 v' (n+1) (xs ++ [.bool y0,.int .i64 y1,.int .i64 y2])→w.grownBy w' v.ownBlock→(v'.ownBlock=v.ownBlock∨v'.ownBlock=some w.heap.size)→wpList P ops Q rest (a.put o.dst v') w'):wpList P ops Q (o::rest) a w:=
 wpList_append_own_at w hgd sl x t ho base e i z 3 24 ht hi hz hsize hby hzs (by decide) v n xs hs hown ⟨K,0,none⟩ 1 c [.bool y0,.int .i64 y1,.int .i64 y2] hx rfl
  (fun j u hj=> by
   match j,hj with
   | 0,hj=> cases hj;exact c0
   | 1,hj=> cases hj;exact c1
   | 2,hj=> cases hj;exact c2)
  (by intro u hu;simp only [List.mem_cons,List.not_mem_nil,or_false] at hu;rcases hu with rfl | rfl | rfl <;> rfl) (by unfold maxLen;omega) (by omega) hbase
  fun v' w' h1 h2 _ h4=> h v' w' h1 h2 h4
theorem Yvn:(Tryz.prog.info? 111).map (fun i=> (i.zero,i.size,i.bytes))=some (some (.agg #[.bool false,.int .i64 0,.int .i64 0]),3,24):=by kernel_rfl
def Qbf (f:Nat→Int) (i:Nat) (v:Int):Nat→Int:=fun k=> if k=i then v else f k
theorem Ypr:∃i,Tryz.prog.info? 3=some i:=by
 cases h:Tryz.prog.info? 3 with
 | some i=> exact ⟨i,rfl⟩
 | none=>
  have h2:(Tryz.prog.info? 3).isSome=true:=by kernel_rfl
  rw [h] at h2
  cases h2
theorem Yjo:Tryz.prog.cellsOf 3=1:=by kernel_rfl
theorem Yeb:Tryz.prog.plainKey 3=true:=by kernel_rfl
theorem Yae {P:Program} {ops:Array Oper} {rest:List Oper} {op:Oper} {a:Act} {w:World} {Q:Exit→Act→World→Prop} (hgd:op.guard=none) (ty:TypeId) (x y:Operand) (ho:op.op = .store ty x y)
  (b:Nat) (Z old:Array Value) (hx:a.eval x = .pointer (some ⟨b,0,none⟩)) (hy:a.eval y = .agg Z) (T:TypeId) (hg:w.heap[b]? = some (.cells old T (0,0))) (hi:(P.info? ty).map (·.size)=some Z.size) (hs:old.size=Z.size) (h1:Z.all (·.oneCell')=true)
  (h:∀w',w'.heap[b]? = some (.cells Z T (0,0))→w.grownBy w' (some b)→wpList P ops Q rest (a.put op.dst undef) w'):wpList P ops Q (op::rest) a w:=
 wpList_store_row hgd ty x y ho b Z hx hy T old hg hi hs h1 (h _ (setRow_heap w b old Z T (0,0) hg) ⟨rfl,rfl,rfl,by simp,fun k _ hk=> setRow_other w b k _ (by intro e;exact hk (by rw [e]))⟩)
section
variable {H:Type} {enc:TypeId×Value→H} {P:Program}
end
end Go.Proofs.YtpgdngijmihafaaGreatDoor
namespace Go.Proofs.YtpgdngijmihafaaGreatDoor
open Go.RowKit
abbrev Ev:=Bool×Int×Int
def Qbx (x:Ev):List Value:=[.bool x.1,.int .i64 x.2.1,.int .i64 x.2.2]
def Ye1 (l:List Ev):List Value:=l.flatMap Qbx
theorem Ygg (l:List Ev) (x:Ev):Ye1 (l ++ [x])=Ye1 l++Qbx x:=by simp [Ye1]
theorem Y3j (l:List Ev):∀(i:Nat) (h:i<l.length),(Ye1 l)[3*i]? = some (.bool l[i].1)∧(Ye1 l)[3*i+1]? = some (.int .i64 l[i].2.1)∧(Ye1 l)[3*i+2]? = some (.int .i64 l[i].2.2):=by
 induction l with
 | nil=> intro i h;cases h
 | cons p l ih=>
  intro i h
  match i with
  | 0=> exact ⟨rfl,rfl,rfl⟩
  | i+1=>
   have:=ih i (by simpa using h)
   rw [Ye1,List.flatMap_cons,show 3*(i+1)=(Qbx p).length+3*i by simp [Qbx];omega]
   rw [List.getElem?_append_right (by omega),Nat.add_sub_cancel_left,Nat.add_assoc,Nat.add_assoc,List.getElem?_append_right (by omega),List.getElem?_append_right (by omega),Nat.add_sub_cancel_left,Nat.add_sub_cancel_left]
   exact this
def evs (f:Nat→Int) (a:Nat):Nat→List Ev×Nat
 | 0=> ([],0)
 | k+1=> if k<a then evs f a k else if f k=0 then ((evs f a k).1,(evs f a k).2+1) else ((evs f a k).1 ++ [(false,((evs f a k).2:Int),f k)],0)
def okl (v:Int):Bool:=decide (-127≤v)&&decide (v≤127)
def bad (f:Nat→Int) (a:Nat):Nat→Bool
 | 0=> false
 | k+1=> bad f a k || (decide (a≤k) && !okl (f k))
def lvS (a:Nat) (l:List Ev):Nat×(Nat→Int):=l.foldl (fun s e=> (s.1+e.2.1.toNat+1,Qbf s.2 (s.1+e.2.1.toNat) e.2.2)) (a,fun _=> 0)
theorem Y7d (a:Nat) (l:List Ev) (e:Ev):lvS a (l ++ [e])=((lvS a l).1+e.2.1.toNat+1,Qbf (lvS a l).2 ((lvS a l).1+e.2.1.toNat) e.2.2):=by
 unfold lvS
 rw [List.foldl_append]
 rfl
def Qa5 (a:Nat) (l:List Ev) (j:Nat) (e:Ev):Bool:=Yc4 e.2.1 e.2.2&&(e.1==decide (j+1=l.length))&&decide ((lvS a (l.take j)).1+e.2.1.toNat<64)
def Qbo (a:Nat) (l:List Ev):Nat→Bool
 | 0=> false
 | j+1=> Qbo a l j || (match l[j]? with | some e=> !Qa5 a l j e | none=> false)
theorem Yw8 {a:Nat} {l:List Ev}:∀k,k≤l.length→(∀j,(h:j<l.length)→j<k→Qa5 a l j l[j]=true)→Qbo a l k=false
 | 0,_,_=> rfl
 | k+1,hk,h=> by
  rw [Qbo,Yw8 k (by omega) fun j h1 h2=> h j h1 (by omega),List.getElem?_eq_getElem (by omega)]
  simp [h k (by omega) (by omega)]
end Go.Proofs.YtpgdngijmihafaaGreatDoor
namespace Go.Proofs.YtpgdngijmihafaaGreatDoor
open Go.RowKit Go.Lib Go.ChangeShapes Go.WideShapes Go.ChangeAt
def Yea (w:World) (p:Option Addr) (l:List Ev):Prop:=
 l = []∨∃b o,p=some ⟨b,o,none⟩∧b<w.heap.size∧∀i,(h:i<l.length)→w.cell? ⟨b,o+i*3,none⟩=some (.bool l[i].1)∧w.cell? ⟨b,o+i*3+1,none⟩=some (.int .i64 l[i].2.1)∧w.cell? ⟨b,o+i*3+2,none⟩=some (.int .i64 l[i].2.2)
theorem Yea.below {w w':World} {p:Option Addr} {l:List Ev} (h:Yea w p l) (hb:Below w.heap.size w w'):Yea w' p l:=by
 rcases h with h | ⟨b,o,h1,h2,h3⟩
 ·exact .inl h
 ·refine .inr ⟨b,o,h1,Nat.lt_of_lt_of_le h2 hb.size,fun i hi=> ?_⟩
  rw [hb.cell (p:=⟨b,o+i*3,none⟩) h2,hb.cell (p:=⟨b,o+i*3+1,none⟩) h2,hb.cell (p:=⟨b,o+i*3+2,none⟩) h2]
  exact h3 i hi
theorem Yea.at {w:World} {p:Option Addr} {l:List Ev} (h:Yea w p l) (h0:0<l.length):
  ∃b o,p=some ⟨b,o,none⟩∧b<w.heap.size∧∀i,(h:i<l.length)→w.cell? ⟨b,o+i*3,none⟩=some (.bool l[i].1)∧w.cell? ⟨b,o+i*3+1,none⟩=some (.int .i64 l[i].2.1)∧w.cell? ⟨b,o+i*3+2,none⟩=some (.int .i64 l[i].2.2):=by
 rcases h with rfl | h
 ·cases h0
 ·exact h
theorem Yxk {w:World} {base e:Nat} {v:Value} {l:List Ev} (h:w.ownsRow base e 3 v l.length (Ye1 l)):∃(q:Option Addr) (cap:Nat),v = .slice q l.length cap∧Yea w q l:=by
 have h0:=h
 rcases h.2 with ⟨rfl,h1⟩ | ⟨g,cap,cur,rfl,_,hg,_⟩
 ·exact ⟨none,0,by rw [h1],.inl (List.eq_nil_of_length_eq_zero h1)⟩
 ·refine ⟨_,cap,rfl,.inr ⟨g,0,rfl,(Array.getElem?_eq_some_iff.1 hg).1,fun i hi=> ?_⟩⟩
  obtain ⟨a0,a1,a2⟩:=Y3j l i hi
  rw [Nat.zero_add,Nat.mul_comm i 3]
  exact ⟨(h0.cellAt (3*i) (by omega)).trans a0,(h0.cellAt (3*i+1) (by omega)).trans a1,(h0.cellAt (3*i+2) (by omega)).trans a2⟩
section
variable {H:Type} {enc:TypeId×Value→H} {P:Program}
end
theorem Y08 {l m:List Ev} (hl:l.length=m.length) {i:Nat} (h:∀j,(h1:j<l.length)→(h2:j<m.length)→j<i→l[j]=m[j]) (h3:l.length≤i):l=m:=
 List.ext_getElem hl fun j h1 h2=> h j h1 h2 (by omega)
set_option maxRecDepth 100000 in
set_option maxHeartbeats 2000000 in
theorem Y2k (p q:Option Addr) (l m:List Ev) (c c':Nat) (w:World) (hp:Yea w p l) (hq:Yea w q m) (hm:l.length≤1048576):Calls Tryz.prog 48 #[.slice p l.length c,.slice q m.length c'] w fun e w'=> e = .returned (.bool (decide (l=m)))∧Below w.heap.size w w':=by
 by_cases hl:l.length=m.length
 ·have HL:=Lib.hid hl
  obtain ⟨n,hn⟩:∃n,l.length=n:=⟨_,rfl⟩
  have HN:=Lib.hid hn
  rw [←hl,hn]
  rw [hn] at hm
  clear hl hn
  go_enter Tryz.func48,Tryz.ntmps48
  go_wp2
  go_loopw [5] (fun z wr=>∃i:Nat,i≤n∧z = .int .i64 i∧Hid (∀j,(h1:j<l.length)→(h2:j<m.length)→j<i→l[j]=m[j])∧Below w.heap.size w wr) (fun z _=> n-(intOf z).toNat)
  case atStart=> exact ⟨0,Nat.zero_le _,rfl,Lib.hid fun j _ _ h=> absurd h (Nat.not_lt_zero j),Below.refl _ _⟩
  case round=>
   obtain ⟨i,hi,rfl,hs,hb⟩:=hrel
   by_cases hlt:i<n
   ·have t0:decide ((i:Int)<(n:Int))=true:=by simp;omega
    have t1:decide (i<n)=true:=by simpa using hlt
    have hil:i<l.length:=by rw [HN.out];exact hlt
    have him:i<m.length:=by rw [←HL.out];exact hil
    obtain ⟨b,o,rfl,hbb,hc⟩:=(hp.below hb).at (by omega)
    obtain ⟨b',o',rfl,hbb',hd⟩:=(hq.below hb).at (by omega)
    obtain ⟨c0,c1,c2⟩:=hc i hil
    obtain ⟨d0,d1,d2⟩:=hd i him
    have hx:∀j,j<i+1→j<i∨j=i:=fun j h=> by omega
    obtain ⟨⟨x0,x1,x2⟩,hxe⟩:∃x,l[i]=x:=⟨_,rfl⟩
    obtain ⟨⟨y0,y1,y2⟩,hye⟩:∃x,m[i]=x:=⟨_,rfl⟩
    rw [hxe] at c0 c1 c2
    rw [hye] at d0 d1 d2
    simp only at c0 c1 c2 d0 d1 d2
    have HXE:=Lib.hid hxe
    have HYE:=Lib.hid hye
    clear hc hd hbb hbb' hxe hye
    by_cases e:x0=y0∧x1=y1∧x2=y2
    ·obtain ⟨rfl,rfl,rfl⟩:=e
     have NX:=Lib.hid (show∀j,(h1:j<l.length)→(h2:j<m.length)→j<i+1→l[j]=m[j] from fun j h1 h2 h3=> by
      rcases hx j h3 with h | h
      ·exact hs.out j h1 h2 h
      ·subst h;rw [HXE.out,HYE.out])
     clear hs
     have hbd:=hb.drew
     go_wp2
     go_region
     go_wp2
     go_roundw
     case rel=> exact ⟨i+1,by omega,by go_num,NX.out,hbd⟩
     case measure=> simp [intOf];omega
    ·have F:=Lib.hid (show decide (l=m)=false by
      rw [decide_eq_false_iff_not]
      intro h
      subst h
      have h2:=HXE.out.symm.trans HYE.out
      injection h2 with h2 h3
      injection h3 with h3 h4
      exact e ⟨h2,h3,h4⟩)
     have hbd:=hb.drew
     clear hs
     by_cases e0:x0=y0
     ·subst e0
      by_cases e1:x1=y1
      ·subst e1
       have g2:(x2==y2)=false:=by rw [beq_eq_false_iff_ne];intro h;exact e ⟨rfl,rfl,h⟩
       go_wp2
       go_region
       go_wp2
       go_ret
       exact ⟨Yap F.out.symm,hbd⟩
      ·have g1:(x1==y1)=false:=by rw [beq_eq_false_iff_ne];exact e1
       go_wp2
       go_region
       go_wp2
       go_ret
       exact ⟨Yap F.out.symm,hbd⟩
     ·have g0:(x0==y0)=false:=by rw [beq_eq_false_iff_ne];exact e0
      go_wp2
      go_region
      go_wp2
      go_ret
      exact ⟨Yap F.out.symm,hbd⟩
   ·obtain rfl:i=n:=by omega
    have t0:decide ((i:Int)<(i:Int))=false:=by simp
    have t1:decide (i<i)=false:=by simp
    have F:=Lib.hid (show decide (l=m)=true by rw [decide_eq_true_iff];exact Y08 HL.out hs.out (Nat.le_of_eq HN.out))
    go_wp2
    go_ret
    exact ⟨Yap F.out.symm,hb⟩
 ·have F:=Lib.hid (show decide (l=m)=false by rw [decide_eq_false_iff_not];intro e;exact hl (by rw [e]))
  have g0:((l.length:Int)==(m.length:Int))=false:=by rw [beq_eq_false_iff_ne];omega
  clear hp hq
  generalize l.length=n1 at hl g0 hm ⊢
  generalize m.length=n2 at hl g0 ⊢
  go_enter Tryz.func48,Tryz.ntmps48
  go_wp2
  go_ret
  exact ⟨Yap F.out.symm,Below.refl _ _⟩
end Go.Proofs.YtpgdngijmihafaaGreatDoor
namespace Go.Proofs.YtpgdngijmihafaaGreatDoor
open Go.RowKit Go.Lib
structure Cel where
 stuff:Int
 skip:Bool
 kind:Int
 step:Int
 mx:Int
 my:Int
 dc:Nat→Int
 ev:Nat→List Ev
def Yc1:Cel:=⟨0,false,0,0,0,0,fun _=> 0,fun _=> []⟩
def Ya5 (c:Cel) (sl:Nat→Value):List Value:=
 [.int .i64 c.stuff,.bool c.skip,.int .i64 c.kind,.int .i64 c.step,.int .i64 c.mx,.int .i64 c.my,
  .int .i64 (c.dc 0),.int .i64 (c.dc 1),.int .i64 (c.dc 2),.int .i64 (c.dc 3),.int .i64 (c.dc 4),.int .i64 (c.dc 5),sl 0,sl 1,sl 2,sl 3,sl 4,sl 5]
def nilS:Nat→Value:=fun _=> .slice none 0 0
theorem Ygz (c:Cel) (sl:Nat→Value):∀i,i<6→(Ya5 c sl)[6+i]? = some (.int .i64 (c.dc i))
 | 0,_=> rfl
 | 1,_=> rfl
 | 2,_=> rfl
 | 3,_=> rfl
 | 4,_=> rfl
 | 5,_=> rfl
theorem Yfk (c:Cel) (sl:Nat→Value):∀i,i<6→(Ya5 c sl)[12+i]? = some (sl i)
 | 0,_=> rfl
 | 1,_=> rfl
 | 2,_=> rfl
 | 3,_=> rfl
 | 4,_=> rfl
 | 5,_=> rfl
def Y1m (c d:Cel):Bool:=c.stuff==d.stuff&&c.skip==d.skip&&c.kind==d.kind&&c.step==d.step&&(c.mx==d.mx&&c.my==d.my)&&(List.range 6).all fun i=> c.dc i==d.dc i
def evB (c d:Cel):Bool:=(List.range 6).all fun i=> decide (c.ev i=d.ev i)
def Yyr (c d:Cel):Bool:=evB c d&&Y1m c d
theorem Y1s (c:Cel):Yyr c c=true:=by simp [Yyr,evB,Y1m]
theorem Y9f {c d:Cel} {i:Nat} (hi:i<6) (h:c.ev i≠d.ev i):evB c d=false:=by
 unfold evB
 rw [List.all_eq_false]
 exact ⟨i,List.mem_range.2 hi,by simpa using h⟩
theorem Qal {c d:Cel} (h:∀i,i<6→c.ev i=d.ev i):evB c d=true:=by
 unfold evB
 rw [List.all_eq_true]
 intro i hi
 simpa using h i (List.mem_range.1 hi)
def Y35 (w:World) (c:Cel) (p:Nat→Option Addr) (n:Nat→Nat):Prop:=∀i,i<6→n i=(c.ev i).length∧n i≤1048576∧Yea w (p i) (c.ev i)
theorem Y35.below {w x:World} {c:Cel} {p:Nat→Option Addr} {n:Nat→Nat} (h:Y35 w c p n) (hb:Below w.heap.size w x):Y35 x c p n:=
 fun i hi=> ⟨(h i hi).1,(h i hi).2.1,(h i hi).2.2.below hb⟩
end Go.Proofs.YtpgdngijmihafaaGreatDoor