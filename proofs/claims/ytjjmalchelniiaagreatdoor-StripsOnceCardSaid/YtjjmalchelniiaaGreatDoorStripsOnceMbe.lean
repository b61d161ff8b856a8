/- Part 31 of StripsOnce. No condition. -/
import Derived.Test.YtjjmalchelniiaaGreatDoorStripsOnceMr
import Derived.Test.YtjjmalchelniiaaGreatDoorStripsOnceMbd
import Derived.RangeFuncNested
import Derived.RangeFuncBound
import Derived.RangeFuncCalls
import Derived.RangeFuncLeaves
import Derived.Shelf.Abstract
import Derived.Shelf.RegionOpen
import Derived.OwnWalkIn
import Derived.TacticsInMore
import Derived.LoopNIn
import Derived.LoopIn
import Derived.Maps.AppendAt
import Derived.WalkKit
namespace Go.Proofs.YtjjmalchelniiaaGreatDoor
open Go.RowKit Go.Lib
attribute [local go_sem] Oper.semAt_some
def Yj9 (inter:Bool)(i:Nat):ByteArray×Sym:=(Yby inter ((i / 4:Nat):Int) ((i%4:Nat):Int),(⟨i / 4%6,Nat.mod_lt _ (by decide)⟩,⟨i%4,Nat.mod_lt _ (by decide)⟩))
def Ynl (inter:Bool)(f:List UInt8)(i:Nat):List (ByteArray×Sym):=((List.range i).map (Yj9 inter)).filter fun x=>f.isPrefixOf (Yat x)
theorem Qfy {inter:Bool}{f:List UInt8}{i:Nat}(h:f.isPrefixOf (Yat (Yj9 inter i))=true):Ynl inter f (i+1)=Ynl inter f i++[Yj9 inter i]:=by
 unfold Ynl;rw[List.range_succ,List.map_append,List.filter_append];simp[h]
theorem Qiu {inter:Bool}{f:List UInt8}{i:Nat}(h:f.isPrefixOf (Yat (Yj9 inter i))=false):Ynl inter f (i+1)=Ynl inter f i:=by
 unfold Ynl;rw[List.range_succ,List.map_append,List.filter_append];simp[h]
theorem Yuv (inter:Bool)(f:List UInt8)(i:Nat):(Ynl inter f i).length≤i:=by
 unfold Ynl;refine Nat.le_trans (List.length_filter_le _ _) ?_;simp
theorem Y1e (inter:Bool)(k c:Nat)(hk:k<6)(hc:c<4):(Yj9 inter (4*k+c)).1=Yby inter (k:Int) (c:Int)∧sA (Yj9 inter (4*k+c)).2=(k:Int)∧sB (Yj9 inter (4*k+c)).2=(c:Int):=by
 have h1:(4*k+c) / 4=k:=by omega
 have h2:(4*k+c)%4=c:=by omega
 unfold Yj9 sA sB;simp only[h1,h2];exact⟨trivial,by rw[Nat.mod_eq_of_lt hk],trivial⟩
theorem Y4c {w x:World}(h:Below w.heap.size w x):w.grownBy x none:=⟨h.os,h.tape,h.output,h.size,fun k hk _=>h.block k hk⟩
def Qjc (x:ByteArray×Sym):Array Value:=#[.agg #[.string x.1,.int .i64 (sA x.2),.int .i64 (sB x.2)]]
def Y28 (b0 b1:Nat)(inter:Bool)(f:ByteArray)(W W':World):Prop:=
 (Boxed W b0 4 (.bool inter)→Boxed W' b0 4 (.bool inter))∧(Boxed W b1 9 (.string f)→Boxed W' b1 9 (.string f))
theorem Y28.grown {b0 b1:Nat}{inter:Bool}{f:ByteArray}{W W':World}{row:Option Nat}(hg:W.grownBy W' row)(h0:some b0≠row)(h1:some b1≠row):Y28 b0 b1 inter f W W':=
 ⟨fun h=>h.kept hg h0,fun h=>h.kept hg h1⟩
set_option maxRecDepth 100000 in
set_option maxHeartbeats 4000000 in
theorem Y70 (n:Nat)(hn:1≤n)(l b0 b1:Nat)(inter:Bool)(f:ByteArray)(J Jx:List (ByteArray×Sym)→World→Prop)
  (W:World)(hJ:AbidesFrom W.heap.size J)
  (hY:∀pre x W1,J pre W1→pre.length<24→YieldAt Fence.wide (n-1) Tryz.prog l (Qjc x) W1 fun e W'=>
   (e=.returned (.bool true)∧J (pre++[x]) W'∧Y28 b0 b1 inter f W1 W')∨(e=.returned (.bool false)∧Jx (pre++[x]) W'))
  (hb0:Boxed W b0 4 (.bool inter)) (hb1:Boxed W b1 9 (.string f)) (h0:J [] W):
  CallsIn Fence.wide n Tryz.prog 257 #[.func (.yield l) #[] #[],.pointer (some ⟨b0,0,none⟩),.pointer (some ⟨b1,0,none⟩)] W fun e W'=>(∃v,e=.returned v)∧
   ((∃xs,xs=Ynl inter f.data.toList 24∧J xs W')∨(∃pre,True∧Jx pre W')):=by
 refine callsIn_of_wp Tryz.func257 rfl trivial ?_ rfl;simp only[Tryz.ntmps257,List.size_toArray,List.length_cons,List.length_nil,Nat.reduceAdd,Nat.reduceSub,Array.replicate_succ,Array.replicate_zero,List.push_toArray,List.append_toArray,List.nil_append,List.cons_append]
 gi_wp2
 gi_loopw [7] (fun v wr=>∃k:Nat,k≤6∧v=.int .i64 k∧J (Ynl inter f.data.toList (4*k)) wr∧Boxed wr b0 4 (.bool inter)∧Boxed wr b1 9 (.string f)) (fun v _=>6-(intOf v).toNat)
 case atStart=>exact⟨0,by omega,rfl,h0,hb0,hb1⟩
 case round=>
  obtain⟨k,hk,rfl,hj,hb0,hb1⟩:=hrel;by_cases hlt:k<6
  ·have c0:=hb0.cell;obtain⟨a,b,d,g,hl⟩:=Yr0 inter k;have ix:∀c:Nat,c<4→∀w,(Instr.index 214 (.agg #[.string a,.string b,.string d,.string g]) (.int .i64 (c:Int))).run Tryz.prog w=.ok (.string (Yby inter k c)) w:=by
    intro c hc w;have hr:Yby inter k c=[a,b,d,g][c]?.getD ⟨#[]⟩:=by
     unfold Yby
     rw[if_pos (by omega),hl,Int.toNat_natCast]
    obtain⟨i0,i1,i2,i3⟩:=Yoi a b d g w;rcases (by omega:c=0∨c=1∨c=2∨c=3) with rfl|rfl|rfl|rfl
    ·rw[hr];exact i0
    ·rw[hr];exact i1
    ·rw[hr];exact i2
    ·rw[hr];exact i3
   have IX:=Lib.hid ix;have HL:=Lib.hid (show Yoh (Yz6 inter k)=.agg #[.string a,.string b,.string d,.string g] by rw[hl];rfl);clear ix hl
   gi_wp2
   refine⟨trivial,(callsIn_wide.2 (Yxe inter k _)).mono ?_⟩;rintro e w1 ⟨rfl,hbw⟩;rw[HL.out];have hg1:=Y4c hbw;have hj1:=hJ _ wr w1 none hj hg1 (fun r e=>by cases e);have hb01:=hb0.kept hg1 (by simp);have hb11:=hb1.kept hg1 (by simp);clear hj hb0 hb1 hg1 hbw c0
   gi_wp2
   gi_loopw [13] (fun v wx=>∃c:Nat,c≤4∧v=.int .i64 c∧J (Ynl inter f.data.toList (4*k+c)) wx∧Boxed wx b0 4 (.bool inter)∧Boxed wx b1 9 (.string f)) (fun v _=>4-(intOf v).toNat)
   case atStart=>exact⟨0,by omega,rfl,hj1,hb01,hb11⟩
   case round=>
    clear hj1 hb01 hb11;obtain⟨c,hc,rfl,hj,hb0,hb1⟩:=hrel;by_cases hct:c<4
    ·have ix:=IX.out c hct;have c1:=hb1.cell;obtain⟨e1,e2,e3⟩:=Y1e inter k c hlt hct;obtain⟨x,hx⟩:∃x,Yj9 inter (4*k+c)=x:=⟨_,rfl⟩;rw[hx] at e1 e2 e3;have ec:Qjc x=#[.agg #[.string (Yby inter k c),.int .i64 (k:Int),.int .i64 (c:Int)]]:=by unfold Qjc;rw[e1,e2,e3]
     obtain⟨r,hr⟩:∃r,Yby inter k c=r:=⟨_,rfl⟩;rw[hr] at ix ec e1;have HX:=Lib.hid hx;have hrow:Yat x=r.data.toList:=by unfold Yat;rw[e1]
     have HR:=Lib.hid hrow;have hlen:=Yuv inter f.data.toList (4*k+c);clear hx hr e1 e2 e3 hrow
     gi_wp2
     refine⟨trivial,(callsIn_wide.2 (Yle r f _)).mono ?_⟩;rintro e w2 ⟨rfl,rfl⟩;cases hpre:f.data.toList.isPrefixOf r.data.toList with
     |true=>
      have UP:=Lib.hid (Qfy (inter:=inter) (f:=f.data.toList) (i:=4*k+c) (by rw[HX.out,HR.out];exact hpre));obtain⟨fn,tmps,assign,body,hy,hR⟩:=hY _ x w2 hj (by omega);rw[ec] at hy;clear hpre
      gi_wp2
      refine hR.mono ?_;rintro e W3 (⟨rfl,hj3,hk3⟩|⟨rfl,hjx⟩)
      ·have hb03:=hk3.1 hb0;have hb13:=hk3.2 hb1
       gi_wp2
       go_roundw
       case rel=>exact⟨c+1,by omega,by go_num,by rw[←Nat.add_assoc,UP.out,HX.out];exact hj3,hb03,hb13⟩
       case measure=>simp[intOf];omega
      ·gi_wp2
       exact bodyPost_ret (results_none rfl _ _ _) rfl ⟨⟨_,rfl⟩,.inr ⟨_,trivial,hjx⟩⟩
     |false=>
      have UP:=Lib.hid (Qiu (inter:=inter) (f:=f.data.toList) (i:=4*k+c) (by rw[HX.out,HR.out];exact hpre));clear hpre
      gi_wp2
      refine⟨fun _ h=>(by cases h),?_⟩
      gi_wp2
      go_roundw
      case rel=>exact⟨c+1,by omega,by go_num,by rw[←Nat.add_assoc,UP.out];exact hj,hb0,hb1⟩
      case measure=>simp[intOf];omega
    ·obtain rfl:c=4:=by omega
     gi_wp2
     go_roundw
     case rel=>exact⟨k+1,by omega,by go_num,by rw[Nat.mul_add];exact hj,hb0,hb1⟩
     case measure=>simp[intOf];omega
  ·obtain rfl:k=6:=by omega
   gi_wp2
   go_end0
   exact⟨⟨_,rfl⟩,.inl ⟨_,rfl,hj⟩⟩
theorem Yy7 (n:Nat)(hn:1≤n)(b0 b1:Nat)(inter:Bool)(f:ByteArray)(w:World)(hb0:Boxed w b0 4 (.bool inter))(hb1:Boxed w b1 9 (.string f)):
  SeqStopsK Fence.wide n Tryz.prog 257 #[.pointer (some ⟨b0,0,none⟩),.pointer (some ⟨b1,0,none⟩)] Qjc (Y28 b0 b1 inter f) (fun xs=>xs=Ynl inter f.data.toList 24) (fun _=>True) 24 w:=
 fun l J Jx W hW hJ _ hY h0=>Y70 n hn l b0 b1 inter f J Jx W hJ hY ((hW.block b0 hb0.lt).trans hb0) ((hW.block b1 hb1.lt).trans hb1) h0
attribute [local go_sem] Oper.semAt_some
def Qhh (x:ByteArray×Sym):Obj:=.cells (Yhg x).toArray 274 (0,0)
theorem Y9h (W:World)(x:ByteArray×Sym):∀j u,[Value.string x.1,.int .i64 (sA x.2),.int .i64 (sB x.2)][j]? =some u→(W.alloc (.cells #[.string x.1,.int .i64 (sA x.2),.int .i64 (sB x.2)] 274)).cell? ((⟨W.heap.size,0,none⟩:Addr).add j)=some u:=by
 intro j u hj;rw[Addr.add_mid,Nat.zero_add];exact Yab (cs:=[Value.string x.1,.int .i64 (sA x.2),.int .i64 (sB x.2)]) (heap_alloc_new W _) hj
set_option maxRecDepth 100000 in
set_option maxHeartbeats 4000000 in
theorem Yl7 (B0 b0 b1:Nat)(inter:Bool)(f:ByteArray)(sl:Value)(w:World)(hB:B0≤w.heap.size)(hsl:w.ownsRow B0 274 3 sl 0 [])
  (hs1:∃p c,sl=.slice p 0 c)(hb0:Boxed w b0 4 (.bool inter))(hb1:Boxed w b1 9 (.string f)):
  Calls Tryz.prog 243 #[sl,.func (.func 257) #[] #[.pointer (some ⟨b0,0,none⟩),.pointer (some ⟨b1,0,none⟩)]] w fun e w'=>
   ∃v,e=.returned v∧w'.ownsRow B0 274 3 v (Ynl inter f.data.toList 24).length (Yay (Ynl inter f.data.toList 24))∧Below B0 w w':=by
 obtain⟨p,c,rfl⟩:=hs1;obtain⟨i0,hi,hz0,hz1,hz2⟩:=info_parts Ylm;have hl0:=hb0.lt;have hl1:=hb1.lt;refine(callsIn_wide (n:=3)).1 ?_;refine callsIn_of_wp_marks Tryz.func243 rfl trivial ?_ rfl
 simp only[Tryz.ntmps243,List.size_toArray,List.length_cons,List.length_nil,Nat.reduceAdd,Nat.reduceSub,Array.replicate_succ,Array.replicate_zero,List.push_toArray,List.append_toArray,List.nil_append,List.cons_append]
 gi_wp2
 have bS:=Boxed.new w 269 (.slice p 0 c);have bB0:=hb0.alloc (.cells #[.slice p 0 c] 269);have bB1:=hb1.alloc (.cells #[.slice p 0 c] 269);have hr0:=hsl.alloc (.cells #[.slice p 0 c] 269);have hBW:Below B0 w (w.alloc (.cells #[.slice p 0 c] 269)):=(Below.refl _ w).alloc hB _;have hsz:(w.alloc (.cells #[.slice p 0 c] 269)).heap.size=w.heap.size+1:=by simp
 obtain⟨W0,hW0⟩:∃W0,w.alloc (.cells #[.slice p 0 c] 269)=W0:=⟨_,rfl⟩;rw[hW0] at bS bB0 bB1 hr0 hBW hsz ⊢;clear hW0;refine wpIn_rangeFunc_ownH rfl (by omega) (gf:=257) (lb:=#[.pointer (some ⟨b0,0,none⟩),.pointer (some ⟨b1,0,none⟩)]) rfl trivial (enters_of Tryz.func257 (by kernel_rfl) rfl)
  (Yy7 _ (by omega) b0 b1 inter f W0 bB0 bB1) (fun h k=>⟨fun x=>k.1 (h.1 x),fun x=>k.2 (h.2 x)⟩)
  (fun W l o o' hl _ _ _=>Y28.grown (grownBy_putObj' W l o') (by intro e;injection e with e;omega) (by intro e;injection e with e;omega)) (Below.refl _ _) (fun _=>rfl)
  (fun pre W=>((∃v,Boxed W w.heap.size 269 v∧W.ownsRow B0 274 3 v pre.length (Yay pre)∧True)∧Boxed W b0 4 (.bool inter)∧Boxed W b1 9 (.string f))∧Below B0 w W)
  (fun _ _ _=>False)
  (OwnFrom.and (OwnFrom.and (Own.from (holdsRow_own B0 w.heap.size 269 274 3 (fun pre=>pre.length) Yay (fun _ _=>True)) _) (OwnFrom.and (Own.from (boxed_own _ _ _) _) (Own.from (boxed_own _ _ _) _))) (ownFrom_below hB (by omega)))
  (fun _ _ _ _ _ hs _ _=>hs)
  ⟨⟨⟨_,bS,hr0,trivial⟩,bB0,bB1⟩,hBW⟩
  (fun x a' W=>∃Bx,W.heap[Bx]? =some (Qhh x)∧a' = {tmps:=#[.slice p 0 c,.func (.func 257) #[] #[.pointer (some ⟨b0,0,none⟩),.pointer (some ⟨b1,0,none⟩)],.pointer (some ⟨w.heap.size,0,none⟩),undef,.slice none 0 0,.pointer (some ⟨Bx,0,none⟩),.func (.func 257) #[] #[.pointer (some ⟨b0,0,none⟩),.pointer (some ⟨b1,0,none⟩)],.agg #[.string x.1,.int .i64 (sA x.2),.int .i64 (sB x.2)],undef,undef,undef,undef,undef],defers:=[]})
  (fun x a' _ X Y row hs hg hr=>by
   obtain⟨Bx,h1,h2⟩:=hs;refine⟨Bx,(hg.block Bx (Array.getElem?_eq_some_iff.1 h1).1 (fun e=>?_)).trans h1,h2⟩;obtain⟨_,o,ho,hc⟩:=hr Bx e.symm;rw[h1] at ho;cases ho;cases hc)
  ?assign ?body ?done ?stop
 case assign=>
  rintro l pre x W K ⟨⟨⟨v,bS1,hr1,_⟩,bB01,bB11⟩,hB1⟩ hK;unfold Qjc
  gi_wp2
  exact hK _ _ ((KeepsOthers.alloc _ _).from _) (Y28.grown (World.grownBy_alloc W _ none) (by simp) (by simp)) ⟨⟨⟨v,bS1.alloc _,hr1.alloc _,trivial⟩,bB01.alloc _,bB11.alloc _⟩,hB1.alloc (Nat.le_trans hB hB1.size) _⟩ ⟨W.heap.size,heap_alloc_new W _,rfl⟩
 case body=>
  rintro l pre x a' W hl _ ⟨⟨⟨v,bS1,hr1,_⟩,bB01,bB11⟩,hB1⟩ ⟨Bx,hBx,rfl⟩ hlt;have cS:=bS1.cell;have fS:=bS1.frozen;have x0:W.cell? ⟨Bx,0,none⟩=some (.string x.1):=Yab hBx rfl;have x1:W.cell? ⟨Bx,1,none⟩=some (.int .i64 (sA x.2)):=Yab hBx rfl;have x2:W.cell? ⟨Bx,2,none⟩=some (.int .i64 (sB x.2)):=Yab hBx rfl;have hBz:B0≤W.heap.size:=Nat.le_trans hB hB1.size
  gi_wp2_with (gi_at_builtin;refine wpListIn_append_own _ rfl _ _ 269 rfl B0 274 i0 _ 3 32 Tryz.underlying269 hi hz0 hz1 hz2 rfl (by decide) _ _ _ rfl (hr1.alloc _) ⟨W.heap.size,0,none⟩ 1 1 [.string x.1,.int .i64 (sA x.2),.int .i64 (sB x.2)] rfl rfl (Y9h W x) (Ytf x) (by unfold maxLen;omega) (by omega) (by simp;omega) ?_;intro v' w1 hown' hgrow _;obtain⟨g',cap',rfl⟩:=ownsRow_succ hown';obtain⟨hv1,hv2,hr2,hk2,hb2⟩:=bS1.appended (by decide) hr1 hBz hB hown' hgrow;have hc1:=hv1.cell;have hf1:=hv1.frozen)
  have n0:=((bB01.alloc (.cells #[.string x.1,.int .i64 (sA x.2),.int .i64 (sB x.2)] 274)).kept hgrow (bB01.not_row (by decide) hr1)).other (B':=w.heap.size) (by omega) (.slice (some ⟨g',0,none⟩) (pre.length+1) cap')
  have n1:=((bB11.alloc (.cells #[.string x.1,.int .i64 (sA x.2),.int .i64 (sB x.2)] 274)).kept hgrow (bB11.not_row (by decide) hr1)).other (B':=w.heap.size) (by omega) (.slice (some ⟨g',0,none⟩) (pre.length+1) cap');refine⟨hk2.from _,⟨fun _=>n0,fun _=>n1⟩,⟨⟨⟨_,hv2,?_,trivial⟩,n0,n1⟩,hB1.trans hb2⟩⟩;rw[List.length_append,Yn6];exact hr2
 case done=>
  rintro D zs W hD rfl ⟨⟨⟨v,bS1,hr1,_⟩,bB01,bB11⟩,hB1⟩ hK;have cS:=bS1.cell
  gi_wp2
  refine⟨by simp,.inl ⟨_,_,rfl,run_takeDeferred hK,?_⟩⟩;exact⟨_,results_tmp rfl _ _ _,_,rfl,ownsRow_putObj hr1 _ hK rfl,hB1.trans (belowK_b (w:=w) hB W D _ _ (by omega) hK rfl rfl)⟩
 case stop=>
  rintro D c pre W _ _ h _;exact h.elim
end Go.Proofs.YtjjmalchelniiaaGreatDoor