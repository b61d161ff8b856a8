/- No condition. -/
import Derived.Test.YtdnjefldijjgdaaGreatDoorRebuildCellsMb
import Derived.Test.YtdnjefldijjgdaaGreatDoorRebuildCellsMc
import Derived.Test.YtdnjefldijjgdaaGreatDoorRebuildCellsMg
import Derived.Test.YtdnjefldijjgdaaGreatDoorRebuildCellsMk
import Derived.Test.YtdnjefldijjgdaaGreatDoorRebuildCellsMl
import Derived.Test.YtdnjefldijjgdaaGreatDoorRebuildCellsMm
import Derived.WalkMore
import Derived.IntWalk
import Derived.Laws.ResultCell
import Derived.Laws.Rows
import Derived.WalkKit
import Derived.Lib.LaidTab
import Derived.MakeChecks
namespace Go.Proofs.YtdnjefldijjgdaaGreatDoor
open Go.RowKit Go.Lib
def Yof:List Nat:=[2,15,21,23,31,37,36,33,32,7,6,32,6,20,30,15,33,80,14,29,14,81,13,35,13,12,34,82,11,12,83,19,11,84,18,10,17,9,16,8,22,85,21,20,28,27,33,32,31,30,29,28,27,26,34,35,86,87,7,25,5,15,4,14,13,12,19,18,17,16,26,25,24,23,22,21,20,19,24,23,22,21,20,19,18,17,7,6,5,4,36,37,38,39,88,89,90,91,92,93,94,95,3]
def Ytb:List Nat:=[2,4,6,7,8,9,9,10,10,11,11,11,3,6,8,10,11,12,4,8,10,12,5,9,10,5,9,12,5,10,12,6,10,12,6,10,6,10,6,10,7,12,7,7,8,8,9,9,9,9,9,9,9,9,11,11,12,12,4,9,11,6,11,6,6,6,7,7,7,7,8,8,8,8,8,8,8,8,9,9,9,9,9,9,9,9,10,10,10,10,11,11,11,11,12,12,12,12,12,12,12,12,7]
def Ykk:List Nat:=[12,6,4,3,3,3,3,2,2,2,2]
def Yg0 (i:Nat):Nat:=Yof[i]?.getD 0
def Yny (i:Nat):Nat:=Ytb[i]?.getD 0
def Yha (i:Nat):Nat:=Ykk[i]?.getD 0
theorem Yew:∀i,i<103→1≤Yny i∧Yny i≤12∧Yg0 i<2^Yny i∧Yg0 i≤95:=by decide +kernel
theorem Yhb:∀i,i<11→1≤Yha i∧Yha i≤12:=by decide +kernel
def Ygz (last:Bool)(run:Nat):Nat:=
 if last then (if run=0 then 3 else if run=1 then 2 else if run≤40 then 1 else 0) else (if run<11 then Yha run else if run≤26 then 1 else 0)
theorem Yet (last:Bool)(run:Nat):Ygz last run≤12:=by
 unfold Ygz;cases last
 ·simp only[Bool.false_eq_true,if_false];by_cases h:run<11
  ·rw[if_pos h];exact(Yhb run h).2
  ·rw[if_neg h];split <;> omega
 ·simp only[if_true]
  repeat' split
  all_goals omega
def Yqf (last:Bool):Nat→Nat
 |0=>0
 |r+1=>Yqf last r+Ygz last r
theorem Ygu (last:Bool):∀r,Yqf last r≤12*r
 |0=>Nat.le_refl _
 |r+1=>by
  have:=Ygu last r;have:=Yet last r;unfold Yqf;omega
def Ymj (last:Bool):Nat:=if last then 58 else 0
def plT (last:Bool)(run amt:Nat):Nat:=Ymj last+Yqf last run+(amt-1)
def inT (last:Bool)(run amt:Nat):Bool:=decide (1≤amt)&&decide (amt≤Ygz last run)
theorem Yt0:∀last:Bool,∀run,run<64→∀amt,amt<13→inT last run amt=true→plT last run amt<102:=by decide +kernel
theorem Ypl {last:Bool}{run amt:Nat}(hr:run<64)(h:inT last run amt=true):plT last run amt<102:=by
 refine Yt0 last run hr amt ?_ h;unfold inT at h;rw[Bool.and_eq_true,decide_eq_true_iff,decide_eq_true_iff] at h;have:=Yet last run;omega
def Yky (last:Bool)(run:Nat)(level:Int):Nat:=if inT last run level.natAbs then 2*Yg0 (plT last run level.natAbs)+(if level<0 then 1 else 0) else ((6+last.toNat)*64+run)*256+(level%256).toNat
def Yi9 (last:Bool)(run:Nat)(level:Int):Nat:=if inT last run level.natAbs then Yny (plT last run level.natAbs)+1 else 22
def Ycb (last:Bool)(run level:Int):ByteArray:=if Ycr run level then ⟨(Ycu (Yky last run.toNat level) (Yi9 last run.toNat level)).toArray⟩ else ⟨#[]⟩
def Ye2 (w:World):Prop:=
 (∀i,i<103→w.cell? ⟨3,i,none⟩=some (.int .u16 (Yg0 i:Nat))∧w.cell? ⟨4,i,none⟩=some (.int .u8 (Yny i:Nat)))∧
  ∀i,i<11→w.cell? ⟨5,i,none⟩=some (.int .u8 (Yha i:Nat))
theorem Ye2.lt {w:World}(h:Ye2 w):3<w.heap.size∧4<w.heap.size∧5<w.heap.size:=
 ⟨World.block_lt_of_cell? w ⟨3,0,none⟩ (h.1 0 (by decide)).1,World.block_lt_of_cell? w ⟨4,0,none⟩ (h.1 0 (by decide)).2,World.block_lt_of_cell? w ⟨5,0,none⟩ (h.2 0 (by decide))⟩
theorem Ye2.below {w w':World}(h:Ye2 w)(hb:Below w.heap.size w w'):Ye2 w':=
 ⟨fun i hi=>⟨(hb.cell (p:=⟨3,i,none⟩) h.lt.1).trans (h.1 i hi).1,(hb.cell (p:=⟨4,i,none⟩) h.lt.2.1).trans (h.1 i hi).2⟩,
  fun i hi=>(hb.cell (p:=⟨5,i,none⟩) h.lt.2.2).trans (h.2 i hi)⟩
theorem Yil {a b c d:Int}{k k':IntKind}(h:a=c)(h':b=d):Ending.returned (.tuple #[.int k a,.int k' b])=.returned (.tuple #[.int k c,.int k' d]):=by rw[h,h']
theorem Yja (b:Bool)(w:World):Calls Tryz.prog 113 #[.bool b] w fun e w'=>e=.returned (.int .i64 (b.toNat:Nat))∧w=w':=by
 cases b
 all_goals
  go_enter Tryz.func113,Tryz.ntmps113
  go_wp2
  go_ret
  exact⟨rfl,rfl⟩
theorem Yel (i:Nat)(hi:i<103)(w:World)(hp:Ye2 w):Calls Tryz.prog 112 #[.int .i64 (i:Int)] w fun e w'=>e=.returned (.tuple #[.int .i64 (Yg0 i:Nat),.int .i64 (Yny i:Nat)])∧Below w.heap.size w w':=by
 obtain⟨c0,c1⟩:=hp.1 i hi;obtain⟨b0,b1,_,b3⟩:=Yew i hi;generalize Yg0 i=x at c0 b3 ⊢;generalize Yny i=y at c1 b0 b1 ⊢;clear hp
 go_enter Tryz.func112,Tryz.ntmps112
 go_wp2
 go_region
 go_wp2
 go_ret2
 exact⟨Yil (by omega) (by omega),(Below.refl _ w).drew⟩
theorem Yfj (i:Nat)(hi:i<103)(w:World)(hp:Ye2 w):Calls Tryz.prog 114 #[.int .i64 (i:Int)] w fun e w'=>e=.returned (.int .i64 ((if i=102 then 22 else Yny i+1:Nat):Int))∧Below w.heap.size w w':=by
 have hcon:=fun x hx=>Yel i hi x hx;obtain⟨b0,b1,_,b3⟩:=Yew i hi;by_cases h:i=102
 ·subst h
  go_enter Tryz.func114,Tryz.ntmps114
  go_wp2_with fail
  refine(hcon _ hp).mono ?_;rintro e w1 ⟨rfl,hb1⟩
  go_wp2
  go_ret
  exact⟨rfl,hb1⟩
 ·rw[if_neg h];generalize Yny i=y at hcon b0 b1 ⊢;have g0:((i:Int)==102)=false:=by rw[beq_eq_false_iff_ne];omega
  clear h
  go_enter Tryz.func114,Tryz.ntmps114
  go_wp2_with fail
  refine(hcon _ hp).mono ?_;rintro e w1 ⟨rfl,hb1⟩
  go_wp2
  go_ret
  exact⟨Yav (by omega),hb1⟩
theorem Yfh (last:Bool)(r:Nat)(hr:r<64)(w:World)(hp:Ye2 w):Calls Tryz.prog 117 #[.bool last,.int .i64 (r:Int)] w fun e w'=>e=.returned (.int .i64 (Ygz last r:Nat))∧w=w':=by
 cases last with
 |false=>
  by_cases h:r<11
  ·have F:=Lib.hid (show Ygz false r=Yha r by unfold Ygz;simp[h]);have c0:=hp.2 r h;obtain⟨b0,b1⟩:=Yhb r h;rw[F.out];generalize Yha r=y at c0 b0 b1 ⊢;have t0:decide ((r:Int)<11)=true:=by simp;omega
   clear F hp
   go_enter Tryz.func117,Tryz.ntmps117
   go_wp2
   go_ret
   exact⟨Yav (by omega),rfl⟩
  ·by_cases h2:r≤26
   ·have F:=Lib.hid (show Ygz false r=1 by unfold Ygz;simp[h,h2]);have t0:decide ((r:Int)<11)=false:=by simp;omega
    have t1:decide ((r:Int)≤26)=true:=by simp;omega
    rw[F.out];clear h h2 hp
    go_enter Tryz.func117,Tryz.ntmps117
    go_wp2
    go_ret
    exact⟨rfl,rfl⟩
   ·have F:=Lib.hid (show Ygz false r=0 by unfold Ygz;simp[h,h2]);have t0:decide ((r:Int)<11)=false:=by simp;omega
    have t1:decide ((r:Int)≤26)=false:=by simp;omega
    rw[F.out];clear h h2 hp
    go_enter Tryz.func117,Tryz.ntmps117
    go_wp2
    go_ret
    exact⟨rfl,rfl⟩
 |true=>
  by_cases h0:r=0
  ·subst h0
   go_enter Tryz.func117,Tryz.ntmps117
   go_wp2
   go_ret
   exact⟨rfl,rfl⟩
  ·have g0:((r:Int)==0)=false:=by rw[beq_eq_false_iff_ne];omega
   by_cases h1:r=1
   ·subst h1
    go_enter Tryz.func117,Tryz.ntmps117
    go_wp2
    go_ret
    exact⟨rfl,rfl⟩
   ·have g1:((r:Int)==1)=false:=by rw[beq_eq_false_iff_ne];omega
    by_cases h2:r≤40
    ·have F:=Lib.hid (show Ygz true r=1 by unfold Ygz;simp[h0,h1,h2]);have t1:decide ((r:Int)≤40)=true:=by simp;omega
     rw[F.out];clear h0 h1 h2 hp
     go_enter Tryz.func117,Tryz.ntmps117
     go_wp2
     go_ret
     exact⟨rfl,rfl⟩
    ·have F:=Lib.hid (show Ygz true r=0 by unfold Ygz;simp[h0,h1,h2]);have t1:decide ((r:Int)≤40)=false:=by simp;omega
     rw[F.out];clear h0 h1 h2 hp
     go_enter Tryz.func117,Tryz.ntmps117
     go_wp2
     go_ret
     exact⟨rfl,rfl⟩
theorem Ynd {a c:Int}{k:IntKind}{b:Bool}(h:a=c):Ending.returned (.tuple #[.int k a,.bool b])=.returned (.tuple #[.int k c,.bool b]):=by rw[h]
set_option maxHeartbeats 1000000 in
theorem Yk2 (last:Bool)(r:Nat)(level:Int)(hr:r<64)(hl:-128≤level∧level≤127)(w:World)(hp:Ye2 w):Calls Tryz.prog 111 #[.agg #[.bool last,.int .i64 (r:Int),.int .i64 level]] w fun e w'=>
  e=.returned (.tuple #[.int .i64 ((if inT last r level.natAbs then plT last r level.natAbs else 102:Nat):Int),.bool (inT last r level.natAbs)])∧Below w.heap.size w w':=by
 have hb0:∀o,Below w.heap.size w (w.alloc o):=fun o=>(Below.refl _ w).alloc (Nat.le_refl _) o;obtain⟨a,ha⟩:∃a:Nat,level.natAbs=a:=⟨_,rfl⟩;rw[ha];by_cases h0:level=0
 ·subst h0;obtain rfl:a=0:=by omega
  have F:=Lib.hid (show inT last r 0=false by unfold inT;simp);rw[F.out]
  go_enter Tryz.func111,Tryz.ntmps111
  go_wp2
  go_ret2
  exact⟨rfl,hb0 _⟩
 have hm:=Yet last r;have hcon:=fun x hx=>Yfh last r hr x hx;have hsum:=Ygu last r;have hmo:∀j,j<r→Ymj last+Yqf last (j+1)≤900:=fun j hj=>by have:=Ygu last (j+1);have hbs:Ymj last≤58:=by{cases last <;> decide};omega
 have hpl:plT last r a=Ymj last+Yqf last r+(a-1):=rfl;have hin:inT last r a=(decide (1≤a)&&decide (a≤Ygz last r)):=rfl;have hsuc:∀j,Yqf last (j+1)=Yqf last j+Ygz last j:=fun j=>rfl;have hcon2:=fun(j:Nat) (hj:j<r) x hx=>Yfh last j (by omega) x hx;have hm2:=fun(j:Nat)=>Yet last j;have HP:=Lib.hid (fun(x:World) (hx:Below w.heap.size w x)=>(hp.below hx:Ye2 x));by_cases hin1:a≤Ygz last r
 ·have F:=Lib.hid (show inT last r a=true by rw[hin];simp;omega);rw[F.out,if_pos rfl];have HPL:=Lib.hid hpl;have SUC:=Lib.hid hsuc;have MO:=Lib.hid hmo;have CON2:=Lib.hid hcon2;have M2:=Lib.hid hm2;generalize Ygz last r=m at hcon hm hin1 hin;have t0:decide ((m:Int)<a)=false:=by simp;omega
  have t1:decide (m<a)=false:=by simp;omega
  have qw:IntKind.i64.wrap (-(a:Int)) = -(a:Int):=IntWalk.i64_in _ (by omega);have g0:((a:Int)==0)=false:=by rw[beq_eq_false_iff_ne];omega
  have hl2:level=(a:Int)∨level = -(a:Int):=by omega
  have ha0:0<a:=by omega
  have ha1:a≤128:=by omega
  clear hp hin h0 ha hl hin1 F hpl hsuc hmo hcon2 hm2;have hbl:Below w.heap.size w (w.alloc (.cells #[.bool last,.int .i64 (r:Int),.int .i64 level] 82 (0,0))):=hb0 _;have hp1:=HP.out _ hbl;have hz0:Yqf last 0=0:=rfl;generalize Yqf last=sm at HPL SUC MO hsum hz0;generalize Ygz last=am at SUC CON2 M2;generalize hbse:Ymj last=bse at HPL MO;have HBS:=Lib.hid hbse;have S0:=Lib.hid hz0
  clear hz0 hbse hsum;cases last
  all_goals
   rcases hl2 with rfl|rfl
   all_goals
    go_enter Tryz.func111,Tryz.ntmps111
    go_wp2_with fail
    refine(hcon _ hp1).mono ?_;rintro e w1 ⟨rfl,rfl⟩;clear hcon
    go_wp2
    go_loop [5,32] (fun u v=>∃(j x:Nat),j≤r∧v=.int .i64 j∧u=.int .i64 ((a:Int)-1+x)∧x≤900∧Hid (x=bse+sm j)) (fun _ v=>64-(intOf v).toNat)
    case atStart=>exact⟨0,bse,Nat.zero_le _,rfl,by rw[←HBS.out];simp[Ymj],by rw[←HBS.out];decide,Lib.hid (by rw[S0.out];rfl)⟩
    case round=>
     obtain⟨j,x,hj,rfl,rfl,hx,hxx⟩:=hrel;by_cases hlt:j<r
     ·have t1:decide ((j:Int)<r)=true:=by simp;omega
      have hc2:=CON2.out j hlt _ hp1;have M:=M2.out j;have S:=Lib.hid (SUC.out j);have XX:=Lib.hid (show x+am j≤900 by have:=MO.out j hlt;rw[S.out] at this;rw[hxx.out];omega);generalize am j=y at hc2 M S XX
      go_wp2_with fail
      refine hc2.mono ?_;rintro e w1 ⟨rfl,rfl⟩
      go_wp2
      go_round
      case rel=>exact⟨j+1,x+y,by omega,by go_num,by go_num,XX.out,Lib.hid (by rw[hxx.out,S.out,Nat.add_assoc])⟩
      case measure=>simp[intOf];omega
     ·obtain rfl:j=r:=by omega
      have t2:decide (j<j)=false:=by simp
      go_wp2
      go_ret2
      exact⟨Ynd (by rw[HPL.out];have:=hxx.out;omega),hbl⟩
 ·have F:=Lib.hid (show inT last r a=false by rw[hin];simp;omega);rw[F.out,if_neg (by decide)];generalize Ygz last r=m at hcon hm hin1 hin;have t0:decide ((m:Int)<a)=true:=by simp;omega
  have t1:decide (m<a)=true:=by simp;omega
  have qw:IntKind.i64.wrap (-(a:Int)) = -(a:Int):=IntWalk.i64_in _ (by omega);have g0:((a:Int)==0)=false:=by rw[beq_eq_false_iff_ne];omega
  have hl2:level=(a:Int)∨level = -(a:Int):=by omega
  have ha0:0<a:=by omega
  have ha1:a≤128:=by omega
  clear hp hin h0 ha hl hin1 F hpl hsuc hmo hcon2 hm2;have hbl:Below w.heap.size w (w.alloc (.cells #[.bool last,.int .i64 (r:Int),.int .i64 level] 82 (0,0))):=hb0 _;have hp1:=HP.out _ hbl;rcases hl2 with rfl|rfl
  all_goals
   go_enter Tryz.func111,Tryz.ntmps111
   go_wp2_with fail
   refine(hcon _ hp1).mono ?_;rintro e w1 ⟨rfl,rfl⟩
   go_wp2
   go_ret2
   exact⟨rfl,hbl⟩
end Go.Proofs.YtdnjefldijjgdaaGreatDoor