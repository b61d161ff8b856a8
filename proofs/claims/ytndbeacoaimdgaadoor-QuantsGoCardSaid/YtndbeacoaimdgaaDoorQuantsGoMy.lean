/- No condition. -/
import Derived.Test.YtndbeacoaimdgaaDoorQuantsGoMd
import Derived.Test.YtndbeacoaimdgaaDoorQuantsGoMg
import Derived.Test.YtndbeacoaimdgaaDoorQuantsGoMk
import Derived.Test.YtndbeacoaimdgaaDoorQuantsGoMt
import Derived.Test.YtndbeacoaimdgaaDoorQuantsGoMv
import Derived.WalkMore
import Derived.IntWalk
import Derived.Laws.ResultCell
import Derived.Laws.Rows
import Derived.WalkKit
import Derived.Lib.LaidTab
import Derived.MakeChecks
namespace Go.Proofs.YtndbeacoaimdgaaDoor
open Go.RowKit Go.Lib
def Yk4:List Nat:=[2,15,21,23,31,37,36,33,32,7,6,32,6,20,30,15,33,80,14,29,14,81,13,35,13,12,34,82,11,12,83,19,11,84,18,10,17,9,16,8,22,85,21,20,28,27,33,32,31,30,29,28,27,26,34,35,86,87,7,25,5,15,4,14,13,12,19,18,17,16,26,25,24,23,22,21,20,19,24,23,22,21,20,19,18,17,7,6,5,4,36,37,38,39,88,89,90,91,92,93,94,95,3]
def Yos:List Nat:=[2,4,6,7,8,9,9,10,10,11,11,11,3,6,8,10,11,12,4,8,10,12,5,9,10,5,9,12,5,10,12,6,10,12,6,10,6,10,6,10,7,12,7,7,8,8,9,9,9,9,9,9,9,9,11,11,12,12,4,9,11,6,11,6,6,6,7,7,7,7,8,8,8,8,8,8,8,8,9,9,9,9,9,9,9,9,10,10,10,10,11,11,11,11,12,12,12,12,12,12,12,12,7]
def Yh7:List Nat:=[12,6,4,3,3,3,3,2,2,2,2]
def Ye8 (i:Nat):Nat:=Yk4[i]?.getD 0
def Yko (i:Nat):Nat:=Yos[i]?.getD 0
def Yfe (i:Nat):Nat:=Yh7[i]?.getD 0
theorem Ydl:∀i,i<103→1≤Yko i∧Yko i≤12∧Ye8 i<2^Yko i∧Ye8 i≤95:=by decide +kernel
theorem Yff:∀i,i<11→1≤Yfe i∧Yfe i≤12:=by decide +kernel
def Ye7 (last:Bool)(run:Nat):Nat:=
 if last then (if run=0 then 3 else if run=1 then 2 else if run≤40 then 1 else 0) else (if run<11 then Yfe run else if run≤26 then 1 else 0)
theorem Ydg (last:Bool)(run:Nat):Ye7 last run≤12:=by
 unfold Ye7;cases last
 ·simp only[Bool.false_eq_true,if_false];by_cases h:run<11
  ·rw[if_pos h];exact(Yff run h).2
  ·rw[if_neg h];split <;> omega
 ·simp only[if_true]
  repeat' split
  all_goals omega
def Ymn (last:Bool):Nat→Nat
 |0=>0
 |r+1=>Ymn last r+Ye7 last r
theorem Ye5 (last:Bool):∀r,Ymn last r≤12*r
 |0=>Nat.le_refl _
 |r+1=>by
  have:=Ye5 last r;have:=Ydg last r;unfold Ymn;omega
def Yjc (last:Bool):Nat:=if last then 58 else 0
def plT (last:Bool)(run amt:Nat):Nat:=Yjc last+Ymn last run+(amt-1)
def inT (last:Bool)(run amt:Nat):Bool:=decide (1≤amt)&&decide (amt≤Ye7 last run)
theorem Ypi:∀last:Bool,∀run,run<64→∀amt,amt<13→inT last run amt=true→plT last run amt<102:=by decide +kernel
theorem Ylt {last:Bool}{run amt:Nat}(hr:run<64)(h:inT last run amt=true):plT last run amt<102:=by
 refine Ypi last run hr amt ?_ h;unfold inT at h;rw[Bool.and_eq_true,decide_eq_true_iff,decide_eq_true_iff] at h;have:=Ydg last run;omega
def Yic (last:Bool)(run:Nat)(level:Int):Nat:=if inT last run level.natAbs then 2*Ye8 (plT last run level.natAbs)+(if level<0 then 1 else 0) else ((6+last.toNat)*64+run)*256+(level%256).toNat
def Yg2 (last:Bool)(run:Nat)(level:Int):Nat:=if inT last run level.natAbs then Yko (plT last run level.natAbs)+1 else 22
def Ya3 (last:Bool)(run level:Int):ByteArray:=if Ycf run level then ⟨(Yal (Yic last run.toNat level) (Yg2 last run.toNat level)).toArray⟩ else ⟨#[]⟩
def Ydq (w:World):Prop:=
 (∀i,i<103→w.cell? ⟨1,i,none⟩=some (.int .u16 (Ye8 i:Nat))∧w.cell? ⟨2,i,none⟩=some (.int .u8 (Yko i:Nat)))∧
  ∀i,i<11→w.cell? ⟨3,i,none⟩=some (.int .u8 (Yfe i:Nat))
theorem Ydq.lt {w:World}(h:Ydq w):1<w.heap.size∧2<w.heap.size∧3<w.heap.size:=
 ⟨World.block_lt_of_cell? w ⟨1,0,none⟩ (h.1 0 (by decide)).1,World.block_lt_of_cell? w ⟨2,0,none⟩ (h.1 0 (by decide)).2,World.block_lt_of_cell? w ⟨3,0,none⟩ (h.2 0 (by decide))⟩
theorem Ydq.below {w w':World}(h:Ydq w)(hb:Below w.heap.size w w'):Ydq w':=
 ⟨fun i hi=>⟨(hb.cell (p:=⟨1,i,none⟩) h.lt.1).trans (h.1 i hi).1,(hb.cell (p:=⟨2,i,none⟩) h.lt.2.1).trans (h.1 i hi).2⟩,
  fun i hi=>(hb.cell (p:=⟨3,i,none⟩) h.lt.2.2).trans (h.2 i hi)⟩
theorem Ygj {a b c d:Int}{k k':IntKind}(h:a=c)(h':b=d):Ending.returned (.tuple #[.int k a,.int k' b])=.returned (.tuple #[.int k c,.int k' d]):=by rw[h,h']
theorem Yg3 (b:Bool)(w:World):Calls Tryd.prog 95 #[.bool b] w fun e w'=>e=.returned (.int .i64 (b.toNat:Nat))∧w=w':=by
 cases b
 all_goals
  go_enter Tryd.func95,Tryd.ntmps95
  go_wp2
  go_ret
  exact⟨rfl,rfl⟩
theorem Yc6 (i:Nat)(hi:i<103)(w:World)(hp:Ydq w):Calls Tryd.prog 94 #[.int .i64 (i:Int)] w fun e w'=>e=.returned (.tuple #[.int .i64 (Ye8 i:Nat),.int .i64 (Yko i:Nat)])∧Below w.heap.size w w':=by
 obtain⟨c0,c1⟩:=hp.1 i hi;obtain⟨b0,b1,_,b3⟩:=Ydl i hi;generalize Ye8 i=x at c0 b3 ⊢;generalize Yko i=y at c1 b0 b1 ⊢;clear hp
 go_enter Tryd.func94,Tryd.ntmps94
 go_wp2
 go_region
 go_wp2
 go_ret2
 exact⟨Ygj (by omega) (by omega),(Below.refl _ w).drew⟩
theorem Ydz (i:Nat)(hi:i<103)(w:World)(hp:Ydq w):Calls Tryd.prog 96 #[.int .i64 (i:Int)] w fun e w'=>e=.returned (.int .i64 ((if i=102 then 22 else Yko i+1:Nat):Int))∧Below w.heap.size w w':=by
 have hcon:=fun x hx=>Yc6 i hi x hx;obtain⟨b0,b1,_,b3⟩:=Ydl i hi;by_cases h:i=102
 ·subst h
  go_enter Tryd.func96,Tryd.ntmps96
  go_wp2_with fail
  refine(hcon _ hp).mono ?_;rintro e w1 ⟨rfl,hb1⟩
  go_wp2
  go_ret
  exact⟨rfl,hb1⟩
 ·rw[if_neg h];generalize Yko i=y at hcon b0 b1 ⊢;have g0:((i:Int)==102)=false:=by rw[beq_eq_false_iff_ne];omega
  clear h
  go_enter Tryd.func96,Tryd.ntmps96
  go_wp2_with fail
  refine(hcon _ hp).mono ?_;rintro e w1 ⟨rfl,hb1⟩
  go_wp2
  go_ret
  exact⟨Ygi (by omega),hb1⟩
theorem Ydx (last:Bool)(r:Nat)(hr:r<64)(w:World)(hp:Ydq w):Calls Tryd.prog 99 #[.bool last,.int .i64 (r:Int)] w fun e w'=>e=.returned (.int .i64 (Ye7 last r:Nat))∧w=w':=by
 cases last with
 |false=>
  by_cases h:r<11
  ·have F:=Lib.hid (show Ye7 false r=Yfe r by unfold Ye7;simp[h]);have c0:=hp.2 r h;obtain⟨b0,b1⟩:=Yff r h;rw[F.out];generalize Yfe r=y at c0 b0 b1 ⊢;have t0:decide ((r:Int)<11)=true:=by simp;omega
   clear F hp
   go_enter Tryd.func99,Tryd.ntmps99
   go_wp2
   go_ret
   exact⟨Ygi (by omega),rfl⟩
  ·by_cases h2:r≤26
   ·have F:=Lib.hid (show Ye7 false r=1 by unfold Ye7;simp[h,h2]);have t0:decide ((r:Int)<11)=false:=by simp;omega
    have t1:decide ((r:Int)≤26)=true:=by simp;omega
    rw[F.out];clear h h2 hp
    go_enter Tryd.func99,Tryd.ntmps99
    go_wp2
    go_ret
    exact⟨rfl,rfl⟩
   ·have F:=Lib.hid (show Ye7 false r=0 by unfold Ye7;simp[h,h2]);have t0:decide ((r:Int)<11)=false:=by simp;omega
    have t1:decide ((r:Int)≤26)=false:=by simp;omega
    rw[F.out];clear h h2 hp
    go_enter Tryd.func99,Tryd.ntmps99
    go_wp2
    go_ret
    exact⟨rfl,rfl⟩
 |true=>
  by_cases h0:r=0
  ·subst h0
   go_enter Tryd.func99,Tryd.ntmps99
   go_wp2
   go_ret
   exact⟨rfl,rfl⟩
  ·have g0:((r:Int)==0)=false:=by rw[beq_eq_false_iff_ne];omega
   by_cases h1:r=1
   ·subst h1
    go_enter Tryd.func99,Tryd.ntmps99
    go_wp2
    go_ret
    exact⟨rfl,rfl⟩
   ·have g1:((r:Int)==1)=false:=by rw[beq_eq_false_iff_ne];omega
    by_cases h2:r≤40
    ·have F:=Lib.hid (show Ye7 true r=1 by unfold Ye7;simp[h0,h1,h2]);have t1:decide ((r:Int)≤40)=true:=by simp;omega
     rw[F.out];clear h0 h1 h2 hp
     go_enter Tryd.func99,Tryd.ntmps99
     go_wp2
     go_ret
     exact⟨rfl,rfl⟩
    ·have F:=Lib.hid (show Ye7 true r=0 by unfold Ye7;simp[h0,h1,h2]);have t1:decide ((r:Int)≤40)=false:=by simp;omega
     rw[F.out];clear h0 h1 h2 hp
     go_enter Tryd.func99,Tryd.ntmps99
     go_wp2
     go_ret
     exact⟨rfl,rfl⟩
theorem Yj0 {a c:Int}{k:IntKind}{b:Bool}(h:a=c):Ending.returned (.tuple #[.int k a,.bool b])=.returned (.tuple #[.int k c,.bool b]):=by rw[h]
set_option maxHeartbeats 1000000 in
theorem Yie (last:Bool)(r:Nat)(level:Int)(hr:r<64)(hl:-128≤level∧level≤127)(w:World)(hp:Ydq w):Calls Tryd.prog 93 #[.agg #[.bool last,.int .i64 (r:Int),.int .i64 level]] w fun e w'=>
  e=.returned (.tuple #[.int .i64 ((if inT last r level.natAbs then plT last r level.natAbs else 102:Nat):Int),.bool (inT last r level.natAbs)])∧Below w.heap.size w w':=by
 have hb0:∀o,Below w.heap.size w (w.alloc o):=fun o=>(Below.refl _ w).alloc (Nat.le_refl _) o;obtain⟨a,ha⟩:∃a:Nat,level.natAbs=a:=⟨_,rfl⟩;rw[ha];by_cases h0:level=0
 ·subst h0;obtain rfl:a=0:=by omega
  have F:=Lib.hid (show inT last r 0=false by unfold inT;simp);rw[F.out]
  go_enter Tryd.func93,Tryd.ntmps93
  go_wp2
  go_ret2
  exact⟨rfl,hb0 _⟩
 have hm:=Ydg last r;have hcon:=fun x hx=>Ydx last r hr x hx;have hsum:=Ye5 last r;have hmo:∀j,j<r→Yjc last+Ymn last (j+1)≤900:=fun j hj=>by have:=Ye5 last (j+1);have hbs:Yjc last≤58:=by{cases last <;> decide};omega
 have hpl:plT last r a=Yjc last+Ymn last r+(a-1):=rfl;have hin:inT last r a=(decide (1≤a)&&decide (a≤Ye7 last r)):=rfl;have hsuc:∀j,Ymn last (j+1)=Ymn last j+Ye7 last j:=fun j=>rfl;have hcon2:=fun(j:Nat) (hj:j<r) x hx=>Ydx last j (by omega) x hx;have hm2:=fun(j:Nat)=>Ydg last j;have HP:=Lib.hid (fun(x:World) (hx:Below w.heap.size w x)=>(hp.below hx:Ydq x));by_cases hin1:a≤Ye7 last r
 ·have F:=Lib.hid (show inT last r a=true by rw[hin];simp;omega);rw[F.out,if_pos rfl];have HPL:=Lib.hid hpl;have SUC:=Lib.hid hsuc;have MO:=Lib.hid hmo;have CON2:=Lib.hid hcon2;have M2:=Lib.hid hm2;generalize Ye7 last r=m at hcon hm hin1 hin;have t0:decide ((m:Int)<a)=false:=by simp;omega
  have t1:decide (m<a)=false:=by simp;omega
  have qw:IntKind.i64.wrap (-(a:Int)) = -(a:Int):=IntWalk.i64_in _ (by omega);have g0:((a:Int)==0)=false:=by rw[beq_eq_false_iff_ne];omega
  have hl2:level=(a:Int)∨level = -(a:Int):=by omega
  have ha0:0<a:=by omega
  have ha1:a≤128:=by omega
  clear hp hin h0 ha hl hin1 F hpl hsuc hmo hcon2 hm2;have hbl:Below w.heap.size w (w.alloc (.cells #[.bool last,.int .i64 (r:Int),.int .i64 level] 89 (0,0))):=hb0 _;have hp1:=HP.out _ hbl;have hz0:Ymn last 0=0:=rfl;generalize Ymn last=sm at HPL SUC MO hsum hz0;generalize Ye7 last=am at SUC CON2 M2;generalize hbse:Yjc last=bse at HPL MO;have HBS:=Lib.hid hbse;have S0:=Lib.hid hz0
  clear hz0 hbse hsum;cases last
  all_goals
   rcases hl2 with rfl|rfl
   all_goals
    go_enter Tryd.func93,Tryd.ntmps93
    go_wp2_with fail
    refine(hcon _ hp1).mono ?_;rintro e w1 ⟨rfl,rfl⟩;clear hcon
    go_wp2
    go_loop [5,32] (fun u v=>∃(j x:Nat),j≤r∧v=.int .i64 j∧u=.int .i64 ((a:Int)-1+x)∧x≤900∧Hid (x=bse+sm j)) (fun _ v=>64-(intOf v).toNat)
    case atStart=>exact⟨0,bse,Nat.zero_le _,rfl,by rw[←HBS.out];simp[Yjc],by rw[←HBS.out];decide,Lib.hid (by rw[S0.out];rfl)⟩
    case round=>
     obtain⟨j,x,hj,rfl,rfl,hx,hxx⟩:=hrel;by_cases hlt:j<r
     ·have t1:decide ((j:Int)<r)=true:=by simp;omega
      have hc2:=CON2.out j hlt _ hp1;have M:=M2.out j;have S:=Lib.hid (SUC.out j);have XX:=Lib.hid (show x+am j≤900 by have:=MO.out j hlt;rw[S.out] at this;rw[hxx.out];omega);generalize am j=y at hc2 M S XX
      go_wp2_with fail
      refine hc2.mono ?_;rintro e w1 ⟨rfl,rfl⟩
      go_wp2
      go_round
      case rel=>exact⟨j+1,x+y,by omega,by go_num,by go_num,XX.out,Lib.hid (by rw[hxx.out,S.out,Nat.add_assoc])⟩
      case measure=>simp[intOf];omega
     ·obtain rfl:j=r:=by omega
      have t2:decide (j<j)=false:=by simp
      go_wp2
      go_ret2
      exact⟨Yj0 (by rw[HPL.out];have:=hxx.out;omega),hbl⟩
 ·have F:=Lib.hid (show inT last r a=false by rw[hin];simp;omega);rw[F.out,if_neg (by decide)];generalize Ye7 last r=m at hcon hm hin1 hin;have t0:decide ((m:Int)<a)=true:=by simp;omega
  have t1:decide (m<a)=true:=by simp;omega
  have qw:IntKind.i64.wrap (-(a:Int)) = -(a:Int):=IntWalk.i64_in _ (by omega);have g0:((a:Int)==0)=false:=by rw[beq_eq_false_iff_ne];omega
  have hl2:level=(a:Int)∨level = -(a:Int):=by omega
  have ha0:0<a:=by omega
  have ha1:a≤128:=by omega
  clear hp hin h0 ha hl hin1 F hpl hsuc hmo hcon2 hm2;have hbl:Below w.heap.size w (w.alloc (.cells #[.bool last,.int .i64 (r:Int),.int .i64 level] 89 (0,0))):=hb0 _;have hp1:=HP.out _ hbl;rcases hl2 with rfl|rfl
  all_goals
   go_enter Tryd.func93,Tryd.ntmps93
   go_wp2_with fail
   refine(hcon _ hp1).mono ?_;rintro e w1 ⟨rfl,rfl⟩
   go_wp2
   go_ret2
   exact⟨rfl,hbl⟩
end Go.Proofs.YtndbeacoaimdgaaDoor