/- No condition. -/
import Derived.Test.YtnamlooifcpoaaaGreatDoorScreensStillMf
import Derived.Test.YtnamlooifcpoaaaGreatDoorScreensStillMj
import Derived.Test.YtnamlooifcpoaaaGreatDoorScreensStillMk
import Derived.Test.YtnamlooifcpoaaaGreatDoorScreensStillMl
import Derived.Test.YtnamlooifcpoaaaGreatDoorScreensStillMn
import Derived.WalkMore
import Derived.IntWalk
import Derived.Laws.ResultCell
import Derived.Laws.Rows
import Derived.WalkKit
import Derived.Lib.LaidTab
import Derived.MakeChecks
namespace Go.Proofs.YtnamlooifcpoaaaGreatDoor
open Go.RowKit Go.Lib
def Ysh:List Nat:=[2,15,21,23,31,37,36,33,32,7,6,32,6,20,30,15,33,80,14,29,14,81,13,35,13,12,34,82,11,12,83,19,11,84,18,10,17,9,16,8,22,85,21,20,28,27,33,32,31,30,29,28,27,26,34,35,86,87,7,25,5,15,4,14,13,12,19,18,17,16,26,25,24,23,22,21,20,19,24,23,22,21,20,19,18,17,7,6,5,4,36,37,38,39,88,89,90,91,92,93,94,95,3]
def Yy0:List Nat:=[2,4,6,7,8,9,9,10,10,11,11,11,3,6,8,10,11,12,4,8,10,12,5,9,10,5,9,12,5,10,12,6,10,12,6,10,6,10,6,10,7,12,7,7,8,8,9,9,9,9,9,9,9,9,11,11,12,12,4,9,11,6,11,6,6,6,7,7,7,7,8,8,8,8,8,8,8,8,9,9,9,9,9,9,9,9,10,10,10,10,11,11,11,11,12,12,12,12,12,12,12,12,7]
def Ynb:List Nat:=[12,6,4,3,3,3,3,2,2,2,2]
def Yh8 (i:Nat):Nat:=Ysh[i]?.getD 0
def Yrl (i:Nat):Nat:=Yy0[i]?.getD 0
def Yir (i:Nat):Nat:=Ynb[i]?.getD 0
theorem Yfs:∀i,i<103→1≤Yrl i∧Yrl i≤12∧Yh8 i<2^Yrl i∧Yh8 i≤95:=by decide +kernel
theorem Yis:∀i,i<11→1≤Yir i∧Yir i≤12:=by decide +kernel
def Yh7 (last:Bool)(run:Nat):Nat:=
 if last then (if run=0 then 3 else if run=1 then 2 else if run≤40 then 1 else 0) else (if run<11 then Yir run else if run≤26 then 1 else 0)
theorem Yfk (last:Bool)(run:Nat):Yh7 last run≤12:=by
 unfold Yh7;cases last
 ·simp only[Bool.false_eq_true,if_false];by_cases h:run<11
  ·rw[if_pos h];exact(Yis run h).2
  ·rw[if_neg h];split <;> omega
 ·simp only[if_true]
  repeat' split
  all_goals omega
def Yu9 (last:Bool):Nat→Nat
 |0=>0
 |r+1=>Yu9 last r+Yh7 last r
theorem Yh3 (last:Bool):∀r,Yu9 last r≤12*r
 |0=>Nat.le_refl _
 |r+1=>by
  have:=Yh3 last r;have:=Yfk last r;unfold Yu9;omega
def Ypn (last:Bool):Nat:=if last then 58 else 0
def plT (last:Bool)(run amt:Nat):Nat:=Ypn last+Yu9 last run+(amt-1)
def inT (last:Bool)(run amt:Nat):Bool:=decide (1≤amt)&&decide (amt≤Yh7 last run)
theorem Y0a:∀last:Bool,∀run,run<64→∀amt,amt<13→inT last run amt=true→plT last run amt<102:=by decide +kernel
theorem Ytq {last:Bool}{run amt:Nat}(hr:run<64)(h:inT last run amt=true):plT last run amt<102:=by
 refine Y0a last run hr amt ?_ h;unfold inT at h;rw[Bool.and_eq_true,decide_eq_true_iff,decide_eq_true_iff] at h;have:=Yfk last run;omega
def Ynq (last:Bool)(run:Nat)(level:Int):Nat:=if inT last run level.natAbs then 2*Yh8 (plT last run level.natAbs)+(if level<0 then 1 else 0) else ((6+last.toNat)*64+run)*256+(level%256).toNat
def Yln (last:Bool)(run:Nat)(level:Int):Nat:=if inT last run level.natAbs then Yrl (plT last run level.natAbs)+1 else 22
def Yb8 (last:Bool)(run level:Int):ByteArray:=if Yd8 run level then ⟨(Yav (Ynq last run.toNat level) (Yln last run.toNat level)).toArray⟩ else ⟨#[]⟩
def Yfd (w:World):Prop:=
 (∀i,i<103→w.cell? ⟨4,i,none⟩=some (.int .u16 (Yh8 i:Nat))∧w.cell? ⟨5,i,none⟩=some (.int .u8 (Yrl i:Nat)))∧
  ∀i,i<11→w.cell? ⟨6,i,none⟩=some (.int .u8 (Yir i:Nat))
theorem Yfd.lt {w:World}(h:Yfd w):4<w.heap.size∧5<w.heap.size∧6<w.heap.size:=
 ⟨World.block_lt_of_cell? w ⟨4,0,none⟩ (h.1 0 (by decide)).1,World.block_lt_of_cell? w ⟨5,0,none⟩ (h.1 0 (by decide)).2,World.block_lt_of_cell? w ⟨6,0,none⟩ (h.2 0 (by decide))⟩
theorem Yfd.below {w w':World}(h:Yfd w)(hb:Below w.heap.size w w'):Yfd w':=
 ⟨fun i hi=>⟨(hb.cell (p:=⟨4,i,none⟩) h.lt.1).trans (h.1 i hi).1,(hb.cell (p:=⟨5,i,none⟩) h.lt.2.1).trans (h.1 i hi).2⟩,
  fun i hi=>(hb.cell (p:=⟨6,i,none⟩) h.lt.2.2).trans (h.2 i hi)⟩
theorem Yko {a b c d:Int}{k k':IntKind}(h:a=c)(h':b=d):Ending.returned (.tuple #[.int k a,.int k' b])=.returned (.tuple #[.int k c,.int k' d]):=by rw[h,h']
theorem Ylo (b:Bool)(w:World):Calls Tryz.prog 173 #[.bool b] w fun e w'=>e=.returned (.int .i64 (b.toNat:Nat))∧w=w':=by
 cases b
 all_goals
  go_enter Tryz.func173,Tryz.ntmps173
  go_wp2
  go_ret
  exact⟨rfl,rfl⟩
theorem Ye5 (i:Nat)(hi:i<103)(w:World)(hp:Yfd w):Calls Tryz.prog 172 #[.int .i64 (i:Int)] w fun e w'=>e=.returned (.tuple #[.int .i64 (Yh8 i:Nat),.int .i64 (Yrl i:Nat)])∧Below w.heap.size w w':=by
 obtain⟨c0,c1⟩:=hp.1 i hi;obtain⟨b0,b1,_,b3⟩:=Yfs i hi;generalize Yh8 i=x at c0 b3 ⊢;generalize Yrl i=y at c1 b0 b1 ⊢;clear hp
 go_enter Tryz.func172,Tryz.ntmps172
 go_wp2
 go_region
 go_wp2
 go_ret2
 exact⟨Yko (by omega) (by omega),(Below.refl _ w).drew⟩
theorem Ygl (i:Nat)(hi:i<103)(w:World)(hp:Yfd w):Calls Tryz.prog 174 #[.int .i64 (i:Int)] w fun e w'=>e=.returned (.int .i64 ((if i=102 then 22 else Yrl i+1:Nat):Int))∧Below w.heap.size w w':=by
 have hcon:=fun x hx=>Ye5 i hi x hx;obtain⟨b0,b1,_,b3⟩:=Yfs i hi;by_cases h:i=102
 ·subst h
  go_enter Tryz.func174,Tryz.ntmps174
  go_wp2_with fail
  refine(hcon _ hp).mono ?_;rintro e w1 ⟨rfl,hb1⟩
  go_wp2
  go_ret
  exact⟨rfl,hb1⟩
 ·rw[if_neg h];generalize Yrl i=y at hcon b0 b1 ⊢;have g0:((i:Int)==102)=false:=by rw[beq_eq_false_iff_ne];omega
  clear h
  go_enter Tryz.func174,Tryz.ntmps174
  go_wp2_with fail
  refine(hcon _ hp).mono ?_;rintro e w1 ⟨rfl,hb1⟩
  go_wp2
  go_ret
  exact⟨Yca (by omega),hb1⟩
theorem Ygi (last:Bool)(r:Nat)(hr:r<64)(w:World)(hp:Yfd w):Calls Tryz.prog 177 #[.bool last,.int .i64 (r:Int)] w fun e w'=>e=.returned (.int .i64 (Yh7 last r:Nat))∧w=w':=by
 cases last with
 |false=>
  by_cases h:r<11
  ·have F:=Lib.hid (show Yh7 false r=Yir r by unfold Yh7;simp[h]);have c0:=hp.2 r h;obtain⟨b0,b1⟩:=Yis r h;rw[F.out];generalize Yir r=y at c0 b0 b1 ⊢;have t0:decide ((r:Int)<11)=true:=by simp;omega
   clear F hp
   go_enter Tryz.func177,Tryz.ntmps177
   go_wp2
   go_ret
   exact⟨Yca (by omega),rfl⟩
  ·by_cases h2:r≤26
   ·have F:=Lib.hid (show Yh7 false r=1 by unfold Yh7;simp[h,h2]);have t0:decide ((r:Int)<11)=false:=by simp;omega
    have t1:decide ((r:Int)≤26)=true:=by simp;omega
    rw[F.out];clear h h2 hp
    go_enter Tryz.func177,Tryz.ntmps177
    go_wp2
    go_ret
    exact⟨rfl,rfl⟩
   ·have F:=Lib.hid (show Yh7 false r=0 by unfold Yh7;simp[h,h2]);have t0:decide ((r:Int)<11)=false:=by simp;omega
    have t1:decide ((r:Int)≤26)=false:=by simp;omega
    rw[F.out];clear h h2 hp
    go_enter Tryz.func177,Tryz.ntmps177
    go_wp2
    go_ret
    exact⟨rfl,rfl⟩
 |true=>
  by_cases h0:r=0
  ·subst h0
   go_enter Tryz.func177,Tryz.ntmps177
   go_wp2
   go_ret
   exact⟨rfl,rfl⟩
  ·have g0:((r:Int)==0)=false:=by rw[beq_eq_false_iff_ne];omega
   by_cases h1:r=1
   ·subst h1
    go_enter Tryz.func177,Tryz.ntmps177
    go_wp2
    go_ret
    exact⟨rfl,rfl⟩
   ·have g1:((r:Int)==1)=false:=by rw[beq_eq_false_iff_ne];omega
    by_cases h2:r≤40
    ·have F:=Lib.hid (show Yh7 true r=1 by unfold Yh7;simp[h0,h1,h2]);have t1:decide ((r:Int)≤40)=true:=by simp;omega
     rw[F.out];clear h0 h1 h2 hp
     go_enter Tryz.func177,Tryz.ntmps177
     go_wp2
     go_ret
     exact⟨rfl,rfl⟩
    ·have F:=Lib.hid (show Yh7 true r=0 by unfold Yh7;simp[h0,h1,h2]);have t1:decide ((r:Int)≤40)=false:=by simp;omega
     rw[F.out];clear h0 h1 h2 hp
     go_enter Tryz.func177,Tryz.ntmps177
     go_wp2
     go_ret
     exact⟨rfl,rfl⟩
theorem Yqk {a c:Int}{k:IntKind}{b:Bool}(h:a=c):Ending.returned (.tuple #[.int k a,.bool b])=.returned (.tuple #[.int k c,.bool b]):=by rw[h]
set_option maxHeartbeats 1000000 in
theorem Ynt (last:Bool)(r:Nat)(level:Int)(hr:r<64)(hl:-128≤level∧level≤127)(w:World)(hp:Yfd w):Calls Tryz.prog 171 #[.agg #[.bool last,.int .i64 (r:Int),.int .i64 level]] w fun e w'=>
  e=.returned (.tuple #[.int .i64 ((if inT last r level.natAbs then plT last r level.natAbs else 102:Nat):Int),.bool (inT last r level.natAbs)])∧Below w.heap.size w w':=by
 have hb0:∀o,Below w.heap.size w (w.alloc o):=fun o=>(Below.refl _ w).alloc (Nat.le_refl _) o;obtain⟨a,ha⟩:∃a:Nat,level.natAbs=a:=⟨_,rfl⟩;rw[ha];by_cases h0:level=0
 ·subst h0;obtain rfl:a=0:=by omega
  have F:=Lib.hid (show inT last r 0=false by unfold inT;simp);rw[F.out]
  go_enter Tryz.func171,Tryz.ntmps171
  go_wp2
  go_ret2
  exact⟨rfl,hb0 _⟩
 have hm:=Yfk last r;have hcon:=fun x hx=>Ygi last r hr x hx;have hsum:=Yh3 last r;have hmo:∀j,j<r→Ypn last+Yu9 last (j+1)≤900:=fun j hj=>by have:=Yh3 last (j+1);have hbs:Ypn last≤58:=by{cases last <;> decide};omega
 have hpl:plT last r a=Ypn last+Yu9 last r+(a-1):=rfl;have hin:inT last r a=(decide (1≤a)&&decide (a≤Yh7 last r)):=rfl;have hsuc:∀j,Yu9 last (j+1)=Yu9 last j+Yh7 last j:=fun j=>rfl;have hcon2:=fun(j:Nat) (hj:j<r) x hx=>Ygi last j (by omega) x hx;have hm2:=fun(j:Nat)=>Yfk last j;have HP:=Lib.hid (fun(x:World) (hx:Below w.heap.size w x)=>(hp.below hx:Yfd x));by_cases hin1:a≤Yh7 last r
 ·have F:=Lib.hid (show inT last r a=true by rw[hin];simp;omega);rw[F.out,if_pos rfl];have HPL:=Lib.hid hpl;have SUC:=Lib.hid hsuc;have MO:=Lib.hid hmo;have CON2:=Lib.hid hcon2;have M2:=Lib.hid hm2;generalize Yh7 last r=m at hcon hm hin1 hin;have t0:decide ((m:Int)<a)=false:=by simp;omega
  have t1:decide (m<a)=false:=by simp;omega
  have qw:IntKind.i64.wrap (-(a:Int)) = -(a:Int):=IntWalk.i64_in _ (by omega);have g0:((a:Int)==0)=false:=by rw[beq_eq_false_iff_ne];omega
  have hl2:level=(a:Int)∨level = -(a:Int):=by omega
  have ha0:0<a:=by omega
  have ha1:a≤128:=by omega
  clear hp hin h0 ha hl hin1 F hpl hsuc hmo hcon2 hm2;have hbl:Below w.heap.size w (w.alloc (.cells #[.bool last,.int .i64 (r:Int),.int .i64 level] 169 (0,0))):=hb0 _;have hp1:=HP.out _ hbl;have hz0:Yu9 last 0=0:=rfl;generalize Yu9 last=sm at HPL SUC MO hsum hz0;generalize Yh7 last=am at SUC CON2 M2;generalize hbse:Ypn last=bse at HPL MO;have HBS:=Lib.hid hbse;have S0:=Lib.hid hz0
  clear hz0 hbse hsum;cases last
  all_goals
   rcases hl2 with rfl|rfl
   all_goals
    go_enter Tryz.func171,Tryz.ntmps171
    go_wp2_with fail
    refine(hcon _ hp1).mono ?_;rintro e w1 ⟨rfl,rfl⟩;clear hcon
    go_wp2
    go_loop [5,32] (fun u v=>∃(j x:Nat),j≤r∧v=.int .i64 j∧u=.int .i64 ((a:Int)-1+x)∧x≤900∧Hid (x=bse+sm j)) (fun _ v=>64-(intOf v).toNat)
    case atStart=>exact⟨0,bse,Nat.zero_le _,rfl,by rw[←HBS.out];simp[Ypn],by rw[←HBS.out];decide,Lib.hid (by rw[S0.out];rfl)⟩
    case round=>
     obtain⟨j,x,hj,rfl,rfl,hx,hxx⟩:=hrel;by_cases hlt:j<r
     ·have t1:decide ((j:Int)<r)=true:=by simp;omega
      have hc2:=CON2.out j hlt _ hp1;have M:=M2.out j;have S:=Lib.hid (SUC.out j);have XX:=Lib.hid (show x+am j≤900 by have:=MO.out j hlt;rw[S.out] at this;rw[hxx.out];omega);generalize am j=y at hc2 M S XX
      go_wp2_with fail
      refine hc2.mono ?_;rintro e w1 ⟨rfl,rfl⟩
      go_wp2
      go_round
      case rel=>exact⟨j+1,x+y,by omega,by go_num,by go_num,XX.out,Lib.hid (by rw[hxx.out,S.out,Nat.add_assoc])⟩
      case measure=>simp[intOf];omega
     ·obtain rfl:j=r:=by omega
      have t2:decide (j<j)=false:=by simp
      go_wp2
      go_ret2
      exact⟨Yqk (by rw[HPL.out];have:=hxx.out;omega),hbl⟩
 ·have F:=Lib.hid (show inT last r a=false by rw[hin];simp;omega);rw[F.out,if_neg (by decide)];generalize Yh7 last r=m at hcon hm hin1 hin;have t0:decide ((m:Int)<a)=true:=by simp;omega
  have t1:decide (m<a)=true:=by simp;omega
  have qw:IntKind.i64.wrap (-(a:Int)) = -(a:Int):=IntWalk.i64_in _ (by omega);have g0:((a:Int)==0)=false:=by rw[beq_eq_false_iff_ne];omega
  have hl2:level=(a:Int)∨level = -(a:Int):=by omega
  have ha0:0<a:=by omega
  have ha1:a≤128:=by omega
  clear hp hin h0 ha hl hin1 F hpl hsuc hmo hcon2 hm2;have hbl:Below w.heap.size w (w.alloc (.cells #[.bool last,.int .i64 (r:Int),.int .i64 level] 169 (0,0))):=hb0 _;have hp1:=HP.out _ hbl;rcases hl2 with rfl|rfl
  all_goals
   go_enter Tryz.func171,Tryz.ntmps171
   go_wp2_with fail
   refine(hcon _ hp1).mono ?_;rintro e w1 ⟨rfl,rfl⟩
   go_wp2
   go_ret2
   exact⟨rfl,hbl⟩
end Go.Proofs.YtnamlooifcpoaaaGreatDoor