/- Texts that SheetoutPuts's proof stands on, part 26 of 47. No condition of its own. -/
import Derived.Test.YtgikochfffdpfaaGreatDoorSheetoutPutsMc
import Derived.Test.YtgikochfffdpfaaGreatDoorSheetoutPutsMf
import Derived.Test.YtgikochfffdpfaaGreatDoorSheetoutPutsMj
import Derived.Test.YtgikochfffdpfaaGreatDoorSheetoutPutsMv
import Derived.Test.YtgikochfffdpfaaGreatDoorSheetoutPutsMw
import Derived.Test.YtgikochfffdpfaaGreatDoorSheetoutPutsMx
import Derived.Test.YtgikochfffdpfaaGreatDoorSheetoutPutsMy
import Derived.WalkMore
import Derived.IntWalk
import Derived.Laws.ResultCell
import Derived.Laws.Rows
import Derived.WalkKit
import Derived.Lib.LaidTab
import Derived.MakeChecks
namespace Go.Proofs.YtgikochfffdpfaaGreatDoor
open Go.RowKit Go.Lib
def Ytk:List Nat:=[2,15,21,23,31,37,36,33,32,7,6,32,6,20,30,15,33,80,14,29,14,81,13,35,13,12,34,82,11,12,83,19,11,84,18,10,17,9,16,8,22,85,21,20,28,27,33,32,31,30,29,28,27,26,34,35,86,87,7,25,5,15,4,14,13,12,19,18,17,16,26,25,24,23,22,21,20,19,24,23,22,21,20,19,18,17,7,6,5,4,36,37,38,39,88,89,90,91,92,93,94,95,3]
def Yx8:List Nat:=[2,4,6,7,8,9,9,10,10,11,11,11,3,6,8,10,11,12,4,8,10,12,5,9,10,5,9,12,5,10,12,6,10,12,6,10,6,10,6,10,7,12,7,7,8,8,9,9,9,9,9,9,9,9,11,11,12,12,4,9,11,6,11,6,6,6,7,7,7,7,8,8,8,8,8,8,8,8,9,9,9,9,9,9,9,9,10,10,10,10,11,11,11,11,12,12,12,12,12,12,12,12,7]
def Yoj:List Nat:=[12,6,4,3,3,3,3,2,2,2,2]
def Yiv (i:Nat):Nat:=Ytk[i]?.getD 0
def Yo0 (i:Nat):Nat:=Yx8[i]?.getD 0
def Ykj (i:Nat):Nat:=Yoj[i]?.getD 0
theorem Yeb:∀i,i<103→1≤Yo0 i∧Yo0 i≤12∧Yiv i<2^Yo0 i∧Yiv i≤95:=by decide +kernel
theorem Ykk:∀i,i<11→1≤Ykj i∧Ykj i≤12:=by decide +kernel
def Ygo (last:Bool) (run:Nat):Nat:=
 if last then (if run=0 then 3 else if run=1 then 2 else if run≤40 then 1 else 0) else (if run<11 then Ykj run else if run≤26 then 1 else 0)
theorem Ygu (last:Bool) (run:Nat):Ygo last run≤12:=by
 unfold Ygo
 cases last
 ·simp only [Bool.false_eq_true,if_false]
  by_cases h:run<11
  ·rw [if_pos h];exact (Ykk run h).2
  ·rw [if_neg h];split <;> omega
 ·simp only [if_true]
  repeat' split
  all_goals omega
def Yqs (last:Bool):Nat→Nat
 | 0=> 0
 | r+1=> Yqs last r+Ygo last r
theorem Yjy (last:Bool):∀r,Yqs last r≤12*r
 | 0=> Nat.le_refl _
 | r+1=> by
  have:=Yjy last r
  have:=Ygu last r
  unfold Yqs
  omega
def Yj4 (last:Bool):Nat:=if last then 58 else 0
def plT (last:Bool) (run amt:Nat):Nat:=Yj4 last+Yqs last run+(amt-1)
def inT (last:Bool) (run amt:Nat):Bool:=decide (1≤amt)&&decide (amt≤Ygo last run)
theorem Yyy:∀last:Bool,∀run,run<64→∀amt,amt<13→inT last run amt=true→plT last run amt<102:=by decide +kernel
theorem Ynl {last:Bool} {run amt:Nat} (hr:run<64) (h:inT last run amt=true):plT last run amt<102:=by
 refine Yyy last run hr amt ?_ h
 unfold inT at h
 rw [Bool.and_eq_true,decide_eq_true_iff,decide_eq_true_iff] at h
 have:=Ygu last run
 omega
def Ynb (last:Bool) (run:Nat) (level:Int):Nat:=if inT last run level.natAbs then 2*Yiv (plT last run level.natAbs)+(if level<0 then 1 else 0) else ((6+last.toNat)*64+run)*256+(level%256).toNat
def Ylt (last:Bool) (run:Nat) (level:Int):Nat:=if inT last run level.natAbs then Yo0 (plT last run level.natAbs)+1 else 22
def Ybe (last:Bool) (run level:Int):ByteArray:=if Yci run level then ⟨(Yak (Ynb last run.toNat level) (Ylt last run.toNat level)).toArray⟩ else ⟨#[]⟩
def Yhp (w:World):Prop:=
 (∀i,i<103→w.cell? ⟨5,i,none⟩=some (.int .u16 (Yiv i:Nat))∧w.cell? ⟨6,i,none⟩=some (.int .u8 (Yo0 i:Nat)))∧
  ∀i,i<11→w.cell? ⟨7,i,none⟩=some (.int .u8 (Ykj i:Nat))
theorem Yhp.lt {w:World} (h:Yhp w):5<w.heap.size∧6<w.heap.size∧7<w.heap.size:=
 ⟨World.block_lt_of_cell? w ⟨5,0,none⟩ (h.1 0 (by decide)).1,World.block_lt_of_cell? w ⟨6,0,none⟩ (h.1 0 (by decide)).2,World.block_lt_of_cell? w ⟨7,0,none⟩ (h.2 0 (by decide))⟩
theorem Yhp.below {w w':World} (h:Yhp w) (hb:Below w.heap.size w w'):Yhp w':=
 ⟨fun i hi=> ⟨(hb.cell (p:=⟨5,i,none⟩) h.lt.1).trans (h.1 i hi).1,(hb.cell (p:=⟨6,i,none⟩) h.lt.2.1).trans (h.1 i hi).2⟩,
  fun i hi=> (hb.cell (p:=⟨7,i,none⟩) h.lt.2.2).trans (h.2 i hi)⟩
theorem Yma {a b c d:Int} {k k':IntKind} (h:a=c) (h':b=d):Ending.returned (.tuple #[.int k a,.int k' b]) = .returned (.tuple #[.int k c,.int k' d]):=by rw [h,h']
theorem Ymt (b:Bool) (w:World):Calls Tryz.prog 204 #[.bool b] w fun e w'=> e = .returned (.int .i64 (b.toNat:Nat))∧w=w':=by
 cases b
 all_goals
  go_enter Tryz.func204,Tryz.ntmps204
  go_wp2
  go_ret
  exact ⟨rfl,rfl⟩
theorem Ygh (i:Nat) (hi:i<103) (w:World) (hp:Yhp w):Calls Tryz.prog 203 #[.int .i64 (i:Int)] w fun e w'=> e = .returned (.tuple #[.int .i64 (Yiv i:Nat),.int .i64 (Yo0 i:Nat)])∧Below w.heap.size w w':=by
 obtain ⟨c0,c1⟩:=hp.1 i hi
 obtain ⟨b0,b1,_,b3⟩:=Yeb i hi
 generalize Yiv i=x at c0 b3 ⊢
 generalize Yo0 i=y at c1 b0 b1 ⊢
 clear hp
 go_enter Tryz.func203,Tryz.ntmps203
 go_wp2
 go_region
 go_wp2
 go_ret2
 exact ⟨Yma (by omega) (by omega),(Below.refl _ w).drew⟩
theorem Yh2 (i:Nat) (hi:i<103) (w:World) (hp:Yhp w):Calls Tryz.prog 205 #[.int .i64 (i:Int)] w fun e w'=> e = .returned (.int .i64 ((if i=102 then 22 else Yo0 i+1:Nat):Int))∧Below w.heap.size w w':=by
 have hcon:=fun x hx=> Ygh i hi x hx
 obtain ⟨b0,b1,_,b3⟩:=Yeb i hi
 by_cases h:i=102
 ·subst h
  go_enter Tryz.func205,Tryz.ntmps205
  go_wp2_with fail
  refine (hcon _ hp).mono ?_
  rintro e w1 ⟨rfl,hb1⟩
  go_wp2
  go_ret
  exact ⟨rfl,hb1⟩
 ·rw [if_neg h]
  generalize Yo0 i=y at hcon b0 b1 ⊢
  have g0:((i:Int)==102)=false:=by rw [beq_eq_false_iff_ne];omega
  clear h
  go_enter Tryz.func205,Tryz.ntmps205
  go_wp2_with fail
  refine (hcon _ hp).mono ?_
  rintro e w1 ⟨rfl,hb1⟩
  go_wp2
  go_ret
  exact ⟨Yfd (by omega),hb1⟩
theorem Yh0 (last:Bool) (r:Nat) (hr:r<64) (w:World) (hp:Yhp w):Calls Tryz.prog 220 #[.bool last,.int .i64 (r:Int)] w fun e w'=> e = .returned (.int .i64 (Ygo last r:Nat))∧w=w':=by
 cases last with
 | false=>
  by_cases h:r<11
  ·have F:=Lib.hid (show Ygo false r=Ykj r by unfold Ygo;simp [h])
   have c0:=hp.2 r h
   obtain ⟨b0,b1⟩:=Ykk r h
   rw [F.out]
   generalize Ykj r=y at c0 b0 b1 ⊢
   have t0:decide ((r:Int)<11)=true:=by simp;omega
   clear F hp
   go_enter Tryz.func220,Tryz.ntmps220
   go_wp2
   go_ret
   exact ⟨Yfd (by omega),rfl⟩
  ·by_cases h2:r≤26
   ·have F:=Lib.hid (show Ygo false r=1 by unfold Ygo;simp [h,h2])
    have t0:decide ((r:Int)<11)=false:=by simp;omega
    have t1:decide ((r:Int)≤26)=true:=by simp;omega
    rw [F.out]
    clear h h2 hp
    go_enter Tryz.func220,Tryz.ntmps220
    go_wp2
    go_ret
    exact ⟨rfl,rfl⟩
   ·have F:=Lib.hid (show Ygo false r=0 by unfold Ygo;simp [h,h2])
    have t0:decide ((r:Int)<11)=false:=by simp;omega
    have t1:decide ((r:Int)≤26)=false:=by simp;omega
    rw [F.out]
    clear h h2 hp
    go_enter Tryz.func220,Tryz.ntmps220
    go_wp2
    go_ret
    exact ⟨rfl,rfl⟩
 | true=>
  by_cases h0:r=0
  ·subst h0
   go_enter Tryz.func220,Tryz.ntmps220
   go_wp2
   go_ret
   exact ⟨rfl,rfl⟩
  ·have g0:((r:Int)==0)=false:=by rw [beq_eq_false_iff_ne];omega
   by_cases h1:r=1
   ·subst h1
    go_enter Tryz.func220,Tryz.ntmps220
    go_wp2
    go_ret
    exact ⟨rfl,rfl⟩
   ·have g1:((r:Int)==1)=false:=by rw [beq_eq_false_iff_ne];omega
    by_cases h2:r≤40
    ·have F:=Lib.hid (show Ygo true r=1 by unfold Ygo;simp [h0,h1,h2])
     have t1:decide ((r:Int)≤40)=true:=by simp;omega
     rw [F.out]
     clear h0 h1 h2 hp
     go_enter Tryz.func220,Tryz.ntmps220
     go_wp2
     go_ret
     exact ⟨rfl,rfl⟩
    ·have F:=Lib.hid (show Ygo true r=0 by unfold Ygo;simp [h0,h1,h2])
     have t1:decide ((r:Int)≤40)=false:=by simp;omega
     rw [F.out]
     clear h0 h1 h2 hp
     go_enter Tryz.func220,Tryz.ntmps220
     go_wp2
     go_ret
     exact ⟨rfl,rfl⟩
theorem Yr4 {a c:Int} {k:IntKind} {b:Bool} (h:a=c):Ending.returned (.tuple #[.int k a,.bool b]) = .returned (.tuple #[.int k c,.bool b]):=by rw [h]
set_option maxHeartbeats 1000000 in
theorem Yo6 (last:Bool) (r:Nat) (level:Int) (hr:r<64) (hl:-128≤level∧level≤127) (w:World) (hp:Yhp w):Calls Tryz.prog 202 #[.agg #[.bool last,.int .i64 (r:Int),.int .i64 level]] w fun e w'=>
  e = .returned (.tuple #[.int .i64 ((if inT last r level.natAbs then plT last r level.natAbs else 102:Nat):Int),.bool (inT last r level.natAbs)])∧Below w.heap.size w w':=by
 have hb0:∀o,Below w.heap.size w (w.alloc o):=fun o=> (Below.refl _ w).alloc (Nat.le_refl _) o
 obtain ⟨a,ha⟩:∃a:Nat,level.natAbs=a:=⟨_,rfl⟩
 rw [ha]
 by_cases h0:level=0
 ·subst h0
  obtain rfl:a=0:=by omega
  have F:=Lib.hid (show inT last r 0=false by unfold inT;simp)
  rw [F.out]
  go_enter Tryz.func202,Tryz.ntmps202
  go_wp2
  go_ret2
  exact ⟨rfl,hb0 _⟩
 have hm:=Ygu last r
 have hcon:=fun x hx=> Yh0 last r hr x hx
 have hsum:=Yjy last r
 have hmo:∀j,j<r→Yj4 last+Yqs last (j+1)≤900:=fun j hj=> by have:=Yjy last (j+1);have hbs:Yj4 last≤58:=by {cases last <;> decide};omega
 have hpl:plT last r a=Yj4 last+Yqs last r+(a-1):=rfl
 have hin:inT last r a=(decide (1≤a)&&decide (a≤Ygo last r)):=rfl
 have hsuc:∀j,Yqs last (j+1)=Yqs last j+Ygo last j:=fun j=> rfl
 have hcon2:=fun (j:Nat) (hj:j<r) x hx=> Yh0 last j (by omega) x hx
 have hm2:=fun (j:Nat)=> Ygu last j
 have HP:=Lib.hid (fun (x:World) (hx:Below w.heap.size w x)=> (hp.below hx:Yhp x))
 by_cases hin1:a≤Ygo last r
 ·have F:=Lib.hid (show inT last r a=true by rw [hin];simp;omega)
  rw [F.out,if_pos rfl]
  have HPL:=Lib.hid hpl
  have SUC:=Lib.hid hsuc
  have MO:=Lib.hid hmo
  have CON2:=Lib.hid hcon2
  have M2:=Lib.hid hm2
  generalize Ygo last r=m at hcon hm hin1 hin
  have t0:decide ((m:Int)<a)=false:=by simp;omega
  have t1:decide (m<a)=false:=by simp;omega
  have qw:IntKind.i64.wrap (-(a:Int)) = -(a:Int):=IntWalk.i64_in _ (by omega)
  have g0:((a:Int)==0)=false:=by rw [beq_eq_false_iff_ne];omega
  have hl2:level=(a:Int)∨level = -(a:Int):=by omega
  have ha0:0<a:=by omega
  have ha1:a≤128:=by omega
  clear hp hin h0 ha hl hin1 F hpl hsuc hmo hcon2 hm2
  have hbl:Below w.heap.size w (w.alloc (.cells #[.bool last,.int .i64 (r:Int),.int .i64 level] 130 (0,0))):=hb0 _
  have hp1:=HP.out _ hbl
  have hz0:Yqs last 0=0:=rfl
  generalize Yqs last=sm at HPL SUC MO hsum hz0
  generalize Ygo last=am at SUC CON2 M2
  generalize hbse:Yj4 last=bse at HPL MO
  have HBS:=Lib.hid hbse
  have S0:=Lib.hid hz0
  clear hz0 hbse hsum
  cases last
  all_goals
   rcases hl2 with rfl | rfl
   all_goals
    go_enter Tryz.func202,Tryz.ntmps202
    go_wp2_with fail
    refine (hcon _ hp1).mono ?_
    rintro e w1 ⟨rfl,rfl⟩
    clear hcon
    go_wp2
    go_loop [5,32] (fun u v=>∃(j x:Nat),j≤r∧v = .int .i64 j∧u = .int .i64 ((a:Int)-1+x)∧x≤900∧Hid (x=bse+sm j)) (fun _ v=> 64-(intOf v).toNat)
    case atStart=> exact ⟨0,bse,Nat.zero_le _,rfl,by rw [←HBS.out];simp [Yj4],by rw [←HBS.out];decide,Lib.hid (by rw [S0.out];rfl)⟩
    case round=>
     obtain ⟨j,x,hj,rfl,rfl,hx,hxx⟩:=hrel
     by_cases hlt:j<r
     ·have t1:decide ((j:Int)<r)=true:=by simp;omega
      have hc2:=CON2.out j hlt _ hp1
      have M:=M2.out j
      have S:=Lib.hid (SUC.out j)
      have XX:=Lib.hid (show x+am j≤900 by have:=MO.out j hlt;rw [S.out] at this;rw [hxx.out];omega)
      generalize am j=y at hc2 M S XX
      go_wp2_with fail
      refine hc2.mono ?_
      rintro e w1 ⟨rfl,rfl⟩
      go_wp2
      go_round
      case rel=> exact ⟨j+1,x+y,by omega,by go_num,by go_num,XX.out,Lib.hid (by rw [hxx.out,S.out,Nat.add_assoc])⟩
      case measure=> simp [intOf];omega
     ·obtain rfl:j=r:=by omega
      have t2:decide (j<j)=false:=by simp
      go_wp2
      go_ret2
      exact ⟨Yr4 (by rw [HPL.out];have:=hxx.out;omega),hbl⟩
 ·have F:=Lib.hid (show inT last r a=false by rw [hin];simp;omega)
  rw [F.out,if_neg (by decide)]
  generalize Ygo last r=m at hcon hm hin1 hin
  have t0:decide ((m:Int)<a)=true:=by simp;omega
  have t1:decide (m<a)=true:=by simp;omega
  have qw:IntKind.i64.wrap (-(a:Int)) = -(a:Int):=IntWalk.i64_in _ (by omega)
  have g0:((a:Int)==0)=false:=by rw [beq_eq_false_iff_ne];omega
  have hl2:level=(a:Int)∨level = -(a:Int):=by omega
  have ha0:0<a:=by omega
  have ha1:a≤128:=by omega
  clear hp hin h0 ha hl hin1 F hpl hsuc hmo hcon2 hm2
  have hbl:Below w.heap.size w (w.alloc (.cells #[.bool last,.int .i64 (r:Int),.int .i64 level] 130 (0,0))):=hb0 _
  have hp1:=HP.out _ hbl
  rcases hl2 with rfl | rfl
  all_goals
   go_enter Tryz.func202,Tryz.ntmps202
   go_wp2_with fail
   refine (hcon _ hp1).mono ?_
   rintro e w1 ⟨rfl,rfl⟩
   go_wp2
   go_ret2
   exact ⟨rfl,hbl⟩
end Go.Proofs.YtgikochfffdpfaaGreatDoor
namespace Go.Proofs.YtgikochfffdpfaaGreatDoor
def Yw1 (i:Nat):ByteArray:=⟨(Yak (Yiv i) (Yo0 i)).toArray⟩
def Yyx (i:Nat):ByteArray×Int:=(Yw1 i,i)
theorem Ywz (i:Nat):(Yy2 (Yyx i)).length=Yo0 i:=Yag _ _
theorem Yt0 {last:Bool} {run amt:Nat}:inT last run amt=true↔1≤amt∧amt≤Ygo last run:=by
 unfold inT
 rw [Bool.and_eq_true,decide_eq_true_iff,decide_eq_true_iff]
end Go.Proofs.YtgikochfffdpfaaGreatDoor
namespace Go.Proofs.YtgikochfffdpfaaGreatDoor
open Go.RowKit Go.Lib
theorem Yhp.under {w w':World} {B:Nat} (h:Yhp w) (hb:Below B w w') (h0:5<B∧6<B∧7<B):Yhp w':=
 ⟨fun i hi=> ⟨(hb.cell (p:=⟨5,i,none⟩) h0.1).trans (h.1 i hi).1,(hb.cell (p:=⟨6,i,none⟩) h0.2.1).trans (h.1 i hi).2⟩,
  fun i hi=> (hb.cell (p:=⟨7,i,none⟩) h0.2.2).trans (h.2 i hi)⟩
structure Ybn (N:Nat) (w:World):Prop where
 pats:Yhq w
 mvd:Yin w
 steps:Ycl w
 tcoef:Yhp w
 lo:1<N∧2<N∧3<N∧0<N∧5<N∧6<N∧7<N
theorem Ybn.here {w:World} (h1:Yhq w) (h2:Yin w) (h3:Ycl w) (h4:Yhp w):Ybn w.heap.size w:=
 ⟨h1,h2,h3,h4,h1.lt,h2.lt.1,h2.lt.2,h3.lt,h4.lt.1,h4.lt.2.1,h4.lt.2.2⟩
theorem Ybn.below {N:Nat} {w x:World} (h:Ybn N w) (hb:Below N w x):Ybn N x:=by
 obtain ⟨h1,h2,h3,h4,l1,l2,l3,l4,l5,l6,l7⟩:=h
 refine ⟨fun i hi=> ?_,fun i hi=> ⟨?_,?_⟩,fun i hi=> ⟨?_,?_⟩,h4.under hb ⟨l5,l6,l7⟩,l1,l2,l3,l4,l5,l6,l7⟩
 ·exact (hb.cell (p:=⟨1,i,none⟩) l1).trans (h1 i hi)
 ·exact (hb.cell (p:=⟨2,i,none⟩) l2).trans (h2 i hi).1
 ·exact (hb.cell (p:=⟨3,i,none⟩) l3).trans (h2 i hi).2
 ·exact (hb.cell (p:=⟨0,2*i,none⟩) l4).trans (h3 i hi).1
 ·exact (hb.cell (p:=⟨0,2*i+1,none⟩) l4).trans (h3 i hi).2
end Go.Proofs.YtgikochfffdpfaaGreatDoor