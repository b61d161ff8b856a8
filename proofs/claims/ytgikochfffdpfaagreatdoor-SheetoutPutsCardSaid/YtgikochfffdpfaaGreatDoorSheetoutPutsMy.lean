/- Texts that SheetoutPuts's proof stands on, part 25 of 47. No condition of its own. -/
import Derived.Test.YtgikochfffdpfaaGreatDoorSheetoutPutsMc
import Derived.Test.YtgikochfffdpfaaGreatDoorSheetoutPutsMf
import Derived.Test.YtgikochfffdpfaaGreatDoorSheetoutPutsMv
import Derived.Test.YtgikochfffdpfaaGreatDoorSheetoutPutsMw
import Derived.Test.YtgikochfffdpfaaGreatDoorSheetoutPutsMx
import Derived.WalkMore
import Derived.IntWalk
import Derived.WalkKit
import Derived.Lib.LaidTab
import Derived.MakeChecks
import Derived.Test.YtgikochfffdpfaaGreatDoorRows
namespace Go.Proofs.YtgikochfffdpfaaGreatDoor
open Go.RowKit Go.Lib
def Yxy:List Nat:=[1,1,1,1,3,5,4,3,11,10,9,17,16,15,14,13,12,11,10,9,8,7,6,5,4,7,6,5,4,3,2,3,2]
def Yy9:List Nat:=[1,2,3,4,6,7,7,7,9,9,9,10,10,10,10,10,10,10,10,10,10,10,10,10,10,11,11,11,11,11,11,12,12]
def Yf2 (i:Nat):Nat:=Yxy[i]?.getD 0
def Yic (i:Nat):Nat:=Yy9[i]?.getD 0
theorem Ygc:∀i,i<33→1≤Yic i∧Yic i≤12∧Yf2 i<2^Yic i∧Yf2 i≤17:=by decide +kernel
def Yvw (i:Nat):List UInt8:=Yak (Yf2 i) (Yic i)
def Ydp (d:Int):Nat:=if d=0 then 1 else if 0<d then 2*Yf2 d.toNat else 2*Yf2 (-d).toNat+1
def Ye7 (d:Int):Nat:=if d=0 then 1 else if 0<d then Yic d.toNat+1 else Yic (-d).toNat+1
def Yau (d:Int):ByteArray:=if -32≤d∧d≤31 then ⟨(Yak (Ydp d) (Ye7 d)).toArray⟩ else ⟨#[]⟩
theorem Yec {d:Int} (h:d < -32∨31<d):Yau d=⟨#[]⟩:=by
 unfold Yau
 rw [if_neg (by omega)]
theorem Yix {d:Int} (h:-32≤d∧d≤31):Yau d=⟨(Yak (Ydp d) (Ye7 d)).toArray⟩:=by
 unfold Yau
 rw [if_pos h]
theorem Yiy {d:Int} (h:-32≤d∧d≤31):1≤Ye7 d∧Ye7 d≤13∧Ydp d<2^Ye7 d∧Ydp d≤35:=by
 have e:∀i:Nat,i<64→1≤Ye7 ((i:Int)-32)∧Ye7 ((i:Int)-32)≤13∧Ydp ((i:Int)-32)<2^Ye7 ((i:Int)-32)∧Ydp ((i:Int)-32)≤35:=by decide +kernel
 have:=e (d+32).toNat (by omega)
 rwa [show (((d+32).toNat:Nat):Int)-32=d by omega] at this
theorem Yoq {d:Int} (h:-32≤d∧d≤31):(Yau d).data.toList.isEmpty=false:=by
 rw [Yix h]
 show (Yak (Ydp d) (Ye7 d)).isEmpty=false
 have:=Yiy h
 cases hl:Yak (Ydp d) (Ye7 d) with
 | nil=>
  have e:=Yag (Ydp d) (Ye7 d)
  rw [hl] at e
  simp at e
  omega
 | cons a l=> rfl
def Yin (w:World):Prop:=∀i,i<33→w.cell? ⟨2,i,none⟩=some (.int .i64 (Yf2 i:Nat))∧w.cell? ⟨3,i,none⟩=some (.int .i64 (Yic i:Nat))
theorem Yin.lt {w:World} (h:Yin w):2<w.heap.size∧3<w.heap.size:=
 ⟨World.block_lt_of_cell? w ⟨2,0,none⟩ (h 0 (by decide)).1,World.block_lt_of_cell? w ⟨3,0,none⟩ (h 0 (by decide)).2⟩
theorem Yy1 (y:Nat) (hy:y<4294967296):bits .or .i64 ((y:Int)*2) 1=((2*y+1:Nat):Int):=by
 have hor:=Nat.two_pow_add_eq_or_of_lt (i:=1) (b:=1) (by omega) y
 have e1:((y:Int)*2)=((2*y:Nat):Int):=by omega
 rw [e1]
 show IntKind.i64.wrap ((BitVec.ofInt 64 ((2*y:Nat):Int) ||| BitVec.ofInt 64 ((1:Nat):Int)).toNat:Int)=_
 rw [BitVec.ofInt_natCast,BitVec.ofInt_natCast,BitVec.toNat_or,BitVec.toNat_ofNat,BitVec.toNat_ofNat,Nat.mod_eq_of_lt (by omega),Nat.mod_eq_of_lt (by omega)]
 have e2:2*y ||| 1=2*y+1:=by
  have e:(2:Nat)^1=2:=rfl
  rw [e] at hor
  exact hor.symm
 rw [e2,IntKind.wrap_i64]
 omega
theorem Yuz {a b c d:Int} {k k':IntKind} (h:a=c) (h':b=d):Ending.returned (.tuple #[.int k a,.int k' b]) = .returned (.tuple #[.int k c,.int k' d]):=by rw [h,h']
set_option maxHeartbeats 1000000 in
theorem Yrc (d:Int) (h:-32≤d∧d≤31) (w:World) (hp:Yin w):Calls Tryz.prog 163 #[.int .i64 d] w fun e w'=> e = .returned (.tuple #[.int .i64 (Ydp d:Nat),.int .i64 (Ye7 d:Nat)])∧Below w.heap.size w w':=by
 by_cases h0:d=0
 ·subst h0
  have c0:w.cell? ⟨2,0,none⟩=some (.int .i64 1):=(hp 0 (by decide)).1
  have c1:w.cell? ⟨3,0,none⟩=some (.int .i64 1):=(hp 0 (by decide)).2
  go_enter Tryz.func163,Tryz.ntmps163
  go_wp2
  go_region
  go_wp2
  go_ret2
  exact ⟨rfl,(Below.refl _ w).drew⟩
 by_cases h1:0<d
 ·have F1:=Lib.hid (show Ydp d=2*Yf2 d.toNat by unfold Ydp;rw [if_neg h0,if_pos h1])
  have F2:=Lib.hid (show Ye7 d=Yic d.toNat+1 by unfold Ye7;rw [if_neg h0,if_pos h1])
  rw [F1.out,F2.out]
  obtain ⟨a,ha⟩:∃a:Nat,d=a:=⟨d.toNat,by omega⟩
  subst ha
  rw [Int.toNat_natCast]
  have ha33:a<33:=by omega
  obtain ⟨c0,c1⟩:=hp a ha33
  obtain ⟨b0,b1,_,b3⟩:=Ygc a ha33
  have t0:0<a:=by omega
  generalize Yf2 a=x at c0 b3 ⊢
  generalize Yic a=y at c1 b0 b1 ⊢
  clear F1 F2 h0 h1
  go_enter Tryz.func163,Tryz.ntmps163
  go_wp2
  go_region
  go_wp2
  go_ret2
  exact ⟨Yuz (by omega) (by omega),(Below.refl _ w).drew⟩
 ·have F1:=Lib.hid (show Ydp d=2*Yf2 (-d).toNat+1 by unfold Ydp;rw [if_neg h0,if_neg h1])
  have F2:=Lib.hid (show Ye7 d=Yic (-d).toNat+1 by unfold Ye7;rw [if_neg h0,if_neg h1])
  rw [F1.out,F2.out]
  obtain ⟨a,ha⟩:∃a:Nat,(-d).toNat=a:=⟨_,rfl⟩
  have t2:-d=(a:Int):=by omega
  rw [ha]
  have ha33:a<33:=by omega
  obtain ⟨c0,c1⟩:=hp a ha33
  obtain ⟨b0,b1,_,b3⟩:=Ygc a ha33
  have t0:decide (0<d)=false:=by simpa using h1
  have t1:decide (d<0)=true:=by simp;omega
  generalize Yf2 a=x at c0 b3 ⊢
  generalize Yic a=y at c1 b0 b1 ⊢
  have O:=Lib.hid (Yy1 x (by omega))
  clear F1 F2 h0 h1 ha
  go_enter Tryz.func163,Tryz.ntmps163
  go_wp2
  go_region
  go_wp2
  go_ret2
  exact ⟨Yuz O.out (by omega),(Below.refl _ w).drew⟩
theorem Yts (d:Int) (w:World) (hp:Yin w):Calls Tryz.prog 144 #[.int .i64 d] w fun e w'=> e = .returned (.tuple #[.string (Yau d),.bool (!(Yau d).data.toList.isEmpty)])∧Below w.heap.size w w':=by
 by_cases h0:d < -32
 ·have F:=Lib.hid (Yec (d:=d) (.inl h0))
  have t0:decide (d < -32)=true:=by simpa using h0
  clear h0
  rw [F.out]
  go_enter Tryz.func144,Tryz.ntmps144
  go_wp2
  go_ret2
  exact ⟨rfl,Below.refl _ _⟩
 by_cases h1:31<d
 ·have F:=Lib.hid (Yec (d:=d) (.inr h1))
  have t0:decide (d < -32)=false:=by simpa using h0
  have t1:decide (31<d)=true:=by simpa using h1
  clear h0 h1
  rw [F.out]
  go_enter Tryz.func144,Tryz.ntmps144
  go_wp2
  go_ret2
  exact ⟨rfl,Below.refl _ _⟩
 have hr:-32≤d∧d≤31:=by omega
 have t0:decide (d < -32)=false:=by simpa using h0
 have t1:decide (31<d)=false:=by simpa using h1
 have hcon:=fun x hx=> Yrc d hr x hx
 obtain ⟨b0,b1,b2,b3⟩:=Yiy hr
 have G:=Lib.hid (show (!(Yau d).data.toList.isEmpty)=true by rw [Yoq hr];rfl)
 have F:=Lib.hid (Yix hr)
 rw [G.out,F.out]
 generalize Ydp d=x at hcon b2 b3 ⊢
 generalize Ye7 d=y at hcon b0 b1 b2 ⊢
 have hrow:=fun w=> Yhk (x:Int) (y:Int) w (by omega) (by
  unfold Yca
  rw [decide_eq_true_iff]
  refine ⟨by omega,by omega,by omega,?_⟩
  rw [Int.toNat_natCast]
  exact_mod_cast b2)
 simp only [Int.toNat_natCast] at hrow
 clear h0 h1 F G b2
 go_enter Tryz.func144,Tryz.ntmps144
 go_wp2_with fail
 refine (hcon _ hp).mono ?_
 rintro e w1 ⟨rfl,hb1⟩
 have hz1:=hb1.size
 go_wp2_with fail
 refine (hrow _).mono ?_
 rintro e w2 ⟨rfl,hb⟩
 go_wp2
 go_ret2
 exact ⟨rfl,hb1.trans (hb.mono hz1)⟩
def Yxn:List ByteArray:=[⟨#[49,49]⟩,⟨#[48,49,49,48]⟩,⟨#[49,48,48,48]⟩,⟨#[48,49,48,48]⟩,⟨#[49,48,49,48]⟩,⟨#[48,49,48,49]⟩,⟨#[48,48,48,48,49,49]⟩,⟨#[48,48,48,49,48]⟩,⟨#[49,48,49,49]⟩,⟨#[48,48,48,48,49,48]⟩,⟨#[48,49,49,49]⟩,⟨#[48,48,48,49,49]⟩,⟨#[49,48,48,49]⟩,⟨#[48,48,49,48,48]⟩,⟨#[48,48,49,48,49]⟩,⟨#[48,48,49,49]⟩]
theorem Yhh:Yxn.length=16:=rfl
theorem Yux:∀i,(h:i<16)→Yxn[i]'(by rw [Yhh];exact h)=Yoh[15-i]'(by rw [Ydz];omega):=by decide +kernel
set_option maxHeartbeats 1000000 in
theorem Yk2 (w:World):Calls Tryz.prog 96 #[] w fun e w'=> e = .returned (.slice (some ⟨w.heap.size,0,none⟩) 16 16)∧Ysx w' (some ⟨w.heap.size,0,none⟩) Yxn∧Below w.heap.size w w':=by
 go_enter Tryz.func96,Tryz.ntmps96
 go_wp2
 go_ret
 exact ⟨rfl,Yeu (T:=9) (l:=Yxn) (heap_alloc_new w _),(Below.refl _ w).alloc (Nat.le_refl _) _⟩
set_option maxRecDepth 100000 in
set_option maxHeartbeats 2000000 in
theorem Yus (intra:Bool) (k:Int) (w:World):Calls Tryz.prog 66 #[.bool intra,.int .i64 k] w fun e w'=> e = .returned (.string (Ydg intra k))∧Below w.heap.size w w':=by
 by_cases h0:k<0
 ·have F:=Lib.hid (Yhe (intra:=intra) (.inl h0))
  have t0:decide (k<0)=true:=by simpa using h0
  clear h0
  rw [F.out]
  go_enter Tryz.func66,Tryz.ntmps66
  go_wp2
  go_ret
  exact ⟨rfl,Below.refl _ _⟩
 by_cases h4:15<k
 ·have F:=Lib.hid (Yhe (intra:=intra) (k:=k) (.inr (by omega)))
  have t0:decide (k<0)=false:=by simpa using h0
  have t1:decide (15<k)=true:=by simpa using h4
  clear h0 h4
  rw [F.out]
  go_enter Tryz.func66,Tryz.ntmps66
  go_wp2
  go_ret
  exact ⟨rfl,Below.refl _ _⟩
 obtain ⟨a,rfl⟩:∃a:Nat,k=a:=⟨k.toNat,by omega⟩
 have t0:decide ((a:Int)<0)=false:=by simp
 have t1:decide (15<(a:Int))=false:=by simp;omega
 have ha:a<16:=by omega
 have F0:=Yqg (intra:=intra) ha rfl
 cases intra with
 | true=>
  have hj:15-a<Yxn.length:=by rw [Yhh];omega
  have F:=Lib.hid (F0.trans (show Yoh[Yif true a]'_=Yxn[15-a]'hj by rw [Yux (15-a) (by omega)];congr 1;show a=_;omega))
  have e15:(15:Int)-a=((15-a:Nat):Int):=by omega
  clear F0 h0 h4
  rw [F.out]
  go_enter Tryz.func66,Tryz.ntmps66
  go_wp2_with fail
  refine (Yk2 _).mono ?_
  rintro e w1 ⟨rfl,hst,hb⟩
  obtain ⟨b,o,e,_,hc⟩:=hst.at (by rw [Yhh];omega)
  cases e
  have c0:=hc (15-a) hj
  rw [Nat.zero_add] at c0
  clear hc
  obtain ⟨m,hm⟩:∃m,15-a=m:=⟨_,rfl⟩
  rw [hm] at e15
  simp only [hm] at c0
  go_wp2
  go_ret
  subst hm
  exact ⟨rfl,hb⟩
 | false=>
  have hj:a<Yxn.length:=by rw [Yhh];omega
  have F:=Lib.hid (F0.trans (show Yoh[Yif false a]'_=Yxn[a]'hj by rw [Yux a ha];rfl))
  clear F0 h0 h4
  rw [F.out]
  go_enter Tryz.func66,Tryz.ntmps66
  go_wp2_with fail
  refine (Yk2 _).mono ?_
  rintro e w1 ⟨rfl,hst,hb⟩
  obtain ⟨b,o,e,_,hc⟩:=hst.at (by rw [Yhh];omega)
  cases e
  have c0:=hc a hj
  rw [Nat.zero_add] at c0
  clear hc
  go_wp2
  go_ret
  exact ⟨rfl,hb⟩
end Go.Proofs.YtgikochfffdpfaaGreatDoor
namespace Go.Proofs.YtgikochfffdpfaaGreatDoor
def Yxx (i:Nat):ByteArray×Int:=(Yau ((i:Int)-32),(i:Int)-32)
theorem Yok (i:Nat):(Yvw i).length=Yic i:=Yag _ _
theorem Yvy:Yvw 0=Yy2 (Yxx 32):=by decide +kernel
theorem Yys:∀i,i<32→0<i→Yvw i ++ [48]=Yy2 (Yxx (32+i)):=by decide +kernel
theorem Yvx:∀i,i<33→0<i→Yvw i ++ [49]=Yy2 (Yxx (32-i)):=by decide +kernel
end Go.Proofs.YtgikochfffdpfaaGreatDoor
namespace Go.Proofs.YtgikochfffdpfaaGreatDoor
open Go.RowKit Go.Lib
def Yuv:List ByteArray:=[⟨#[49]⟩,⟨#[48,49]⟩,⟨#[48,48,49]⟩,⟨#[48,48,48,49]⟩,⟨#[48,48,48,48,49,49]⟩,⟨#[48,48,48,48,49,48,49]⟩,⟨#[48,48,48,48,49,48,48]⟩,⟨#[48,48,48,48,48,49,49]⟩,⟨#[48,48,48,48,48,49,48,49,49]⟩,⟨#[48,48,48,48,48,49,48,49,48]⟩,⟨#[48,48,48,48,48,49,48,48,49]⟩,⟨#[48,48,48,48,48,49,48,48,48,49]⟩,⟨#[48,48,48,48,48,49,48,48,48,48]⟩,⟨#[48,48,48,48,48,48,49,49,49,49]⟩,⟨#[48,48,48,48,48,48,49,49,49,48]⟩,⟨#[48,48,48,48,48,48,49,49,48,49]⟩,⟨#[48,48,48,48,48,48,49,49,48,48]⟩,⟨#[48,48,48,48,48,48,49,48,49,49]⟩,⟨#[48,48,48,48,48,48,49,48,49,48]⟩,⟨#[48,48,48,48,48,48,49,48,48,49]⟩,⟨#[48,48,48,48,48,48,49,48,48,48]⟩,⟨#[48,48,48,48,48,48,48,49,49,49]⟩,⟨#[48,48,48,48,48,48,48,49,49,48]⟩,⟨#[48,48,48,48,48,48,48,49,48,49]⟩,⟨#[48,48,48,48,48,48,48,49,48,48]⟩,⟨#[48,48,48,48,48,48,48,48,49,49,49]⟩,⟨#[48,48,48,48,48,48,48,48,49,49,48]⟩,⟨#[48,48,48,48,48,48,48,48,49,48,49]⟩,⟨#[48,48,48,48,48,48,48,48,49,48,48]⟩,⟨#[48,48,48,48,48,48,48,48,48,49,49]⟩,⟨#[48,48,48,48,48,48,48,48,48,49,48]⟩,⟨#[48,48,48,48,48,48,48,48,48,48,49,49]⟩,⟨#[48,48,48,48,48,48,48,48,48,48,49,48]⟩]
theorem Yc2:Yuv.length=33:=rfl
theorem Yuw:∀i,(h:i<33)→(Yuv[i]'(by rw [Yc2];exact h)).data.toList=Yvw i:=by decide +kernel
theorem Yl9 {i:Nat} (h:i<33):Yuv[i]'(by rw [Yc2];exact h)=⟨(Yvw i).toArray⟩:=Yln.2 (Yuw i h)
theorem Yno {i:Nat} (h:i<33):(Yuv[i]'(by rw [Yc2];exact h)).size≤12:=by
 rw [Yl9 h,Yds,Yok]
 exact (Ygc i h).2.1
theorem Ytq:Yau 0=⟨(Yvw 0).toArray⟩:=Yln.2 Yvy.symm
theorem Yx2 {i:Nat} (h:i<32) (h0:0<i):Yau (i:Int)=⟨(Yvw i).toArray⟩++⟨#[48]⟩:=by
 rw [show (⟨#[48]⟩:ByteArray)=⟨[48].toArray⟩ from rfl,Ybk,Yys i h h0]
 refine Yln.2 ?_
 show _=(Yau (((32+i:Nat):Int)-32)).data.toList
 rw [show ((32+i:Nat):Int)-32=i by omega]
theorem Ytp {i:Nat} (h:i<33) (h0:0<i):Yau (-(i:Int))=⟨(Yvw i).toArray⟩++⟨#[49]⟩:=by
 rw [show (⟨#[49]⟩:ByteArray)=⟨[49].toArray⟩ from rfl,Ybk,Yvx i h h0]
 refine Yln.2 ?_
 show _=(Yau (((32-i:Nat):Int)-32)).data.toList
 rw [show ((32-i:Nat):Int)-32 = -(i:Int) by omega]
set_option maxRecDepth 100000 in
set_option maxHeartbeats 1000000 in
theorem Ye1 (w:World):Calls Tryz.prog 97 #[] w fun e w'=> e = .returned (.slice (some ⟨w.heap.size,0,none⟩) 33 33)∧Ysx w' (some ⟨w.heap.size,0,none⟩) Yuv∧Below w.heap.size w w':=by
 go_enter Tryz.func97,Tryz.ntmps97
 go_wp2
 go_ret
 exact ⟨rfl,Yeu (T:=9) (l:=Yuv) (heap_alloc_new w _),(Below.refl _ w).alloc (Nat.le_refl _) _⟩
set_option maxRecDepth 100000 in
set_option maxHeartbeats 2000000 in
theorem Ytt (d:Int) (w:World):Calls Tryz.prog 68 #[.int .i64 d] w fun e w'=> e = .returned (.string (Yau d))∧Below w.heap.size w w':=by
 by_cases h0:d < -32
 ·have F:=Lib.hid (Yec (d:=d) (.inl h0))
  have t0:decide (d < -32)=true:=by simpa using h0
  clear h0
  rw [F.out]
  go_enter Tryz.func68,Tryz.ntmps68
  go_wp2
  go_ret
  exact ⟨rfl,Below.refl _ _⟩
 by_cases h1:31<d
 ·have F:=Lib.hid (Yec (d:=d) (.inr h1))
  have t0:decide (d < -32)=false:=by simpa using h0
  have t1:decide (31<d)=true:=by simpa using h1
  clear h0 h1
  rw [F.out]
  go_enter Tryz.func68,Tryz.ntmps68
  go_wp2
  go_ret
  exact ⟨rfl,Below.refl _ _⟩
 have t0:decide (d < -32)=false:=by simpa using h0
 have t1:decide (31<d)=false:=by simpa using h1
 by_cases h2:d<0
 ·obtain ⟨a,ha⟩:∃a:Nat,(-d).toNat=a:=⟨_,rfl⟩
  have e2:-d=(a:Int):=by omega
  have hj:a<33:=by omega
  have F:=Lib.hid (show Yau d=Yuv[a]'(by rw [Yc2];exact hj)++⟨#[49]⟩ by rw [Yl9 hj,←Ytp hj (by omega)];congr 1;omega)
  have t2:decide (d<0)=true:=by simpa using h2
  obtain ⟨r,hr2⟩:∃r,Yuv[a]'(by rw [Yc2];exact hj)=r:=⟨_,rfl⟩
  have hsz:=Yno hj
  rw [hr2] at F hsz
  clear h0 h1 h2 ha
  rw [F.out]
  go_enter Tryz.func68,Tryz.ntmps68
  go_wp2_with fail
  refine (Ye1 _).mono ?_
  rintro e w1 ⟨rfl,hst,hb⟩
  obtain ⟨b,o,e,_,hc⟩:=hst.at (by rw [Yc2];omega)
  cases e
  have c0:w1.cell? ⟨w.heap.size,0+a,none⟩=some (.string r):=(hc a hj).trans (congrArg (fun x=> some (Value.string x)) hr2)
  rw [Nat.zero_add] at c0
  clear hc
  go_wp2
  go_ret
  exact ⟨rfl,hb⟩
 ·have t2:decide (d<0)=false:=by simpa using h2
  by_cases h3:0<d
  ·obtain ⟨a,ha⟩:∃a:Nat,d.toNat=a:=⟨_,rfl⟩
   obtain rfl:d=(a:Int):=by omega
   have hj:a<33:=by omega
   have ha0:0<a:=by omega
   have F:=Lib.hid (show Yau (a:Int)=Yuv[a]'(by rw [Yc2];exact hj)++⟨#[48]⟩ by rw [Yl9 hj,←Yx2 (by omega) ha0])
   obtain ⟨r,hr2⟩:∃r,Yuv[a]'(by rw [Yc2];exact hj)=r:=⟨_,rfl⟩
   have hsz:=Yno hj
   rw [hr2] at F hsz
   clear h0 h1 h2 h3 ha
   rw [F.out]
   go_enter Tryz.func68,Tryz.ntmps68
   go_wp2_with fail
   refine (Ye1 _).mono ?_
   rintro e w1 ⟨rfl,hst,hb⟩
   obtain ⟨b,o,e,_,hc⟩:=hst.at (by rw [Yc2];omega)
   cases e
   have c0:w1.cell? ⟨w.heap.size,0+a,none⟩=some (.string r):=(hc a hj).trans (congrArg (fun x=> some (Value.string x)) hr2)
   rw [Nat.zero_add] at c0
   clear hc
   go_wp2
   go_ret
   exact ⟨rfl,hb⟩
  ·obtain rfl:d=0:=by omega
   have F:=Lib.hid (show Yau 0=Yuv[0]'(by decide) by rw [Yl9 (by decide),Ytq])
   clear h0 h1 h2 h3 t0 t1 t2
   rw [F.out]
   go_enter Tryz.func68,Tryz.ntmps68
   go_wp2_with fail
   refine (Ye1 _).mono ?_
   rintro e w1 ⟨rfl,hst,hb⟩
   obtain ⟨b,o,e,_,hc⟩:=hst.at (by rw [Yc2];omega)
   cases e
   have c0:=hc 0 (by decide)
   rw [Nat.zero_add] at c0
   clear hc
   go_wp2
   go_ret
   exact ⟨rfl,hb⟩
theorem Yp9:(Rows.laid_overspill_mvd_codes:DataW Unit)=tabData .i64 (Yxy.map fun z:Nat=> (z:Int))∧(Rows.laid_overspill_mvd_lengths:DataW Unit)=tabData .i64 (Yy9.map fun z:Nat=> (z:Int)):=⟨by kernel_rfl,by kernel_rfl⟩
theorem Yyz (l:List Nat) (i:Nat) (h:i<(l.map fun z:Nat=> (z:Int)).length):(l.map fun z:Nat=> (z:Int))[i]=((l[i]?.getD 0:Nat):Int):=by
 have h2:i<l.length:=by simpa using h
 rw [List.getElem_map,List.getElem?_eq_getElem h2]
 rfl
theorem Ywo {laid : List (String × DataW Unit)} {W : World} (hL : laidMetH Tryz.prog laid W) (hm : (("overspill/mvd.codes", Rows.laid_overspill_mvd_codes) ∈ laid ∧ ("overspill/mvd.lengths", Rows.laid_overspill_mvd_lengths) ∈ laid) ∧ (laid.all fun x => x.2.handleName?.isNone) = true) : Yin W := by
 rw [MakeChecks.laidMetH_plain _ _ _ hm.2] at hL
 obtain ⟨ps,hv,_,_⟩:=hL
 obtain ⟨h1,h2⟩:=hm.1
 rw [Yp9.1] at h1
 rw [Yp9.2] at h2
 have hlc:(Yxy.map fun z:Nat=> (z:Int)).length=33:=rfl
 have hll:(Yy9.map fun z:Nat=> (z:Int)).length=33:=rfl
 intro i hi
 have g1:=Ym4 hv h1 (g:=2) (t:=209) (by kernel_rfl) (by kernel_rfl) Tryz.underlying209 Tryz.underlying3 (by kernel_rfl) (by kernel_rfl) i (by rw [hlc];exact hi)
 have g2:=Ym4 hv h2 (g:=3) (t:=209) (by kernel_rfl) (by kernel_rfl) Tryz.underlying209 Tryz.underlying3 (by kernel_rfl) (by kernel_rfl) i (by rw [hll];exact hi)
 rw [Yyz] at g1 g2
 exact ⟨g1,g2⟩
end Go.Proofs.YtgikochfffdpfaaGreatDoor