/- Texts that SheetoutBack's proof stands on, part 22 of 52. No condition of its own. -/
import Derived.Test.YtgikochfffdpfaaGreatDoorSheetoutBackMc
import Derived.Test.YtgikochfffdpfaaGreatDoorSheetoutBackMf
import Derived.Test.YtgikochfffdpfaaGreatDoorSheetoutBackMo
import Derived.Test.YtgikochfffdpfaaGreatDoorSheetoutBackMu
import Derived.WalkMore
import Derived.IntWalk
import Derived.WalkKit
import Derived.Lib.LaidTab
import Derived.MakeChecks
import Derived.Test.YtgikochfffdpfaaGreatDoorRows
namespace Go.Proofs.YtgikochfffdpfaaGreatDoor
open Go.RowKit Go.Lib
def Qfm:List Nat:=[1,1,1,1,3,5,4,3,11,10,9,17,16,15,14,13,12,11,10,9,8,7,6,5,4,7,6,5,4,3,2,3,2]
def Qg2:List Nat:=[1,2,3,4,6,7,7,7,9,9,9,10,10,10,10,10,10,10,10,10,10,10,10,10,10,11,11,11,11,11,11,12,12]
def Yf8 (i:Nat):Nat:=Qfm[i]?.getD 0
def Yde (i:Nat):Nat:=Qg2[i]?.getD 0
theorem Ycy:∀i,i<33→1≤Yde i∧Yde i≤12∧Yf8 i<2^Yde i∧Yf8 i≤17:=by decide +kernel
def Yi0 (i:Nat):List UInt8:=Yau (Yf8 i) (Yde i)
def Yff (d:Int):Nat:=if d=0 then 1 else if 0<d then 2*Yf8 d.toNat else 2*Yf8 (-d).toNat+1
def Yhz (d:Int):Nat:=if d=0 then 1 else if 0<d then Yde d.toNat+1 else Yde (-d).toNat+1
def Ybt (d:Int):ByteArray:=if -32≤d∧d≤31 then ⟨(Yau (Yff d) (Yhz d)).toArray⟩ else ⟨#[]⟩
theorem Yli {d:Int} (h:d < -32∨31<d):Ybt d=⟨#[]⟩:=by
 unfold Ybt
 rw [if_neg (by omega)]
theorem Yn0 {d:Int} (h:-32≤d∧d≤31):Ybt d=⟨(Yau (Yff d) (Yhz d)).toArray⟩:=by
 unfold Ybt
 rw [if_pos h]
theorem Yn1 {d:Int} (h:-32≤d∧d≤31):1≤Yhz d∧Yhz d≤13∧Yff d<2^Yhz d∧Yff d≤35:=by
 have e:∀i:Nat,i<64→1≤Yhz ((i:Int)-32)∧Yhz ((i:Int)-32)≤13∧Yff ((i:Int)-32)<2^Yhz ((i:Int)-32)∧Yff ((i:Int)-32)≤35:=by decide +kernel
 have:=e (d+32).toNat (by omega)
 rwa [show (((d+32).toNat:Nat):Int)-32=d by omega] at this
theorem Yx7 {d:Int} (h:-32≤d∧d≤31):(Ybt d).data.toList.isEmpty=false:=by
 rw [Yn0 h]
 show (Yau (Yff d) (Yhz d)).isEmpty=false
 have:=Yn1 h
 cases hl:Yau (Yff d) (Yhz d) with
 | nil=>
  have e:=Yak (Yff d) (Yhz d)
  rw [hl] at e
  simp at e
  omega
 | cons a l=> rfl
def Yd6 (w:World):Prop:=∀i,i<33→w.cell? ⟨2,i,none⟩=some (.int .i64 (Yf8 i:Nat))∧w.cell? ⟨3,i,none⟩=some (.int .i64 (Yde i:Nat))
theorem Yd6.lt {w:World} (h:Yd6 w):2<w.heap.size∧3<w.heap.size:=
 ⟨World.block_lt_of_cell? w ⟨2,0,none⟩ (h 0 (by decide)).1,World.block_lt_of_cell? w ⟨3,0,none⟩ (h 0 (by decide)).2⟩
theorem Yd6.below {w w':World} (h:Yd6 w) (hb:Below w.heap.size w w'):Yd6 w':=fun i hi=>
 ⟨(hb.cell (p:=⟨2,i,none⟩) h.lt.1).trans (h i hi).1,(hb.cell (p:=⟨3,i,none⟩) h.lt.2).trans (h i hi).2⟩
theorem Qhm (y:Nat) (hy:y<4294967296):bits .or .i64 ((y:Int)*2) 1=((2*y+1:Nat):Int):=by
 have hor:=Nat.two_pow_add_eq_or_of_lt (i:=1) (b:=1) (by omega) y
 have e1:((y:Int)*2)=((2*y:Nat):Int):=by omega
 rw [e1]
 show IntKind.i64.wrap ((BitVec.ofInt 64 ((2*y:Nat):Int) ||| BitVec.ofInt 64 ((1:Nat):Int)).toNat:Int)=_
 rw [BitVec.ofInt_natCast,BitVec.ofInt_natCast,BitVec.toNat_or,BitVec.toNat_ofNat,BitVec.toNat_ofNat,Nat.mod_eq_of_lt (by omega),Nat.mod_eq_of_lt (by omega)]
 have e2:2*y ||| 1=2*y+1:=by
  have e:(2:Nat)^1=2:=rfl
  rw [e] at hor
  exact hor.symm
 rw [e2,IntKind.wrap_i64]
 omega
theorem Y8v {a b c d:Int} {k k':IntKind} (h:a=c) (h':b=d):Ending.returned (.tuple #[.int k a,.int k' b]) = .returned (.tuple #[.int k c,.int k' d]):=by rw [h,h']
set_option maxHeartbeats 1000000 in
theorem Y2j (d:Int) (h:-32≤d∧d≤31) (w:World) (hp:Yd6 w):Calls Tryz.prog 163 #[.int .i64 d] w fun e w'=> e = .returned (.tuple #[.int .i64 (Yff d:Nat),.int .i64 (Yhz d:Nat)])∧Below w.heap.size w w':=by
 by_cases h0:d=0
 ·subst h0
  have c0:w.cell? ⟨2,0,none⟩=some (.int .i64 1):=(hp 0 (by decide)).1
  have c1:w.cell? ⟨3,0,none⟩=some (.int .i64 1):=(hp 0 (by decide)).2
  go_enter Tryz.func163,Tryz.ntmps163
  go_wp2
  go_region
  go_wp2
  go_ret2
  exact ⟨rfl,(Below.refl _ w).drew⟩
 by_cases h1:0<d
 ·have F1:=Lib.hid (show Yff d=2*Yf8 d.toNat by unfold Yff;rw [if_neg h0,if_pos h1])
  have F2:=Lib.hid (show Yhz d=Yde d.toNat+1 by unfold Yhz;rw [if_neg h0,if_pos h1])
  rw [F1.out,F2.out]
  obtain ⟨a,ha⟩:∃a:Nat,d=a:=⟨d.toNat,by omega⟩
  subst ha
  rw [Int.toNat_natCast]
  have ha33:a<33:=by omega
  obtain ⟨c0,c1⟩:=hp a ha33
  obtain ⟨b0,b1,_,b3⟩:=Ycy a ha33
  have t0:0<a:=by omega
  generalize Yf8 a=x at c0 b3 ⊢
  generalize Yde a=y at c1 b0 b1 ⊢
  clear F1 F2 h0 h1
  go_enter Tryz.func163,Tryz.ntmps163
  go_wp2
  go_region
  go_wp2
  go_ret2
  exact ⟨Y8v (by omega) (by omega),(Below.refl _ w).drew⟩
 ·have F1:=Lib.hid (show Yff d=2*Yf8 (-d).toNat+1 by unfold Yff;rw [if_neg h0,if_neg h1])
  have F2:=Lib.hid (show Yhz d=Yde (-d).toNat+1 by unfold Yhz;rw [if_neg h0,if_neg h1])
  rw [F1.out,F2.out]
  obtain ⟨a,ha⟩:∃a:Nat,(-d).toNat=a:=⟨_,rfl⟩
  have t2:-d=(a:Int):=by omega
  rw [ha]
  have ha33:a<33:=by omega
  obtain ⟨c0,c1⟩:=hp a ha33
  obtain ⟨b0,b1,_,b3⟩:=Ycy a ha33
  have t0:decide (0<d)=false:=by simpa using h1
  have t1:decide (d<0)=true:=by simp;omega
  generalize Yf8 a=x at c0 b3 ⊢
  generalize Yde a=y at c1 b0 b1 ⊢
  have O:=Lib.hid (Qhm x (by omega))
  clear F1 F2 h0 h1 ha
  go_enter Tryz.func163,Tryz.ntmps163
  go_wp2
  go_region
  go_wp2
  go_ret2
  exact ⟨Y8v O.out (by omega),(Below.refl _ w).drew⟩
theorem Y6r (d:Int) (w:World) (hp:Yd6 w):Calls Tryz.prog 144 #[.int .i64 d] w fun e w'=> e = .returned (.tuple #[.string (Ybt d),.bool (!(Ybt d).data.toList.isEmpty)])∧Below w.heap.size w w':=by
 by_cases h0:d < -32
 ·have F:=Lib.hid (Yli (d:=d) (.inl h0))
  have t0:decide (d < -32)=true:=by simpa using h0
  clear h0
  rw [F.out]
  go_enter Tryz.func144,Tryz.ntmps144
  go_wp2
  go_ret2
  exact ⟨rfl,Below.refl _ _⟩
 by_cases h1:31<d
 ·have F:=Lib.hid (Yli (d:=d) (.inr h1))
  have t0:decide (d < -32)=false:=by simpa using h0
  have t1:decide (31<d)=true:=by simpa using h1
  clear h0 h1
  rw [F.out]
  go_enter Tryz.func144,Tryz.ntmps144
  go_wp2
  go_ret2
  exact ⟨rfl,Below.refl _ _⟩
 have hr:-32≤d∧d≤31:=by omega
 have t0:decide (d < -32)=false:=by simpa using h0
 have t1:decide (31<d)=false:=by simpa using h1
 have hcon:=fun x hx=> Y2j d hr x hx
 obtain ⟨b0,b1,b2,b3⟩:=Yn1 hr
 have G:=Lib.hid (show (!(Ybt d).data.toList.isEmpty)=true by rw [Yx7 hr];rfl)
 have F:=Lib.hid (Yn0 hr)
 rw [G.out,F.out]
 generalize Yff d=x at hcon b2 b3 ⊢
 generalize Yhz d=y at hcon b0 b1 b2 ⊢
 have hrow:=fun w=> Ykq (x:Int) (y:Int) w (by omega) (by
  unfold Yc9
  rw [decide_eq_true_iff]
  refine ⟨by omega,by omega,by omega,?_⟩
  rw [Int.toNat_natCast]
  exact_mod_cast b2)
 simp only [Int.toNat_natCast] at hrow
 clear h0 h1 F G b2
 go_enter Tryz.func144,Tryz.ntmps144
 go_wp2_with fail
 refine (hcon _ hp).mono ?_
 rintro e w1 ⟨rfl,hb1⟩
 have hz1:=hb1.size
 go_wp2_with fail
 refine (hrow _).mono ?_
 rintro e w2 ⟨rfl,hb⟩
 go_wp2
 go_ret2
 exact ⟨rfl,hb1.trans (hb.mono hz1)⟩
end Go.Proofs.YtgikochfffdpfaaGreatDoor
namespace Go.Proofs.YtgikochfffdpfaaGreatDoor
def Ymp (i:Nat):ByteArray×Int:=(Ybt ((i:Int)-32),(i:Int)-32)
def allD:List (ByteArray×Int):=(List.range 64).map Ymp
def rowsD:List (List UInt8):=allD.map Ya0
def dtk (b:List UInt8):Int×Int×Nat:=gtk allD b
theorem Ynj:Yhf rowsD:=by unfold Yhf;decide +kernel
theorem Qe6:∀x∈allD,Ycc (Ya0 x)=true:=by decide +kernel
theorem Yj3 {i:Nat} (h:i<64):Ymp i∈allD:=List.mem_map_of_mem (List.mem_range.2 h)
theorem Ynt {i:Nat} (h:i<64):Ya0 (Ymp i)∈rowsD:=List.mem_map_of_mem (Yj3 h)
theorem Yea (i:Nat):(Yi0 i).length=Yde i:=Yak _ _
theorem Qax:∀i,i<33→∀j,j<33→i≠j→(Yi0 i).isPrefixOf (Yi0 j)=false:=by decide +kernel
theorem Y8z:∀r∈rowsD,r=Yi0 0∨∃i∈List.range 33,r.dropLast=Yi0 i∧1<r.length:=by decide +kernel
theorem Yzs:Yi0 0=Ya0 (Ymp 32):=by decide +kernel
theorem Qg9:∀i,i<32→0<i→Yi0 i ++ [48]=Ya0 (Ymp (32+i)):=by decide +kernel
theorem Ym1:∀i,i<33→0<i→Yi0 i ++ [49]=Ya0 (Ymp (32-i)):=by decide +kernel
theorem Qay:∀r∈rowsD,(Yi0 32 ++ [48]).isPrefixOf r=false:=by decide +kernel
theorem Yla {i:Nat} (h:i<33):∃r∈rowsD,(Yi0 i).isPrefixOf r=true:=by
 by_cases h0:i=0
 ·subst h0
  exact ⟨_,Ynt (i:=32) (by decide),by rw [Yzs,Ydn]⟩
 ·refine ⟨_,Ynt (i:=32-i) (by omega),?_⟩
  rw [←Ym1 i h (by omega),List.isPrefixOf_iff_prefix]
  exact List.prefix_append _ _
theorem Qe9 {i j:Nat} (hi:i<33) (hj:j<33) (h:(Yi0 i).isPrefixOf (Yi0 j)=true):i=j:=by
 by_cases e:i=j
 ·exact e
 ·rw [Qax i hi j hj e] at h
  cases h
theorem Y5h {i:Nat} (hi:i<33) (h0:i≠0):Yi0 i∉rowsD:=by
 intro h
 have e:=Yjf Ynj h (Ynt (i:=32-i) (by omega)) (by rw [←Ym1 i hi (by omega),List.isPrefixOf_iff_prefix];exact List.prefix_append _ _)
 rw [←Ym1 i hi (by omega)] at e
 have:=congrArg List.length e
 rw [List.length_append,List.length_singleton] at this
 omega
def Yvy (q:List UInt8):Prop:=∀i,i<33→(Yi0 i).isPrefixOf q=false
theorem Qcu:Yvy []:=by unfold Yvy;decide +kernel
theorem Qdc {b r:List UInt8} {n:Nat} (hn:n+1≤b.length) (hno:Yvy (b.take n)) (hr:r∈rowsD) (hp:(b.take (n+1)).isPrefixOf r=true):∃i,i<33∧(b.take (n+1)).isPrefixOf (Yi0 i)=true:=by
 have hl:(b.take (n+1)).length=n+1:=by rw [List.length_take];omega
 rcases Y8z r hr with rfl | ⟨i,hi,hd,h1⟩
 ·exact ⟨0,by decide,hp⟩
 ·rw [List.mem_range] at hi
  refine ⟨i,hi,?_⟩
  by_cases hlt:(b.take (n+1)).length<r.length
  ·rw [←hd]
   exact Qc3 hp hlt
  ·exfalso
   have hle:=Yby hp
   have e:b.take (n+1)=r:=by
    have:=Ybz.1 hp
    rw [List.take_of_length_le (by omega)] at this
    exact this.symm
   have h2:(Yi0 i).isPrefixOf (b.take n)=true:=by
    rw [←hd,←e,List.dropLast_eq_take,List.take_take,hl,show min (n+1-1) (n+1)=n by omega,Ydn]
   rw [hno i hi] at h2
   cases h2
theorem Qb0 {b:List UInt8} {k n:Nat} (hn:n+1≤b.length) (hno:Yvy (b.take n)) (h:∀i,i<33→(b.take (n+1)).isPrefixOf (Yi0 i)=false):tk rowsD b (k+1) (n+1)=(3,0):=by
 refine Y9z hn fun r hr=> ?_
 cases hp:(b.take (n+1)).isPrefixOf r with
 | false=> rfl
 | true=>
  obtain ⟨i,hi,h2⟩:=Qdc hn hno hr hp
  rw [h i hi] at h2
  cases h2
theorem Qbz {b:List UInt8} {k n i:Nat} (hn:n+1≤b.length) (hno:Yvy (b.take n)) (hi:i<33) (h:(b.take (n+1)).isPrefixOf (Yi0 i)=true) (hne:Yde i≠n+1):
  tk rowsD b (k+1) (n+1)=tk rowsD b k (n+2)∧Yvy (b.take (n+1)):=by
 have hl:(b.take (n+1)).length=n+1:=by rw [List.length_take];omega
 have hlt:=Yby h
 rw [hl,Yea] at hlt
 have hnone:Yvy (b.take (n+1)):=by
  intro j hj
  cases hp:(Yi0 j).isPrefixOf (b.take (n+1)) with
  | false=> rfl
  | true=>
   have e:=Qe9 hj hi (Yfl hp h)
   subst e
   have:=Yby hp
   rw [hl,Yea] at this
   omega
 refine ⟨?_,hnone⟩
 obtain ⟨r,hr,hp⟩:=Yla hi
 refine Ytv hn (fun hm=> ?_) hr (Yfl h hp)
 rcases Y8z _ hm with e | ⟨j,hj,hd,_⟩
 ·have:=hnone 0 (by decide)
  rw [e,Ydn] at this
  cases this
 ·have:=hno j (List.mem_range.1 hj)
  rw [←hd,List.dropLast_eq_take,List.take_take,hl,show min (n+1-1) (n+1)=n by omega,Ydn] at this
  cases this
theorem Qaz {b:List UInt8} {i n:Nat} (hn:n≤b.length) (h:(b.take n).isPrefixOf (Yi0 i)=true) (he:Yde i=n):b.take n=Yi0 i:=by
 have:=Ybz.1 h
 rw [List.take_of_length_le (by rw [Yea,List.length_take];omega)] at this
 exact this.symm
theorem Qb2 {b:List UInt8} (hb:b.take (Yde 0)=Yi0 0):dtk b=(0,0,1):=by
 have hp:(Yi0 0).isPrefixOf b=true:=by rw [←hb];exact Yg4 _ _
 rw [Yzs] at hp
 have:=Yoa Ynj (Yj3 (i:=32) (by decide)) (by decide +kernel) (by decide +kernel) hp
 rw [show (Ya0 (Ymp 32)).length=1 by decide +kernel] at this
 exact this
theorem Ysn {b:List UInt8} {i n:Nat} (hi:i<33) (h0:i≠0) (he:Yde i=n) (hn:n≤b.length) (hb:b.take n=Yi0 i) (ht:tk rowsD b 25 1=tk rowsD b (26-n) n) (hs:b.length<n+1):dtk b=(0,2,0):=by
 have h12:=(Ycy i hi).2.1
 obtain ⟨r,hr,hp⟩:=Yla hi
 refine Yjj (n:=0) (ht.trans ?_) (by decide)
 rw [show 26-n=(24-n)+1+1 by omega,Ytv hn (by rw [hb];exact Y5h hi h0) hr (by rw [hb];exact hp)]
 exact Ytw hs
theorem Yr8 {b:List UInt8} {i n:Nat} (hn:n<b.length) (hb:b.take n=Yi0 i) {c:UInt8} (hc:b[n]=c):b.take (n+1)=Yi0 i ++ [c]:=by
 rw [List.take_succ_eq_append_getElem hn,hb,hc]
theorem Yu0 {b:List UInt8} {n:Nat} (he:Yde 32=n) (hn:n<b.length) (hb:b.take n=Yi0 32) (hc:b[n]=48) (ht:tk rowsD b 25 1=tk rowsD b (26-n) n):dtk b=(0,3,0):=by
 have h12:n≤12:=by rw [←he];exact (Ycy 32 (by decide)).2.1
 obtain ⟨r,hr,hp⟩:=Yla (i:=32) (by decide)
 refine Yjj (n:=0) (ht.trans ?_) (by decide)
 rw [show 26-n=(24-n)+1+1 by omega,Ytv (by omega) (by rw [hb];exact Y5h (by decide) (by decide)) hr (by rw [hb];exact hp)]
 refine Y9z (by omega) fun r hr=> ?_
 rw [Yr8 hn hb hc]
 exact Qay r hr
theorem Yya {b:List UInt8} {j:Nat} (hj:j<64) (hp:(Ya0 (Ymp j)).isPrefixOf b=true):dtk b=((j:Int)-32,0,(Ya0 (Ymp j)).length):=by
 obtain ⟨h1,h2,_⟩:=Ybw (Qe6 _ (Yj3 hj))
 exact Yoa Ynj (Yj3 hj) (by have:=List.length_pos_iff.2 h1;omega) h2 hp
theorem Y2t {b:List UInt8} {i n:Nat} (hi:i<32) (h0:0<i) (he:Yde i=n) (hn:n<b.length) (hb:b.take n=Yi0 i) (hc:b[n]=48):dtk b=((i:Int),0,n+1):=by
 have e:=Qg9 i hi h0
 have hp:(Ya0 (Ymp (32+i))).isPrefixOf b=true:=by rw [←e,←Yr8 hn hb hc];exact Yg4 _ _
 rw [Yya (by omega) hp,←e,List.length_append,Yea,he,show ((32+i:Nat):Int)-32=i by omega]
 rfl
theorem Yuz {b:List UInt8} {i n:Nat} (hi:i<33) (h0:0<i) (he:Yde i=n) (hn:n<b.length) (hb:b.take n=Yi0 i) (hc:b[n]=49):dtk b=(-(i:Int),0,n+1):=by
 have e:=Ym1 i hi h0
 have hp:(Ya0 (Ymp (32-i))).isPrefixOf b=true:=by rw [←e,←Yr8 hn hb hc];exact Yg4 _ _
 rw [Yya (by omega) hp,←e,List.length_append,Yea,he,show ((32-i:Nat):Int)-32 = -(i:Int) by omega]
 rfl
end Go.Proofs.YtgikochfffdpfaaGreatDoor
namespace Go.Proofs.YtgikochfffdpfaaGreatDoor
open Go.RowKit Go.Lib
theorem Y0p:(Rows.laid_overspill_mvd_codes:DataW Unit)=tabData .i64 (Qfm.map fun z:Nat=> (z:Int))∧(Rows.laid_overspill_mvd_lengths:DataW Unit)=tabData .i64 (Qg2.map fun z:Nat=> (z:Int)):=⟨by kernel_rfl,by kernel_rfl⟩
theorem Qhj (l:List Nat) (i:Nat) (h:i<(l.map fun z:Nat=> (z:Int)).length):(l.map fun z:Nat=> (z:Int))[i]=((l[i]?.getD 0:Nat):Int):=by
 have h2:i<l.length:=by simpa using h
 rw [List.getElem_map,List.getElem?_eq_getElem h2]
 rfl
theorem Qcs {laid : List (String × DataW Unit)} {W : World} (hL : laidMetH Tryz.prog laid W) (hm : (("overspill/mvd.codes", Rows.laid_overspill_mvd_codes) ∈ laid ∧ ("overspill/mvd.lengths", Rows.laid_overspill_mvd_lengths) ∈ laid) ∧ (laid.all fun x => x.2.handleName?.isNone) = true) : Yd6 W := by
 rw [MakeChecks.laidMetH_plain _ _ _ hm.2] at hL
 obtain ⟨ps,hv,_,_⟩:=hL
 obtain ⟨h1,h2⟩:=hm.1
 rw [Y0p.1] at h1
 rw [Y0p.2] at h2
 have hlc:(Qfm.map fun z:Nat=> (z:Int)).length=33:=rfl
 have hll:(Qg2.map fun z:Nat=> (z:Int)).length=33:=rfl
 intro i hi
 have g1:=Yvn hv h1 (g:=2) (t:=209) (by kernel_rfl) (by kernel_rfl) Tryz.underlying209 Tryz.underlying3 (by kernel_rfl) (by kernel_rfl) i (by rw [hlc];exact hi)
 have g2:=Yvn hv h2 (g:=3) (t:=209) (by kernel_rfl) (by kernel_rfl) Tryz.underlying209 Tryz.underlying3 (by kernel_rfl) (by kernel_rfl) i (by rw [hll];exact hi)
 rw [Qhj] at g1 g2
 exact ⟨g1,g2⟩
end Go.Proofs.YtgikochfffdpfaaGreatDoor