/- Texts that SheetoutOnce's proof stands on, part 22 of 52. No condition of its own. -/
import Derived.Test.YtgikochfffdpfaaGreatDoorSheetoutOnceMc
import Derived.Test.YtgikochfffdpfaaGreatDoorSheetoutOnceMf
import Derived.Test.YtgikochfffdpfaaGreatDoorSheetoutOnceMr
import Derived.Test.YtgikochfffdpfaaGreatDoorSheetoutOnceMu
import Derived.WalkMore
import Derived.IntWalk
import Derived.WalkKit
import Derived.Lib.LaidTab
import Derived.MakeChecks
import Derived.Test.YtgikochfffdpfaaGreatDoorRows
namespace Go.Proofs.YtgikochfffdpfaaGreatDoor
open Go.RowKit Go.Lib
def Qcj:List Nat:=[1,1,1,1,3,5,4,3,11,10,9,17,16,15,14,13,12,11,10,9,8,7,6,5,4,7,6,5,4,3,2,3,2]
def Qd5:List Nat:=[1,2,3,4,6,7,7,7,9,9,9,10,10,10,10,10,10,10,10,10,10,10,10,10,10,11,11,11,11,11,11,12,12]
def Yfk (i:Nat):Nat:=Qcj[i]?.getD 0
def Yc3 (i:Nat):Nat:=Qd5[i]?.getD 0
theorem Yct:∀i,i<33→1≤Yc3 i∧Yc3 i≤12∧Yfk i<2^Yc3 i∧Yfk i≤17:=by decide +kernel
def Yh9 (i:Nat):List UInt8:=Yau (Yfk i) (Yc3 i)
def Yer (d:Int):Nat:=if d=0 then 1 else if 0<d then 2*Yfk d.toNat else 2*Yfk (-d).toNat+1
def Yg7 (d:Int):Nat:=if d=0 then 1 else if 0<d then Yc3 d.toNat+1 else Yc3 (-d).toNat+1
def Ybw (d:Int):ByteArray:=if -32≤d∧d≤31 then ⟨(Yau (Yer d) (Yg7 d)).toArray⟩ else ⟨#[]⟩
theorem Ykf {d:Int} (h:d < -32∨31<d):Ybw d=⟨#[]⟩:=by
 unfold Ybw
 rw [if_neg (by omega)]
theorem Ymj {d:Int} (h:-32≤d∧d≤31):Ybw d=⟨(Yau (Yer d) (Yg7 d)).toArray⟩:=by
 unfold Ybw
 rw [if_pos h]
theorem Ymk {d:Int} (h:-32≤d∧d≤31):1≤Yg7 d∧Yg7 d≤13∧Yer d<2^Yg7 d∧Yer d≤35:=by
 have e:∀i:Nat,i<64→1≤Yg7 ((i:Int)-32)∧Yg7 ((i:Int)-32)≤13∧Yer ((i:Int)-32)<2^Yg7 ((i:Int)-32)∧Yer ((i:Int)-32)≤35:=by decide +kernel
 have:=e (d+32).toNat (by omega)
 rwa [show (((d+32).toNat:Nat):Int)-32=d by omega] at this
theorem Ywi {d:Int} (h:-32≤d∧d≤31):(Ybw d).data.toList.isEmpty=false:=by
 rw [Ymj h]
 show (Yau (Yer d) (Yg7 d)).isEmpty=false
 have:=Ymk h
 cases hl:Yau (Yer d) (Yg7 d) with
 | nil=>
  have e:=Yam (Yer d) (Yg7 d)
  rw [hl] at e
  simp at e
  omega
 | cons a l=> rfl
def Ydo (w:World):Prop:=∀i,i<33→w.cell? ⟨2,i,none⟩=some (.int .i64 (Yfk i:Nat))∧w.cell? ⟨3,i,none⟩=some (.int .i64 (Yc3 i:Nat))
theorem Ydo.lt {w:World} (h:Ydo w):2<w.heap.size∧3<w.heap.size:=
 ⟨World.block_lt_of_cell? w ⟨2,0,none⟩ (h 0 (by decide)).1,World.block_lt_of_cell? w ⟨3,0,none⟩ (h 0 (by decide)).2⟩
theorem Ydo.below {w w':World} (h:Ydo w) (hb:Below w.heap.size w w'):Ydo w':=fun i hi=>
 ⟨(hb.cell (p:=⟨2,i,none⟩) h.lt.1).trans (h i hi).1,(hb.cell (p:=⟨3,i,none⟩) h.lt.2).trans (h i hi).2⟩
theorem Qep (y:Nat) (hy:y<4294967296):bits .or .i64 ((y:Int)*2) 1=((2*y+1:Nat):Int):=by
 have hor:=Nat.two_pow_add_eq_or_of_lt (i:=1) (b:=1) (by omega) y
 have e1:((y:Int)*2)=((2*y:Nat):Int):=by omega
 rw [e1]
 show IntKind.i64.wrap ((BitVec.ofInt 64 ((2*y:Nat):Int) ||| BitVec.ofInt 64 ((1:Nat):Int)).toNat:Int)=_
 rw [BitVec.ofInt_natCast,BitVec.ofInt_natCast,BitVec.toNat_or,BitVec.toNat_ofNat,BitVec.toNat_ofNat,Nat.mod_eq_of_lt (by omega),Nat.mod_eq_of_lt (by omega)]
 have e2:2*y ||| 1=2*y+1:=by
  have e:(2:Nat)^1=2:=rfl
  rw [e] at hor
  exact hor.symm
 rw [e2,IntKind.wrap_i64]
 omega
theorem Y54 {a b c d:Int} {k k':IntKind} (h:a=c) (h':b=d):Ending.returned (.tuple #[.int k a,.int k' b]) = .returned (.tuple #[.int k c,.int k' d]):=by rw [h,h']
set_option maxHeartbeats 1000000 in
theorem Y0f (d:Int) (h:-32≤d∧d≤31) (w:World) (hp:Ydo w):Calls Tryz.prog 163 #[.int .i64 d] w fun e w'=> e = .returned (.tuple #[.int .i64 (Yer d:Nat),.int .i64 (Yg7 d:Nat)])∧Below w.heap.size w w':=by
 by_cases h0:d=0
 ·subst h0
  have c0:w.cell? ⟨2,0,none⟩=some (.int .i64 1):=(hp 0 (by decide)).1
  have c1:w.cell? ⟨3,0,none⟩=some (.int .i64 1):=(hp 0 (by decide)).2
  go_enter Tryz.func163,Tryz.ntmps163
  go_wp2
  go_region
  go_wp2
  go_ret2
  exact ⟨rfl,(Below.refl _ w).drew⟩
 by_cases h1:0<d
 ·have F1:=Lib.hid (show Yer d=2*Yfk d.toNat by unfold Yer;rw [if_neg h0,if_pos h1])
  have F2:=Lib.hid (show Yg7 d=Yc3 d.toNat+1 by unfold Yg7;rw [if_neg h0,if_pos h1])
  rw [F1.out,F2.out]
  obtain ⟨a,ha⟩:∃a:Nat,d=a:=⟨d.toNat,by omega⟩
  subst ha
  rw [Int.toNat_natCast]
  have ha33:a<33:=by omega
  obtain ⟨c0,c1⟩:=hp a ha33
  obtain ⟨b0,b1,_,b3⟩:=Yct a ha33
  have t0:0<a:=by omega
  generalize Yfk a=x at c0 b3 ⊢
  generalize Yc3 a=y at c1 b0 b1 ⊢
  clear F1 F2 h0 h1
  go_enter Tryz.func163,Tryz.ntmps163
  go_wp2
  go_region
  go_wp2
  go_ret2
  exact ⟨Y54 (by omega) (by omega),(Below.refl _ w).drew⟩
 ·have F1:=Lib.hid (show Yer d=2*Yfk (-d).toNat+1 by unfold Yer;rw [if_neg h0,if_neg h1])
  have F2:=Lib.hid (show Yg7 d=Yc3 (-d).toNat+1 by unfold Yg7;rw [if_neg h0,if_neg h1])
  rw [F1.out,F2.out]
  obtain ⟨a,ha⟩:∃a:Nat,(-d).toNat=a:=⟨_,rfl⟩
  have t2:-d=(a:Int):=by omega
  rw [ha]
  have ha33:a<33:=by omega
  obtain ⟨c0,c1⟩:=hp a ha33
  obtain ⟨b0,b1,_,b3⟩:=Yct a ha33
  have t0:decide (0<d)=false:=by simpa using h1
  have t1:decide (d<0)=true:=by simp;omega
  generalize Yfk a=x at c0 b3 ⊢
  generalize Yc3 a=y at c1 b0 b1 ⊢
  have O:=Lib.hid (Qep x (by omega))
  clear F1 F2 h0 h1 ha
  go_enter Tryz.func163,Tryz.ntmps163
  go_wp2
  go_region
  go_wp2
  go_ret2
  exact ⟨Y54 O.out (by omega),(Below.refl _ w).drew⟩
theorem Y4d (d:Int) (w:World) (hp:Ydo w):Calls Tryz.prog 144 #[.int .i64 d] w fun e w'=> e = .returned (.tuple #[.string (Ybw d),.bool (!(Ybw d).data.toList.isEmpty)])∧Below w.heap.size w w':=by
 by_cases h0:d < -32
 ·have F:=Lib.hid (Ykf (d:=d) (.inl h0))
  have t0:decide (d < -32)=true:=by simpa using h0
  clear h0
  rw [F.out]
  go_enter Tryz.func144,Tryz.ntmps144
  go_wp2
  go_ret2
  exact ⟨rfl,Below.refl _ _⟩
 by_cases h1:31<d
 ·have F:=Lib.hid (Ykf (d:=d) (.inr h1))
  have t0:decide (d < -32)=false:=by simpa using h0
  have t1:decide (31<d)=true:=by simpa using h1
  clear h0 h1
  rw [F.out]
  go_enter Tryz.func144,Tryz.ntmps144
  go_wp2
  go_ret2
  exact ⟨rfl,Below.refl _ _⟩
 have hr:-32≤d∧d≤31:=by omega
 have t0:decide (d < -32)=false:=by simpa using h0
 have t1:decide (31<d)=false:=by simpa using h1
 have hcon:=fun x hx=> Y0f d hr x hx
 obtain ⟨b0,b1,b2,b3⟩:=Ymk hr
 have G:=Lib.hid (show (!(Ybw d).data.toList.isEmpty)=true by rw [Ywi hr];rfl)
 have F:=Lib.hid (Ymj hr)
 rw [G.out,F.out]
 generalize Yer d=x at hcon b2 b3 ⊢
 generalize Yg7 d=y at hcon b0 b1 b2 ⊢
 have hrow:=fun w=> Yjx (x:Int) (y:Int) w (by omega) (by
  unfold Ycx
  rw [decide_eq_true_iff]
  refine ⟨by omega,by omega,by omega,?_⟩
  rw [Int.toNat_natCast]
  exact_mod_cast b2)
 simp only [Int.toNat_natCast] at hrow
 clear h0 h1 F G b2
 go_enter Tryz.func144,Tryz.ntmps144
 go_wp2_with fail
 refine (hcon _ hp).mono ?_
 rintro e w1 ⟨rfl,hb1⟩
 have hz1:=hb1.size
 go_wp2_with fail
 refine (hrow _).mono ?_
 rintro e w2 ⟨rfl,hb⟩
 go_wp2
 go_ret2
 exact ⟨rfl,hb1.trans (hb.mono hz1)⟩
end Go.Proofs.YtgikochfffdpfaaGreatDoor
namespace Go.Proofs.YtgikochfffdpfaaGreatDoor
def Ymd (i:Nat):ByteArray×Int:=(Ybw ((i:Int)-32),(i:Int)-32)
def allD:List (ByteArray×Int):=(List.range 64).map Ymd
def rowsD:List (List UInt8):=allD.map Yax
def dtk (b:List UInt8):Int×Int×Nat:=gtk allD b
theorem Yl6:Ygr rowsD:=by unfold Ygr;decide +kernel
theorem Qb3:∀x∈allD,Yb7 (Yax x)=true:=by decide +kernel
theorem Yjb {i:Nat} (h:i<64):Ymd i∈allD:=List.mem_map_of_mem (List.mem_range.2 h)
theorem Yme {i:Nat} (h:i<64):Yax (Ymd i)∈rowsD:=List.mem_map_of_mem (Yjb h)
theorem Yds (i:Nat):(Yh9 i).length=Yc3 i:=Yam _ _
theorem Y7y:∀i,i<33→∀j,j<33→i≠j→(Yh9 i).isPrefixOf (Yh9 j)=false:=by decide +kernel
theorem Y58:∀r∈rowsD,r=Yh9 0∨∃i∈List.range 33,r.dropLast=Yh9 i∧1<r.length:=by decide +kernel
theorem Yxy:Yh9 0=Yax (Ymd 32):=by decide +kernel
theorem Qea:∀i,i<32→0<i→Yh9 i ++ [48]=Yax (Ymd (32+i)):=by decide +kernel
theorem Ylp:∀i,i<33→0<i→Yh9 i ++ [49]=Yax (Ymd (32-i)):=by decide +kernel
theorem Y7z:∀r∈rowsD,(Yh9 32 ++ [48]).isPrefixOf r=false:=by decide +kernel
theorem Yka {i:Nat} (h:i<33):∃r∈rowsD,(Yh9 i).isPrefixOf r=true:=by
 by_cases h0:i=0
 ·subst h0
  exact ⟨_,Yme (i:=32) (by decide),by rw [Yxy,Yda]⟩
 ·refine ⟨_,Yme (i:=32-i) (by omega),?_⟩
  rw [←Ylp i h (by omega),List.isPrefixOf_iff_prefix]
  exact List.prefix_append _ _
theorem Qb6 {i j:Nat} (hi:i<33) (hj:j<33) (h:(Yh9 i).isPrefixOf (Yh9 j)=true):i=j:=by
 by_cases e:i=j
 ·exact e
 ·rw [Y7y i hi j hj e] at h
  cases h
theorem Y3a {i:Nat} (hi:i<33) (h0:i≠0):Yh9 i∉rowsD:=by
 intro h
 have e:=Yio Yl6 h (Yme (i:=32-i) (by omega)) (by rw [←Ylp i hi (by omega),List.isPrefixOf_iff_prefix];exact List.prefix_append _ _)
 rw [←Ylp i hi (by omega)] at e
 have:=congrArg List.length e
 rw [List.length_append,List.length_singleton] at this
 omega
def Yub (q:List UInt8):Prop:=∀i,i<33→(Yh9 i).isPrefixOf q=false
theorem Y9q:Yub []:=by unfold Yub;decide +kernel
theorem Y99 {b r:List UInt8} {n:Nat} (hn:n+1≤b.length) (hno:Yub (b.take n)) (hr:r∈rowsD) (hp:(b.take (n+1)).isPrefixOf r=true):∃i,i<33∧(b.take (n+1)).isPrefixOf (Yh9 i)=true:=by
 have hl:(b.take (n+1)).length=n+1:=by rw [List.length_take];omega
 rcases Y58 r hr with rfl | ⟨i,hi,hd,h1⟩
 ·exact ⟨0,by decide,hp⟩
 ·rw [List.mem_range] at hi
  refine ⟨i,hi,?_⟩
  by_cases hlt:(b.take (n+1)).length<r.length
  ·rw [←hd]
   exact Y90 hp hlt
  ·exfalso
   have hle:=Ybs hp
   have e:b.take (n+1)=r:=by
    have:=Yb3.1 hp
    rw [List.take_of_length_le (by omega)] at this
    exact this.symm
   have h2:(Yh9 i).isPrefixOf (b.take n)=true:=by
    rw [←hd,←e,List.dropLast_eq_take,List.take_take,hl,show min (n+1-1) (n+1)=n by omega,Yda]
   rw [hno i hi] at h2
   cases h2
theorem Y80 {b:List UInt8} {k n:Nat} (hn:n+1≤b.length) (hno:Yub (b.take n)) (h:∀i,i<33→(b.take (n+1)).isPrefixOf (Yh9 i)=false):tk rowsD b (k+1) (n+1)=(3,0):=by
 refine Y64 hn fun r hr=> ?_
 cases hp:(b.take (n+1)).isPrefixOf r with
 | false=> rfl
 | true=>
  obtain ⟨i,hi,h2⟩:=Y99 hn hno hr hp
  rw [h i hi] at h2
  cases h2
theorem Y8z {b:List UInt8} {k n i:Nat} (hn:n+1≤b.length) (hno:Yub (b.take n)) (hi:i<33) (h:(b.take (n+1)).isPrefixOf (Yh9 i)=true) (hne:Yc3 i≠n+1):
  tk rowsD b (k+1) (n+1)=tk rowsD b k (n+2)∧Yub (b.take (n+1)):=by
 have hl:(b.take (n+1)).length=n+1:=by rw [List.length_take];omega
 have hlt:=Ybs h
 rw [hl,Yds] at hlt
 have hnone:Yub (b.take (n+1)):=by
  intro j hj
  cases hp:(Yh9 j).isPrefixOf (b.take (n+1)) with
  | false=> rfl
  | true=>
   have e:=Qb6 hj hi (Yex hp h)
   subst e
   have:=Ybs hp
   rw [hl,Yds] at this
   omega
 refine ⟨?_,hnone⟩
 obtain ⟨r,hr,hp⟩:=Yka hi
 refine Yr4 hn (fun hm=> ?_) hr (Yex h hp)
 rcases Y58 _ hm with e | ⟨j,hj,hd,_⟩
 ·have:=hnone 0 (by decide)
  rw [e,Yda] at this
  cases this
 ·have:=hno j (List.mem_range.1 hj)
  rw [←hd,List.dropLast_eq_take,List.take_take,hl,show min (n+1-1) (n+1)=n by omega,Yda] at this
  cases this
theorem Y70 {b:List UInt8} {i n:Nat} (hn:n≤b.length) (h:(b.take n).isPrefixOf (Yh9 i)=true) (he:Yc3 i=n):b.take n=Yh9 i:=by
 have:=Yb3.1 h
 rw [List.take_of_length_le (by rw [Yds,List.length_take];omega)] at this
 exact this.symm
theorem Y82 {b:List UInt8} (hb:b.take (Yc3 0)=Yh9 0):dtk b=(0,0,1):=by
 have hp:(Yh9 0).isPrefixOf b=true:=by rw [←hb];exact Ygd _ _
 rw [Yxy] at hp
 have:=Ywp Yl6 (Yjb (i:=32) (by decide)) (by decide +kernel) (by decide +kernel) hp
 rw [show (Yax (Ymd 32)).length=1 by decide +kernel] at this
 exact this
theorem Yqv {b:List UInt8} {i n:Nat} (hi:i<33) (h0:i≠0) (he:Yc3 i=n) (hn:n≤b.length) (hb:b.take n=Yh9 i) (ht:tk rowsD b 25 1=tk rowsD b (26-n) n) (hs:b.length<n+1):dtk b=(0,2,0):=by
 have h12:=(Yct i hi).2.1
 obtain ⟨r,hr,hp⟩:=Yka hi
 refine Yis (n:=0) (ht.trans ?_) (by decide)
 rw [show 26-n=(24-n)+1+1 by omega,Yr4 hn (by rw [hb];exact Y3a hi h0) hr (by rw [hb];exact hp)]
 exact Yr5 hs
theorem Yqf {b:List UInt8} {i n:Nat} (hn:n<b.length) (hb:b.take n=Yh9 i) {c:UInt8} (hc:b[n]=c):b.take (n+1)=Yh9 i ++ [c]:=by
 rw [List.take_succ_eq_append_getElem hn,hb,hc]
theorem Ytd {b:List UInt8} {n:Nat} (he:Yc3 32=n) (hn:n<b.length) (hb:b.take n=Yh9 32) (hc:b[n]=48) (ht:tk rowsD b 25 1=tk rowsD b (26-n) n):dtk b=(0,3,0):=by
 have h12:n≤12:=by rw [←he];exact (Yct 32 (by decide)).2.1
 obtain ⟨r,hr,hp⟩:=Yka (i:=32) (by decide)
 refine Yis (n:=0) (ht.trans ?_) (by decide)
 rw [show 26-n=(24-n)+1+1 by omega,Yr4 (by omega) (by rw [hb];exact Y3a (by decide) (by decide)) hr (by rw [hb];exact hp)]
 refine Y64 (by omega) fun r hr=> ?_
 rw [Yqf hn hb hc]
 exact Y7z r hr
theorem Y4f {b:List UInt8} {j:Nat} (hj:j<64) (hp:(Yax (Ymd j)).isPrefixOf b=true):dtk b=((j:Int)-32,0,(Yax (Ymd j)).length):=by
 obtain ⟨h1,h2,_⟩:=Yb0 (Qb3 _ (Yjb hj))
 exact Ywp Yl6 (Yjb hj) (by have:=List.length_pos_iff.2 h1;omega) h2 hp
theorem Y0p {b:List UInt8} {i n:Nat} (hi:i<32) (h0:0<i) (he:Yc3 i=n) (hn:n<b.length) (hb:b.take n=Yh9 i) (hc:b[n]=48):dtk b=((i:Int),0,n+1):=by
 have e:=Qea i hi h0
 have hp:(Yax (Ymd (32+i))).isPrefixOf b=true:=by rw [←e,←Yqf hn hb hc];exact Ygd _ _
 rw [Y4f (by omega) hp,←e,List.length_append,Yds,he,show ((32+i:Nat):Int)-32=i by omega]
 rfl
theorem Ytc {b:List UInt8} {i n:Nat} (hi:i<33) (h0:0<i) (he:Yc3 i=n) (hn:n<b.length) (hb:b.take n=Yh9 i) (hc:b[n]=49):dtk b=(-(i:Int),0,n+1):=by
 have e:=Ylp i hi h0
 have hp:(Yax (Ymd (32-i))).isPrefixOf b=true:=by rw [←e,←Yqf hn hb hc];exact Ygd _ _
 rw [Y4f (by omega) hp,←e,List.length_append,Yds,he,show ((32-i:Nat):Int)-32 = -(i:Int) by omega]
 rfl
end Go.Proofs.YtgikochfffdpfaaGreatDoor
namespace Go.Proofs.YtgikochfffdpfaaGreatDoor
open Go.RowKit Go.Lib
theorem Yyt:(Rows.laid_overspill_mvd_codes:DataW Unit)=tabData .i64 (Qcj.map fun z:Nat=> (z:Int))∧(Rows.laid_overspill_mvd_lengths:DataW Unit)=tabData .i64 (Qd5.map fun z:Nat=> (z:Int)):=⟨by kernel_rfl,by kernel_rfl⟩
theorem Qem (l:List Nat) (i:Nat) (h:i<(l.map fun z:Nat=> (z:Int)).length):(l.map fun z:Nat=> (z:Int))[i]=((l[i]?.getD 0:Nat):Int):=by
 have h2:i<l.length:=by simpa using h
 rw [List.getElem_map,List.getElem?_eq_getElem h2]
 rfl
theorem Y9o {laid : List (String × DataW Unit)} {W : World} (hL : laidMetH Tryz.prog laid W) (hm : (("overspill/mvd.codes", Rows.laid_overspill_mvd_codes) ∈ laid ∧ ("overspill/mvd.lengths", Rows.laid_overspill_mvd_lengths) ∈ laid) ∧ (laid.all fun x => x.2.handleName?.isNone) = true) : Ydo W := by
 rw [MakeChecks.laidMetH_plain _ _ _ hm.2] at hL
 obtain ⟨ps,hv,_,_⟩:=hL
 obtain ⟨h1,h2⟩:=hm.1
 rw [Yyt.1] at h1
 rw [Yyt.2] at h2
 have hlc:(Qcj.map fun z:Nat=> (z:Int)).length=33:=rfl
 have hll:(Qd5.map fun z:Nat=> (z:Int)).length=33:=rfl
 intro i hi
 have g1:=Yt2 hv h1 (g:=2) (t:=209) (by kernel_rfl) (by kernel_rfl) Tryz.underlying209 Tryz.underlying3 (by kernel_rfl) (by kernel_rfl) i (by rw [hlc];exact hi)
 have g2:=Yt2 hv h2 (g:=3) (t:=209) (by kernel_rfl) (by kernel_rfl) Tryz.underlying209 Tryz.underlying3 (by kernel_rfl) (by kernel_rfl) i (by rw [hll];exact hi)
 rw [Qem] at g1 g2
 exact ⟨g1,g2⟩
end Go.Proofs.YtgikochfffdpfaaGreatDoor