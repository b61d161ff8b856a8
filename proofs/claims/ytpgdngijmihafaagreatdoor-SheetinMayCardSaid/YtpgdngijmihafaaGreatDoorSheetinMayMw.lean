/- Texts that SheetinMay's proof stands on, part 23 of 52. No condition of its own. -/
import Derived.Test.YtpgdngijmihafaaGreatDoorSheetinMayMc
import Derived.Test.YtpgdngijmihafaaGreatDoorSheetinMayMf
import Derived.Test.YtpgdngijmihafaaGreatDoorSheetinMayMs
import Derived.Test.YtpgdngijmihafaaGreatDoorSheetinMayMv
import Derived.WalkMore
import Derived.IntWalk
import Derived.WalkKit
import Derived.Lib.LaidTab
import Derived.MakeChecks
import Derived.Test.YtpgdngijmihafaaGreatDoorRows
namespace Go.Proofs.YtpgdngijmihafaaGreatDoor
open Go.RowKit Go.Lib
def Y9h:List Nat:=[1,1,1,1,3,5,4,3,11,10,9,17,16,15,14,13,12,11,10,9,8,7,6,5,4,7,6,5,4,3,2,3,2]
def Y97:List Nat:=[1,2,3,4,6,7,7,7,9,9,9,10,10,10,10,10,10,10,10,10,10,10,10,10,10,11,11,11,11,11,11,12,12]
def Yh6 (i:Nat):Nat:=Y9h[i]?.getD 0
def Yc5 (i:Nat):Nat:=Y97[i]?.getD 0
theorem Ydc:∀i,i<33→1≤Yc5 i∧Yc5 i≤12∧Yh6 i<2^Yc5 i∧Yh6 i≤17:=by decide +kernel
def Ygr (i:Nat):List UInt8:=Yau (Yh6 i) (Yc5 i)
def Qax (d:Int):Nat:=if d=0 then 1 else if 0<d then 2*Yh6 d.toNat else 2*Yh6 (-d).toNat+1
def Qa8 (d:Int):Nat:=if d=0 then 1 else if 0<d then Yc5 d.toNat+1 else Yc5 (-d).toNat+1
def Yk0 (d:Int):ByteArray:=if -32≤d∧d≤31 then ⟨(Yau (Qax d) (Qa8 d)).toArray⟩ else ⟨#[]⟩
def Ydp (w:World):Prop:=∀i,i<33→w.cell? ⟨2,i,none⟩=some (.int .i64 (Yh6 i:Nat))∧w.cell? ⟨1,i,none⟩=some (.int .i64 (Yc5 i:Nat))
theorem Ydp.lt {w:World} (h:Ydp w):2<w.heap.size∧1<w.heap.size:=
 ⟨World.block_lt_of_cell? w ⟨2,0,none⟩ (h 0 (by decide)).1,World.block_lt_of_cell? w ⟨1,0,none⟩ (h 0 (by decide)).2⟩
theorem Ydp.below {w w':World} (h:Ydp w) (hb:Below w.heap.size w w'):Ydp w':=fun i hi=>
 ⟨(hb.cell (p:=⟨2,i,none⟩) h.lt.1).trans (h i hi).1,(hb.cell (p:=⟨1,i,none⟩) h.lt.2).trans (h i hi).2⟩
end Go.Proofs.YtpgdngijmihafaaGreatDoor
namespace Go.Proofs.YtpgdngijmihafaaGreatDoor
def Ylb (i:Nat):ByteArray×Int:=(Yk0 ((i:Int)-32),(i:Int)-32)
def allD:List (ByteArray×Int):=(List.range 64).map Ylb
def rowsD:List (List UInt8):=allD.map Yav
def dtk (b:List UInt8):Int×Int×Nat:=gtk allD b
theorem Yku:Yfs rowsD:=by unfold Yfs;decide +kernel
theorem Y8f:∀x∈allD,Ybx (Yav x)=true:=by decide +kernel
theorem Yhk {i:Nat} (h:i<64):Ylb i∈allD:=List.mem_map_of_mem (List.mem_range.2 h)
theorem Yk3 {i:Nat} (h:i<64):Yav (Ylb i)∈rowsD:=List.mem_map_of_mem (Yhk h)
theorem Yc9 (i:Nat):(Ygr i).length=Yc5 i:=Yao _ _
theorem Y34:∀i,i<33→∀j,j<33→i≠j→(Ygr i).isPrefixOf (Ygr j)=false:=by decide +kernel
theorem Y2s:∀r∈rowsD,r=Ygr 0∨∃i∈List.range 33,r.dropLast=Ygr i∧1<r.length:=by decide +kernel
theorem Yu9:Ygr 0=Yav (Ylb 32):=by decide +kernel
theorem Qac:∀i,i<32→0<i→Ygr i ++ [48]=Yav (Ylb (32+i)):=by decide +kernel
theorem Yka:∀i,i<33→0<i→Ygr i ++ [49]=Yav (Ylb (32-i)):=by decide +kernel
theorem Y41:∀r∈rowsD,(Ygr 32 ++ [48]).isPrefixOf r=false:=by decide +kernel
theorem Yir {i:Nat} (h:i<33):∃r∈rowsD,(Ygr i).isPrefixOf r=true:=by
 by_cases h0:i=0
 ·subst h0
  exact ⟨_,Yk3 (i:=32) (by decide),by rw [Yu9,Ycr]⟩
 ·refine ⟨_,Yk3 (i:=32-i) (by omega),?_⟩
  rw [←Yka i h (by omega),List.isPrefixOf_iff_prefix]
  exact List.prefix_append _ _
theorem Y9m {i j:Nat} (hi:i<33) (hj:j<33) (h:(Ygr i).isPrefixOf (Ygr j)=true):i=j:=by
 by_cases e:i=j
 ·exact e
 ·rw [Y34 i hi j hj e] at h
  cases h
theorem Y1l {i:Nat} (hi:i<33) (h0:i≠0):Ygr i∉rowsD:=by
 intro h
 have e:=Yhe Yku h (Yk3 (i:=32-i) (by omega)) (by rw [←Yka i hi (by omega),List.isPrefixOf_iff_prefix];exact List.prefix_append _ _)
 rw [←Yka i hi (by omega)] at e
 have:=congrArg List.length e
 rw [List.length_append,List.length_singleton] at this
 omega
def Yra (q:List UInt8):Prop:=∀i,i<33→(Ygr i).isPrefixOf q=false
theorem Y4u:Yra []:=by unfold Yra;decide +kernel
theorem Y51 {b r:List UInt8} {n:Nat} (hn:n+1≤b.length) (hno:Yra (b.take n)) (hr:r∈rowsD) (hp:(b.take (n+1)).isPrefixOf r=true):∃i,i<33∧(b.take (n+1)).isPrefixOf (Ygr i)=true:=by
 have hl:(b.take (n+1)).length=n+1:=by rw [List.length_take];omega
 rcases Y2s r hr with rfl | ⟨i,hi,hd,h1⟩
 ·exact ⟨0,by decide,hp⟩
 ·rw [List.mem_range] at hi
  refine ⟨i,hi,?_⟩
  by_cases hlt:(b.take (n+1)).length<r.length
  ·rw [←hd]
   exact Y49 hp hlt
  ·exfalso
   have hle:=Ybl hp
   have e:b.take (n+1)=r:=by
    have:=Ybt.1 hp
    rw [List.take_of_length_le (by omega)] at this
    exact this.symm
   have h2:(Ygr i).isPrefixOf (b.take n)=true:=by
    rw [←hd,←e,List.dropLast_eq_take,List.take_take,hl,show min (n+1-1) (n+1)=n by omega,Ycr]
   rw [hno i hi] at h2
   cases h2
theorem Y52 {b:List UInt8} {k n:Nat} (hn:n+1≤b.length) (hno:Yra (b.take n)) (h:∀i,i<33→(b.take (n+1)).isPrefixOf (Ygr i)=false):tk rowsD b (k+1) (n+1)=(3,0):=by
 refine Y17 hn fun r hr=> ?_
 cases hp:(b.take (n+1)).isPrefixOf r with
 | false=> rfl
 | true=>
  obtain ⟨i,hi,h2⟩:=Y51 hn hno hr hp
  rw [h i hi] at h2
  cases h2
theorem Y4j {b:List UInt8} {k n i:Nat} (hn:n+1≤b.length) (hno:Yra (b.take n)) (hi:i<33) (h:(b.take (n+1)).isPrefixOf (Ygr i)=true) (hne:Yc5 i≠n+1):
  tk rowsD b (k+1) (n+1)=tk rowsD b k (n+2)∧Yra (b.take (n+1)):=by
 have hl:(b.take (n+1)).length=n+1:=by rw [List.length_take];omega
 have hlt:=Ybl h
 rw [hl,Yc9] at hlt
 have hnone:Yra (b.take (n+1)):=by
  intro j hj
  cases hp:(Ygr j).isPrefixOf (b.take (n+1)) with
  | false=> rfl
  | true=>
   have e:=Y9m hj hi (Yd2 hp h)
   subst e
   have:=Ybl hp
   rw [hl,Yc9] at this
   omega
 refine ⟨?_,hnone⟩
 obtain ⟨r,hr,hp⟩:=Yir hi
 refine Ypo hn (fun hm=> ?_) hr (Yd2 h hp)
 rcases Y2s _ hm with e | ⟨j,hj,hd,_⟩
 ·have:=hnone 0 (by decide)
  rw [e,Ycr] at this
  cases this
 ·have:=hno j (List.mem_range.1 hj)
  rw [←hd,List.dropLast_eq_take,List.take_take,hl,show min (n+1-1) (n+1)=n by omega,Ycr] at this
  cases this
theorem Y6r {b:List UInt8} {i n:Nat} (hn:n≤b.length) (h:(b.take n).isPrefixOf (Ygr i)=true) (he:Yc5 i=n):b.take n=Ygr i:=by
 have:=Ybt.1 h
 rw [List.take_of_length_le (by rw [Yc9,List.length_take];omega)] at this
 exact this.symm
theorem Y39 {b:List UInt8} (hb:b.take (Yc5 0)=Ygr 0):dtk b=(0,0,1):=by
 have hp:(Ygr 0).isPrefixOf b=true:=by rw [←hb];exact Yfj _ _
 rw [Yu9] at hp
 have:=Yuj Yku (Yhk (i:=32) (by decide)) (by decide +kernel) (by decide +kernel) hp
 rw [show (Yav (Ylb 32)).length=1 by decide +kernel] at this
 exact this
theorem Yoc {b:List UInt8} {i n:Nat} (hi:i<33) (h0:i≠0) (he:Yc5 i=n) (hn:n≤b.length) (hb:b.take n=Ygr i) (ht:tk rowsD b 25 1=tk rowsD b (26-n) n) (hs:b.length<n+1):dtk b=(0,2,0):=by
 have h12:=(Ydc i hi).2.1
 obtain ⟨r,hr,hp⟩:=Yir hi
 refine Yhb (n:=0) (ht.trans ?_) (by decide)
 rw [show 26-n=(24-n)+1+1 by omega,Ypo hn (by rw [hb];exact Y1l hi h0) hr (by rw [hb];exact hp)]
 exact Ypt hs
theorem Yol {b:List UInt8} {i n:Nat} (hn:n<b.length) (hb:b.take n=Ygr i) {c:UInt8} (hc:b[n]=c):b.take (n+1)=Ygr i ++ [c]:=by
 rw [List.take_succ_eq_append_getElem hn,hb,hc]
theorem Yq7 {b:List UInt8} {n:Nat} (he:Yc5 32=n) (hn:n<b.length) (hb:b.take n=Ygr 32) (hc:b[n]=48) (ht:tk rowsD b 25 1=tk rowsD b (26-n) n):dtk b=(0,3,0):=by
 have h12:n≤12:=by rw [←he];exact (Ydc 32 (by decide)).2.1
 obtain ⟨r,hr,hp⟩:=Yir (i:=32) (by decide)
 refine Yhb (n:=0) (ht.trans ?_) (by decide)
 rw [show 26-n=(24-n)+1+1 by omega,Ypo (by omega) (by rw [hb];exact Y1l (by decide) (by decide)) hr (by rw [hb];exact hp)]
 refine Y17 (by omega) fun r hr=> ?_
 rw [Yol hn hb hc]
 exact Y41 r hr
theorem Y2c {b:List UInt8} {j:Nat} (hj:j<64) (hp:(Yav (Ylb j)).isPrefixOf b=true):dtk b=((j:Int)-32,0,(Yav (Ylb j)).length):=by
 obtain ⟨h1,h2,_⟩:=Ybr (Y8f _ (Yhk hj))
 exact Yuj Yku (Yhk hj) (by have:=List.length_pos_iff.2 h1;omega) h2 hp
theorem Yys {b:List UInt8} {i n:Nat} (hi:i<32) (h0:0<i) (he:Yc5 i=n) (hn:n<b.length) (hb:b.take n=Ygr i) (hc:b[n]=48):dtk b=((i:Int),0,n+1):=by
 have e:=Qac i hi h0
 have hp:(Yav (Ylb (32+i))).isPrefixOf b=true:=by rw [←e,←Yol hn hb hc];exact Yfj _ _
 rw [Y2c (by omega) hp,←e,List.length_append,Yc9,he,show ((32+i:Nat):Int)-32=i by omega]
 rfl
theorem Ysy {b:List UInt8} {i n:Nat} (hi:i<33) (h0:0<i) (he:Yc5 i=n) (hn:n<b.length) (hb:b.take n=Ygr i) (hc:b[n]=49):dtk b=(-(i:Int),0,n+1):=by
 have e:=Yka i hi h0
 have hp:(Yav (Ylb (32-i))).isPrefixOf b=true:=by rw [←e,←Yol hn hb hc];exact Yfj _ _
 rw [Y2c (by omega) hp,←e,List.length_append,Yc9,he,show ((32-i:Nat):Int)-32 = -(i:Int) by omega]
 rfl
end Go.Proofs.YtpgdngijmihafaaGreatDoor
namespace Go.Proofs.YtpgdngijmihafaaGreatDoor
open Go.RowKit Go.Lib
theorem Yvz:(Rows.laid_overspill_mvd_codes:DataW Unit)=tabData .i64 (Y9h.map fun z:Nat=> (z:Int))∧(Rows.laid_overspill_mvd_lengths:DataW Unit)=tabData .i64 (Y97.map fun z:Nat=> (z:Int)):=⟨by kernel_rfl,by kernel_rfl⟩
theorem Qam (l:List Nat) (i:Nat) (h:i<(l.map fun z:Nat=> (z:Int)).length):(l.map fun z:Nat=> (z:Int))[i]=((l[i]?.getD 0:Nat):Int):=by
 have h2:i<l.length:=by simpa using h
 rw [List.getElem_map,List.getElem?_eq_getElem h2]
 rfl
theorem Y3y {laid : List (String × DataW Unit)} {W : World} (hL : laidMetH Tryz.prog laid W) (hm : (("overspill/mvd.codes", Rows.laid_overspill_mvd_codes) ∈ laid ∧ ("overspill/mvd.lengths", Rows.laid_overspill_mvd_lengths) ∈ laid) ∧ (laid.all fun x => x.2.handleName?.isNone) = true) : Ydp W := by
 rw [MakeChecks.laidMetH_plain _ _ _ hm.2] at hL
 obtain ⟨ps,hv,_,_⟩:=hL
 obtain ⟨h1,h2⟩:=hm.1
 rw [Yvz.1] at h1
 rw [Yvz.2] at h2
 have hlc:(Y9h.map fun z:Nat=> (z:Int)).length=33:=rfl
 have hll:(Y97.map fun z:Nat=> (z:Int)).length=33:=rfl
 intro i hi
 have g1:=Yqy hv h1 (g:=2) (t:=177) (by kernel_rfl) (by kernel_rfl) Tryz.underlying177 Tryz.underlying3 (by kernel_rfl) (by kernel_rfl) i (by rw [hlc];exact hi)
 have g2:=Yqy hv h2 (g:=1) (t:=177) (by kernel_rfl) (by kernel_rfl) Tryz.underlying177 Tryz.underlying3 (by kernel_rfl) (by kernel_rfl) i (by rw [hll];exact hi)
 rw [Qam] at g1 g2
 exact ⟨g1,g2⟩
end Go.Proofs.YtpgdngijmihafaaGreatDoor