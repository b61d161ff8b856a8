/- Texts that SheetinMay's proof stands on, part 23 of 52. No condition of its own. -/
import Derived.Test.YtpgdngijmihafaaGreatDoorSheetinMayMc
import Derived.Test.YtpgdngijmihafaaGreatDoorSheetinMayMf
import Derived.Test.YtpgdngijmihafaaGreatDoorSheetinMayMs
import Derived.Test.YtpgdngijmihafaaGreatDoorSheetinMayMv
import Derived.WalkMore
import Derived.IntWalk
import Derived.WalkKit
import Derived.Lib.LaidTab
import Derived.MakeChecks
import Derived.Test.YtpgdngijmihafaaGreatDoorRows
namespace Go.Proofs.YtpgdngijmihafaaGreatDoor
open Go.RowKit Go.Lib
def Y8n:List Nat:=[1,1,1,1,3,5,4,3,11,10,9,17,16,15,14,13,12,11,10,9,8,7,6,5,4,7,6,5,4,3,2,3,2]
def Qaa:List Nat:=[1,2,3,4,6,7,7,7,9,9,9,10,10,10,10,10,10,10,10,10,10,10,10,10,10,11,11,11,11,11,11,12,12]
def Yhv (i:Nat):Nat:=Y8n[i]?.getD 0
def Yc5 (i:Nat):Nat:=Qaa[i]?.getD 0
theorem Yc8:∀i,i<33→1≤Yc5 i∧Yc5 i≤12∧Yhv i<2^Yc5 i∧Yhv i≤17:=by decide +kernel
def Ygr (i:Nat):List UInt8:=Yau (Yhv i) (Yc5 i)
def Qai (d:Int):Nat:=if d=0 then 1 else if 0<d then 2*Yhv d.toNat else 2*Yhv (-d).toNat+1
def Qa7 (d:Int):Nat:=if d=0 then 1 else if 0<d then Yc5 d.toNat+1 else Yc5 (-d).toNat+1
def Ykw (d:Int):ByteArray:=if -32≤d∧d≤31 then ⟨(Yau (Qai d) (Qa7 d)).toArray⟩ else ⟨#[]⟩
def Ydp (w:World):Prop:=∀i,i<33→w.cell? ⟨2,i,none⟩=some (.int .i64 (Yhv i:Nat))∧w.cell? ⟨1,i,none⟩=some (.int .i64 (Yc5 i:Nat))
theorem Ydp.lt {w:World} (h:Ydp w):2<w.heap.size∧1<w.heap.size:=
 ⟨World.block_lt_of_cell? w ⟨2,0,none⟩ (h 0 (by decide)).1,World.block_lt_of_cell? w ⟨1,0,none⟩ (h 0 (by decide)).2⟩
theorem Ydp.below {w w':World} (h:Ydp w) (hb:Below w.heap.size w w'):Ydp w':=fun i hi=>
 ⟨(hb.cell (p:=⟨2,i,none⟩) h.lt.1).trans (h i hi).1,(hb.cell (p:=⟨1,i,none⟩) h.lt.2).trans (h i hi).2⟩
end Go.Proofs.YtpgdngijmihafaaGreatDoor
namespace Go.Proofs.YtpgdngijmihafaaGreatDoor
def Ykq (i:Nat):ByteArray×Int:=(Ykw ((i:Int)-32),(i:Int)-32)
def allD:List (ByteArray×Int):=(List.range 64).map Ykq
def rowsD:List (List UInt8):=allD.map Yav
def dtk (b:List UInt8):Int×Int×Nat:=gtk allD b
theorem Ykj:Yfr rowsD:=by unfold Yfr;decide +kernel
theorem Y76:∀x∈allD,Ybx (Yav x)=true:=by decide +kernel
theorem Yhs {i:Nat} (h:i<64):Ykq i∈allD:=List.mem_map_of_mem (List.mem_range.2 h)
theorem Ykr {i:Nat} (h:i<64):Yav (Ykq i)∈rowsD:=List.mem_map_of_mem (Yhs h)
theorem Yc9 (i:Nat):(Ygr i).length=Yc5 i:=Yao _ _
theorem Y37:∀i,i<33→∀j,j<33→i≠j→(Ygr i).isPrefixOf (Ygr j)=false:=by decide +kernel
theorem Y2m:∀r∈rowsD,r=Ygr 0∨∃i∈List.range 33,r.dropLast=Ygr i∧1<r.length:=by decide +kernel
theorem Yu6:Ygr 0=Yav (Ykq 32):=by decide +kernel
theorem Qae:∀i,i<32→0<i→Ygr i ++ [48]=Yav (Ykq (32+i)):=by decide +kernel
theorem Yj1:∀i,i<33→0<i→Ygr i ++ [49]=Yav (Ykq (32-i)):=by decide +kernel
theorem Y38:∀r∈rowsD,(Ygr 32 ++ [48]).isPrefixOf r=false:=by decide +kernel
theorem Yik {i:Nat} (h:i<33):∃r∈rowsD,(Ygr i).isPrefixOf r=true:=by
 by_cases h0:i=0
 ·subst h0
  exact ⟨_,Ykr (i:=32) (by decide),by rw [Yu6,Ycq]⟩
 ·refine ⟨_,Ykr (i:=32-i) (by omega),?_⟩
  rw [←Yj1 i h (by omega),List.isPrefixOf_iff_prefix]
  exact List.prefix_append _ _
theorem Y79 {i j:Nat} (hi:i<33) (hj:j<33) (h:(Ygr i).isPrefixOf (Ygr j)=true):i=j:=by
 by_cases e:i=j
 ·exact e
 ·rw [Y37 i hi j hj e] at h
  cases h
theorem Yzy {i:Nat} (hi:i<33) (h0:i≠0):Ygr i∉rowsD:=by
 intro h
 have e:=Yg5 Ykj h (Ykr (i:=32-i) (by omega)) (by rw [←Yj1 i hi (by omega),List.isPrefixOf_iff_prefix];exact List.prefix_append _ _)
 rw [←Yj1 i hi (by omega)] at e
 have:=congrArg List.length e
 rw [List.length_append,List.length_singleton] at this
 omega
def Yrv (q:List UInt8):Prop:=∀i,i<33→(Ygr i).isPrefixOf q=false
theorem Y50:Yrv []:=by unfold Yrv;decide +kernel
theorem Y6g {b r:List UInt8} {n:Nat} (hn:n+1≤b.length) (hno:Yrv (b.take n)) (hr:r∈rowsD) (hp:(b.take (n+1)).isPrefixOf r=true):∃i,i<33∧(b.take (n+1)).isPrefixOf (Ygr i)=true:=by
 have hl:(b.take (n+1)).length=n+1:=by rw [List.length_take];omega
 rcases Y2m r hr with rfl | ⟨i,hi,hd,h1⟩
 ·exact ⟨0,by decide,hp⟩
 ·rw [List.mem_range] at hi
  refine ⟨i,hi,?_⟩
  by_cases hlt:(b.take (n+1)).length<r.length
  ·rw [←hd]
   exact Y58 hp hlt
  ·exfalso
   have hle:=Ybk hp
   have e:b.take (n+1)=r:=by
    have:=Ybt.1 hp
    rw [List.take_of_length_le (by omega)] at this
    exact this.symm
   have h2:(Ygr i).isPrefixOf (b.take n)=true:=by
    rw [←hd,←e,List.dropLast_eq_take,List.take_take,hl,show min (n+1-1) (n+1)=n by omega,Ycq]
   rw [hno i hi] at h2
   cases h2
theorem Y49 {b:List UInt8} {k n:Nat} (hn:n+1≤b.length) (hno:Yrv (b.take n)) (h:∀i,i<33→(b.take (n+1)).isPrefixOf (Ygr i)=false):tk rowsD b (k+1) (n+1)=(3,0):=by
 refine Y3e hn fun r hr=> ?_
 cases hp:(b.take (n+1)).isPrefixOf r with
 | false=> rfl
 | true=>
  obtain ⟨i,hi,h2⟩:=Y6g hn hno hr hp
  rw [h i hi] at h2
  cases h2
theorem Y48 {b:List UInt8} {k n i:Nat} (hn:n+1≤b.length) (hno:Yrv (b.take n)) (hi:i<33) (h:(b.take (n+1)).isPrefixOf (Ygr i)=true) (hne:Yc5 i≠n+1):
  tk rowsD b (k+1) (n+1)=tk rowsD b k (n+2)∧Yrv (b.take (n+1)):=by
 have hl:(b.take (n+1)).length=n+1:=by rw [List.length_take];omega
 have hlt:=Ybk h
 rw [hl,Yc9] at hlt
 have hnone:Yrv (b.take (n+1)):=by
  intro j hj
  cases hp:(Ygr j).isPrefixOf (b.take (n+1)) with
  | false=> rfl
  | true=>
   have e:=Y79 hj hi (Yd9 hp h)
   subst e
   have:=Ybk hp
   rw [hl,Yc9] at this
   omega
 refine ⟨?_,hnone⟩
 obtain ⟨r,hr,hp⟩:=Yik hi
 refine Ypp hn (fun hm=> ?_) hr (Yd9 h hp)
 rcases Y2m _ hm with e | ⟨j,hj,hd,_⟩
 ·have:=hnone 0 (by decide)
  rw [e,Ycq] at this
  cases this
 ·have:=hno j (List.mem_range.1 hj)
  rw [←hd,List.dropLast_eq_take,List.take_take,hl,show min (n+1-1) (n+1)=n by omega,Ycq] at this
  cases this
theorem Y39 {b:List UInt8} {i n:Nat} (hn:n≤b.length) (h:(b.take n).isPrefixOf (Ygr i)=true) (he:Yc5 i=n):b.take n=Ygr i:=by
 have:=Ybt.1 h
 rw [List.take_of_length_le (by rw [Yc9,List.length_take];omega)] at this
 exact this.symm
theorem Y5b {b:List UInt8} (hb:b.take (Yc5 0)=Ygr 0):dtk b=(0,0,1):=by
 have hp:(Ygr 0).isPrefixOf b=true:=by rw [←hb];exact Yfi _ _
 rw [Yu6] at hp
 have:=Yt1 Ykj (Yhs (i:=32) (by decide)) (by decide +kernel) (by decide +kernel) hp
 rw [show (Yav (Ykq 32)).length=1 by decide +kernel] at this
 exact this
theorem Yoi {b:List UInt8} {i n:Nat} (hi:i<33) (h0:i≠0) (he:Yc5 i=n) (hn:n≤b.length) (hb:b.take n=Ygr i) (ht:tk rowsD b 25 1=tk rowsD b (26-n) n) (hs:b.length<n+1):dtk b=(0,2,0):=by
 have h12:=(Yc8 i hi).2.1
 obtain ⟨r,hr,hp⟩:=Yik hi
 refine Yg9 (n:=0) (ht.trans ?_) (by decide)
 rw [show 26-n=(24-n)+1+1 by omega,Ypp hn (by rw [hb];exact Yzy hi h0) hr (by rw [hb];exact hp)]
 exact Ypq hs
theorem Yn4 {b:List UInt8} {i n:Nat} (hn:n<b.length) (hb:b.take n=Ygr i) {c:UInt8} (hc:b[n]=c):b.take (n+1)=Ygr i ++ [c]:=by
 rw [List.take_succ_eq_append_getElem hn,hb,hc]
theorem Yqz {b:List UInt8} {n:Nat} (he:Yc5 32=n) (hn:n<b.length) (hb:b.take n=Ygr 32) (hc:b[n]=48) (ht:tk rowsD b 25 1=tk rowsD b (26-n) n):dtk b=(0,3,0):=by
 have h12:n≤12:=by rw [←he];exact (Yc8 32 (by decide)).2.1
 obtain ⟨r,hr,hp⟩:=Yik (i:=32) (by decide)
 refine Yg9 (n:=0) (ht.trans ?_) (by decide)
 rw [show 26-n=(24-n)+1+1 by omega,Ypp (by omega) (by rw [hb];exact Yzy (by decide) (by decide)) hr (by rw [hb];exact hp)]
 refine Y3e (by omega) fun r hr=> ?_
 rw [Yn4 hn hb hc]
 exact Y38 r hr
theorem Y04 {b:List UInt8} {j:Nat} (hj:j<64) (hp:(Yav (Ykq j)).isPrefixOf b=true):dtk b=((j:Int)-32,0,(Yav (Ykq j)).length):=by
 obtain ⟨h1,h2,_⟩:=Ybr (Y76 _ (Yhs hj))
 exact Yt1 Ykj (Yhs hj) (by have:=List.length_pos_iff.2 h1;omega) h2 hp
theorem Yxo {b:List UInt8} {i n:Nat} (hi:i<32) (h0:0<i) (he:Yc5 i=n) (hn:n<b.length) (hb:b.take n=Ygr i) (hc:b[n]=48):dtk b=((i:Int),0,n+1):=by
 have e:=Qae i hi h0
 have hp:(Yav (Ykq (32+i))).isPrefixOf b=true:=by rw [←e,←Yn4 hn hb hc];exact Yfi _ _
 rw [Y04 (by omega) hp,←e,List.length_append,Yc9,he,show ((32+i:Nat):Int)-32=i by omega]
 rfl
theorem Yqy {b:List UInt8} {i n:Nat} (hi:i<33) (h0:0<i) (he:Yc5 i=n) (hn:n<b.length) (hb:b.take n=Ygr i) (hc:b[n]=49):dtk b=(-(i:Int),0,n+1):=by
 have e:=Yj1 i hi h0
 have hp:(Yav (Ykq (32-i))).isPrefixOf b=true:=by rw [←e,←Yn4 hn hb hc];exact Yfi _ _
 rw [Y04 (by omega) hp,←e,List.length_append,Yc9,he,show ((32-i:Nat):Int)-32 = -(i:Int) by omega]
 rfl
end Go.Proofs.YtpgdngijmihafaaGreatDoor
namespace Go.Proofs.YtpgdngijmihafaaGreatDoor
open Go.RowKit Go.Lib
theorem Yv1:(Rows.laid_overspill_mvd_codes:DataW Unit)=tabData .i64 (Y8n.map fun z:Nat=> (z:Int))∧(Rows.laid_overspill_mvd_lengths:DataW Unit)=tabData .i64 (Qaa.map fun z:Nat=> (z:Int)):=⟨by kernel_rfl,by kernel_rfl⟩
theorem Qar (l:List Nat) (i:Nat) (h:i<(l.map fun z:Nat=> (z:Int)).length):(l.map fun z:Nat=> (z:Int))[i]=((l[i]?.getD 0:Nat):Int):=by
 have h2:i<l.length:=by simpa using h
 rw [List.getElem_map,List.getElem?_eq_getElem h2]
 rfl
theorem Y5y {laid : List (String × DataW Unit)} {W : World} (hL : laidMetH Tryz.prog laid W) (hm : (("overspill/mvd.codes", Rows.laid_overspill_mvd_codes) ∈ laid ∧ ("overspill/mvd.lengths", Rows.laid_overspill_mvd_lengths) ∈ laid) ∧ (laid.all fun x => x.2.handleName?.isNone) = true) : Ydp W := by
 rw [MakeChecks.laidMetH_plain _ _ _ hm.2] at hL
 obtain ⟨ps,hv,_,_⟩:=hL
 obtain ⟨h1,h2⟩:=hm.1
 rw [Yv1.1] at h1
 rw [Yv1.2] at h2
 have hlc:(Y8n.map fun z:Nat=> (z:Int)).length=33:=rfl
 have hll:(Qaa.map fun z:Nat=> (z:Int)).length=33:=rfl
 intro i hi
 have g1:=Yro hv h1 (g:=2) (t:=177) (by kernel_rfl) (by kernel_rfl) Tryz.underlying177 Tryz.underlying3 (by kernel_rfl) (by kernel_rfl) i (by rw [hlc];exact hi)
 have g2:=Yro hv h2 (g:=1) (t:=177) (by kernel_rfl) (by kernel_rfl) Tryz.underlying177 Tryz.underlying3 (by kernel_rfl) (by kernel_rfl) i (by rw [hll];exact hi)
 rw [Qar] at g1 g2
 exact ⟨g1,g2⟩
end Go.Proofs.YtpgdngijmihafaaGreatDoor