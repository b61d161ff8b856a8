/- Texts that SheetinMay's proof stands on, part 23 of 52. No condition of its own. -/
import Derived.Test.YtpgdngijmihafaaGreatDoorSheetinMayMc
import Derived.Test.YtpgdngijmihafaaGreatDoorSheetinMayMf
import Derived.Test.YtpgdngijmihafaaGreatDoorSheetinMayMs
import Derived.Test.YtpgdngijmihafaaGreatDoorSheetinMayMv
import Derived.WalkMore
import Derived.IntWalk
import Derived.WalkKit
import Derived.Lib.LaidTab
import Derived.MakeChecks
import Derived.Test.YtpgdngijmihafaaGreatDoorRows
namespace Go.Proofs.YtpgdngijmihafaaGreatDoor
open Go.RowKit Go.Lib
def Y8u:List Nat:=[1,1,1,1,3,5,4,3,11,10,9,17,16,15,14,13,12,11,10,9,8,7,6,5,4,7,6,5,4,3,2,3,2]
def Qak:List Nat:=[1,2,3,4,6,7,7,7,9,9,9,10,10,10,10,10,10,10,10,10,10,10,10,10,10,11,11,11,11,11,11,12,12]
def Yhs (i:Nat):Nat:=Y8u[i]?.getD 0
def Yc6 (i:Nat):Nat:=Qak[i]?.getD 0
theorem Yda:∀i,i<33→1≤Yc6 i∧Yc6 i≤12∧Yhs i<2^Yc6 i∧Yhs i≤17:=by decide +kernel
def Yg0 (i:Nat):List UInt8:=Yau (Yhs i)(Yc6 i)
def Qar (d:Int):Nat:=if d=0 then 1 else if 0<d then 2*Yhs d.toNat else 2*Yhs (-d).toNat+1
def Qbe (d:Int):Nat:=if d=0 then 1 else if 0<d then Yc6 d.toNat+1 else Yc6 (-d).toNat+1
def Yko (d:Int):ByteArray:=if -32≤d∧d≤31 then ⟨(Yau (Qar d)(Qbe d)).toArray⟩ else ⟨#[]⟩
def Ydr (w:World):Prop:=∀i,i<33→w.cell? ⟨2,i,none⟩=some (.int .i64 (Yhs i:Nat))∧w.cell? ⟨1,i,none⟩=some (.int .i64 (Yc6 i:Nat))
theorem Ydr.lt {w:World} (h:Ydr w):2<w.heap.size∧1<w.heap.size:=
 ⟨World.block_lt_of_cell? w ⟨2,0,none⟩(h 0 (by decide)).1,World.block_lt_of_cell? w ⟨1,0,none⟩(h 0 (by decide)).2⟩
theorem Ydr.below {w w':World} (h:Ydr w)(hb:Below w.heap.size w w'):Ydr w':=fun i hi=>
 ⟨(hb.cell (p:=⟨2,i,none⟩) h.lt.1).trans (h i hi).1,(hb.cell (p:=⟨1,i,none⟩) h.lt.2).trans (h i hi).2⟩
end Go.Proofs.YtpgdngijmihafaaGreatDoor
namespace Go.Proofs.YtpgdngijmihafaaGreatDoor
def Ylz (i:Nat):ByteArray×Int:=(Yko ((i:Int)-32),(i:Int)-32)
def Y32:List (ByteArray×Int):=(List.range 64).map Ylz
def Yfv:List (List UInt8):=Y32.map Yav
def dtk (b:List UInt8):Int×Int×Nat:=gtk Y32 b
theorem Ykp:Yfw Yfv:=by unfold Yfw;decide +kernel
theorem Y8d:∀x∈Y32,Yby (Yav x)=true:=by decide +kernel
theorem Yh6 {i:Nat} (h:i<64):Ylz i∈Y32:=List.mem_map_of_mem (List.mem_range.2 h)
theorem Yli {i:Nat} (h:i<64):Yav (Ylz i)∈Yfv:=List.mem_map_of_mem (Yh6 h)
theorem Yc9 (i:Nat):(Yg0 i).length=Yc6 i:=Yao _ _
theorem Y4r:∀i,i<33→∀j,j<33→i≠j→(Yg0 i).isPrefixOf (Yg0 j)=false:=by decide +kernel
theorem Y12:∀r∈Yfv,r=Yg0 0∨∃i∈List.range 33,r.dropLast=Yg0 i∧1<r.length:=by decide +kernel
theorem Yvs:Yg0 0=Yav (Ylz 32):=by decide +kernel
theorem Qa9:∀i,i<32→0<i→Yg0 i ++ [48]=Yav (Ylz (32+i)):=by decide +kernel
theorem Ykc:∀i,i<33→0<i→Yg0 i ++ [49]=Yav (Ylz (32-i)):=by decide +kernel
theorem Y4n:∀r∈Yfv,(Yg0 32 ++ [48]).isPrefixOf r=false:=by decide +kernel
theorem Yjb {i:Nat} (h:i<33):∃r∈Yfv,(Yg0 i).isPrefixOf r=true:=by
 by_cases h0:i=0
 ·subst h0
  exact ⟨_,Yli (i:=32)(by decide),by rw [Yvs,Ycr]⟩
 ·refine ⟨_,Yli (i:=32-i)(by omega),?_⟩
  rw [←Ykc i h (by omega),List.isPrefixOf_iff_prefix]
  exact List.prefix_append _ _
theorem Y9e {i j:Nat} (hi:i<33)(hj:j<33)(h:(Yg0 i).isPrefixOf (Yg0 j)=true):i=j:=by
 by_cases e:i=j
 ·exact e
 ·rw [Y4r i hi j hj e] at h
  cases h
theorem Y1t {i:Nat} (hi:i<33)(h0:i≠0):Yg0 i∉Yfv:=by
 intro h
 have e:=Yg9 Ykp h (Yli (i:=32-i)(by omega))(by rw [←Ykc i hi (by omega),List.isPrefixOf_iff_prefix];exact List.prefix_append _ _)
 rw [←Ykc i hi (by omega)] at e
 have:=congrArg List.length e
 rw [List.length_append,List.length_singleton] at this
 omega
def Yru (q:List UInt8):Prop:=∀i,i<33→(Yg0 i).isPrefixOf q=false
theorem Y5b:Yru []:=by unfold Yru;decide +kernel
theorem Y4m {b r:List UInt8} {n:Nat} (hn:n+1≤b.length)(hno:Yru (b.take n))(hr:r∈Yfv)(hp:(b.take (n+1)).isPrefixOf r=true):∃i,i<33∧(b.take (n+1)).isPrefixOf (Yg0 i)=true:=by
 have hl:(b.take (n+1)).length=n+1:=by rw [List.length_take];omega
 rcases Y12 r hr with rfl | ⟨i,hi,hd,h1⟩
 ·exact ⟨0,by decide,hp⟩
 ·rw [List.mem_range] at hi
  refine ⟨i,hi,?_⟩
  by_cases hlt:(b.take (n+1)).length<r.length
  ·rw [←hd]
   exact Y63 hp hlt
  ·exfalso
   have hle:=Ybj hp
   have e:b.take (n+1)=r:=by
    have:=Ybs.1 hp
    rw [List.take_of_length_le (by omega)] at this
    exact this.symm
   have h2:(Yg0 i).isPrefixOf (b.take n)=true:=by
    rw [←hd,←e,List.dropLast_eq_take,List.take_take,hl,show min (n+1-1)(n+1)=n by omega,Ycr]
   rw [hno i hi] at h2
   cases h2
theorem Y6c {b:List UInt8} {k n:Nat} (hn:n+1≤b.length)(hno:Yru (b.take n))(h:∀i,i<33→(b.take (n+1)).isPrefixOf (Yg0 i)=false):tk Yfv b (k+1)(n+1)=(3,0):=by
 refine Y01 hn fun r hr=> ?_
 cases hp:(b.take (n+1)).isPrefixOf r with
 | false=> rfl
 | true=>
  obtain ⟨i,hi,h2⟩:=Y4m hn hno hr hp
  rw [h i hi] at h2
  cases h2
theorem Y6g {b:List UInt8} {k n i:Nat} (hn:n+1≤b.length)(hno:Yru (b.take n))(hi:i<33)(h:(b.take (n+1)).isPrefixOf (Yg0 i)=true)(hne:Yc6 i≠n+1):
  tk Yfv b (k+1)(n+1)=tk Yfv b k (n+2)∧Yru (b.take (n+1)):=by
 have hl:(b.take (n+1)).length=n+1:=by rw [List.length_take];omega
 have hlt:=Ybj h
 rw [hl,Yc9] at hlt
 have hnone:Yru (b.take (n+1)):=by
  intro j hj
  cases hp:(Yg0 j).isPrefixOf (b.take (n+1)) with
  | false=> rfl
  | true=>
   have e:=Y9e hj hi (Yea hp h)
   subst e
   have:=Ybj hp
   rw [hl,Yc9] at this
   omega
 refine ⟨?_,hnone⟩
 obtain ⟨r,hr,hp⟩:=Yjb hi
 refine Yoq hn (fun hm=> ?_) hr (Yea h hp)
 rcases Y12 _ hm with e | ⟨j,hj,hd,_⟩
 ·have:=hnone 0 (by decide)
  rw [e,Ycr] at this
  cases this
 ·have:=hno j (List.mem_range.1 hj)
  rw [←hd,List.dropLast_eq_take,List.take_take,hl,show min (n+1-1)(n+1)=n by omega,Ycr] at this
  cases this
theorem Y5r {b:List UInt8} {i n:Nat} (hn:n≤b.length)(h:(b.take n).isPrefixOf (Yg0 i)=true)(he:Yc6 i=n):b.take n=Yg0 i:=by
 have:=Ybs.1 h
 rw [List.take_of_length_le (by rw [Yc9,List.length_take];omega)] at this
 exact this.symm
theorem Y7e {b:List UInt8} (hb:b.take (Yc6 0)=Yg0 0):dtk b=(0,0,1):=by
 have hp:(Yg0 0).isPrefixOf b=true:=by rw [←hb];exact Yfh _ _
 rw [Yvs] at hp
 have:=Yu7 Ykp (Yh6 (i:=32)(by decide))(by decide +kernel)(by decide +kernel) hp
 rw [show (Yav (Ylz 32)).length=1 by decide +kernel] at this
 exact this
theorem Ypz {b:List UInt8} {i n:Nat} (hi:i<33)(h0:i≠0)(he:Yc6 i=n)(hn:n≤b.length)(hb:b.take n=Yg0 i)(ht:tk Yfv b 25 1=tk Yfv b (26-n) n)(hs:b.length<n+1):dtk b=(0,2,0):=by
 have h12:=(Yda i hi).2.1
 obtain ⟨r,hr,hp⟩:=Yjb hi
 refine Yhb (n:=0)(ht.trans ?_)(by decide)
 rw [show 26-n=(24-n)+1+1 by omega,Yoq hn (by rw [hb];exact Y1t hi h0) hr (by rw [hb];exact hp)]
 exact Yn6 hs
theorem Yon {b:List UInt8} {i n:Nat} (hn:n<b.length)(hb:b.take n=Yg0 i) {c:UInt8} (hc:b[n]=c):b.take (n+1)=Yg0 i ++ [c]:=by
 rw [List.take_succ_eq_append_getElem hn,hb,hc]
theorem Yrt {b:List UInt8} {n:Nat} (he:Yc6 32=n)(hn:n<b.length)(hb:b.take n=Yg0 32)(hc:b[n]=48)(ht:tk Yfv b 25 1=tk Yfv b (26-n) n):dtk b=(0,3,0):=by
 have h12:n≤12:=by rw [←he];exact (Yda 32 (by decide)).2.1
 obtain ⟨r,hr,hp⟩:=Yjb (i:=32)(by decide)
 refine Yhb (n:=0)(ht.trans ?_)(by decide)
 rw [show 26-n=(24-n)+1+1 by omega,Yoq (by omega)(by rw [hb];exact Y1t (by decide)(by decide)) hr (by rw [hb];exact hp)]
 refine Y01 (by omega) fun r hr=> ?_
 rw [Yon hn hb hc]
 exact Y4n r hr
theorem Y26 {b:List UInt8} {j:Nat} (hj:j<64)(hp:(Yav (Ylz j)).isPrefixOf b=true):dtk b=((j:Int)-32,0,(Yav (Ylz j)).length):=by
 obtain ⟨h1,h2,_⟩:=Ybr (Y8d _ (Yh6 hj))
 exact Yu7 Ykp (Yh6 hj)(by have:=List.length_pos_iff.2 h1;omega) h2 hp
theorem Yzd {b:List UInt8} {i n:Nat} (hi:i<32)(h0:0<i)(he:Yc6 i=n)(hn:n<b.length)(hb:b.take n=Yg0 i)(hc:b[n]=48):dtk b=((i:Int),0,n+1):=by
 have e:=Qa9 i hi h0
 have hp:(Yav (Ylz (32+i))).isPrefixOf b=true:=by rw [←e,←Yon hn hb hc];exact Yfh _ _
 rw [Y26 (by omega) hp,←e,List.length_append,Yc9,he,show ((32+i:Nat):Int)-32=i by omega]
 rfl
theorem Yrj {b:List UInt8} {i n:Nat} (hi:i<33)(h0:0<i)(he:Yc6 i=n)(hn:n<b.length)(hb:b.take n=Yg0 i)(hc:b[n]=49):dtk b=(-(i:Int),0,n+1):=by
 have e:=Ykc i hi h0
 have hp:(Yav (Ylz (32-i))).isPrefixOf b=true:=by rw [←e,←Yon hn hb hc];exact Yfh _ _
 rw [Y26 (by omega) hp,←e,List.length_append,Yc9,he,show ((32-i:Nat):Int)-32 = -(i:Int) by omega]
 rfl
end Go.Proofs.YtpgdngijmihafaaGreatDoor
namespace Go.Proofs.YtpgdngijmihafaaGreatDoor
open Go.RowKit Go.Lib
theorem Yvf:(Rows.laid_overspill_mvd_codes:DataW Unit)=tabData .i64 (Y8u.map fun z:Nat=> (z:Int))∧(Rows.laid_overspill_mvd_lengths:DataW Unit)=tabData .i64 (Qak.map fun z:Nat=> (z:Int)):=⟨by kernel_rfl,by kernel_rfl⟩
theorem Qa8 (l:List Nat)(i:Nat)(h:i<(l.map fun z:Nat=> (z:Int)).length):(l.map fun z:Nat=> (z:Int))[i]=((l[i]?.getD 0:Nat):Int):=by
 have h2:i<l.length:=by simpa using h
 rw [List.getElem_map,List.getElem?_eq_getElem h2]
 rfl
theorem Y5h {laid : List (String × DataW Unit)} {W : World} (hL : laidMetH Tryz.prog laid W) (hm : (("overspill/mvd.codes", Rows.laid_overspill_mvd_codes) ∈ laid ∧ ("overspill/mvd.lengths", Rows.laid_overspill_mvd_lengths) ∈ laid) ∧ (laid.all fun x => x.2.handleName?.isNone) = true) : Ydr W := by
 rw [MakeChecks.laidMetH_plain _ _ _ hm.2] at hL
 obtain ⟨ps,hv,_,_⟩:=hL
 obtain ⟨h1,h2⟩:=hm.1
 rw [Yvf.1] at h1
 rw [Yvf.2] at h2
 have hlc:(Y8u.map fun z:Nat=> (z:Int)).length=33:=rfl
 have hll:(Qak.map fun z:Nat=> (z:Int)).length=33:=rfl
 intro i hi
 have g1:=Ys9 hv h1 (g:=2)(t:=177)(by kernel_rfl)(by kernel_rfl) Tryz.underlying177 Tryz.underlying3 (by kernel_rfl)(by kernel_rfl) i (by rw [hlc];exact hi)
 have g2:=Ys9 hv h2 (g:=1)(t:=177)(by kernel_rfl)(by kernel_rfl) Tryz.underlying177 Tryz.underlying3 (by kernel_rfl)(by kernel_rfl) i (by rw [hll];exact hi)
 rw [Qa8] at g1 g2
 exact ⟨g1,g2⟩
end Go.Proofs.YtpgdngijmihafaaGreatDoor