/- Texts that SheetinTakes's proof stands on, part 22 of 52. No condition of its own. -/
import Derived.Test.YtpgdngijmihafaaGreatDoorSheetinTakesMc
import Derived.Test.YtpgdngijmihafaaGreatDoorSheetinTakesMf
import Derived.Test.YtpgdngijmihafaaGreatDoorSheetinTakesMr
import Derived.Test.YtpgdngijmihafaaGreatDoorSheetinTakesMs
import Derived.Test.YtpgdngijmihafaaGreatDoorSheetinTakesMu
import Derived.WalkMore
import Derived.IntWalk
import Derived.WalkKit
import Derived.Lib.LaidTab
import Derived.MakeChecks
import Derived.Test.YtpgdngijmihafaaGreatDoorRows
namespace Go.Proofs.YtpgdngijmihafaaGreatDoor
open Go.RowKit Go.Lib
def Y9u:List Nat:=[1,1,1,1,3,5,4,3,11,10,9,17,16,15,14,13,12,11,10,9,8,7,6,5,4,7,6,5,4,3,2,3,2]
def Qau:List Nat:=[1,2,3,4,6,7,7,7,9,9,9,10,10,10,10,10,10,10,10,10,10,10,10,10,10,11,11,11,11,11,11,12,12]
def Yju (i:Nat):Nat:=Y9u[i]?.getD 0
def Ydy (i:Nat):Nat:=Qau[i]?.getD 0
theorem Ydg:∀i,i<33→1≤Ydy i∧Ydy i≤12∧Yju i<2^Ydy i∧Yju i≤17:=by decide +kernel
def Ygs (i:Nat):List UInt8:=Ybg (Yju i) (Ydy i)
def Qa8 (d:Int):Nat:=if d=0 then 1 else if 0<d then 2*Yju d.toNat else 2*Yju (-d).toNat+1
def Qb9 (d:Int):Nat:=if d=0 then 1 else if 0<d then Ydy d.toNat+1 else Ydy (-d).toNat+1
def Yds (d:Int):ByteArray:=if -32≤d∧d≤31 then ⟨(Ybg (Qa8 d) (Qb9 d)).toArray⟩ else ⟨#[]⟩
theorem Yok {d:Int} (h:d < -32∨31<d):Yds d=⟨#[]⟩:=by
 unfold Yds
 rw [if_neg (by omega)]
def Yeq (w:World):Prop:=∀i,i<33→w.cell? ⟨2,i,none⟩=some (.int .i64 (Yju i:Nat))∧w.cell? ⟨1,i,none⟩=some (.int .i64 (Ydy i:Nat))
theorem Yeq.lt {w:World} (h:Yeq w):2<w.heap.size∧1<w.heap.size:=
 ⟨World.block_lt_of_cell? w ⟨2,0,none⟩ (h 0 (by decide)).1,World.block_lt_of_cell? w ⟨1,0,none⟩ (h 0 (by decide)).2⟩
theorem Yeq.below {w w':World} (h:Yeq w) (hb:Below w.heap.size w w'):Yeq w':=fun i hi=>
 ⟨(hb.cell (p:=⟨2,i,none⟩) h.lt.1).trans (h i hi).1,(hb.cell (p:=⟨1,i,none⟩) h.lt.2).trans (h i hi).2⟩
end Go.Proofs.YtpgdngijmihafaaGreatDoor
namespace Go.Proofs.YtpgdngijmihafaaGreatDoor
def Yim (i:Nat):ByteArray×Int:=(Yds ((i:Int)-32),(i:Int)-32)
def allD:List (ByteArray×Int):=(List.range 64).map Yim
def rowsD:List (List UInt8):=allD.map rowC
def dtk (b:List UInt8):Int×Int×Nat:=gtk allD b
theorem Yji:Ygq rowsD:=by unfold Ygq;decide +kernel
theorem Y92:∀x∈allD,Yb1 (rowC x)=true:=by decide +kernel
theorem Yg4 {i:Nat} (h:i<64):Yim i∈allD:=List.mem_map_of_mem (List.mem_range.2 h)
theorem Ymr {i:Nat} (h:i<64):rowC (Yim i)∈rowsD:=List.mem_map_of_mem (Yg4 h)
theorem Ydj (i:Nat):(Ygs i).length=Ydy i:=Ya6 _ _
theorem Y5y:∀i,i<33→∀j,j<33→i≠j→(Ygs i).isPrefixOf (Ygs j)=false:=by decide +kernel
theorem Y2t:∀r∈rowsD,r=Ygs 0∨∃i∈List.range 33,r.dropLast=Ygs i∧1<r.length:=by decide +kernel
theorem Yq4:Ygs 0=rowC (Yim 32):=by decide +kernel
theorem Y8d:∀i,i<32→0<i→Ygs i ++ [48]=rowC (Yim (32+i)):=by decide +kernel
theorem Yjc:∀i,i<33→0<i→Ygs i ++ [49]=rowC (Yim (32-i)):=by decide +kernel
theorem Y6d:∀r∈rowsD,(Ygs 32 ++ [48]).isPrefixOf r=false:=by decide +kernel
theorem Ykq {i:Nat} (h:i<33):∃r∈rowsD,(Ygs i).isPrefixOf r=true:=by
 by_cases h0:i=0
 ·subst h0
  exact ⟨_,Ymr (i:=32) (by decide),by rw [Yq4,Ydf]⟩
 ·refine ⟨_,Ymr (i:=32-i) (by omega),?_⟩
  rw [←Yjc i h (by omega),List.isPrefixOf_iff_prefix]
  exact List.prefix_append _ _
theorem Qaq {i j:Nat} (hi:i<33) (hj:j<33) (h:(Ygs i).isPrefixOf (Ygs j)=true):i=j:=by
 by_cases e:i=j
 ·exact e
 ·rw [Y5y i hi j hj e] at h
  cases h
theorem Y33 {i:Nat} (hi:i<33) (h0:i≠0):Ygs i∉rowsD:=by
 intro h
 have e:=Yil Yji h (Ymr (i:=32-i) (by omega)) (by rw [←Yjc i hi (by omega),List.isPrefixOf_iff_prefix];exact List.prefix_append _ _)
 rw [←Yjc i hi (by omega)] at e
 have:=congrArg List.length e
 rw [List.length_append,List.length_singleton] at this
 omega
def Ys0 (q:List UInt8):Prop:=∀i,i<33→(Ygs i).isPrefixOf q=false
theorem Y7j:Ys0 []:=by unfold Ys0;decide +kernel
theorem Y6g {b r:List UInt8} {n:Nat} (hn:n+1≤b.length) (hno:Ys0 (b.take n)) (hr:r∈rowsD) (hp:(b.take (n+1)).isPrefixOf r=true):∃i,i<33∧(b.take (n+1)).isPrefixOf (Ygs i)=true:=by
 have hl:(b.take (n+1)).length=n+1:=by rw [List.length_take];omega
 rcases Y2t r hr with rfl | ⟨i,hi,hd,h1⟩
 ·exact ⟨0,by decide,hp⟩
 ·rw [List.mem_range] at hi
  refine ⟨i,hi,?_⟩
  by_cases hlt:(b.take (n+1)).length<r.length
  ·rw [←hd]
   exact Y7q hp hlt
  ·exfalso
   have hle:=Ybl hp
   have e:b.take (n+1)=r:=by
    have:=Ybp.1 hp
    rw [List.take_of_length_le (by omega)] at this
    exact this.symm
   have h2:(Ygs i).isPrefixOf (b.take n)=true:=by
    rw [←hd,←e,List.dropLast_eq_take,List.take_take,hl,show min (n+1-1) (n+1)=n by omega,Ydf]
   rw [hno i hi] at h2
   cases h2
theorem Y71 {b:List UInt8} {k n:Nat} (hn:n+1≤b.length) (hno:Ys0 (b.take n)) (h:∀i,i<33→(b.take (n+1)).isPrefixOf (Ygs i)=false):tk rowsD b (k+1) (n+1)=(3,0):=by
 refine Y46 hn fun r hr=> ?_
 cases hp:(b.take (n+1)).isPrefixOf r with
 | false=> rfl
 | true=>
  obtain ⟨i,hi,h2⟩:=Y6g hn hno hr hp
  rw [h i hi] at h2
  cases h2
theorem Y58 {b:List UInt8} {k n i:Nat} (hn:n+1≤b.length) (hno:Ys0 (b.take n)) (hi:i<33) (h:(b.take (n+1)).isPrefixOf (Ygs i)=true) (hne:Ydy i≠n+1):
  tk rowsD b (k+1) (n+1)=tk rowsD b k (n+2)∧Ys0 (b.take (n+1)):=by
 have hl:(b.take (n+1)).length=n+1:=by rw [List.length_take];omega
 have hlt:=Ybl h
 rw [hl,Ydj] at hlt
 have hnone:Ys0 (b.take (n+1)):=by
  intro j hj
  cases hp:(Ygs j).isPrefixOf (b.take (n+1)) with
  | false=> rfl
  | true=>
   have e:=Qaq hj hi (Ye0 hp h)
   subst e
   have:=Ybl hp
   rw [hl,Ydj] at this
   omega
 refine ⟨?_,hnone⟩
 obtain ⟨r,hr,hp⟩:=Ykq hi
 refine Yqy hn (fun hm=> ?_) hr (Ye0 h hp)
 rcases Y2t _ hm with e | ⟨j,hj,hd,_⟩
 ·have:=hnone 0 (by decide)
  rw [e,Ydf] at this
  cases this
 ·have:=hno j (List.mem_range.1 hj)
  rw [←hd,List.dropLast_eq_take,List.take_take,hl,show min (n+1-1) (n+1)=n by omega,Ydf] at this
  cases this
theorem Y5f {b:List UInt8} {i n:Nat} (hn:n≤b.length) (h:(b.take n).isPrefixOf (Ygs i)=true) (he:Ydy i=n):b.take n=Ygs i:=by
 have:=Ybp.1 h
 rw [List.take_of_length_le (by rw [Ydj,List.length_take];omega)] at this
 exact this.symm
theorem Y7y {b:List UInt8} (hb:b.take (Ydy 0)=Ygs 0):dtk b=(0,0,1):=by
 have hp:(Ygs 0).isPrefixOf b=true:=by rw [←hb];exact Yf7 _ _
 rw [Yq4] at hp
 have:=Ywm Yji (Yg4 (i:=32) (by decide)) (by decide +kernel) (by decide +kernel) hp
 rw [show (rowC (Yim 32)).length=1 by decide +kernel] at this
 exact this
theorem Yqx {b:List UInt8} {i n:Nat} (hi:i<33) (h0:i≠0) (he:Ydy i=n) (hn:n≤b.length) (hb:b.take n=Ygs i) (ht:tk rowsD b 25 1=tk rowsD b (26-n) n) (hs:b.length<n+1):dtk b=(0,2,0):=by
 have h12:=(Ydg i hi).2.1
 obtain ⟨r,hr,hp⟩:=Ykq hi
 refine Ygi (n:=0) (ht.trans ?_) (by decide)
 rw [show 26-n=(24-n)+1+1 by omega,Yqy hn (by rw [hb];exact Y33 hi h0) hr (by rw [hb];exact hp)]
 exact Ypz hs
theorem Yql {b:List UInt8} {i n:Nat} (hn:n<b.length) (hb:b.take n=Ygs i) {c:UInt8} (hc:b[n]=c):b.take (n+1)=Ygs i ++ [c]:=by
 rw [List.take_succ_eq_append_getElem hn,hb,hc]
theorem Yuh {b:List UInt8} {n:Nat} (he:Ydy 32=n) (hn:n<b.length) (hb:b.take n=Ygs 32) (hc:b[n]=48) (ht:tk rowsD b 25 1=tk rowsD b (26-n) n):dtk b=(0,3,0):=by
 have h12:n≤12:=by rw [←he];exact (Ydg 32 (by decide)).2.1
 obtain ⟨r,hr,hp⟩:=Ykq (i:=32) (by decide)
 refine Ygi (n:=0) (ht.trans ?_) (by decide)
 rw [show 26-n=(24-n)+1+1 by omega,Yqy (by omega) (by rw [hb];exact Y33 (by decide) (by decide)) hr (by rw [hb];exact hp)]
 refine Y46 (by omega) fun r hr=> ?_
 rw [Yql hn hb hc]
 exact Y6d r hr
theorem Y32 {b:List UInt8} {j:Nat} (hj:j<64) (hp:(rowC (Yim j)).isPrefixOf b=true):dtk b=((j:Int)-32,0,(rowC (Yim j)).length):=by
 obtain ⟨h1,h2,_⟩:=Ybv (Y92 _ (Yg4 hj))
 exact Ywm Yji (Yg4 hj) (by have:=List.length_pos_iff.2 h1;omega) h2 hp
theorem Yy1 {b:List UInt8} {i n:Nat} (hi:i<32) (h0:0<i) (he:Ydy i=n) (hn:n<b.length) (hb:b.take n=Ygs i) (hc:b[n]=48):dtk b=((i:Int),0,n+1):=by
 have e:=Y8d i hi h0
 have hp:(rowC (Yim (32+i))).isPrefixOf b=true:=by rw [←e,←Yql hn hb hc];exact Yf7 _ _
 rw [Y32 (by omega) hp,←e,List.length_append,Ydj,he,show ((32+i:Nat):Int)-32=i by omega]
 rfl
theorem Yrs {b:List UInt8} {i n:Nat} (hi:i<33) (h0:0<i) (he:Ydy i=n) (hn:n<b.length) (hb:b.take n=Ygs i) (hc:b[n]=49):dtk b=(-(i:Int),0,n+1):=by
 have e:=Yjc i hi h0
 have hp:(rowC (Yim (32-i))).isPrefixOf b=true:=by rw [←e,←Yql hn hb hc];exact Yf7 _ _
 rw [Y32 (by omega) hp,←e,List.length_append,Ydj,he,show ((32-i:Nat):Int)-32 = -(i:Int) by omega]
 rfl
end Go.Proofs.YtpgdngijmihafaaGreatDoor
namespace Go.Proofs.YtpgdngijmihafaaGreatDoor
open Go.RowKit Go.Lib
def Y5a:List ByteArray:=[⟨#[49,49]⟩,⟨#[48,49,49,48]⟩,⟨#[49,48,48,48]⟩,⟨#[48,49,48,48]⟩,⟨#[49,48,49,48]⟩,⟨#[48,49,48,49]⟩,⟨#[48,48,48,48,49,49]⟩,⟨#[48,48,48,49,48]⟩,⟨#[49,48,49,49]⟩,⟨#[48,48,48,48,49,48]⟩,⟨#[48,49,49,49]⟩,⟨#[48,48,48,49,49]⟩,⟨#[49,48,48,49]⟩,⟨#[48,48,49,48,48]⟩,⟨#[48,48,49,48,49]⟩,⟨#[48,48,49,49]⟩]
theorem Yww:Y5a.length=16:=rfl
theorem Qah:∀i,(h:i<16)→Y5a[i]'(by rw [Yww];exact h)=Yxq[15-i]'(by rw [Ydr];omega):=by decide +kernel
set_option maxHeartbeats 1000000 in
theorem Yj1 (w:World):Calls Tryz.prog 68 #[] w fun e w'=> e = .returned (.slice (some ⟨w.heap.size,0,none⟩) 16 16)∧Yjw w' (some ⟨w.heap.size,0,none⟩) Y5a∧Below w.heap.size w w':=by
 go_enter Tryz.func68,Tryz.ntmps68
 go_wp2
 go_ret
 exact ⟨rfl,Yga (T:=9) (l:=Y5a) (heap_alloc_new w _),(Below.refl _ w).alloc (Nat.le_refl _) _⟩
def Y31:List ByteArray:=[⟨#[49]⟩,⟨#[48,49]⟩,⟨#[48,48,49]⟩,⟨#[48,48,48,49]⟩,⟨#[48,48,48,48,49,49]⟩,⟨#[48,48,48,48,49,48,49]⟩,⟨#[48,48,48,48,49,48,48]⟩,⟨#[48,48,48,48,48,49,49]⟩,⟨#[48,48,48,48,48,49,48,49,49]⟩,⟨#[48,48,48,48,48,49,48,49,48]⟩,⟨#[48,48,48,48,48,49,48,48,49]⟩,⟨#[48,48,48,48,48,49,48,48,48,49]⟩,⟨#[48,48,48,48,48,49,48,48,48,48]⟩,⟨#[48,48,48,48,48,48,49,49,49,49]⟩,⟨#[48,48,48,48,48,48,49,49,49,48]⟩,⟨#[48,48,48,48,48,48,49,49,48,49]⟩,⟨#[48,48,48,48,48,48,49,49,48,48]⟩,⟨#[48,48,48,48,48,48,49,48,49,49]⟩,⟨#[48,48,48,48,48,48,49,48,49,48]⟩,⟨#[48,48,48,48,48,48,49,48,48,49]⟩,⟨#[48,48,48,48,48,48,49,48,48,48]⟩,⟨#[48,48,48,48,48,48,48,49,49,49]⟩,⟨#[48,48,48,48,48,48,48,49,49,48]⟩,⟨#[48,48,48,48,48,48,48,49,48,49]⟩,⟨#[48,48,48,48,48,48,48,49,48,48]⟩,⟨#[48,48,48,48,48,48,48,48,49,49,49]⟩,⟨#[48,48,48,48,48,48,48,48,49,49,48]⟩,⟨#[48,48,48,48,48,48,48,48,49,48,49]⟩,⟨#[48,48,48,48,48,48,48,48,49,48,48]⟩,⟨#[48,48,48,48,48,48,48,48,48,49,49]⟩,⟨#[48,48,48,48,48,48,48,48,48,49,48]⟩,⟨#[48,48,48,48,48,48,48,48,48,48,49,49]⟩,⟨#[48,48,48,48,48,48,48,48,48,48,49,48]⟩]
theorem Yd8:Y31.length=33:=rfl
theorem Y26:∀i,(h:i<33)→(Y31[i]'(by rw [Yd8];exact h)).data.toList=Ygs i:=by decide +kernel
theorem Yrg {i:Nat} (h:i<33):Y31[i]'(by rw [Yd8];exact h)=⟨(Ygs i).toArray⟩:=Yzr.2 (Y26 i h)
theorem Ytc {i:Nat} (h:i<33):(Y31[i]'(by rw [Yd8];exact h)).size≤12:=by
 rw [Yrg h,Yis,Ydj]
 exact (Ydg i h).2.1
theorem Y1h:Yds 0=⟨(Ygs 0).toArray⟩:=Yzr.2 Yq4.symm
theorem Y88 {i:Nat} (h:i<32) (h0:0<i):Yds (i:Int)=⟨(Ygs i).toArray⟩++⟨#[48]⟩:=by
 rw [show (⟨#[48]⟩:ByteArray)=⟨[48].toArray⟩ from rfl,Yg3,Y8d i h h0]
 refine Yzr.2 ?_
 show _=(Yds (((32+i:Nat):Int)-32)).data.toList
 rw [show ((32+i:Nat):Int)-32=i by omega]
theorem Y1r {i:Nat} (h:i<33) (h0:0<i):Yds (-(i:Int))=⟨(Ygs i).toArray⟩++⟨#[49]⟩:=by
 rw [show (⟨#[49]⟩:ByteArray)=⟨[49].toArray⟩ from rfl,Yg3,Yjc i h h0]
 refine Yzr.2 ?_
 show _=(Yds (((32-i:Nat):Int)-32)).data.toList
 rw [show ((32-i:Nat):Int)-32 = -(i:Int) by omega]
set_option maxRecDepth 100000 in
set_option maxHeartbeats 1000000 in
theorem Yhi (w:World):Calls Tryz.prog 98 #[] w fun e w'=> e = .returned (.slice (some ⟨w.heap.size,0,none⟩) 33 33)∧Yjw w' (some ⟨w.heap.size,0,none⟩) Y31∧Below w.heap.size w w':=by
 go_enter Tryz.func98,Tryz.ntmps98
 go_wp2
 go_ret
 exact ⟨rfl,Yga (T:=9) (l:=Y31) (heap_alloc_new w _),(Below.refl _ w).alloc (Nat.le_refl _) _⟩
set_option maxRecDepth 100000 in
set_option maxHeartbeats 2000000 in
theorem Y09 (d:Int) (w:World):Calls Tryz.prog 69 #[.int .i64 d] w fun e w'=> e = .returned (.string (Yds d))∧Below w.heap.size w w':=by
 by_cases h0:d < -32
 ·have F:=Lib.hid (Yok (d:=d) (.inl h0))
  have t0:decide (d < -32)=true:=by simpa using h0
  clear h0
  rw [F.out]
  go_enter Tryz.func69,Tryz.ntmps69
  go_wp2
  go_ret
  exact ⟨rfl,Below.refl _ _⟩
 by_cases h1:31<d
 ·have F:=Lib.hid (Yok (d:=d) (.inr h1))
  have t0:decide (d < -32)=false:=by simpa using h0
  have t1:decide (31<d)=true:=by simpa using h1
  clear h0 h1
  rw [F.out]
  go_enter Tryz.func69,Tryz.ntmps69
  go_wp2
  go_ret
  exact ⟨rfl,Below.refl _ _⟩
 have t0:decide (d < -32)=false:=by simpa using h0
 have t1:decide (31<d)=false:=by simpa using h1
 by_cases h2:d<0
 ·obtain ⟨a,ha⟩:∃a:Nat,(-d).toNat=a:=⟨_,rfl⟩
  have e2:-d=(a:Int):=by omega
  have hj:a<33:=by omega
  have F:=Lib.hid (show Yds d=Y31[a]'(by rw [Yd8];exact hj)++⟨#[49]⟩ by rw [Yrg hj,←Y1r hj (by omega)];congr 1;omega)
  have t2:decide (d<0)=true:=by simpa using h2
  obtain ⟨r,hr2⟩:∃r,Y31[a]'(by rw [Yd8];exact hj)=r:=⟨_,rfl⟩
  have hsz:=Ytc hj
  rw [hr2] at F hsz
  clear h0 h1 h2 ha
  rw [F.out]
  go_enter Tryz.func69,Tryz.ntmps69
  go_wp2_with fail
  refine (Yhi _).mono ?_
  rintro e w1 ⟨rfl,hst,hb⟩
  obtain ⟨b,o,e,_,hc⟩:=hst.at (by rw [Yd8];omega)
  cases e
  have c0:w1.cell? ⟨w.heap.size,0+a,none⟩=some (.string r):=(hc a hj).trans (congrArg (fun x=> some (Value.string x)) hr2)
  rw [Nat.zero_add] at c0
  clear hc
  go_wp2
  go_ret
  exact ⟨rfl,hb⟩
 ·have t2:decide (d<0)=false:=by simpa using h2
  by_cases h3:0<d
  ·obtain ⟨a,ha⟩:∃a:Nat,d.toNat=a:=⟨_,rfl⟩
   obtain rfl:d=(a:Int):=by omega
   have hj:a<33:=by omega
   have ha0:0<a:=by omega
   have F:=Lib.hid (show Yds (a:Int)=Y31[a]'(by rw [Yd8];exact hj)++⟨#[48]⟩ by rw [Yrg hj,←Y88 (by omega) ha0])
   obtain ⟨r,hr2⟩:∃r,Y31[a]'(by rw [Yd8];exact hj)=r:=⟨_,rfl⟩
   have hsz:=Ytc hj
   rw [hr2] at F hsz
   clear h0 h1 h2 h3 ha
   rw [F.out]
   go_enter Tryz.func69,Tryz.ntmps69
   go_wp2_with fail
   refine (Yhi _).mono ?_
   rintro e w1 ⟨rfl,hst,hb⟩
   obtain ⟨b,o,e,_,hc⟩:=hst.at (by rw [Yd8];omega)
   cases e
   have c0:w1.cell? ⟨w.heap.size,0+a,none⟩=some (.string r):=(hc a hj).trans (congrArg (fun x=> some (Value.string x)) hr2)
   rw [Nat.zero_add] at c0
   clear hc
   go_wp2
   go_ret
   exact ⟨rfl,hb⟩
  ·obtain rfl:d=0:=by omega
   have F:=Lib.hid (show Yds 0=Y31[0]'(by decide) by rw [Yrg (by decide),Y1h])
   clear h0 h1 h2 h3 t0 t1 t2
   rw [F.out]
   go_enter Tryz.func69,Tryz.ntmps69
   go_wp2_with fail
   refine (Yhi _).mono ?_
   rintro e w1 ⟨rfl,hst,hb⟩
   obtain ⟨b,o,e,_,hc⟩:=hst.at (by rw [Yd8];omega)
   cases e
   have c0:=hc 0 (by decide)
   rw [Nat.zero_add] at c0
   clear hc
   go_wp2
   go_ret
   exact ⟨rfl,hb⟩
def Yn6 (i:Nat):List ByteArray:=(List.range i).map fun j=> (Yim j).1
theorem Yja (i:Nat):(Yn6 i).length=i:=by simp [Yn6]
theorem Y25 (i:Nat):Yn6 (i+1)=Yn6 i ++ [(Yim i).1]:=by
 unfold Yn6
 rw [List.range_succ,List.map_append]
 rfl
theorem Y1z:(Yn6 64).map (fun x=> x.data.toList)=rowsD:=by
 unfold Yn6 rowsD allD
 rw [List.map_map,List.map_map]
 rfl
theorem Y7u {i:Nat} (h:i<(Yn6 64).length):(Yn6 64)[i].data.toList=rowC (Yim i):=by
 have:(Yn6 64)[i]=(Yim i).1:=by simp [Yn6]
 rw [this]
 rfl
def Yxn (b:List UInt8) (at_:Nat) (w:World) (e:Ending) (w':World):Prop:=
 e = .returned (.tuple #[.int .i64 (dtk b).1,.int .i64 ((at_+(dtk b).2.2:Nat):Int),.int .i64 (dtk b).2.1])∧Below w.heap.size w w'
theorem Ysm {bs:List UInt8} {at_ n z:Nat} {w w':World} {a f:Int} (h:dtk bs=(a,f,n)) (ht:at_+n=z) (hb:Below w.heap.size w w'):
  Yxn bs at_ w (.returned (.tuple #[.int .i64 a,.int .i64 (z:Int),.int .i64 f])) w':=by
 subst ht
 unfold Yxn
 rw [h]
 exact ⟨rfl,hb⟩
set_option maxRecDepth 100000 in
set_option maxHeartbeats 4000000 in
theorem Yvc (s:ByteArray) (at_:Nat) (w:World) (hs:s.size≤1048576) (ha:at_≤s.size):
  Calls Tryz.prog 42 #[.string s,.int .i64 (at_:Int)] w (Yxn (s.data.toList.drop at_) at_ w):=by
 obtain ⟨i0,hi,jz0,jz1,jz2⟩:=info_parts Ylf
 obtain ⟨bs,hbs⟩:∃bs,s.data.toList.drop at_=bs:=⟨_,rfl⟩
 have hcon:=fun (q:Option Addr) (cq:Nat) (x:World) (hq:Yjw x q (Yn6 64))=> Yhu (Yn6 64) q cq s at_ x hq (by rw [Yja];decide) hs ha
 rw [Yja] at hcon
 rw [hbs] at hcon ⊢
 clear hbs
 obtain ⟨f,n,hk⟩:∃f n,tk rowsD bs 25 1=(f,n):=⟨_,_,rfl⟩
 have hcd:=Yhx rowsD bs 25 1
 have HK:=Lib.hid hk
 have HR:Hid (tk ((Yn6 64).map fun x=> x.data.toList) bs 25 1=(f,n)):=Lib.hid (by rw [Y1z];exact hk)
 rw [hk] at hcd
 have HCD:=Lib.hid hcd
 have HCON:=Lib.hid hcon
 clear hk hcd hcon
 obtain ⟨B,hB⟩:∃B,w.heap.size=B:=⟨_,rfl⟩
 have HB:=Lib.hid hB
 have hb0:Below B w w:=Below.refl _ _
 have hz0:B≤w.heap.size:=by omega
 have hown0:w.ownsRow B 9 1 (.slice none 0 0) 0 (Ybe (Yn6 0)):=World.ownsRow_nil _ _ _ _
 clear hB
 go_enter Tryz.func42,Tryz.ntmps42
 go_wp2
 go_loopw [7,8] (fun u v wr=>∃i:Nat,i≤64∧v = .int .i64 ((i:Int)-32)∧wr.ownsRow B 9 1 u i (Ybe (Yn6 i))∧Below B w wr∧B≤wr.heap.size) (fun _ v _=> (32-intOf v).toNat)
 case atStart=> exact ⟨0,by omega,rfl,hown0,hb0,hz0⟩
 case round=>
  clear hown0 hb0 hz0
  obtain ⟨i,hi64,rfl,hu,hb,hz⟩:=hrel
  by_cases hlt:i<64
  ·have hcon:=fun (x:World)=> Y09 ((i:Int)-32) x
   obtain ⟨y,hy⟩:∃y,Yds ((i:Int)-32)=y:=⟨_,rfl⟩
   have SM:=Lib.hid (show Ybe (Yn6 (i+1))=Ybe (Yn6 i) ++ [.string y] by rw [Y25,Ydn,←hy];rfl)
   rw [hy] at hcon
   have t0:decide ((i:Int)-32≤31)=true:=by simp;omega
   clear hy
   have hun:∀x,Below wr.heap.size wr x→x.ownsRow B 9 1 u7 i (Ybe (Yn6 i)):=fun x hx=> hu.kept (Yal hx none) (Classical.em _)
   have UN:=Lib.hid hun
   have hw:IntKind.i64.wrap ((i:Int)-32+1)=((i+1:Nat):Int)-32:=(IntWalk.i64_in _ (by omega)).trans (by omega)
   clear hu hun
   go_wp2_with (first
    | (go_at_call 69;refine (hcon _).mono ?_;rintro e w1 ⟨rfl,hb1⟩;have hu1:=UN.out _ hb1;have hb2:=hb.trans (hb1.mono hz);have hz2:B≤w1.heap.size:=Nat.le_trans hz hb1.size)
    | (at_builtin;refine Yf8 (y0:=y) rfl rfl Tryz.underlying106 hi jz0 rfl jz1 jz2 rfl (hu1.alloc _) rfl ?d1 ?d2 ?d3 ?_;(case d1=> go_cell);(case d2=> omega);(case d3=> (simp;omega));intro v2 w2 hu4 hgrow;have hg4:World.grownBy _ w2 (Value.ownBlock u7):=hgrow;have hb4:=(hb2.alloc hz2 _).grown hg4 (by simp;omega) (Ybc hu1);have hz4:B≤w2.heap.size:=Nat.le_trans (by simp;omega) hg4.size;clear hgrow))
   go_roundw
   case rel=> exact ⟨i+1,by omega,by go_num,by rw [SM.out];exact hu4,hb4,hz4⟩
   case measure=> simp [intOf];omega
  ·obtain rfl:i=64:=by omega
   have hu':wr.ownsRow B 9 1 u7 (Yn6 64).length (Ybe (Yn6 64)):=by rw [Yja];exact hu
   obtain ⟨q,cq,rfl,hq⟩:=Yiy hu'
   rw [Yja]
   have t0:decide (((64:Nat):Int)-32≤31)=false:=by decide
   clear hu hu'
   by_cases h0:f=0
   ·subst h0
    go_wp2_with fail
    refine (HCON.out _ _ _ hq).mono ?_
    rintro e w2 ⟨j,rfl,hj0,_,hb2⟩
    rw [HR.out] at hj0 ⊢
    obtain ⟨hjl,hjr⟩:=hj0 rfl
    have hj64:j<64:=by rw [Yja] at hjl;exact hjl
    have F:=Lib.hid (Yu0 Yji HK.out (Yg4 hj64) (by rw [←Y7u hjl];exact hjr))
    have hb3:=hb.trans (hb2.mono hz)
    clear hjr hj0
    go_wp2
    go_ret3
    exact Ysm F.out rfl (by rw [HB.out];exact hb3)
   ·have hn:n=0:=by
     rcases HCD.out with h | h | h
     ·exact absurd h h0
     ·exact h.2
     ·exact h.2
    subst hn
    have F:=Lib.hid (Ygi (all:=allD) HK.out h0)
    have g0:(f==0)=false:=by rw [beq_eq_false_iff_ne];exact h0
    have H0:=Lib.hid h0
    clear h0
    go_wp2_with fail
    refine (HCON.out _ _ _ hq).mono ?_
    rintro e w2 ⟨j,rfl,_,hj0,hb2⟩
    rw [HR.out] at hj0 ⊢
    obtain rfl:=hj0 H0.out
    have hb3:=hb.trans (hb2.mono hz)
    clear hj0
    go_wp2
    go_ret3
    exact Ysm F.out (Nat.add_zero _) (by rw [HB.out];exact hb3)
theorem Yxo:(Rows.laid_overspill_mvd_codes:DataW Unit)=tabData .i64 (Y9u.map fun z:Nat=> (z:Int))∧(Rows.laid_overspill_mvd_lengths:DataW Unit)=tabData .i64 (Qau.map fun z:Nat=> (z:Int)):=⟨by kernel_rfl,by kernel_rfl⟩
theorem Qbd (l:List Nat) (i:Nat) (h:i<(l.map fun z:Nat=> (z:Int)).length):(l.map fun z:Nat=> (z:Int))[i]=((l[i]?.getD 0:Nat):Int):=by
 have h2:i<l.length:=by simpa using h
 rw [List.getElem_map,List.getElem?_eq_getElem h2]
 rfl
theorem Y6e {laid : List (String × DataW Unit)} {W : World} (hL : laidMetH Tryz.prog laid W) (hm : (("overspill/mvd.codes", Rows.laid_overspill_mvd_codes) ∈ laid ∧ ("overspill/mvd.lengths", Rows.laid_overspill_mvd_lengths) ∈ laid) ∧ (laid.all fun x => x.2.handleName?.isNone) = true) : Yeq W := by
 rw [MakeChecks.laidMetH_plain _ _ _ hm.2] at hL
 obtain ⟨ps,hv,_,_⟩:=hL
 obtain ⟨h1,h2⟩:=hm.1
 rw [Yxo.1] at h1
 rw [Yxo.2] at h2
 have hlc:(Y9u.map fun z:Nat=> (z:Int)).length=33:=rfl
 have hll:(Qau.map fun z:Nat=> (z:Int)).length=33:=rfl
 intro i hi
 have g1:=Ytz hv h1 (g:=2) (t:=177) (by kernel_rfl) (by kernel_rfl) Tryz.underlying177 Tryz.underlying3 (by kernel_rfl) (by kernel_rfl) i (by rw [hlc];exact hi)
 have g2:=Ytz hv h2 (g:=1) (t:=177) (by kernel_rfl) (by kernel_rfl) Tryz.underlying177 Tryz.underlying3 (by kernel_rfl) (by kernel_rfl) i (by rw [hll];exact hi)
 rw [Qbd] at g1 g2
 exact ⟨g1,g2⟩
end Go.Proofs.YtpgdngijmihafaaGreatDoor