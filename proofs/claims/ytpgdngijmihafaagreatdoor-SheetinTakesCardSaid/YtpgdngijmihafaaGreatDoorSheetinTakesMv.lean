/- Texts that SheetinTakes's proof stands on, part 22 of 52. No condition of its own. -/
import Derived.Test.YtpgdngijmihafaaGreatDoorSheetinTakesMc
import Derived.Test.YtpgdngijmihafaaGreatDoorSheetinTakesMf
import Derived.Test.YtpgdngijmihafaaGreatDoorSheetinTakesMr
import Derived.Test.YtpgdngijmihafaaGreatDoorSheetinTakesMs
import Derived.Test.YtpgdngijmihafaaGreatDoorSheetinTakesMu
import Derived.WalkMore
import Derived.IntWalk
import Derived.WalkKit
import Derived.Lib.LaidTab
import Derived.MakeChecks
import Derived.Test.YtpgdngijmihafaaGreatDoorRows
namespace Go.Proofs.YtpgdngijmihafaaGreatDoor
open Go.RowKit Go.Lib
def Y95:List Nat:=[1,1,1,1,3,5,4,3,11,10,9,17,16,15,14,13,12,11,10,9,8,7,6,5,4,7,6,5,4,3,2,3,2]
def Qa7:List Nat:=[1,2,3,4,6,7,7,7,9,9,9,10,10,10,10,10,10,10,10,10,10,10,10,10,10,11,11,11,11,11,11,12,12]
def Yi8 (i:Nat):Nat:=Y95[i]?.getD 0
def Yd1 (i:Nat):Nat:=Qa7[i]?.getD 0
theorem Ydn:∀i,i<33→1≤Yd1 i∧Yd1 i≤12∧Yi8 i<2^Yd1 i∧Yi8 i≤17:=by decide +kernel
def Ygx (i:Nat):List UInt8:=Ybj (Yi8 i)(Yd1 i)
def Qbj (d:Int):Nat:=if d=0 then 1 else if 0<d then 2*Yi8 d.toNat else 2*Yi8 (-d).toNat+1
def Qcl (d:Int):Nat:=if d=0 then 1 else if 0<d then Yd1 d.toNat+1 else Yd1 (-d).toNat+1
def Ydx (d:Int):ByteArray:=if -32≤d∧d≤31 then ⟨(Ybj (Qbj d)(Qcl d)).toArray⟩ else ⟨#[]⟩
theorem Yor {d:Int} (h:d < -32∨31<d):Ydx d=⟨#[]⟩:=by
 unfold Ydx
 rw [if_neg (by omega)]
def Yes (w:World):Prop:=∀i,i<33→w.cell? ⟨2,i,none⟩=some (.int .i64 (Yi8 i:Nat))∧w.cell? ⟨1,i,none⟩=some (.int .i64 (Yd1 i:Nat))
theorem Yes.lt {w:World} (h:Yes w):2<w.heap.size∧1<w.heap.size:=
 ⟨World.block_lt_of_cell? w ⟨2,0,none⟩(h 0 (by decide)).1,World.block_lt_of_cell? w ⟨1,0,none⟩(h 0 (by decide)).2⟩
theorem Yes.below {w w':World} (h:Yes w)(hb:Below w.heap.size w w'):Yes w':=fun i hi=>
 ⟨(hb.cell (p:=⟨2,i,none⟩) h.lt.1).trans (h i hi).1,(hb.cell (p:=⟨1,i,none⟩) h.lt.2).trans (h i hi).2⟩
end Go.Proofs.YtpgdngijmihafaaGreatDoor
namespace Go.Proofs.YtpgdngijmihafaaGreatDoor
def Yik (i:Nat):ByteArray×Int:=(Ydx ((i:Int)-32),(i:Int)-32)
def Y1g:List (ByteArray×Int):=(List.range 64).map Yik
def Yfg:List (List UInt8):=Y1g.map Ya1
def dtk (b:List UInt8):Int×Int×Nat:=gtk Y1g b
theorem Yjt:Ygy Yfg:=by unfold Ygy;decide +kernel
theorem Y94:∀x∈Y1g,Yb4 (Ya1 x)=true:=by decide +kernel
theorem Yg4 {i:Nat} (h:i<64):Yik i∈Y1g:=List.mem_map_of_mem (List.mem_range.2 h)
theorem Ynn {i:Nat} (h:i<64):Ya1 (Yik i)∈Yfg:=List.mem_map_of_mem (Yg4 h)
theorem Ydk (i:Nat):(Ygx i).length=Yd1 i:=Ya8 _ _
theorem Y50:∀i,i<33→∀j,j<33→i≠j→(Ygx i).isPrefixOf (Ygx j)=false:=by decide +kernel
theorem Y3s:∀r∈Yfg,r=Ygx 0∨∃i∈List.range 33,r.dropLast=Ygx i∧1<r.length:=by decide +kernel
theorem Yp2:Ygx 0=Ya1 (Yik 32):=by decide +kernel
theorem Y8z:∀i,i<32→0<i→Ygx i ++ [48]=Ya1 (Yik (32+i)):=by decide +kernel
theorem Yj1:∀i,i<33→0<i→Ygx i ++ [49]=Ya1 (Yik (32-i)):=by decide +kernel
theorem Y63:∀r∈Yfg,(Ygx 32 ++ [48]).isPrefixOf r=false:=by decide +kernel
theorem Yk1 {i:Nat} (h:i<33):∃r∈Yfg,(Ygx i).isPrefixOf r=true:=by
 by_cases h0:i=0
 ·subst h0
  exact ⟨_,Ynn (i:=32)(by decide),by rw [Yp2,Ydj]⟩
 ·refine ⟨_,Ynn (i:=32-i)(by omega),?_⟩
  rw [←Yj1 i h (by omega),List.isPrefixOf_iff_prefix]
  exact List.prefix_append _ _
theorem Qao {i j:Nat} (hi:i<33)(hj:j<33)(h:(Ygx i).isPrefixOf (Ygx j)=true):i=j:=by
 by_cases e:i=j
 ·exact e
 ·rw [Y50 i hi j hj e] at h
  cases h
theorem Y18 {i:Nat} (hi:i<33)(h0:i≠0):Ygx i∉Yfg:=by
 intro h
 have e:=Yim Yjt h (Ynn (i:=32-i)(by omega))(by rw [←Yj1 i hi (by omega),List.isPrefixOf_iff_prefix];exact List.prefix_append _ _)
 rw [←Yj1 i hi (by omega)] at e
 have:=congrArg List.length e
 rw [List.length_append,List.length_singleton] at this
 omega
def Yt3 (q:List UInt8):Prop:=∀i,i<33→(Ygx i).isPrefixOf q=false
theorem Y6y:Yt3 []:=by unfold Yt3;decide +kernel
theorem Y6j {b r:List UInt8} {n:Nat} (hn:n+1≤b.length)(hno:Yt3 (b.take n))(hr:r∈Yfg)(hp:(b.take (n+1)).isPrefixOf r=true):∃i,i<33∧(b.take (n+1)).isPrefixOf (Ygx i)=true:=by
 have hl:(b.take (n+1)).length=n+1:=by rw [List.length_take];omega
 rcases Y3s r hr with rfl | ⟨i,hi,hd,h1⟩
 ·exact ⟨0,by decide,hp⟩
 ·rw [List.mem_range] at hi
  refine ⟨i,hi,?_⟩
  by_cases hlt:(b.take (n+1)).length<r.length
  ·rw [←hd]
   exact Y7o hp hlt
  ·exfalso
   have hle:=Ybo hp
   have e:b.take (n+1)=r:=by
    have:=Ybs.1 hp
    rw [List.take_of_length_le (by omega)] at this
    exact this.symm
   have h2:(Ygx i).isPrefixOf (b.take n)=true:=by
    rw [←hd,←e,List.dropLast_eq_take,List.take_take,hl,show min (n+1-1)(n+1)=n by omega,Ydj]
   rw [hno i hi] at h2
   cases h2
theorem Y5s {b:List UInt8} {k n:Nat} (hn:n+1≤b.length)(hno:Yt3 (b.take n))(h:∀i,i<33→(b.take (n+1)).isPrefixOf (Ygx i)=false):tk Yfg b (k+1)(n+1)=(3,0):=by
 refine Y3c hn fun r hr=> ?_
 cases hp:(b.take (n+1)).isPrefixOf r with
 | false=> rfl
 | true=>
  obtain ⟨i,hi,h2⟩:=Y6j hn hno hr hp
  rw [h i hi] at h2
  cases h2
theorem Y6o {b:List UInt8} {k n i:Nat} (hn:n+1≤b.length)(hno:Yt3 (b.take n))(hi:i<33)(h:(b.take (n+1)).isPrefixOf (Ygx i)=true)(hne:Yd1 i≠n+1):
  tk Yfg b (k+1)(n+1)=tk Yfg b k (n+2)∧Yt3 (b.take (n+1)):=by
 have hl:(b.take (n+1)).length=n+1:=by rw [List.length_take];omega
 have hlt:=Ybo h
 rw [hl,Ydk] at hlt
 have hnone:Yt3 (b.take (n+1)):=by
  intro j hj
  cases hp:(Ygx j).isPrefixOf (b.take (n+1)) with
  | false=> rfl
  | true=>
   have e:=Qao hj hi (Ye3 hp h)
   subst e
   have:=Ybo hp
   rw [hl,Ydk] at this
   omega
 refine ⟨?_,hnone⟩
 obtain ⟨r,hr,hp⟩:=Yk1 hi
 refine Ypy hn (fun hm=> ?_) hr (Ye3 h hp)
 rcases Y3s _ hm with e | ⟨j,hj,hd,_⟩
 ·have:=hnone 0 (by decide)
  rw [e,Ydj] at this
  cases this
 ·have:=hno j (List.mem_range.1 hj)
  rw [←hd,List.dropLast_eq_take,List.take_take,hl,show min (n+1-1)(n+1)=n by omega,Ydj] at this
  cases this
theorem Y8a {b:List UInt8} {i n:Nat} (hn:n≤b.length)(h:(b.take n).isPrefixOf (Ygx i)=true)(he:Yd1 i=n):b.take n=Ygx i:=by
 have:=Ybs.1 h
 rw [List.take_of_length_le (by rw [Ydk,List.length_take];omega)] at this
 exact this.symm
theorem Y6l {b:List UInt8} (hb:b.take (Yd1 0)=Ygx 0):dtk b=(0,0,1):=by
 have hp:(Ygx 0).isPrefixOf b=true:=by rw [←hb];exact Ygo _ _
 rw [Yp2] at hp
 have:=Yvc Yjt (Yg4 (i:=32)(by decide))(by decide +kernel)(by decide +kernel) hp
 rw [show (Ya1 (Yik 32)).length=1 by decide +kernel] at this
 exact this
theorem Yp9 {b:List UInt8} {i n:Nat} (hi:i<33)(h0:i≠0)(he:Yd1 i=n)(hn:n≤b.length)(hb:b.take n=Ygx i)(ht:tk Yfg b 25 1=tk Yfg b (26-n) n)(hs:b.length<n+1):dtk b=(0,2,0):=by
 have h12:=(Ydn i hi).2.1
 obtain ⟨r,hr,hp⟩:=Yk1 hi
 refine Ygj (n:=0)(ht.trans ?_)(by decide)
 rw [show 26-n=(24-n)+1+1 by omega,Ypy hn (by rw [hb];exact Y18 hi h0) hr (by rw [hb];exact hp)]
 exact Yrh hs
theorem Yqm {b:List UInt8} {i n:Nat} (hn:n<b.length)(hb:b.take n=Ygx i) {c:UInt8} (hc:b[n]=c):b.take (n+1)=Ygx i ++ [c]:=by
 rw [List.take_succ_eq_append_getElem hn,hb,hc]
theorem Yul {b:List UInt8} {n:Nat} (he:Yd1 32=n)(hn:n<b.length)(hb:b.take n=Ygx 32)(hc:b[n]=48)(ht:tk Yfg b 25 1=tk Yfg b (26-n) n):dtk b=(0,3,0):=by
 have h12:n≤12:=by rw [←he];exact (Ydn 32 (by decide)).2.1
 obtain ⟨r,hr,hp⟩:=Yk1 (i:=32)(by decide)
 refine Ygj (n:=0)(ht.trans ?_)(by decide)
 rw [show 26-n=(24-n)+1+1 by omega,Ypy (by omega)(by rw [hb];exact Y18 (by decide)(by decide)) hr (by rw [hb];exact hp)]
 refine Y3c (by omega) fun r hr=> ?_
 rw [Yqm hn hb hc]
 exact Y63 r hr
theorem Y41 {b:List UInt8} {j:Nat} (hj:j<64)(hp:(Ya1 (Yik j)).isPrefixOf b=true):dtk b=((j:Int)-32,0,(Ya1 (Yik j)).length):=by
 obtain ⟨h1,h2,_⟩:=Ybv (Y94 _ (Yg4 hj))
 exact Yvc Yjt (Yg4 hj)(by have:=List.length_pos_iff.2 h1;omega) h2 hp
theorem Yzq {b:List UInt8} {i n:Nat} (hi:i<32)(h0:0<i)(he:Yd1 i=n)(hn:n<b.length)(hb:b.take n=Ygx i)(hc:b[n]=48):dtk b=((i:Int),0,n+1):=by
 have e:=Y8z i hi h0
 have hp:(Ya1 (Yik (32+i))).isPrefixOf b=true:=by rw [←e,←Yqm hn hb hc];exact Ygo _ _
 rw [Y41 (by omega) hp,←e,List.length_append,Ydk,he,show ((32+i:Nat):Int)-32=i by omega]
 rfl
theorem Yum {b:List UInt8} {i n:Nat} (hi:i<33)(h0:0<i)(he:Yd1 i=n)(hn:n<b.length)(hb:b.take n=Ygx i)(hc:b[n]=49):dtk b=(-(i:Int),0,n+1):=by
 have e:=Yj1 i hi h0
 have hp:(Ya1 (Yik (32-i))).isPrefixOf b=true:=by rw [←e,←Yqm hn hb hc];exact Ygo _ _
 rw [Y41 (by omega) hp,←e,List.length_append,Ydk,he,show ((32-i:Nat):Int)-32 = -(i:Int) by omega]
 rfl
end Go.Proofs.YtpgdngijmihafaaGreatDoor
namespace Go.Proofs.YtpgdngijmihafaaGreatDoor
open Go.RowKit Go.Lib
def Y5n:List ByteArray:=[⟨#[49,49]⟩,⟨#[48,49,49,48]⟩,⟨#[49,48,48,48]⟩,⟨#[48,49,48,48]⟩,⟨#[49,48,49,48]⟩,⟨#[48,49,48,49]⟩,⟨#[48,48,48,48,49,49]⟩,⟨#[48,48,48,49,48]⟩,⟨#[49,48,49,49]⟩,⟨#[48,48,48,48,49,48]⟩,⟨#[48,49,49,49]⟩,⟨#[48,48,48,49,49]⟩,⟨#[49,48,48,49]⟩,⟨#[48,48,49,48,48]⟩,⟨#[48,48,49,48,49]⟩,⟨#[48,48,49,49]⟩]
theorem Yw5:Y5n.length=16:=rfl
theorem Qa2:∀i,(h:i<16)→Y5n[i]'(by rw [Yw5];exact h)=Yxu[15-i]'(by rw [Ydu];omega):=by decide +kernel
set_option maxHeartbeats 1000000 in
theorem Yki (w:World):Calls Tryz.prog 68 #[] w fun e w'=> e = .returned (.slice (some ⟨w.heap.size,0,none⟩) 16 16)∧Yj5 w' (some ⟨w.heap.size,0,none⟩) Y5n∧Below w.heap.size w w':=by
 go_enter Tryz.func68,Tryz.ntmps68
 go_wp2
 go_ret
 exact ⟨rfl,Ygf (T:=9)(l:=Y5n)(heap_alloc_new w _),(Below.refl _ w).alloc (Nat.le_refl _) _⟩
def Y32:List ByteArray:=[⟨#[49]⟩,⟨#[48,49]⟩,⟨#[48,48,49]⟩,⟨#[48,48,48,49]⟩,⟨#[48,48,48,48,49,49]⟩,⟨#[48,48,48,48,49,48,49]⟩,⟨#[48,48,48,48,49,48,48]⟩,⟨#[48,48,48,48,48,49,49]⟩,⟨#[48,48,48,48,48,49,48,49,49]⟩,⟨#[48,48,48,48,48,49,48,49,48]⟩,⟨#[48,48,48,48,48,49,48,48,49]⟩,⟨#[48,48,48,48,48,49,48,48,48,49]⟩,⟨#[48,48,48,48,48,49,48,48,48,48]⟩,⟨#[48,48,48,48,48,48,49,49,49,49]⟩,⟨#[48,48,48,48,48,48,49,49,49,48]⟩,⟨#[48,48,48,48,48,48,49,49,48,49]⟩,⟨#[48,48,48,48,48,48,49,49,48,48]⟩,⟨#[48,48,48,48,48,48,49,48,49,49]⟩,⟨#[48,48,48,48,48,48,49,48,49,48]⟩,⟨#[48,48,48,48,48,48,49,48,48,49]⟩,⟨#[48,48,48,48,48,48,49,48,48,48]⟩,⟨#[48,48,48,48,48,48,48,49,49,49]⟩,⟨#[48,48,48,48,48,48,48,49,49,48]⟩,⟨#[48,48,48,48,48,48,48,49,48,49]⟩,⟨#[48,48,48,48,48,48,48,49,48,48]⟩,⟨#[48,48,48,48,48,48,48,48,49,49,49]⟩,⟨#[48,48,48,48,48,48,48,48,49,49,48]⟩,⟨#[48,48,48,48,48,48,48,48,49,48,49]⟩,⟨#[48,48,48,48,48,48,48,48,49,48,48]⟩,⟨#[48,48,48,48,48,48,48,48,48,49,49]⟩,⟨#[48,48,48,48,48,48,48,48,48,49,48]⟩,⟨#[48,48,48,48,48,48,48,48,48,48,49,49]⟩,⟨#[48,48,48,48,48,48,48,48,48,48,49,48]⟩]
theorem Yec:Y32.length=33:=rfl
theorem Y37:∀i,(h:i<33)→(Y32[i]'(by rw [Yec];exact h)).data.toList=Ygx i:=by decide +kernel
theorem Yq6 {i:Nat} (h:i<33):Y32[i]'(by rw [Yec];exact h)=⟨(Ygx i).toArray⟩:=Yzc.2 (Y37 i h)
theorem Ys8 {i:Nat} (h:i<33):(Y32[i]'(by rw [Yec];exact h)).size≤12:=by
 rw [Yq6 h,Yiv,Ydk]
 exact (Ydn i h).2.1
theorem Y3o:Ydx 0=⟨(Ygx 0).toArray⟩:=Yzc.2 Yp2.symm
theorem Y92 {i:Nat} (h:i<32)(h0:0<i):Ydx (i:Int)=⟨(Ygx i).toArray⟩++⟨#[48]⟩:=by
 rw [show (⟨#[48]⟩:ByteArray)=⟨[48].toArray⟩ from rfl,Yhr,Y8z i h h0]
 refine Yzc.2 ?_
 show _=(Ydx (((32+i:Nat):Int)-32)).data.toList
 rw [show ((32+i:Nat):Int)-32=i by omega]
theorem Y3x {i:Nat} (h:i<33)(h0:0<i):Ydx (-(i:Int))=⟨(Ygx i).toArray⟩++⟨#[49]⟩:=by
 rw [show (⟨#[49]⟩:ByteArray)=⟨[49].toArray⟩ from rfl,Yhr,Yj1 i h h0]
 refine Yzc.2 ?_
 show _=(Ydx (((32-i:Nat):Int)-32)).data.toList
 rw [show ((32-i:Nat):Int)-32 = -(i:Int) by omega]
set_option maxRecDepth 100000 in
set_option maxHeartbeats 1000000 in
theorem Yhk (w:World):Calls Tryz.prog 98 #[] w fun e w'=> e = .returned (.slice (some ⟨w.heap.size,0,none⟩) 33 33)∧Yj5 w' (some ⟨w.heap.size,0,none⟩) Y32∧Below w.heap.size w w':=by
 go_enter Tryz.func98,Tryz.ntmps98
 go_wp2
 go_ret
 exact ⟨rfl,Ygf (T:=9)(l:=Y32)(heap_alloc_new w _),(Below.refl _ w).alloc (Nat.le_refl _) _⟩
set_option maxRecDepth 100000 in
set_option maxHeartbeats 2000000 in
theorem Y33 (d:Int)(w:World):Calls Tryz.prog 69 #[.int .i64 d] w fun e w'=> e = .returned (.string (Ydx d))∧Below w.heap.size w w':=by
 by_cases h0:d < -32
 ·have F:=Lib.hid (Yor (d:=d)(.inl h0))
  have t0:decide (d < -32)=true:=by simpa using h0
  clear h0
  rw [F.out]
  go_enter Tryz.func69,Tryz.ntmps69
  go_wp2
  go_ret
  exact ⟨rfl,Below.refl _ _⟩
 by_cases h1:31<d
 ·have F:=Lib.hid (Yor (d:=d)(.inr h1))
  have t0:decide (d < -32)=false:=by simpa using h0
  have t1:decide (31<d)=true:=by simpa using h1
  clear h0 h1
  rw [F.out]
  go_enter Tryz.func69,Tryz.ntmps69
  go_wp2
  go_ret
  exact ⟨rfl,Below.refl _ _⟩
 have t0:decide (d < -32)=false:=by simpa using h0
 have t1:decide (31<d)=false:=by simpa using h1
 by_cases h2:d<0
 ·obtain ⟨a,ha⟩:∃a:Nat,(-d).toNat=a:=⟨_,rfl⟩
  have e2:-d=(a:Int):=by omega
  have hj:a<33:=by omega
  have F:=Lib.hid (show Ydx d=Y32[a]'(by rw [Yec];exact hj)++⟨#[49]⟩ by rw [Yq6 hj,←Y3x hj (by omega)];congr 1;omega)
  have t2:decide (d<0)=true:=by simpa using h2
  obtain ⟨r,hr2⟩:∃r,Y32[a]'(by rw [Yec];exact hj)=r:=⟨_,rfl⟩
  have hsz:=Ys8 hj
  rw [hr2] at F hsz
  clear h0 h1 h2 ha
  rw [F.out]
  go_enter Tryz.func69,Tryz.ntmps69
  go_wp2_with fail
  refine (Yhk _).mono ?_
  rintro e w1 ⟨rfl,hst,hb⟩
  obtain ⟨b,o,e,_,hc⟩:=hst.at (by rw [Yec];omega)
  cases e
  have c0:w1.cell? ⟨w.heap.size,0+a,none⟩=some (.string r):=(hc a hj).trans (congrArg (fun x=> some (Value.string x)) hr2)
  rw [Nat.zero_add] at c0
  clear hc
  go_wp2
  go_ret
  exact ⟨rfl,hb⟩
 ·have t2:decide (d<0)=false:=by simpa using h2
  by_cases h3:0<d
  ·obtain ⟨a,ha⟩:∃a:Nat,d.toNat=a:=⟨_,rfl⟩
   obtain rfl:d=(a:Int):=by omega
   have hj:a<33:=by omega
   have ha0:0<a:=by omega
   have F:=Lib.hid (show Ydx (a:Int)=Y32[a]'(by rw [Yec];exact hj)++⟨#[48]⟩ by rw [Yq6 hj,←Y92 (by omega) ha0])
   obtain ⟨r,hr2⟩:∃r,Y32[a]'(by rw [Yec];exact hj)=r:=⟨_,rfl⟩
   have hsz:=Ys8 hj
   rw [hr2] at F hsz
   clear h0 h1 h2 h3 ha
   rw [F.out]
   go_enter Tryz.func69,Tryz.ntmps69
   go_wp2_with fail
   refine (Yhk _).mono ?_
   rintro e w1 ⟨rfl,hst,hb⟩
   obtain ⟨b,o,e,_,hc⟩:=hst.at (by rw [Yec];omega)
   cases e
   have c0:w1.cell? ⟨w.heap.size,0+a,none⟩=some (.string r):=(hc a hj).trans (congrArg (fun x=> some (Value.string x)) hr2)
   rw [Nat.zero_add] at c0
   clear hc
   go_wp2
   go_ret
   exact ⟨rfl,hb⟩
  ·obtain rfl:d=0:=by omega
   have F:=Lib.hid (show Ydx 0=Y32[0]'(by decide) by rw [Yq6 (by decide),Y3o])
   clear h0 h1 h2 h3 t0 t1 t2
   rw [F.out]
   go_enter Tryz.func69,Tryz.ntmps69
   go_wp2_with fail
   refine (Yhk _).mono ?_
   rintro e w1 ⟨rfl,hst,hb⟩
   obtain ⟨b,o,e,_,hc⟩:=hst.at (by rw [Yec];omega)
   cases e
   have c0:=hc 0 (by decide)
   rw [Nat.zero_add] at c0
   clear hc
   go_wp2
   go_ret
   exact ⟨rfl,hb⟩
def Yoe (i:Nat):List ByteArray:=(List.range i).map fun j=> (Yik j).1
theorem Yjd (i:Nat):(Yoe i).length=i:=by simp [Yoe]
theorem Y3y (i:Nat):Yoe (i+1)=Yoe i ++ [(Yik i).1]:=by
 unfold Yoe
 rw [List.range_succ,List.map_append]
 rfl
theorem Y4w:(Yoe 64).map (fun x=> x.data.toList)=Yfg:=by
 unfold Yoe Yfg Y1g
 rw [List.map_map,List.map_map]
 rfl
theorem Y7m {i:Nat} (h:i<(Yoe 64).length):(Yoe 64)[i].data.toList=Ya1 (Yik i):=by
 have:(Yoe 64)[i]=(Yik i).1:=by simp [Yoe]
 rw [this]
 rfl
def Yx2 (b:List UInt8)(at_:Nat)(w:World)(e:Ending)(w':World):Prop:=
 e = .returned (.tuple #[.int .i64 (dtk b).1,.int .i64 ((at_+(dtk b).2.2:Nat):Int),.int .i64 (dtk b).2.1])∧Below w.heap.size w w'
theorem Yse {bs:List UInt8} {at_ n z:Nat} {w w':World} {a f:Int} (h:dtk bs=(a,f,n))(ht:at_+n=z)(hb:Below w.heap.size w w'):
  Yx2 bs at_ w (.returned (.tuple #[.int .i64 a,.int .i64 (z:Int),.int .i64 f])) w':=by
 subst ht
 unfold Yx2
 rw [h]
 exact ⟨rfl,hb⟩
set_option maxRecDepth 100000 in
set_option maxHeartbeats 4000000 in
theorem Yvy (s:ByteArray)(at_:Nat)(w:World)(hs:s.size≤1048576)(ha:at_≤s.size):
  Calls Tryz.prog 42 #[.string s,.int .i64 (at_:Int)] w (Yx2 (s.data.toList.drop at_) at_ w):=by
 obtain ⟨i0,hi,jz0,jz1,jz2⟩:=info_parts Yl6
 obtain ⟨bs,hbs⟩:∃bs,s.data.toList.drop at_=bs:=⟨_,rfl⟩
 have hcon:=fun (q:Option Addr)(cq:Nat)(x:World)(hq:Yj5 x q (Yoe 64))=> Yhz (Yoe 64) q cq s at_ x hq (by rw [Yjd];decide) hs ha
 rw [Yjd] at hcon
 rw [hbs] at hcon ⊢
 clear hbs
 obtain ⟨f,n,hk⟩:∃f n,tk Yfg bs 25 1=(f,n):=⟨_,_,rfl⟩
 have hcd:=Yh4 Yfg bs 25 1
 have HK:=Lib.hid hk
 have HR:Hid (tk ((Yoe 64).map fun x=> x.data.toList) bs 25 1=(f,n)):=Lib.hid (by rw [Y4w];exact hk)
 rw [hk] at hcd
 have HCD:=Lib.hid hcd
 have HCON:=Lib.hid hcon
 clear hk hcd hcon
 obtain ⟨B,hB⟩:∃B,w.heap.size=B:=⟨_,rfl⟩
 have HB:=Lib.hid hB
 have hb0:Below B w w:=Below.refl _ _
 have hz0:B≤w.heap.size:=by omega
 have hown0:w.ownsRow B 9 1 (.slice none 0 0) 0 (Ybh (Yoe 0)):=World.ownsRow_nil _ _ _ _
 clear hB
 go_enter Tryz.func42,Tryz.ntmps42
 go_wp2
 go_loopw [7,8](fun u v wr=>∃i:Nat,i≤64∧v = .int .i64 ((i:Int)-32)∧wr.ownsRow B 9 1 u i (Ybh (Yoe i))∧Below B w wr∧B≤wr.heap.size)(fun _ v _=> (32-intOf v).toNat)
 case atStart=> exact ⟨0,by omega,rfl,hown0,hb0,hz0⟩
 case Ybe=>
  clear hown0 hb0 hz0
  obtain ⟨i,hi64,rfl,hu,hb,hz⟩:=hrel
  by_cases hlt:i<64
  ·have hcon:=fun (x:World)=> Y33 ((i:Int)-32) x
   obtain ⟨y,hy⟩:∃y,Ydx ((i:Int)-32)=y:=⟨_,rfl⟩
   have SM:=Lib.hid (show Ybh (Yoe (i+1))=Ybh (Yoe i) ++ [.string y] by rw [Y3y,Yds,←hy];rfl)
   rw [hy] at hcon
   have t0:decide ((i:Int)-32≤31)=true:=by simp;omega
   clear hy
   have hun:∀x,Below wr.heap.size wr x→x.ownsRow B 9 1 u7 i (Ybh (Yoe i)):=fun x hx=> hu.kept (Yal hx none)(Classical.em _)
   have UN:=Lib.hid hun
   have hw:IntKind.i64.wrap ((i:Int)-32+1)=((i+1:Nat):Int)-32:=(IntWalk.i64_in _ (by omega)).trans (by omega)
   clear hu hun
   go_wp2_with (first
    | (go_at_call 69;refine (hcon _).mono ?_;rintro e w1 ⟨rfl,hb1⟩;have hu1:=UN.out _ hb1;have hb2:=hb.trans (hb1.mono hz);have hz2:B≤w1.heap.size:=Nat.le_trans hz hb1.size)
    | (at_builtin;refine Ygp (y0:=y) rfl rfl Tryz.underlying106 hi jz0 rfl jz1 jz2 rfl (hu1.alloc _) rfl ?d1 ?d2 ?d3 ?_;(case d1=> go_cell);(case d2=> omega);(case d3=> (simp;omega));intro v2 w2 hu4 hgrow;have hg4:World.grownBy _ w2 (Value.ownBlock u7):=hgrow;have hb4:=(hb2.alloc hz2 _).grown hg4 (by simp;omega)(Ybf hu1);have hz4:B≤w2.heap.size:=Nat.le_trans (by simp;omega) hg4.size;clear hgrow))
   go_roundw
   case rel=> exact ⟨i+1,by omega,by go_num,by rw [SM.out];exact hu4,hb4,hz4⟩
   case measure=> simp [intOf];omega
  ·obtain rfl:i=64:=by omega
   have hu':wr.ownsRow B 9 1 u7 (Yoe 64).length (Ybh (Yoe 64)):=by rw [Yjd];exact hu
   obtain ⟨q,cq,rfl,hq⟩:=Yja hu'
   rw [Yjd]
   have t0:decide (((64:Nat):Int)-32≤31)=false:=by decide
   clear hu hu'
   by_cases h0:f=0
   ·subst h0
    go_wp2_with fail
    refine (HCON.out _ _ _ hq).mono ?_
    rintro e w2 ⟨j,rfl,hj0,_,hb2⟩
    rw [HR.out] at hj0 ⊢
    obtain ⟨hjl,hjr⟩:=hj0 rfl
    have hj64:j<64:=by rw [Yjd] at hjl;exact hjl
    have F:=Lib.hid (Yv9 Yjt HK.out (Yg4 hj64)(by rw [←Y7m hjl];exact hjr))
    have hb3:=hb.trans (hb2.mono hz)
    clear hjr hj0
    go_wp2
    go_ret3
    exact Yse F.out rfl (by rw [HB.out];exact hb3)
   ·have hn:n=0:=by
     rcases HCD.out with h | h | h
     ·exact absurd h h0
     ·exact h.2
     ·exact h.2
    subst hn
    have F:=Lib.hid (Ygj (all:=Y1g) HK.out h0)
    have g0:(f==0)=false:=by rw [beq_eq_false_iff_ne];exact h0
    have H0:=Lib.hid h0
    clear h0
    go_wp2_with fail
    refine (HCON.out _ _ _ hq).mono ?_
    rintro e w2 ⟨j,rfl,_,hj0,hb2⟩
    rw [HR.out] at hj0 ⊢
    obtain rfl:=hj0 H0.out
    have hb3:=hb.trans (hb2.mono hz)
    clear hj0
    go_wp2
    go_ret3
    exact Yse F.out (Nat.add_zero _)(by rw [HB.out];exact hb3)
theorem Yxp:(Rows.laid_overspill_mvd_codes:DataW Unit)=tabData .i64 (Y95.map fun z:Nat=> (z:Int))∧(Rows.laid_overspill_mvd_lengths:DataW Unit)=tabData .i64 (Qa7.map fun z:Nat=> (z:Int)):=⟨by kernel_rfl,by kernel_rfl⟩
theorem Qbm (l:List Nat)(i:Nat)(h:i<(l.map fun z:Nat=> (z:Int)).length):(l.map fun z:Nat=> (z:Int))[i]=((l[i]?.getD 0:Nat):Int):=by
 have h2:i<l.length:=by simpa using h
 rw [List.getElem_map,List.getElem?_eq_getElem h2]
 rfl
theorem Y56 {laid : List (String × DataW Unit)} {W : World} (hL : laidMetH Tryz.prog laid W) (hm : (("overspill/mvd.codes", Rows.laid_overspill_mvd_codes) ∈ laid ∧ ("overspill/mvd.lengths", Rows.laid_overspill_mvd_lengths) ∈ laid) ∧ (laid.all fun x => x.2.handleName?.isNone) = true) : Yes W := by
 rw [MakeChecks.laidMetH_plain _ _ _ hm.2] at hL
 obtain ⟨ps,hv,_,_⟩:=hL
 obtain ⟨h1,h2⟩:=hm.1
 rw [Yxp.1] at h1
 rw [Yxp.2] at h2
 have hlc:(Y95.map fun z:Nat=> (z:Int)).length=33:=rfl
 have hll:(Qa7.map fun z:Nat=> (z:Int)).length=33:=rfl
 intro i hi
 have g1:=Yuj hv h1 (g:=2)(t:=177)(by kernel_rfl)(by kernel_rfl) Tryz.underlying177 Tryz.underlying3 (by kernel_rfl)(by kernel_rfl) i (by rw [hlc];exact hi)
 have g2:=Yuj hv h2 (g:=1)(t:=177)(by kernel_rfl)(by kernel_rfl) Tryz.underlying177 Tryz.underlying3 (by kernel_rfl)(by kernel_rfl) i (by rw [hll];exact hi)
 rw [Qbm] at g1 g2
 exact ⟨g1,g2⟩
end Go.Proofs.YtpgdngijmihafaaGreatDoor