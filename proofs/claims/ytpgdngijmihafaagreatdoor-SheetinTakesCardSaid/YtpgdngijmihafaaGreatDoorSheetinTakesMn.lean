/- Texts that SheetinTakes's proof stands on, part 14 of 52. No condition of its own. -/
import Derived.Test.YtpgdngijmihafaaGreatDoorSheetinTakesMf
import Derived.Test.YtpgdngijmihafaaGreatDoorSheetinTakesMg
import Derived.Test.YtpgdngijmihafaaGreatDoorSheetinTakesMj
import Derived.Test.YtpgdngijmihafaaGreatDoorSheetinTakesMk
import Derived.Test.YtpgdngijmihafaaGreatDoorSheetinTakesMl
import Derived.Test.YtpgdngijmihafaaGreatDoorSheetinTakesMm
import Derived.WalkMore
namespace Go.Proofs.YtpgdngijmihafaaGreatDoor
open Go.RowKit Go.Lib
set_option maxHeartbeats 1000000 in
theorem Ytk (k:Int) (w:World):
  Calls Tryz.prog 87 #[.int .i64 k] w fun e w'=> e = .returned (.bool (Yes k))∧w=w':=by
 have c:=fun w=> Yoj k w
 go_enter Tryz.func87,Tryz.ntmps87
 go_wp2_with fail
 refine (c _).mono ?_
 rintro e w1 ⟨rfl,rfl⟩
 go_wp2
 go_ret
 exact ⟨rfl,rfl⟩
set_option maxHeartbeats 1000000 in
theorem Yuk (b:Bool) (w:World):
  Calls Tryz.prog 75 #[.bool b] w fun e w'=> e = .returned (.int .i64 (if b then 1 else 0))∧w=w':=by
 cases b with
 | true=>
  go_enter Tryz.func75,Tryz.ntmps75
  go_wp2
  go_ret
  exact ⟨rfl,rfl⟩
 | false=>
  go_enter Tryz.func75,Tryz.ntmps75
  go_wp2
  go_ret
  exact ⟨rfl,rfl⟩
def Ya8 (h:Shd) (sl rw:Value) (z:Int):List Value:=[.int .i64 h.ref,.int .i64 h.flags,.int .i64 h.fmt,.bool h.inter,.int .i64 h.quant,sl,rw,.int .i64 z]
theorem Yhq:(Tryz.prog.info? 30).map (·.size)=some 8:=by kernel_rfl
theorem Ym4 (h:Shd) (sl rw_:Value) (z:Int):(Tryz.prog.info? 30).map (·.size)=some (Ya8 h sl rw_ z).toArray.size:=Yhq
theorem Ydv (h:Shd) (p q:Option Addr) (n m c d:Nat) (z:Int):(Ya8 h (.slice p n c) (.slice q m d) z).toArray.all (·.oneCell')=true:=by simp [Ya8,Value.oneCell']
theorem Ype {l:List UInt8} {p:Nat} (h:p%8≠0):Ybu l p=4:=if_pos h
theorem Yop {l:List UInt8} {p:Nat} (h:p%8=0) (h2:(Ya2 l p).2≠0):Ybu l p=(Ya2 l p).2:=by
 unfold Ybu;rw [if_neg (by omega),if_pos h2]
theorem Yk4 {l:List UInt8} {p:Nat} (h:p%8=0) (h2:(Ya2 l p).2=0) (h1:(Ya2 l p).1≠0):Ybu l p=4:=by
 unfold Ybu;rw [if_neg (by omega),if_neg (fun k=> k h2),if_pos h1]
theorem Ysu {l:List UInt8} {p:Nat} (h:p%8=0) (h2:(Ya2 l p).2=0) (h1:(Ya2 l p).1=0):Ybu l p=0:=by
 unfold Ybu;rw [if_neg (by omega),if_neg (fun k=> k h2),if_neg (fun k=> k h1)]
def Yo5 (l:List UInt8) (p:Nat):Nat:=if Ybu l p=0 then p+22 else p
set_option maxHeartbeats 1000000 in
theorem Y0i (w:World) (b:Nat) (s:ByteArray) (p:Nat) (hr:Ybb w b s p) (hs:s.size≤1099511627776):
  Calls Tryz.prog 83 #[.pointer (some ⟨b,0,none⟩)] w fun e w'=> e = .returned (.int .i64 (Ybu s.data.toList p))∧Ybb w' b s (Yo5 s.data.toList p)∧w.grownBy w' (some b):=by
 have hp:=hr.2.1
 have hsl:s.data.toList.length=s.size:=rfl
 have hm:(p:Int).tmod 8=((p%8:Nat):Int):=by rw [Int.tmod_eq_emod_of_nonneg (by omega)];rfl
 have ca:=fun w=> Ybs w b s p
 by_cases h8:p%8=0
 ·have d8:((((p%8:Nat):Int)) != 0)=false:=by rw [h8];rfl
  have c1:=fun w=> Yxz w s (p:Int) hs
  have iM:=fun h2=> Yop (l:=s.data.toList) h8 h2
  have iO:=fun h2 h1=> Yk4 (l:=s.data.toList) h8 h2 h1
  have iK:=fun h2 h1=> Ysu (l:=s.data.toList) h8 h2 h1
  have iz:=fun h=> Ym9 (l:=s.data.toList) (p:=p) h
  generalize p%8=m8 at hm d8
  obtain ⟨m,hmm⟩:∃m,(Ya2 s.data.toList p).1=m:=⟨_,rfl⟩
  obtain ⟨f,hf⟩:∃f,(Ya2 s.data.toList p).2=f:=⟨_,rfl⟩
  rw [hmm,hf] at c1
  rw [hf] at iM iO iK
  rw [hmm] at iO iK
  unfold Yo5
  obtain ⟨S,hS⟩:∃S,Ybu s.data.toList p=S:=⟨_,rfl⟩
  rw [hS] at iM iO iK iz ⊢
  clear hS hmm hf h8
  by_cases h2:f=0
  ·by_cases h1:m=0
   ·obtain rfl:=iK h2 h1
    obtain ⟨-,z2,-⟩:=iz rfl
    have K:=Lib.hid (Ycw (l:=s.data.toList) (p:=p) (n:=22) (by omega) (by omega))
    have T:Hid (Ycm s.data.toList p 22=p+22):=Lib.hid (by unfold Ycm;rw [K.out];rfl)
    subst h2 h1
    rw [if_pos rfl]
    clear iM iO iK iz z2 hp hsl
    go_enter Tryz.func83,Tryz.ntmps83
    go_wp2_with fail
    refine (ca _ hr).mono ?_
    rintro e w1 ⟨rfl,rfl⟩
    go_wp2_with fail
    refine (Ydk _ _ _ _ hr).mono ?_
    rintro e w1 ⟨rfl,rfl⟩
    go_wp2_with fail
    refine (ca _ hr).mono ?_
    rintro e w1 ⟨rfl,rfl⟩
    go_wp2_with fail
    refine (c1 _).mono ?_
    rintro e w1 ⟨rfl,hb1⟩
    have hr1:=hr.below hb1
    have hg1:=Yal hb1 (some b)
    clear hr hb1
    go_wp2_with fail
    refine (Yci _ _ _ _ 22 hr1).mono ?_
    rintro e w3 ⟨rfl,hr3,hg4⟩
    rw [T.out] at hr3
    rw [K.out]
    go_wp2
    go_ret
    exact ⟨rfl,hr3,Yao hg1 hg4⟩
   ·obtain rfl:=iO h2 h1
    have d1:(m != 0)=true:=by rw [bne_iff_ne];exact h1
    subst h2
    rw [if_neg (by decide)]
    clear iM iO iK iz hp hsl h1
    go_enter Tryz.func83,Tryz.ntmps83
    go_wp2_with fail
    refine (ca _ hr).mono ?_
    rintro e w1 ⟨rfl,rfl⟩
    go_wp2_with fail
    refine (Ydk _ _ _ _ hr).mono ?_
    rintro e w1 ⟨rfl,rfl⟩
    go_wp2_with fail
    refine (ca _ hr).mono ?_
    rintro e w1 ⟨rfl,rfl⟩
    go_wp2_with fail
    refine (c1 _).mono ?_
    rintro e w1 ⟨rfl,hb1⟩
    go_wp2
    go_ret
    exact ⟨rfl,hr.below hb1,Yal hb1 _⟩
  ·obtain rfl:=iM h2
   have d2:(S != 0)=true:=by rw [bne_iff_ne];exact h2
   rw [if_neg h2]
   clear iM iO iK iz hp hsl h2
   go_enter Tryz.func83,Tryz.ntmps83
   go_wp2_with fail
   refine (ca _ hr).mono ?_
   rintro e w1 ⟨rfl,rfl⟩
   go_wp2_with fail
   refine (Ydk _ _ _ _ hr).mono ?_
   rintro e w1 ⟨rfl,rfl⟩
   go_wp2_with fail
   refine (ca _ hr).mono ?_
   rintro e w1 ⟨rfl,rfl⟩
   go_wp2_with fail
   refine (c1 _).mono ?_
   rintro e w1 ⟨rfl,hb1⟩
   go_wp2
   go_ret
   exact ⟨rfl,hr.below hb1,Yal hb1 _⟩
 ·have d8:((((p%8:Nat):Int)) != 0)=true:=by rw [bne_iff_ne];omega
  unfold Yo5
  rw [Ype h8,if_neg (by decide)]
  generalize p%8=m8 at hm d8
  clear h8 hp hsl
  go_enter Tryz.func83,Tryz.ntmps83
  go_wp2_with fail
  refine (ca _ hr).mono ?_
  rintro e w1 ⟨rfl,rfl⟩
  go_wp2
  go_ret
  exact ⟨rfl,hr,Yal (Below.refl _ _) _⟩
def Yfx (l:List UInt8) (e:Int) (q:Nat) (d:Int):Int:=if e=0 then (ask l q d).1 else 0
def Yf1 (l:List UInt8) (e:Int) (q:Nat) (d:Int):Int:=if e=0 then (ask l q d).2 else e
def Yf3 (l:List UInt8) (e:Int) (q:Nat) (d:Int):Nat:=if e=0 then Ycm l q d else q
structure Cap (w:World) (X Y b:Nat) (s:ByteArray) (e:Int) (q:Nat):Prop where
 wrong:w.heap[X]? = some (.cells [.int .i64 e].toArray 24 (0,0))
 box:w.heap[Y]? = some (.cells [.pointer (some ⟨b,0,none⟩)].toArray 22 (0,0))
 rd:Ybb w b s q
 apart:X≠Y∧X≠b∧Y≠b
theorem Cap.set {w:World} {X Y b:Nat} {s:ByteArray} {e:Int} {q:Nat} (h:Cap w X Y b s e q) (a:Addr) (v:Value) (ha:a.block≠X∧a.block≠Y∧a.block≠b):Cap (w.setCell a v) X Y b s e q:=
 ⟨(Below.heap_setCell _ _ _ _ (by omega)).trans h.wrong,(Below.heap_setCell _ _ _ _ (by omega)).trans h.box,⟨(Below.heap_setCell _ _ _ _ (by omega)).trans h.rd.1,h.rd.2⟩,h.apart⟩
set_option maxHeartbeats 1000000 in
theorem Yc7 (w:World) (X Y b:Nat) (s:ByteArray) (e:Int) (q:Nat) (d:Int) (h:Cap w X Y b s e q):
  Calls Tryz.prog 84 #[.int .i64 d,.pointer (some ⟨X,0,none⟩),.pointer (some ⟨Y,0,none⟩)] w fun r w'=> r = .returned (.int .i64 (Yfx s.data.toList e q d))∧Cap w' X Y b s (Yf1 s.data.toList e q d) (Yf3 s.data.toList e q d)∧Yaw X b w w':=by
 have k0:w.cell? ⟨X,0,none⟩=some (.int .i64 e):=Yaa h.wrong rfl
 have k1:w.cell? ⟨Y,0,none⟩=some (.pointer (some ⟨b,0,none⟩)):=Yaa h.box rfl
 obtain ⟨n1,n2,n3⟩:=h.apart
 have HC:=Lib.hid h
 unfold Yfx Yf1 Yf3
 by_cases he:e=0
 ·rw [if_pos he,if_pos he,if_pos he]
  subst he
  have c:=fun w hr=> Yci w b s q d hr
  generalize (ask s.data.toList q d).1=v at *
  generalize (ask s.data.toList q d).2=f at *
  generalize Ycm s.data.toList q d=q2 at *
  clear h
  go_enter Tryz.func84,Tryz.ntmps84
  go_wp2_with fail
  refine (c _ HC.out.rd).mono ?_
  rintro e w1 ⟨rfl,hr1,hg1⟩
  have hX:w1.heap[X]? = some (.cells [.int .i64 0].toArray 24 (0,0)):=(hg1.block X (Array.getElem?_eq_some_iff.1 HC.out.wrong).1 (by intro e;injection e with e;omega)).trans HC.out.wrong
  have hY:=(hg1.block Y (Array.getElem?_eq_some_iff.1 HC.out.box).1 (by intro e;injection e with e;omega)).trans HC.out.box
  have kx:w1.cell? ⟨X,0,none⟩=some (.int .i64 0):=Yaa hX rfl
  have fx:w1.frozen? ⟨X,0,none⟩=false:=Yag hX
  clear k0 k1
  go_wp2
  go_ret
  refine ⟨rfl,⟨Yau (.int .i64 f) hX,(Below.heap_setCell _ _ _ _ (by show Y≠X;omega)).trans hY,⟨(Below.heap_setCell _ _ _ _ (by show b≠X;omega)).trans hr1.1,hr1.2⟩,n1,n2,n3⟩,(Yaw.grown hg1 (.inr rfl)).trans (Yaw.set _ (.inl rfl))⟩
 ·rw [if_neg he,if_neg he,if_neg he]
  have d1:(e != 0)=true:=by rw [bne_iff_ne];exact he
  clear h he
  go_enter Tryz.func84,Tryz.ntmps84
  go_wp2
  go_ret
  exact ⟨rfl,HC.out,Yaw.refl _ _ _⟩
def Yla (e:Int) (holds:Bool) (fault:Int):Int:=if e=0∧holds=false then fault else e
set_option maxHeartbeats 1000000 in
theorem Yf2 (w:World) (X Y b:Nat) (s:ByteArray) (e:Int) (q:Nat) (holds:Bool) (fault:Int) (h:Cap w X Y b s e q):
  Calls Tryz.prog 86 #[.bool holds,.int .i64 fault,.pointer (some ⟨X,0,none⟩)] w fun r w'=> r = .returned (.tuple #[])∧Cap w' X Y b s (Yla e holds fault) q∧Yaw X b w w':=by
 have k0:w.cell? ⟨X,0,none⟩=some (.int .i64 e):=Yaa h.wrong rfl
 have f0:w.frozen? ⟨X,0,none⟩=false:=Yag h.wrong
 obtain ⟨n1,n2,n3⟩:=h.apart
 have HC:=Lib.hid h
 unfold Yla
 by_cases he:e=0
 ·subst he
  cases holds with
  | true=>
   rw [if_neg (by simp)]
   clear h
   go_enter Tryz.func86,Tryz.ntmps86
   go_wp2
   go_end0
   exact ⟨rfl,HC.out,Yaw.refl _ _ _⟩
  | false=>
   rw [if_pos (by simp)]
   clear h
   go_enter Tryz.func86,Tryz.ntmps86
   go_wp2
   go_end0
   refine ⟨rfl,⟨Yau (.int .i64 fault) HC.out.wrong,(Below.heap_setCell _ _ _ _ (by show Y≠X;omega)).trans HC.out.box,⟨(Below.heap_setCell _ _ _ _ (by show b≠X;omega)).trans HC.out.rd.1,HC.out.rd.2⟩,n1,n2,n3⟩,Yaw.set _ (.inl rfl)⟩
 ·rw [if_neg (by omega)]
  have d1:(e==0)=false:=by rw [beq_eq_false_iff_ne];exact he
  clear h he
  go_enter Tryz.func86,Tryz.ntmps86
  go_wp2
  go_end0
  exact ⟨rfl,HC.out,Yaw.refl _ _ _⟩
end Go.Proofs.YtpgdngijmihafaaGreatDoor