/- Texts that SheetinTakes's proof stands on, part 47 of 52. No condition of its own. -/
import Derived.Test.YtpgdngijmihafaaGreatDoorSheetinTakesMj
import Derived.Test.YtpgdngijmihafaaGreatDoorSheetinTakesMl
import Derived.Test.YtpgdngijmihafaaGreatDoorSheetinTakesMn
import Derived.Test.YtpgdngijmihafaaGreatDoorSheetinTakesMba
import Derived.Test.YtpgdngijmihafaaGreatDoorSheetinTakesMbt
namespace Go.Proofs.YtpgdngijmihafaaGreatDoor
open Go.RowKit Go.Lib
def eS (l:List UInt8) (p n:Nat):Int:=if Ybu l p≠0 then Ybu l p else upS l (p+22) n
theorem Ywi {l:List UInt8} {p n:Nat}:eS l p n=0↔Ybu l p=0∧upS l (p+22) n=0:=by
 unfold eS
 by_cases h:Ybu l p=0
 ·rw [if_neg (fun k=> k h)];exact ⟨fun k=> ⟨h,k⟩,fun k=> k.2⟩
 ·rw [if_pos h];exact ⟨fun k=> absurd k h,fun k=> absurd k.1 h⟩
theorem Yxr (l:List UInt8) (p:Nat):Ybu l p=eS l p 0:=by
 unfold eS
 split
 ·rfl
 ·show _=(0:Int);omega
theorem Y3p {l:List UInt8} {p n:Nat} (h:eS l p n=0):eS l p (n+1)=Yoa l (p+22) n:=by
 obtain ⟨h1,h2⟩:=Ywi.1 h
 unfold eS
 rw [if_neg (fun k=> k h1),Yje h2]
theorem Y9k {l:List UInt8} {p n:Nat} (h:eS l p n≠0):eS l p (n+1)=eS l p n:=by
 unfold eS at *
 split
 ·rfl
 ·rename_i h1
  rw [if_neg h1] at h
  exact Yqc h
structure Yu7 (l:List UInt8) (p n:Nat) (e V E:Int) (Q:Nat):Prop where
 ok:E=0→e=0∧V=((Ygl l (p+22) n:Nat):Int)∧Q=p+22+Yf4 (n+1)∧eS l p (n+1)=Ygr n (Ygl l (p+22) n)
 bad:E≠0→E=eS l p (n+1)
theorem Yec {l:List UInt8} {p n q:Nat} {e:Int} (he:eS l p n=e) (hq:e=0→q=p+22+Yf4 n) (d:Int) (hd:d=((Yhm n:Nat):Int)) (hn:Yhm n≤32):
  Yu7 l p n e (Yfx l e q d) (Yf1 l e q d) (Yf3 l e q d):=by
 unfold Yfx Yf1 Yf3
 by_cases h0:e=0
 ·rw [if_pos h0,if_pos h0,if_pos h0]
  have hq:=hq h0
  subst hd hq
  by_cases hs:8*l.length<p+22+Yf4 n+Yhm n
  ·rw [show Ycm l (p+22+Yf4 n) ((Yhm n:Nat):Int)=p+22+Yf4 n by unfold Ycm;rw [Ybi (by omega) (by omega)];rfl,Ybi (by omega) (by omega)]
   exact ⟨fun h=> absurd h (by decide),fun _=> by rw [Y3p (he.trans h0),Yit hs]⟩
  ·rw [show Ycm l (p+22+Yf4 n) ((Yhm n:Nat):Int)=p+22+Yf4 n+Yhm n by unfold Ycm;rw [Ycw (by omega) (by omega)];rfl,Ycw (by omega) (by omega)]
   exact ⟨fun _=> ⟨h0,rfl,by show _=p+22+(Yf4 n+Yhm n);omega,by rw [Y3p (he.trans h0),Yle (by omega)]⟩,fun h=> absurd rfl h⟩
 ·rw [if_neg h0,if_neg h0,if_neg h0]
  exact ⟨fun h=> absurd h h0,fun _=> by rw [Y9k (by rw [he];exact h0),he]⟩
theorem Yu7.test {l:List UInt8} {p n:Nat} {e V E:Int} {Q:Nat} (h:Yu7 l p n e V E Q) (holds:Bool) (fault:Int)
  (hh:V=((Ygl l (p+22) n:Nat):Int)→Ygr n (Ygl l (p+22) n)=if holds=true then 0 else fault):Yla E holds fault=eS l p (n+1):=by
 unfold Yla
 by_cases h0:E=0
 ·obtain ⟨-,h1,-,h2⟩:=h.ok h0
  rw [h2,hh h1]
  cases holds with
  | true=> rw [if_neg (by simp),if_pos rfl,h0]
  | false=> rw [if_pos ⟨h0,rfl⟩,if_neg (by decide)]
 ·rw [if_neg (by omega)]
  exact h.bad h0
theorem Yu7.free {l:List UInt8} {p n:Nat} {e V E:Int} {Q:Nat} (h:Yu7 l p n e V E Q) (hb:Ygr n (Ygl l (p+22) n)=0):E=eS l p (n+1):=by
 by_cases h0:E=0
 ·obtain ⟨-,-,-,h2⟩:=h.ok h0
  rw [h2,hb,h0]
 ·exact h.bad h0
theorem Yu7.done {l:List UInt8} {p n:Nat} {e V E:Int} {Q:Nat} (h:Yu7 l p n e V E Q) (h0:eS l p (n+1)=0):e=0∧V=((Ygl l (p+22) n:Nat):Int)∧Q=p+22+Yf4 (n+1):=by
 have h1:E=0:=by
  by_cases h1:E=0
  ·exact h1
  ·exact absurd ((h.bad h1).trans h0) h1
 exact ⟨(h.ok h1).1,(h.ok h1).2.1,(h.ok h1).2.2.1⟩
theorem Ypp {n v:Nat} (h:n=0∨n=2∨n=4):Ygr n v=0:=by
 unfold Ygr
 rw [if_neg (by omega),if_neg (by omega),if_neg (by omega)]
theorem Y7p (v:Nat) (V:Int) (h:V=(v:Int)):Ygr 1 v=if (V==2)=true then 0 else 5:=by
 subst h
 unfold Ygr
 by_cases hv:v=2
 ·rw [if_neg (by omega),if_neg (by omega),if_neg (by omega),if_pos (by rw [hv];rfl)]
 ·rw [if_pos (by omega),if_neg (by simp;omega)]
theorem Yzs (v:Nat) (V:Int) (h:V=(v:Int)):Ygr 3 v=if Yes V=true then 0 else 5:=by
 subst h
 unfold Ygr
 cases hv:Yes (v:Int) with
 | false=> rw [if_pos (by simp),if_neg (by decide)]
 | true=> rw [if_neg (by simp),if_neg (by omega),if_neg (by omega),if_pos rfl]
theorem Yw7 {n:Nat} (hn:n=5∨n=7) (v:Nat) (V:Int) (h:V=(v:Int)):Ygr n v=if (V==0)=true then 0 else 6:=by
 subst h
 unfold Ygr
 by_cases hv:v=0
 ·rw [if_neg (by omega),if_neg (by omega),if_neg (by omega),if_pos (by rw [hv];rfl)]
 ·rw [if_neg (by omega),if_pos (by omega),if_neg (by simp;omega)]
theorem Y19 (v:Nat) (V:Int) (h:V=(v:Int)):Ygr 6 v=if decide (1≤V)=true then 0 else 9:=by
 subst h
 unfold Ygr
 by_cases hv:v=0
 ·rw [if_neg (by omega),if_neg (by omega),if_pos ⟨rfl,hv⟩,if_neg (by simp;omega)]
 ·rw [if_neg (by omega),if_neg (by omega),if_neg (by omega),if_pos (by simp;omega)]
def Yrc (l:List UInt8) (p:Nat) (e:Int) (q:Nat) (L:List Int):Prop:=
 (e≠0∧(shk l p).2.2=e)∨(e=0∧L.length≤8∧eS l p 8=0∧Ybt l 8 (p+49)=(L++(Ybt l (8-L.length) q).1,(Ybt l (8-L.length) q).2))
def Qca (l:List UInt8) (p:Nat) (e:Int) (q:Nat) (L:List Int):Prop:=
 (shk l p).2.2=e∧(e=0→eS l p 8=0∧shk l p=(Ym3 l (p+22) L,q,0))
theorem Yrc.start {l:List UInt8} {p q:Nat} {e:Int} (he:eS l p 8=e) (hq:e=0→q=p+49):Yrc l p e q []:=by
 by_cases h0:e=0
 ·right
  rw [hq h0]
  exact ⟨h0,Nat.zero_le _,he.trans h0,rfl⟩
 ·left
  refine ⟨h0,?_⟩
  unfold eS at he
  by_cases hm:Ybu l p=0
  ·rw [if_neg (fun k=> k hm)] at he
   rw [Yl2 hm (by rw [he];exact h0),he]
  ·rw [if_pos hm] at he
   rw [Yht hm,he]
theorem Yqu {l:List UInt8} {p:Nat} (h8:eS l p 8=0) {f:Int} (hf:(Ybt l 8 (p+49)).2.2=f) (h0:f≠0):(shk l p).2.2=f:=by
 obtain ⟨h1,h2⟩:=Ywi.1 h8
 rw [Yl3 h1 h2 (by rw [hf];exact h0),hf]
theorem Yrc.bit {l:List UInt8} {p q:Nat} {e:Int} {L:List Int} (h:Yrc l p e q L):
  (Yfx l e q 1≠1→Qca l p (Yf1 l e q 1) (Yf3 l e q 1) L)∧(Yfx l e q 1=1→e=0∧Yf1 l e q 1=0∧Yf3 l e q 1=q+1∧q+1≤8*l.length∧Ya0 l q 1≠0):=by
 unfold Yfx Yf1 Yf3
 rcases h with ⟨h0,hf⟩ | ⟨h0,hL,h8,hs⟩
 ·rw [if_neg h0,if_neg h0,if_neg h0]
  exact ⟨fun _=> ⟨hf,fun k=> absurd k h0⟩,fun k=> absurd k (by decide)⟩
 ·rw [if_pos h0,if_pos h0,if_pos h0]
  by_cases hsh:8*l.length<q+1
  ·rw [show Ycm l q 1=q by unfold Ycm;rw [Ybi (by omega) (by omega)];rfl,Ybi (by omega) (by omega)]
   refine ⟨fun _=> ⟨?_,fun k=> absurd k (by decide)⟩,fun k=> absurd k (by decide)⟩
   rw [Yj6 hsh] at hs
   exact Yqu h8 (by rw [hs]) (by decide)
  ·have ht:Ycm l q 1=q+1:=by unfold Ycm;rw [Ycw (by omega) (by omega)];rfl
   have hk:ask l q 1=(((Ya0 l q 1:Nat):Int),0):=Ycw (by omega) (by omega)
   rw [ht,hk]
   have hlt:=Ybr l q 1
   by_cases h1:Ya0 l q 1=0
   ·refine ⟨fun _=> ?_,fun k=> absurd k (by simp only [h1];decide)⟩
    rw [Ymp (by omega) h1] at hs
    obtain ⟨k1,k2⟩:=Ywi.1 h8
    have e:shk l p=(Ym3 l (p+22) (Ybt l 8 (p+49)).1,(Ybt l 8 (p+49)).2.1,0):=Yyo k1 k2 (by rw [hs])
    rw [hs,List.append_nil] at e
    exact ⟨by rw [e],fun _=> ⟨h8,e⟩⟩
   ·refine ⟨fun k=> absurd ?_ k,fun _=> ⟨h0,rfl,rfl,by omega,h1⟩⟩
    show ((Ya0 l q 1:Nat):Int)=1
    omega
theorem Yrc.byte {l:List UInt8} {p q:Nat} {L:List Int} (h:Yrc l p 0 q L) (hin:q+1≤8*l.length) (h1:Ya0 l q 1≠0):
  L.length≤8∧Yrc l p (Yf1 l (Yla 0 (decide ((L.length:Int)<8)) 13) (q+1) 8) (Yf3 l (Yla 0 (decide ((L.length:Int)<8)) 13) (q+1) 8) (L ++ [Yfx l (Yla 0 (decide ((L.length:Int)<8)) 13) (q+1) 8]):=by
 rcases h with ⟨h0,_⟩ | ⟨_,hL,h8,hs⟩
 ·exact absurd rfl h0
 refine ⟨hL,?_⟩
 by_cases hlen:L.length=8
 ·have hT:Yla 0 (decide ((L.length:Int)<8)) 13=13:=by unfold Yla;rw [if_pos ⟨rfl,decide_eq_false (by omega)⟩]
  rw [hT]
  unfold Yfx Yf1 Yf3
  rw [if_neg (by decide),if_neg (by decide),if_neg (by decide)]
  left
  refine ⟨by decide,?_⟩
  rw [hlen,Nat.sub_self,Yj4 hin h1] at hs
  exact Yqu h8 (by rw [hs]) (by decide)
 ·have hT:Yla 0 (decide ((L.length:Int)<8)) 13=0:=by unfold Yla;rw [if_neg (fun k=> by have:=k.2;rw [decide_eq_true (by omega)] at this;cases this)]
  rw [hT]
  unfold Yfx Yf1 Yf3
  rw [if_pos rfl,if_pos rfl,if_pos rfl]
  obtain ⟨k,hk⟩:∃k,8-L.length=k+1:=⟨7-L.length,by omega⟩
  rw [hk] at hs
  by_cases hsh:8*l.length<q+1+8
  ·rw [show Ycm l (q+1) 8=q+1 by unfold Ycm;rw [Ybi (by omega) (by omega)];rfl,Ybi (by omega) (by omega)]
   left
   refine ⟨by decide,?_⟩
   rw [Ymj hin h1 hsh] at hs
   exact Yqu h8 (by rw [hs]) (by decide)
  ·rw [show Ycm l (q+1) 8=q+9 by unfold Ycm;rw [Ycw (by omega) (by omega)];rfl,Ycw (by omega) (by omega)]
   right
   rw [Ykc h1 (by omega)] at hs
   refine ⟨rfl,by rw [List.length_append];show L.length+1≤8;omega,h8,?_⟩
   have hk2:8-(L ++ [(((Ya0 l (q+1) (Int.toNat 8):Nat):Int),(0:Int)).1]).length=k:=by rw [List.length_append];show 8-(L.length+1)=k;omega
   rw [hk2,hs]
   simp
structure PwS (w0:World) (A X S b:Nat) (s:ByteArray) (w:World) (e:Int) (q:Nat) (Z:List Value):Prop where
 cap:Cap w X A b s e q
 sh:w.heap[S]? = some (.cells Z.toArray 30 (0,0))
 res:w.heap[A+1]? = some (.cells (Ya8 Yl8 (.slice none 0 0) (.slice none 0 0) 0).toArray 30 (0,0))
 low:w0.grownBy w (some b)
 sep:w0.heap.size=A∧b<A∧A+1<X∧X<S∧S<w.heap.size
theorem PwS.move {w0 w w':World} {A X S b:Nat} {s:ByteArray} {e e':Int} {q q':Nat} {Z:List Value} (h:PwS w0 A X S b s w e q Z) (hc:Cap w' X A b s e' q') (hm:Yaw X b w w'):PwS w0 A X S b s w' e' q' Z:=by
 obtain ⟨s1,s2,s3,s4,s5⟩:=h.sep
 exact ⟨hc,(hm.block S s5 (by omega) (by omega)).trans h.sh,(hm.block (A+1) (by omega) (by omega) (by omega)).trans h.res,
  ⟨hm.os.trans h.low.os,hm.tape.trans h.low.tape,hm.output.trans h.low.output,Nat.le_trans h.low.size hm.size,fun k hk hb=> (hm.block k (Nat.lt_of_lt_of_le hk h.low.size) (by omega) (by simpa using hb)).trans (h.low.block k hk hb)⟩,
  s1,s2,s3,s4,Nat.lt_of_lt_of_le s5 hm.size⟩
theorem PwS.set {w0 w:World} {A X S b:Nat} {s:ByteArray} {e:Int} {q:Nat} {Z:List Value} (h:PwS w0 A X S b s w e q Z) (i:Nat) (v:Value):PwS w0 A X S b s (w.setCell ⟨S,i,none⟩ v) e q (Z.set i v):=by
 obtain ⟨s1,s2,s3,s4,s5⟩:=h.sep
 have hg:=Yam w ⟨S,i,none⟩ v
 exact ⟨h.cap.set _ _ ⟨show S≠X by omega,show S≠A by omega,show S≠b by omega⟩,Yau v h.sh,(hg.block (A+1) (by omega) (by show some (A+1)≠some S;intro e;injection e with e;omega)).trans h.res,
  ⟨h.low.os,h.low.tape,h.low.output,Nat.le_trans h.low.size hg.size,fun k hk hb=> (hg.block k (Nat.lt_of_lt_of_le hk h.low.size) (by show some k≠some S;intro e;injection e with e;omega)).trans (h.low.block k hk hb)⟩,
  s1,s2,s3,s4,Nat.lt_of_lt_of_le s5 hg.size⟩
theorem PwS.grown {w0 w w':World} {A X S b:Nat} {s:ByteArray} {e:Int} {q:Nat} {Z:List Value} {row:Option Nat} (h:PwS w0 A X S b s w e q Z) (hg:w.grownBy w' row) (hr:∀g,row=some g→S<g):PwS w0 A X S b s w' e q Z:=by
 obtain ⟨s1,s2,s3,s4,s5⟩:=h.sep
 have hk:∀k,k≤S→w'.heap[k]? = w.heap[k]?:=fun k hk=> hg.block k (by omega) (fun e=> by have:=hr k e.symm;omega)
 exact ⟨⟨(hk X (by omega)).trans h.cap.wrong,(hk A (by omega)).trans h.cap.box,⟨(hk b (by omega)).trans h.cap.rd.1,h.cap.rd.2⟩,h.cap.apart⟩,(hk S (by omega)).trans h.sh,(hk (A+1) (by omega)).trans h.res,
  ⟨hg.os.trans h.low.os,hg.tape.trans h.low.tape,hg.output.trans h.low.output,Nat.le_trans h.low.size hg.size,fun k hk' hb=> (hk k (by omega)).trans (h.low.block k hk' hb)⟩,
  s1,s2,s3,s4,Nat.lt_of_lt_of_le s5 hg.size⟩
theorem PwS.drew {w0 w:World} {A X S b:Nat} {s:ByteArray} {e:Int} {q:Nat} {Z:List Value} (h:PwS w0 A X S b s w e q Z):PwS w0 A X S b s w.drew e q Z:=h.grown (Yb9 w none) (fun g h=> by cases h)
theorem PwS.at {w0 w:World} {A X S b:Nat} {s:ByteArray} {e:Int} {q:Nat} {Z:List Value} (h:PwS w0 A X S b s w e q Z) {i:Nat} {v:Value} (hv:Z[i]? = some v):w.cell? ⟨S,i,none⟩=some v:=Yaa h.sh hv
theorem PwS.free {w0 w:World} {A X S b:Nat} {s:ByteArray} {e:Int} {q:Nat} {Z:List Value} (h:PwS w0 A X S b s w e q Z) (i:Nat):w.frozen? ⟨S,i,none⟩=false:=Yag h.sh
theorem Ykt {w w':World} {base e size n a b:Nat} {v:Value} {xs:List Value} (h:w.ownsRow base e size v n xs) (hm:Yaw a b w w') (ha:a<base) (hb:b<base):w'.ownsRow base e size v n xs:=by
 refine ⟨h.1,?_⟩
 rcases h.2 with hn | ⟨g,cap,cur,rfl,hbg,hgg,rest⟩
 ·exact .inl hn
 ·refine .inr ⟨g,cap,cur,rfl,hbg,?_,rest⟩
  rw [hm.block g (Array.getElem?_eq_some_iff.1 hgg).1 (by omega) (by omega)]
  exact hgg
def Qbt (l:List UInt8) (s:ByteArray) (p b:Nat) (w:World) (e:Ending) (w':World):Prop:=
 ∃(h:Shd) (a:Option Addr) (cap q:Nat),e = .returned (.tuple #[.agg (Ya8 h (.slice a h.supp.length cap) (.slice none 0 0) 0).toArray,.int .i64 (shk l p).2.2])∧
  ((shk l p).2.2=0→shk l p=(h,q,0))∧Ycf w' a h.supp∧(∀x,a=some x→w.heap.size≤x.block)∧Ybb w' b s q∧w.grownBy w' (some b)
set_option maxRecDepth 100000 in
set_option maxHeartbeats 8000000 in
theorem Ywj (w:World) (b:Nat) (s:ByteArray) (p:Nat) (hr:Ybb w b s p) (hs:s.size≤1099511627776):
  Calls Tryz.prog 57 #[.pointer (some ⟨b,0,none⟩)] w (Qbt s.data.toList s p b w):=by
 have hmf:∀(fn:Fn) (first cap:Array Value) (w:World),(Instr.makeFunc fn first cap).run Tryz.prog w = .ok (.func fn first cap) w:=fun _ _ _ _=> rfl
 have c:=fun w hr=> Y0i w b s p hr hs
 have hbA:b<w.heap.size:=hr.lt
 obtain ⟨A,hA⟩:∃A,w.heap.size=A:=⟨_,rfl⟩
 obtain ⟨l,hl⟩:∃l,s.data.toList=l:=⟨_,rfl⟩
 have hq0:eS l p 0=0→Yo5 l p=p+22+Yf4 0:=fun h=> by unfold Yo5;rw [if_pos ((Yxr l p).trans h)];rfl
 rw [hl] at c ⊢
 rw [Yxr] at c
 obtain ⟨e0,he0⟩:∃e,eS l p 0=e:=⟨_,rfl⟩
 obtain ⟨q0,hqq⟩:∃q,Yo5 l p=q:=⟨_,rfl⟩
 rw [he0,hqq] at c hq0
 have E0:=Lib.hid he0
 have Q0:=Lib.hid hq0
 have HL:=Lib.hid hl
 clear he0 hq0 hqq
 obtain ⟨wA,hwA⟩:∃wA,(w.alloc (.cells #[.pointer (some ⟨b,0,none⟩)] 22 (0,0))).alloc (.cells (Ya8 Yl8 (.slice none 0 0) (.slice none 0 0) 0).toArray 30 (0,0))=wA:=⟨_,rfl⟩
 have hbA0:Below A w wA:=by rw [←hwA,←hA];exact ((Below.refl _ w).alloc (Nat.le_refl _) _).alloc (by simp) _
 have hzA:wA.heap.size=A+2:=by rw [←hwA,←hA];simp
 have hA0:wA.heap[A]? = some (.cells [.pointer (some ⟨b,0,none⟩)].toArray 22 (0,0)):=by rw [←hwA,←hA];exact Yat (heap_alloc_new w _)
 have hA1:wA.heap[A+1]? = some (.cells (Ya8 Yl8 (.slice none 0 0) (.slice none 0 0) 0).toArray 30 (0,0)):=by
  rw [←hwA,←hA]
  have:=heap_alloc_new (w.alloc (.cells #[.pointer (some ⟨b,0,none⟩)] 22 (0,0))) (.cells (Ya8 Yl8 (.slice none 0 0) (.slice none 0 0) 0).toArray 30 (0,0))
  simpa using this
 have hrA:Ybb wA b s p:=hr.below (hA▸hbA0)
 unfold Ya8 Yl8 at hwA
 have HWA:=Lib.hid hwA
 have HA:=Lib.hid hA
 clear hwA hl hr
 rw [hA] at hbA
 go_enter Tryz.func57,Tryz.ntmps57
 go_wp2_with fail
 rw [HWA.out]
 refine (c _ hrA).mono ?_
 rintro e w1 ⟨rfl,hr1,hg1⟩
 have h10:=(hg1.block A (by omega) (by intro e;injection e with e;omega)).trans hA0
 have h11:=(hg1.block (A+1) (by omega) (by intro e;injection e with e;omega)).trans hA1
 obtain ⟨X,hX⟩:∃X,w1.heap.size=X:=⟨_,rfl⟩
 have hXA:A+1<X:=by have:=hg1.size;omega
 obtain ⟨y0,hy0⟩:∃y,(w1.alloc (.cells #[.int .i64 e0] 24 (0,0))).alloc (.cells (Ya8 Yl8 (.slice none 0 0) (.slice none 0 0) 0).toArray 30 (0,0))=y:=⟨_,rfl⟩
 have hby:Below X w1 y0:=by rw [←hy0,←hX];exact ((Below.refl _ w1).alloc (Nat.le_refl _) _).alloc (by simp) _
 have P0:PwS w A X (X+1) b s y0 e0 q0 (Ya8 Yl8 (.slice none 0 0) (.slice none 0 0) 0):=by
  refine ⟨⟨by rw [←hy0,←hX];exact Yat (heap_alloc_new w1 _),(hby.block A (by omega)).trans h10,⟨(hby.block b (by omega)).trans hr1.1,hr1.2⟩,by omega,by omega,by omega⟩,?_,(hby.block (A+1) (by omega)).trans h11,?_,HA.out,hbA,hXA,by omega,by rw [←hy0];simp;omega⟩
  ·rw [←hy0,←hX]
   have:=heap_alloc_new (w1.alloc (.cells #[.int .i64 e0] 24 (0,0))) (.cells (Ya8 Yl8 (.slice none 0 0) (.slice none 0 0) 0).toArray 30 (0,0))
   simpa using this
  ·exact Yao (Yao (Yal (HA.out▸hbA0) _) hg1) (Yal (hX▸hby) _)
 unfold Ya8 Yl8 at hy0
 have HX:=Lib.hid hX
 have HY0:=Lib.hid hy0
 clear hy0 hby h10 h11 hr1 hg1 hA0 hA1 hbA0 hzA hrA c HWA hX
 go_wp2_with fail
 rw [HX.out,HY0.out]
 refine (Yc7 _ X A b s e0 q0 8 P0.cap).mono ?_
 rintro r0 z0 ⟨rfl,hc,hm⟩
 rw [HL.out] at hc ⊢
 have F0:=Yec E0.out Q0.out 8 rfl (by decide)
 generalize Yfx l e0 q0 8=v0 at *
 generalize Yf1 l e0 q0 8=f0 at *
 generalize Yf3 l e0 q0 8=q1 at *
 have P0t:=P0.move hc hm
 clear hc hm P0
 have k0:=P0t.at (i:=0) rfl
 have k1:=P0t.free 0
 have P0s:=P0t.set 0 (.int .i64 v0)
 obtain ⟨e1,he⟩:∃e,eS l p 1=e:=⟨_,rfl⟩
 have hfree:=(F0.free (Ypp (by omega))).symm
 rw [he] at hfree
 subst hfree
 have E1:=Lib.hid he
 have D0:=Lib.hid fun h=> F0.done (he.trans h)
 have Q1:=Lib.hid fun h=> (D0.out h).2.2
 have P1:=P0s
 clear he
 clear F0 E0 Q0 P0t P0s
 go_wp2_with fail
 try clear k0 k1
 refine (Yc7 _ X A b s e1 q1 2 P1.cap).mono ?_
 rintro r1 z1 ⟨rfl,hc,hm⟩
 rw [HL.out] at hc ⊢
 have F1:=Yec E1.out Q1.out 2 rfl (by decide)
 generalize Yfx l e1 q1 2=v1 at *
 generalize Yf1 l e1 q1 2=f1 at *
 generalize Yf3 l e1 q1 2=q2 at *
 have P1t:=P1.move hc hm
 clear hc hm P1
 go_wp2_with fail
 try clear k0 k1
 refine (Yf2 _ X A b s f1 q2 (v1==2) 5 P1t.cap).mono ?_
 rintro r1 u1 ⟨rfl,hc,hm⟩
 rw [F1.test (v1==2) 5 (Y7p _ _)] at hc
 obtain ⟨e2,he⟩:∃e,eS l p 2=e:=⟨_,rfl⟩
 rw [he] at hc
 have E2:=Lib.hid he
 have D1:=Lib.hid fun h=> F1.done (he.trans h)
 have Q2:=Lib.hid fun h=> (D1.out h).2.2
 have P2:=P1t.move hc hm
 clear he hc hm P1t F1 E1 Q1
 go_wp2_with fail
 try clear k0 k1
 refine (Yc7 _ X A b s e2 q2 3 P2.cap).mono ?_
 rintro r2 z2 ⟨rfl,hc,hm⟩
 rw [HL.out] at hc ⊢
 have F2:=Yec E2.out Q2.out 3 rfl (by decide)
 generalize Yfx l e2 q2 3=v2 at *
 generalize Yf1 l e2 q2 3=f2 at *
 generalize Yf3 l e2 q2 3=q3 at *
 have P2t:=P2.move hc hm
 clear hc hm P2
 have k0:=P2t.at (i:=1) rfl
 have k1:=P2t.free 1
 have P2s:=P2t.set 1 (.int .i64 v2)
 obtain ⟨e3,he⟩:∃e,eS l p 3=e:=⟨_,rfl⟩
 have hfree:=(F2.free (Ypp (by omega))).symm
 rw [he] at hfree
 subst hfree
 have E3:=Lib.hid he
 have D2:=Lib.hid fun h=> F2.done (he.trans h)
 have Q3:=Lib.hid fun h=> (D2.out h).2.2
 have P3:=P2s
 clear he
 clear F2 E2 Q2 P2t P2s
 go_wp2_with fail
 try clear k0 k1
 refine (Yc7 _ X A b s e3 q3 3 P3.cap).mono ?_
 rintro r3 z3 ⟨rfl,hc,hm⟩
 rw [HL.out] at hc ⊢
 have F3:=Yec E3.out Q3.out 3 rfl (by decide)
 generalize Yfx l e3 q3 3=v3 at *
 generalize Yf1 l e3 q3 3=f3 at *
 generalize Yf3 l e3 q3 3=q4 at *
 have P3t:=P3.move hc hm
 clear hc hm P3
 have k0:=P3t.at (i:=2) rfl
 have k1:=P3t.free 2
 have P3s:=P3t.set 2 (.int .i64 v3)
 go_wp2_with fail
 try clear k0 k1
 refine (Ytk v3 _).mono ?_
 rintro r u ⟨rfl,rfl⟩
 go_wp2_with fail
 refine (Yf2 _ X A b s f3 q4 (Yes v3) 5 P3s.cap).mono ?_
 rintro r3 u3 ⟨rfl,hc,hm⟩
 rw [F3.test (Yes v3) 5 (Yzs _ _)] at hc
 obtain ⟨e4,he⟩:∃e,eS l p 4=e:=⟨_,rfl⟩
 rw [he] at hc
 have E4:=Lib.hid he
 have D3:=Lib.hid fun h=> F3.done (he.trans h)
 have Q4:=Lib.hid fun h=> (D3.out h).2.2
 have P4:=P3s.move hc hm
 clear he hc hm P3s P3t F3 E3 Q3
 go_wp2_with fail
 try clear k0 k1
 refine (Yc7 _ X A b s e4 q4 1 P4.cap).mono ?_
 rintro r4 z4 ⟨rfl,hc,hm⟩
 rw [HL.out] at hc ⊢
 have F4:=Yec E4.out Q4.out 1 rfl (by decide)
 generalize Yfx l e4 q4 1=v4 at *
 generalize Yf1 l e4 q4 1=f4 at *
 generalize Yf3 l e4 q4 1=q5 at *
 have P4t:=P4.move hc hm
 clear hc hm P4
 have k0:=P4t.at (i:=3) rfl
 have k1:=P4t.free 3
 have P4s:=P4t.set 3 (.bool (v4==1))
 go_wp2_with fail
 refine (Yuk true _).mono ?_
 rintro r u ⟨rfl,rfl⟩
 rw [if_pos rfl]
 obtain ⟨e5,he⟩:∃e,eS l p 5=e:=⟨_,rfl⟩
 have hfree:=(F4.free (Ypp (by omega))).symm
 rw [he] at hfree
 subst hfree
 have E5:=Lib.hid he
 have D4:=Lib.hid fun h=> F4.done (he.trans h)
 have Q5:=Lib.hid fun h=> (D4.out h).2.2
 have P5:=P4s
 clear he
 clear F4 E4 Q4 P4t P4s
 go_wp2_with fail
 try clear k0 k1
 refine (Yc7 _ X A b s e5 q5 4 P5.cap).mono ?_
 rintro r5 z5 ⟨rfl,hc,hm⟩
 rw [HL.out] at hc ⊢
 have F5:=Yec E5.out Q5.out 4 rfl (by decide)
 generalize Yfx l e5 q5 4=v5 at *
 generalize Yf1 l e5 q5 4=f5 at *
 generalize Yf3 l e5 q5 4=q6 at *
 have P5t:=P5.move hc hm
 clear hc hm P5
 go_wp2_with fail
 try clear k0 k1
 refine (Yf2 _ X A b s f5 q6 (v5==0) 6 P5t.cap).mono ?_
 rintro r5 u5 ⟨rfl,hc,hm⟩
 rw [F5.test (v5==0) 6 (Yw7 (.inl rfl) _ _)] at hc
 obtain ⟨e6,he⟩:∃e,eS l p 6=e:=⟨_,rfl⟩
 rw [he] at hc
 have E6:=Lib.hid he
 have D5:=Lib.hid fun h=> F5.done (he.trans h)
 have Q6:=Lib.hid fun h=> (D5.out h).2.2
 have P6:=P5t.move hc hm
 clear he hc hm P5t F5 E5 Q5
 go_wp2_with fail
 try clear k0 k1
 refine (Yc7 _ X A b s e6 q6 5 P6.cap).mono ?_
 rintro r6 z6 ⟨rfl,hc,hm⟩
 rw [HL.out] at hc ⊢
 have F6:=Yec E6.out Q6.out 5 rfl (by decide)
 generalize Yfx l e6 q6 5=v6 at *
 generalize Yf1 l e6 q6 5=f6 at *
 generalize Yf3 l e6 q6 5=q7 at *
 have P6t:=P6.move hc hm
 clear hc hm P6
 have k0:=P6t.at (i:=4) rfl
 have k1:=P6t.free 4
 have P6s:=P6t.set 4 (.int .i64 v6)
 go_wp2_with fail
 try clear k0 k1
 refine (Yf2 _ X A b s f6 q7 (decide (1≤v6)) 9 P6s.cap).mono ?_
 rintro r6 u6 ⟨rfl,hc,hm⟩
 rw [F6.test (decide (1≤v6)) 9 (Y19 _ _)] at hc
 obtain ⟨e7,he⟩:∃e,eS l p 7=e:=⟨_,rfl⟩
 rw [he] at hc
 have E7:=Lib.hid he
 have D6:=Lib.hid fun h=> F6.done (he.trans h)
 have Q7:=Lib.hid fun h=> (D6.out h).2.2
 have P7:=P6s.move hc hm
 clear he hc hm P6s P6t F6 E6 Q6
 go_wp2_with fail
 try clear k0 k1
 refine (Yc7 _ X A b s e7 q7 1 P7.cap).mono ?_
 rintro r7 z7 ⟨rfl,hc,hm⟩
 rw [HL.out] at hc ⊢
 have F7:=Yec E7.out Q7.out 1 rfl (by decide)
 generalize Yfx l e7 q7 1=v7 at *
 generalize Yf1 l e7 q7 1=f7 at *
 generalize Yf3 l e7 q7 1=q8 at *
 have P7t:=P7.move hc hm
 clear hc hm P7
 go_wp2_with fail
 try clear k0 k1
 refine (Yf2 _ X A b s f7 q8 (v7==0) 6 P7t.cap).mono ?_
 rintro r7 u7 ⟨rfl,hc,hm⟩
 rw [F7.test (v7==0) 6 (Yw7 (.inr rfl) _ _)] at hc
 obtain ⟨e8,he⟩:∃e,eS l p 8=e:=⟨_,rfl⟩
 rw [he] at hc
 have E8:=Lib.hid he
 have D7:=Lib.hid fun h=> F7.done (he.trans h)
 have Q8:=Lib.hid fun h=> (D7.out h).2.2
 have P8:=P7t.move hc hm
 clear he hc hm P7t F7 E7 Q7
 obtain ⟨b4,hb4⟩:∃b,(v4==1)=b:=⟨_,rfl⟩
 rw [hb4] at P8
 have P9:PwS w A X (X+1) b s u7 e8 q8 (Ya8 ⟨v0,v2,v3,b4,v6,[]⟩ (.slice none 0 0) (.slice none 0 0) 0):=P8
 have R0:=Yrc.start E8.out (fun h=> Q8.out h)
 obtain ⟨i0,hi,jz0,jz1,jz2⟩:=info_parts Yyd
 have hu0:u7.ownsRow (X+2) 3 1 (.slice none 0 0) ([]:List Int).length (Y53 []):=World.ownsRow_nil _ _ _ _
 have HB4:=Lib.hid hb4
 have DD:Hid (eS l p 8=0→∀L,Ym3 l (p+22) L=⟨v0,v2,v3,b4,v6,L⟩):=Lib.hid fun h8 L=> by
  have g7:=(D7.out (E8.out.symm.trans h8)).1
  obtain ⟨g6,x6,-⟩:=D6.out g7
  have g5:=(D5.out g6).1
  obtain ⟨g4,x4,-⟩:=D4.out g5
  obtain ⟨g3,x3,-⟩:=D3.out g4
  obtain ⟨g2,x2,-⟩:=D2.out g3
  have g1:=(D1.out g2).1
  obtain ⟨-,x0,-⟩:=D0.out g1
  unfold Ym3
  rw [←hb4,x0,x2,x3,x4,x6]
  congr 1
  rw [Bool.eq_iff_iff]
  simp only [beq_iff_eq]
  omega
 clear hb4 P8 Q8 D0 D1 D2 D3 D4 D5 D6 D7 HY0
 go_wp2
 go_loopw [55] (fun _ wr=>∃(e:Int) (q:Nat) (L:List Int) (v:Value),PwS w A X (X+1) b s wr e q (Ya8 ⟨v0,v2,v3,b4,v6,[]⟩ v (.slice none 0 0) 0)∧wr.ownsRow (X+2) 3 1 v L.length (Y53 L)∧Yrc l p e q L) (fun _ wr=> match wr.cell? ⟨X+1,5,none⟩ with | some (.slice _ n _)=> 10-n | _=> 0)
 case atStart=> exact ⟨e8,q8,[],_,P9,hu0,R0⟩
 case round=>
  clear P9 hu0 R0
  obtain ⟨e,q,L,v,PL,hu,hR⟩:=hrel
  obtain ⟨pa,cap,rfl,hil⟩:=Ygc rfl hu
  obtain ⟨x1,x2⟩:=hR.bit
  go_wp2_with fail
  refine (Yc7 _ X A b s e q 1 PL.cap).mono ?_
  rintro r z0 ⟨rfl,hc,hm⟩
  rw [HL.out] at hc ⊢
  have PT:=PL.move hc hm
  have hu1:=Ykt hu hm (by omega) (by have:=PL.sep;omega)
  have hcz:=PL.at (i:=5) rfl
  generalize Yfx l e q 1=V1 at *
  generalize Yf1 l e q 1=E1 at *
  generalize Yf3 l e q 1=Q1 at *
  by_cases hV:V1=1
  ·obtain ⟨rfl,rfl,rfl,y1,y2⟩:=x2 hV
   obtain ⟨hL8,hR3⟩:=hR.byte y1 y2
   have d1:(V1==1)=true:=by rw [hV];rfl
   have k5:=PT.at (i:=5) rfl
   clear x1 x2 hc hm hu hR hV PL
   go_wp2_with fail
   clear k5
   refine (Yf2 _ X A b s 0 (q+1) (decide ((L.length:Int)<8)) 13 PT.cap).mono ?_
   rintro r u1 ⟨rfl,hc,hm⟩
   have PU:=PT.move hc hm
   have hu2:=Ykt hu1 hm (by omega) (by have:=PT.sep;omega)
   have hS1:=PT.sep
   generalize Yla 0 (decide ((L.length:Int)<8)) 13=E2 at *
   have PD:=PU.drew
   have k5:=PD.at (i:=5) rfl
   clear PT hu1 hc hm hil d1 y1 y2 PU
   go_wp2
   refine wp_region_any (by kernel_rfl) ?_
   change wpAny _ _ _ _ _ _ _ (World.drew _)
   refine Yar 0 (some 63) (v:=.pointer (some ⟨X+1,5,none⟩)) rfl rfl (by kernel_rfl) (by kernel_rfl) (by kernel_rfl) (fun _ _ _ h=> h) (Or.inl ⟨by kernel_rfl,?_⟩) ?_
   ·(intro x;go_simp;try with_reducible rfl)
   try simp only [Act.put,List.setIfInBounds_toArray,List.set_cons_zero,List.set_cons_succ]
   refine Yar 2 (some 65) (v:=.func (.func 84) #[] #[.pointer (some ⟨X,0,none⟩),.pointer (some ⟨A,0,none⟩)]) rfl rfl (by kernel_rfl) (by kernel_rfl) (by kernel_rfl) (fun _ _ _ h=> h) (Or.inl ⟨by kernel_rfl,?_⟩) ?_
   ·(intro x;go_simp;try with_reducible rfl)
   try simp only [Act.put,List.setIfInBounds_toArray,List.set_cons_zero,List.set_cons_succ]
   refine Yx9 (S:=fun x=> x.cell? ⟨X+1,5,none⟩=some (.slice pa L.length cap)) 1 3 4 (some 64) (v:=.slice pa L.length cap) rfl rfl rfl rfl (by kernel_rfl) (by kernel_rfl) (by kernel_rfl) (fun _ _ _ h=> h) (by kernel_rfl) (by kernel_rfl) (by kernel_rfl) (by kernel_rfl) (by kernel_rfl) (by decide) (by decide) k5 (Or.inl ⟨by kernel_rfl,?_⟩) ?_
   ·(intro x hx;have c0:=(show _ from hx);go_simp)
   try simp only [Act.put,List.setIfInBounds_toArray,List.set_cons_zero,List.set_cons_succ]
   refine wpOp_step rfl (fun K hK=> ?_)
   have HK:=Lib.hid hK
   clear hK
   go_simp
   go_wp2_with fail
   refine (Yc7 _ X A b s E2 (q+1) 8 PD.cap).mono ?_
   rintro r z2 ⟨rfl,hc,hm⟩
   rw [HL.out] at hc ⊢
   have PV:=PD.move hc hm
   have hu3:=Ykt hu2.drew hm (by omega) (by omega)
   have hzz:=PV.sep
   generalize Yfx l E2 (q+1) 8=V3 at *
   generalize Yf1 l E2 (q+1) 8=E3 at *
   generalize Yf3 l E2 (q+1) 8=Q3 at *
   refine HK.out _ _ ⟨PV.at (i:=5) rfl,?_⟩
   clear HK K k5 hc hm PD hu2
   refine wpOp_step rfl (fun K hK=> ?_)
   have HK:=Lib.hid hK
   clear hK
   go_simp
   have PW:=PV.grown (World.grownBy_alloc z2 (.cells #[.int .i64 V3] 3 (0,0)) none) (fun g h=> by cases h)
   refine HK.out _ _ ⟨PW.at (i:=5) rfl,?_⟩
   clear HK K
   have hb4:=hu3.alloc (.cells #[.int .i64 V3] 3 (0,0))
   have hcn:(z2.alloc (.cells #[.int .i64 V3] 3 (0,0))).cell? ⟨z2.heap.size,0,none⟩=some (.int .i64 V3):=Yaa (cs:=[.int .i64 V3]) (heap_alloc_new z2 _) rfl
   have hzn:X+2≤(z2.alloc (.cells #[.int .i64 V3] 3 (0,0))).heap.size:=by simp;omega
   refine wpAny_ready (rs:=[5]) (by kernel_rfl) (by simp) ?_
   refine AllReady.cons rfl (fun K hK=> ?_) AllReady.nil
   refine (if_pos (by kernel_rfl)).mpr ?_
   refine Ynv rfl Tryz.underlying27 hi jz0 rfl jz1 jz2 rfl hb4 rfl hcn (by omega) hzn ?_
   intro v4' w4 hu4 hg4
   obtain ⟨pa2,cap2,hv2,-⟩:=Ygc (l:=L ++ [V3]) (n:=L.length+1) (by simp) (by rw [Yde];exact hu4)
   subst hv2
   have PY:=PW.grown hg4 (fun g hg=> by have:=Ybc hb4 g hg;omega)
   refine hK _ _ ?_
   clear hK K PW PV hb4 hcn hzn hu3
   have k5:=PY.at (i:=5) rfl
   have k6:=PY.free 5
   have PZ:=PY.set 5 (.slice pa2 (L.length+1) cap2)
   refine Yar 6 (some 69) (v:=.pointer (some ⟨X+1,5,none⟩)) rfl rfl (by kernel_rfl) (by kernel_rfl) (by kernel_rfl) (fun _ _ _ h=> h) (Or.inl ⟨by kernel_rfl,?_⟩) ?_
   ·(intro x;go_simp;try with_reducible rfl)
   try simp only [Act.put]
   refine wpAny_ready (rs:=[7]) (by kernel_rfl) (by simp) ?_
   refine AllReady.cons rfl (fun K hK=> ?_) AllReady.nil
   go_simp
   refine hK _ _ ?_
   clear hK K k5 k6
   refine wpAny_done (by kernel_rfl) ?_ _
   have hu5:=hu4.kept (Yam w4 ⟨X+1,5,none⟩ (.slice pa2 (L.length+1) cap2)) (by cases hv:(Value.slice pa2 (L.length+1) cap2).ownBlock with | none=> exact .inl rfl | some g=> exact .inr (by have:=Ybc hu4 g hv;show some g≠some (X+1);intro e;injection e with e;omega))
   have hm2:=PZ.at (i:=5) rfl
   go_wp2
   go_roundw
   case rel=> exact ⟨E3,Q3,L ++ [V3],_,PZ,by rw [List.length_append,Yde];exact hu5,hR3⟩
   case measure=>
    rw [hcz,hm2]
    simp only
    omega
  ·have hE:=x1 hV
   have d1:(V1==1)=false:=by rw [beq_eq_false_iff_ne];exact hV
   clear x1 x2 hc hm hu hR hV PL hil hcz
   obtain ⟨Z,hZ⟩:∃Z,(Ya8 ⟨v0,v2,v3,b4,v6,[]⟩ (.slice pa L.length cap) (.slice none 0 0) 0).toArray=Z:=⟨_,rfl⟩
   have HSZ:(Tryz.prog.info? 30).map (·.size)=some Z.size:=hZ▸Ym4 _ _ _ _
   have HONE:Z.all (·.oneCell')=true:=hZ▸Ydv _ _ _ _ _ _ _ _
   have HYZ:(Ya8 Yl8 (.slice none 0 0) (.slice none 0 0) 0).toArray.size=Z.size:=by rw [←hZ];rfl
   have hzS:z0.heap[X+1]? = some (.cells Z 30 (0,0)):=hZ▸PT.sh
   have hzW:z0.cell? ⟨X,0,none⟩=some (.int .i64 E1):=Yaa PT.cap.wrong rfl
   have HZ:=Lib.hid hZ
   have hsep:=PT.sep
   clear hZ
   go_wp2
   refine wp_region_held_drew (S:=(fun x=> x.heap[X+1]? = some (.cells Z 30 (0,0))∧x.cell? ⟨X,0,none⟩=some (.int .i64 E1))) (by kernel_rfl) ⟨hzS,hzW⟩ (fun hH=> ?_)
   refine Yab 0 (some 70) (v:=.agg Z) rfl rfl (by kernel_rfl) (by kernel_rfl) (by kernel_rfl) (fun _ _ _ h=> h) hH (Or.inl ⟨by kernel_rfl,fun x hx=> Ym2 (ty:=30) (x:=.tmp 7) (ad:=⟨X+1,0,none⟩) (by kernel_rfl) (by kernel_rfl) (run_loadVar_row x (X+1) _ _ Z (0,0) _ hx.1 Tryz.underlying30 rfl HSZ)⟩) ?_
   try simp only [Act.put,List.setIfInBounds_toArray,List.set_cons_zero,List.set_cons_succ]
   refine Yab 1 (some 71) (v:=.int .i64 E1) rfl rfl (by kernel_rfl) (by kernel_rfl) (by kernel_rfl) (fun _ _ _ h=> h) hH (Or.inl ⟨by kernel_rfl,?_⟩) ?_
   ·(intro x hx;have c0:=hx.2;go_simp)
   try simp only [Act.put,List.setIfInBounds_toArray,List.set_cons_zero,List.set_cons_succ]
   refine wpAnyH_ready (rs:=[2]) (by kernel_rfl) (by simp) ?_
   refine AllReadyH.cons rfl (fun K hK=> ?_) AllReadyH.nil
   refine (if_pos (by kernel_rfl)).mpr ?_
   refine wp_store_row 30 _ _ rfl (A+1) Z rfl rfl 30 _ PT.drew.res HSZ HYZ HONE ?_
   obtain ⟨w5,hw5⟩:∃w5,z0.drew.setRow (A+1) Z=w5:=⟨_,rfl⟩
   have hh5:w5.heap[A+1]? = some (.cells Z 30 (0,0)):=by rw [←hw5];exact setRow_heap _ _ _ _ _ _ PT.drew.res
   have hg5:z0.drew.grownBy w5 (some (A+1)):=by rw [←hw5];exact ⟨rfl,rfl,rfl,by simp,fun k _ hk=> setRow_other _ _ _ _ (by intro e;exact hk (by rw [e]))⟩
   rw [hw5]
   have hS5:(fun x=> x.heap[X+1]? = some (.cells Z 30 (0,0))∧x.cell? ⟨X,0,none⟩=some (.int .i64 E1)) w5:=⟨(hg5.block (X+1) (by show X+1<z0.heap.size;omega) (by simp;omega)).trans hzS,(World.cell?_of_block (a:=⟨X,0,none⟩) (hg5.block X (by show X<z0.heap.size;omega) (by simp;omega))).trans hzW⟩
   refine hK.out _ _ hS5 (fun hH2=> ?_)
   clear hK K hH hw5
   refine Yab 3 (some 3) (v:=?_) rfl rfl (by kernel_rfl) (by kernel_rfl) (by kernel_rfl) (fun _ _ _ h=> h) hH2 (Or.inl ⟨by kernel_rfl,?_⟩) ?_
   rotate_left
   ·(intro x _;go_simp;try with_reducible rfl)
   rotate_right
   try simp only [Act.put]
   refine wpAnyH_done (by kernel_rfl) ?_ _
   go_wp2
   refine bodyPost_ret (Yan rfl _ _ (A+1) 30 _ (0,0) _ rfl hh5 Tryz.underlying30 rfl HSZ) rfl ?_
   have hu6:=hu1.drew.kept hg5 (by cases hv:(Value.slice pa L.length cap).ownBlock with | none=> exact .inl rfl | some g=> exact .inr (by have:=Ybc hu1 g hv;show some g≠some (A+1);intro e;injection e with e;omega))
   obtain ⟨pa3,cap3,hv3,hil3⟩:=Ygc rfl hu6
   injection hv3 with e1 e2 e3
   subst e1
   have hlow:=PT.drew.low
   have hrd:=PT.drew.cap.rd
   refine ⟨⟨v0,v2,v3,b4,v6,L⟩,pa,cap,Q1,?_,fun h0=> ?_,hil3,fun x hx=> ?_,⟨(hg5.block b hrd.lt (by simp;omega)).trans hrd.1,hrd.2⟩,hg5.os.trans hlow.os,hg5.tape.trans hlow.tape,hg5.output.trans hlow.output,Nat.le_trans hlow.size hg5.size,fun k hk hn=> (hg5.block k (Nat.lt_of_lt_of_le hk hlow.size) (by simp;omega)).trans (hlow.block k hk hn)⟩
   ·rw [hE.1,←HZ.out];rfl
   ·rw [hE.1] at h0
    obtain ⟨g1,g2⟩:=hE.2 h0
    rw [g2,DD.out g1 L]
   ·have:=Ybc hu1 x.block (by rw [hx];rfl)
    omega
theorem Qac {l:List UInt8} {p:Nat} (h:(shk l p).2.2≠0):(shk l p).1=Yl8∧(shk l p).2.1=p:=by
 by_cases h1:Ybu l p=0
 ·by_cases h2:upS l (p+22) 8=0
  ·by_cases h3:(Ybt l 8 (p+49)).2.2=0
   ·rw [Yyo h1 h2 h3] at h
    exact absurd rfl h
   ·rw [Yl3 h1 h2 h3];exact ⟨rfl,rfl⟩
  ·rw [Yl2 h1 h2];exact ⟨rfl,rfl⟩
 ·rw [Yht h1];exact ⟨rfl,rfl⟩
def Y8l (l:List UInt8) (s:ByteArray) (p b:Nat) (w:World) (e:Ending) (w':World):Prop:=
 ∃(a:Option Addr) (cap:Nat),e = .returned (.tuple #[.agg (Ya8 (shk l p).1 (.slice a (shk l p).1.supp.length cap) (.slice none 0 0) 0).toArray,.int .i64 (shk l p).2.2])∧
  Ycf w' a (shk l p).1.supp∧(∀x,a=some x→w.heap.size≤x.block)∧Ybb w' b s (shk l p).2.1∧w.grownBy w' (some b)
set_option maxRecDepth 100000 in
set_option maxHeartbeats 4000000 in
theorem Y5e (w:World) (b:Nat) (s:ByteArray) (p:Nat) (hr:Ybb w b s p) (hs:s.size≤1099511627776):
  Calls Tryz.prog 32 #[.pointer (some ⟨b,0,none⟩)] w (Y8l s.data.toList s p b w):=by
 have c:=fun w hr=> Ywj w b s p hr hs
 have hp:=hr.2.1
 have hbA:b<w.heap.size:=hr.lt
 obtain ⟨A,hA⟩:∃A,w.heap.size=A:=⟨_,rfl⟩
 obtain ⟨wA,hwA⟩:∃wA,w.alloc (.cells #[.int .i64 0,.int .i64 0,.int .i64 0,.bool false,.int .i64 0,.slice none 0 0,.slice none 0 0,.int .i64 0] 30 (0,0))=wA:=⟨_,rfl⟩
 have hbA0:Below A w wA:=by rw [←hwA,←hA];exact (Below.refl _ w).alloc (Nat.le_refl _) _
 have hzA:wA.heap.size=A+1:=by rw [←hwA,←hA];simp
 have hA0:wA.heap[A]? = some (.cells #[.int .i64 0,.int .i64 0,.int .i64 0,.bool false,.int .i64 0,.slice none 0 0,.slice none 0 0,.int .i64 0] 30 (0,0)):=by rw [←hwA,←hA];exact heap_alloc_new w _
 have hrA:Ybb wA b s p:=hr.below (hA▸hbA0)
 have bad:=fun h=> Qac (l:=s.data.toList) (p:=p) h
 obtain ⟨l,hl⟩:∃l,s.data.toList=l:=⟨_,rfl⟩
 rw [hl] at c bad ⊢
 have HWA:=Lib.hid hwA
 have HA:=Lib.hid hA
 rw [hA] at hbA
 clear hwA hr hl
 go_enter Tryz.func32,Tryz.ntmps32
 go_wp2_with fail
 rw [HWA.out]
 refine (Ybs _ _ _ _ hrA).mono ?_
 rintro e u ⟨rfl,rfl⟩
 go_wp2_with fail
 refine (c _ hrA).mono ?_
 rintro e w1 ⟨h,a,cap,q,rfl,hok,hil,hfr,hr1,hg1⟩
 clear c hrA
 obtain ⟨f,hf⟩:∃f,(shk l p).2.2=f:=⟨_,rfl⟩
 rw [hf] at hok bad ⊢
 have HF:=Lib.hid hf
 obtain ⟨Z,hZ⟩:∃Z,(Ya8 h (.slice a h.supp.length cap) (.slice none 0 0) 0).toArray=Z:=⟨_,rfl⟩
 rw [hZ]
 have HSZ:(Tryz.prog.info? 30).map (·.size)=some Z.size:=hZ▸Ym4 _ _ _ _
 have HONE:Z.all (·.oneCell')=true:=hZ▸Ydv _ _ _ _ _ _ _ _
 have HYZ:(#[.int .i64 0,.int .i64 0,.int .i64 0,.bool false,.int .i64 0,.slice none 0 0,.slice none 0 0,.int .i64 0]:Array Value).size=Z.size:=by rw [←hZ];rfl
 have HSY:(Tryz.prog.info? 30).map (·.size)=some (#[.int .i64 0,.int .i64 0,.int .i64 0,.bool false,.int .i64 0,.slice none 0 0,.slice none 0 0,.int .i64 0]:Array Value).size:=Yhq
 have HOY:(#[.int .i64 0,.int .i64 0,.int .i64 0,.bool false,.int .i64 0,.slice none 0 0,.slice none 0 0,.int .i64 0]:Array Value).all (·.oneCell')=true:=by kernel_rfl
 obtain ⟨C,hC⟩:∃C,w1.heap.size=C:=⟨_,rfl⟩
 obtain ⟨w2,hw2⟩:∃w2,w1.alloc (.cells Z 30 (0,0))=w2:=⟨_,rfl⟩
 have hz1:A+1≤C:=by have:=hg1.size;omega
 have hb2:Below C w1 w2:=by rw [←hw2,←hC];exact (Below.refl _ w1).alloc (Nat.le_refl _) _
 have hcZ:w2.heap[C]? = some (.cells Z 30 (0,0)):=by rw [←hw2,←hC];exact heap_alloc_new w1 _
 have hcR:w2.heap[A]? = some (.cells #[.int .i64 0,.int .i64 0,.int .i64 0,.bool false,.int .i64 0,.slice none 0 0,.slice none 0 0,.int .i64 0] 30 (0,0)):=(hb2.block A (by omega)).trans ((hg1.block A (by omega) (by simp;omega)).trans hA0)
 have hr2:Ybb w2 b s q:=hr1.below (hC▸hb2)
 have hil2:Ycf w2 a h.supp:=hil.below (hC▸hb2)
 have hg2:w.grownBy w2 (some b):=Yao (Yao (Yal (HA.out▸hbA0) _) hg1) (Yal (hC▸hb2) _)
 have hz2:C<w2.heap.size:=by rw [←hw2,←hC];simp
 have HZ:=Lib.hid hZ
 have HC:=Lib.hid hC
 have HW2:=Lib.hid hw2
 clear hf hA0 hZ hC hw2 hil hr1 hg1 hb2 hbA0 hA
 by_cases h0:f=0
 ·subst h0
  have hk:=hok rfl
  have HK:=Lib.hid hk
  clear hok bad hk
  go_wp2_with (first | (with_reducible refine Yaj rfl 30 _ _ rfl Z _ 30 rfl rfl HSZ HYZ HONE ?_;rw [HW2.out,HC.out]) | (with_reducible refine wpList_load_row rfl 30 _ rfl C rfl 30 Z (0,0) _ hcZ Tryz.underlying30 rfl HSZ ?_) | (with_reducible refine Yae rfl 30 _ _ rfl A Z _ rfl rfl 30 hcR HSZ HYZ HONE ?_;intro w5 hh5 hg5))
  refine bodyPost_ret (Yan rfl _ _ A 30 _ (0,0) _ rfl hh5 Tryz.underlying30 rfl HSZ) rfl ?_
  have hil5:Ycf w5 a h.supp:=by
   rcases hil2 with k | ⟨x,o,rfl,hlt,k⟩
   ·exact .inl k
   ·have hx:=hfr ⟨x,o,none⟩ rfl
    have hx:A+1≤x:=by rw [←hzA];exact hx
    exact .inr ⟨x,o,rfl,Nat.lt_of_lt_of_le hlt hg5.size,fun i hi=> (World.cell?_of_block (a:=⟨x,o+i,none⟩) (hg5.block x hlt (by simp;omega))).trans (k i hi)⟩
  refine ⟨a,cap,?_,?_,fun x hx=> ?_,?_,?_⟩
  ·rw [HK.out,HZ.out];rfl
  ·rw [HK.out];exact hil5
  ·have:=hfr x hx;have:=HA.out;omega
  ·rw [HK.out];exact ⟨(hg5.block b hr2.lt (by simp;omega)).trans hr2.1,hr2.2⟩
  ·exact ⟨hg5.os.trans hg2.os,hg5.tape.trans hg2.tape,hg5.output.trans hg2.output,Nat.le_trans hg2.size hg5.size,fun k hk hn=> (hg5.block k (Nat.lt_of_lt_of_le hk hg2.size) (by have:=HA.out;simp;omega)).trans (hg2.block k hk hn)⟩
 ·have d1:(f != 0)=true:=by simpa using h0
  obtain ⟨b1,b2⟩:=bad h0
  have B1:=Lib.hid b1
  have B2:=Lib.hid b2
  clear hok bad b1 b2 hil2 h0
  go_wp2_with (with_reducible refine Yaj rfl 30 _ _ rfl Z _ 30 rfl rfl HSZ HYZ HONE ?_;rw [HW2.out,HC.out])
  refine (Ybk _ _ _ _ (p:Int) hr2 (by omega) (by omega)).mono ?_
  rintro e w3 ⟨rfl,hr3,hg3⟩
  rw [Int.toNat_natCast] at hr3
  have hcR3:=(hg3.block A (by omega) (by simp;omega)).trans hcR
  have hg4:=Yao hg2 hg3
  clear hcR hg3 hg2 hr2 hcZ
  go_wp2_with (with_reducible refine Yae rfl 30 _ _ rfl A _ _ rfl rfl 30 hcR3 HSY rfl HOY ?_;intro w5 hh5 hg5)
  refine bodyPost_ret (Yan rfl _ _ A 30 _ (0,0) _ rfl hh5 Tryz.underlying30 rfl HSY) rfl ?_
  refine ⟨none,0,?_,?_,(fun x hx=> by cases hx),?_,?_⟩
  ·rw [B1.out,HF.out];rfl
  ·rw [B1.out];exact Ycf.nil _ _
  ·rw [B2.out];exact ⟨(hg5.block b hr3.lt (by simp;omega)).trans hr3.1,hr3.2⟩
  ·exact ⟨hg5.os.trans hg4.os,hg5.tape.trans hg4.tape,hg5.output.trans hg4.output,Nat.le_trans hg4.size hg5.size,fun k hk hn=> (hg5.block k (Nat.lt_of_lt_of_le hk hg4.size) (by have:=HA.out;simp;omega)).trans (hg4.block k hk hn)⟩
def Y9x (l:List UInt8) (p:Nat) (w:World) (e:Ending) (w':World):Prop:=
 ∃(a:Option Addr) (cap:Nat),e = .returned (.tuple #[.agg (Ya8 (shk l p).1 (.slice a (shk l p).1.supp.length cap) (.slice none 0 0) 0).toArray,.int .i64 ((shk l p).2.1:Nat),.int .i64 (shk l p).2.2])∧Ycf w' a (shk l p).1.supp∧Below w.heap.size w w'∧∀x,a=some x→w.heap.size≤x.block
theorem Ych {l:List UInt8} {p:Nat} {w w':World} {f:Int} {Y:Array Value} {e:Ending} (h:shk l p=(Yl8,p,f)) (hY:#[.int .i64 0,.int .i64 0,.int .i64 0,.bool false,.int .i64 0,.slice none 0 0,.slice none 0 0,.int .i64 0]=Y) (he:e = .returned (.tuple #[.agg Y,.int .i64 (p:Int),.int .i64 f])) (hb:Below w.heap.size w w'):
  Y9x l p w e w':=⟨none,0,by rw [h,he,←hY];rfl,by rw [h];exact Ycf.nil _ _,hb,fun x hx=> by cases hx⟩
structure QwS (w0:World) (A:Nat) (Y:Array Value) (w:World):Prop where
 res:w.heap[A]? = some (.cells Y 30 (0,0))
 zs:w.heap[A+1]? = some (.cells Y 30 (0,0))
 low:Below w0.heap.size w0 w
 sep:w0.heap.size=A∧A+2≤w.heap.size
theorem QwS.grown {w0 w w':World} {A:Nat} {Y:Array Value} {row:Option Nat} (h:QwS w0 A Y w) (hg:w.grownBy w' row) (hr:∀g,row=some g→A+1<g):QwS w0 A Y w':=by
 obtain ⟨s1,s2⟩:=h.sep
 have hk:∀k,k≤A+1→w'.heap[k]? = w.heap[k]?:=fun k hk=> hg.block k (by omega) (fun e=> by have:=hr k e.symm;omega)
 exact ⟨(hk A (by omega)).trans h.res,(hk (A+1) (by omega)).trans h.zs,⟨hg.os.trans h.low.os,hg.tape.trans h.low.tape,hg.output.trans h.low.output,Nat.le_trans h.low.size hg.size,fun k hk'=> (hk k (by omega)).trans (h.low.block k hk')⟩,s1,Nat.le_trans s2 hg.size⟩
theorem QwS.below {w0 w w':World} {A:Nat} {Y:Array Value} (h:QwS w0 A Y w) (hb:Below w.heap.size w w'):QwS w0 A Y w':=h.grown (Yal hb none) (fun g h=> by cases h)
def widL:List Value:=[.int .i64 8,.int .i64 2,.int .i64 3,.int .i64 3,.int .i64 1,.int .i64 4,.int .i64 5,.int .i64 1]
theorem Y9w (j:Fin 8):widL[j.val]? = some (.int .i64 ((Yhm j.val:Nat):Int)):=by
 match j with
 | 0 | 1 | 2 | 3 | 4 | 5 | 6 | 7=> rfl
theorem Y4i:∀j:Fin 8,1≤Yhm j.val∧Yhm j.val≤8∧Yf4 j.val+Yhm j.val≤27:=by decide
structure QwW (w0:World) (A W:Nat) (Y:Array Value) (w:World):Prop where
 q:QwS w0 A Y w
 wd:w.heap[W]? = some (.cells widL.toArray 3 (0,0))
 lt:A+2≤W∧W<w.heap.size
theorem QwW.grown {w0 w w':World} {A W:Nat} {Y:Array Value} {row:Option Nat} (h:QwW w0 A W Y w) (hg:w.grownBy w' row) (hr:∀g,row=some g→W<g):QwW w0 A W Y w':=
 ⟨h.q.grown hg (fun g e=> by have:=hr g e;have:=h.lt;omega),(hg.block W h.lt.2 (fun e=> by have:=hr W e.symm;omega)).trans h.wd,h.lt.1,Nat.lt_of_lt_of_le h.lt.2 hg.size⟩
theorem QwW.below {w0 w w':World} {A W:Nat} {Y:Array Value} (h:QwW w0 A W Y w) (hb:Below w.heap.size w w'):QwW w0 A W Y w':=h.grown (Yal hb none) (fun g h=> by cases h)
theorem QwW.at {w0 w:World} {A W:Nat} {Y:Array Value} (h:QwW w0 A W Y w) {j:Nat} (hj:j<8):w.cell? ⟨W,j,none⟩=some (.int .i64 ((Yhm j:Nat):Int)):=Yaa h.wd (Y9w ⟨j,hj⟩)
def Qat (l:List UInt8) (p j:Nat):List Int:=(List.range j).map fun k=> ((Ygl l p k:Nat):Int)
theorem Y4b (l:List UInt8) (p j:Nat):Qat l p (j+1)=Qat l p j ++ [((Ygl l p j:Nat):Int)]:=by unfold Qat;rw [List.range_succ,List.map_append];rfl
theorem Yii (l:List UInt8) (p j:Nat):(Qat l p j).length=j:=by simp [Qat]
theorem Y3z {l:List UInt8} {p j:Nat} {f:Int} (hm:Ybu l p=0) (hj:j<8) (hu:upS l (p+22) j=0) (hf:Yoa l (p+22) j=f) (h0:f≠0):shk l p=(Yl8,p,f):=by
 have h1:upS l (p+22) (j+1)=f:=by rw [Yje hu,hf]
 have h2:=Yp7 (l:=l) (p:=p+22) (n:=j+1) (by rw [h1];exact h0) (7-j)
 rw [show j+1+(7-j)=8 by omega,h1] at h2
 rw [Yl2 hm (by rw [h2];exact h0),h2]
theorem Y6m {j v:Nat} (h:j=0∨j=2∨j=4):Ygr j v=0:=by
 unfold Ygr
 rw [if_neg (by omega),if_neg (by omega),if_neg (by omega)]
theorem Qb5 (v:Nat):Ygr 1 v=if v=2 then 0 else 5:=by
 unfold Ygr
 by_cases h:v=2
 ·rw [if_neg (by omega),if_neg (by omega),if_neg (by omega),if_pos h]
 ·rw [if_pos (by omega),if_neg h]
theorem Qcb (v:Nat):Ygr 3 v=if Yes (v:Int)=true then 0 else 5:=by
 unfold Ygr
 cases hv:Yes (v:Int) with
 | false=> rw [if_pos (by simp),if_neg (by decide)]
 | true=> rw [if_neg (by simp),if_neg (by omega),if_neg (by omega),if_pos rfl]
theorem Y8i {j:Nat} (hj:j=5∨j=7) (v:Nat):Ygr j v=if v=0 then 0 else 6:=by
 unfold Ygr
 by_cases h:v=0
 ·rw [if_neg (by omega),if_neg (by omega),if_neg (by omega),if_pos h]
 ·rw [if_neg (by omega),if_pos (by omega),if_neg h]
theorem Qcc (v:Nat):Ygr 6 v=if v=0 then 9 else 0:=by
 unfold Ygr
 by_cases h:v=0
 ·rw [if_neg (by omega),if_neg (by omega),if_pos ⟨rfl,h⟩,if_pos h]
 ·rw [if_neg (by omega),if_neg (by omega),if_neg (by omega),if_neg h]
theorem Yzc (l:List UInt8) (q:Nat) (h:q+1≤8*l.length):Ya0 l q 1=0↔(Yac l)[q]? = some 48:=by
 rw [Ycx l q 1 h]
 exact ⟨fun k=> k 0 (by omega),fun k i hi=> (by obtain rfl:i=0:=(by omega);exact k)⟩
def Qbp:Value→Nat
 | .slice _ n _=> n
 | _=> 0
structure Yvp (b o:Nat) (p0 p2 p3 p4 p6:Int) (x:World):Prop where
 c0:x.cell? ⟨b,o,none⟩=some (.int .i64 p0)
 c2:x.cell? ⟨b,o+2,none⟩=some (.int .i64 p2)
 c3:x.cell? ⟨b,o+3,none⟩=some (.int .i64 p3)
 c4:x.cell? ⟨b,o+4,none⟩=some (.int .i64 p4)
 c6:x.cell? ⟨b,o+6,none⟩=some (.int .i64 p6)
set_option maxRecDepth 100000 in
set_option maxHeartbeats 16000000 in
theorem Yvw (s:ByteArray) (p:Nat) (hp:p≤8*s.size) (hs:s.size≤100000) (w:World):
  Calls Tryz.prog 15 #[.string ⟨(Yac s.data.toList).toArray⟩,.int .i64 (p:Int)] w (Y9x s.data.toList p w):=by
 have hsl:s.data.toList.length=s.size:=rfl
 have hsz:=Ye3 s
 have hbit:=Ypx s
 have hcut:=Yh0 s
 have cM:=fun w=> Ypw s (p:Int) (by omega) w
 have cN:∀T n,∀w,n≤32→T+n≤8*s.size→Calls Tryz.prog 37 #[.string ⟨(((Yac s.data.toList).drop T).take n).toArray⟩] w fun e w'=> e = .returned (.int .i64 (Ya0 s.data.toList T n:Nat))∧w=w':=fun T n w h32 h=>
  Ycz ⟨(((Yac s.data.toList).drop T).take n).toArray⟩ (by rw [Yis,List.length_take];omega) (Ya9 _ _ (Yax _ _ (Ybn _))) w
 have cF:=fun k w=> Yso k w
 have eF:=fun k=> Y7s k
 have hm8:(p:Int).tmod 8=((p%8:Nat):Int):=by rw [Int.tmod_eq_emod_of_nonneg (by omega)];rfl
 obtain ⟨l,hl⟩:∃l,s.data.toList=l:=⟨_,rfl⟩
 rw [hl] at hsl hsz hbit hcut cM cN ⊢
 have kOff:=fun h=> Ype (l:=l) (p:=p) h
 have kErr:=fun h h2=> Yop (l:=l) (p:=p) h h2
 have kOth:=fun h h2 h1=> Yk4 (l:=l) (p:=p) h h2 h1
 have kOk:=fun h h2 h1=> Ysu (l:=l) (p:=p) h h2 h1
 obtain ⟨m,hm⟩:∃m,(Ya2 l p).1=m:=⟨_,rfl⟩
 obtain ⟨f,hf⟩:∃f,(Ya2 l p).2=f:=⟨_,rfl⟩
 rw [hm,hf] at cM
 rw [hf] at kErr kOth kOk
 rw [hm] at kOth kOk
 obtain ⟨S,hS⟩:∃S:ByteArray,(⟨(Yac l).toArray⟩:ByteArray)=S:=⟨_,rfl⟩
 rw [hS] at hsz hcut cM ⊢
 have BT:Hid (∀i (h:i<S.size),(Yac l)[i]? = some S[i]):=Lib.hid (by subst hS;exact hbit)
 have HCUT:=Lib.hid hcut
 have HSS:=Lib.hid hsz
 have hS8:S.size≤800000:=by omega
 have CN:=Lib.hid cN
 have CF:=Lib.hid cF
 have EF:=Lib.hid eF
 clear hl hm hf hS hbit hcut cN cF eF hsz
 obtain ⟨A,hA⟩:∃A,w.heap.size=A:=⟨_,rfl⟩
 obtain ⟨wA,hwA⟩:∃wA,(w.alloc (.cells #[.int .i64 0,.int .i64 0,.int .i64 0,.bool false,.int .i64 0,.slice none 0 0,.slice none 0 0,.int .i64 0] 30 (0,0))).alloc (.cells #[.int .i64 0,.int .i64 0,.int .i64 0,.bool false,.int .i64 0,.slice none 0 0,.slice none 0 0,.int .i64 0] 30 (0,0))=wA:=⟨_,rfl⟩
 obtain ⟨Y,hY⟩:∃Y:Array Value,#[.int .i64 0,.int .i64 0,.int .i64 0,.bool false,.int .i64 0,.slice none 0 0,.slice none 0 0,.int .i64 0]=Y:=⟨_,rfl⟩
 have QA:QwS w A Y wA:=by
  rw [←hwA,←hA,←hY]
  refine ⟨Yat (heap_alloc_new w _),?_,((Below.refl _ w).alloc (Nat.le_refl _) _).alloc (by simp) _,rfl,by simp⟩
  have:=heap_alloc_new (w.alloc (.cells #[.int .i64 0,.int .i64 0,.int .i64 0,.bool false,.int .i64 0,.slice none 0 0,.slice none 0 0,.int .i64 0] 30 (0,0))) (.cells #[.int .i64 0,.int .i64 0,.int .i64 0,.bool false,.int .i64 0,.slice none 0 0,.slice none 0 0,.int .i64 0] 30 (0,0))
  simpa using this
 have hzA:wA.heap.size=A+2:=by rw [←hwA,←hA];simp
 have HSY:(Tryz.prog.info? 30).map (·.size)=some Y.size:=hY▸Yhq
 have HOY:Y.all (·.oneCell')=true:=hY▸(by kernel_rfl)
 have HYY:Y.size=Y.size:=rfl
 have HWA:=Lib.hid hwA
 have HA:=Lib.hid hA
 have HY:=Lib.hid hY
 clear hwA hA hY
 by_cases h8:p%8=0
 case neg=>
  have K:=Lib.hid (Yht (by rw [kOff h8];decide:Ybu l p≠0))
  have K2:=Lib.hid (kOff h8)
  have d8:((((p%8:Nat):Int)) != 0)=true:=by rw [bne_iff_ne];omega
  generalize p%8=m8 at hm8 d8
  clear h8 kOff kErr kOth kOk cM
  go_enter Tryz.func15,Tryz.ntmps15
  go_wp2_with (first | (rw [HWA.out,HA.out];with_reducible refine wpList_load_row rfl 30 _ rfl (A+1) rfl 30 Y (0,0) _ QA.zs Tryz.underlying30 rfl HSY ?_) | (with_reducible refine Yae rfl 30 _ _ rfl A Y Y rfl rfl 30 QA.res HSY rfl HOY ?_;intro w5 hh5 hg5))
  refine bodyPost_ret (Yaf rfl _ _ A 30 _ (0,0) _ rfl hh5 Tryz.underlying30 rfl HSY) rfl ?_
  exact Ych (by rw [K.out,K2.out]) HY.out rfl ((QA.low).grown hg5 (by have:=(QA.sep).1;have:=(QA.sep).2;omega) (by intro k hk;injection hk with hk;have:=(QA.sep).1;omega))
 have d8:((((p%8:Nat):Int)) != 0)=false:=by rw [h8];rfl
 have kErr:=fun h2=> kErr h8 h2
 have kOth:=fun h2 h1=> kOth h8 h2 h1
 have kOk:=fun h2 h1=> kOk h8 h2 h1
 generalize p%8=m8 at hm8 d8
 clear h8 kOff
 by_cases h2:f=0
 case neg=>
  have K:=Lib.hid (Yht (by rw [kErr h2];exact h2:Ybu l p≠0))
  have K2:=Lib.hid (kErr h2)
  have d2:(f != 0)=true:=by simpa using h2
  clear kErr kOth kOk h2
  go_enter Tryz.func15,Tryz.ntmps15
  go_wp2_with fail
  rw [HWA.out,HA.out]
  refine (cM _).mono ?_
  rintro e u ⟨rfl,rfl⟩
  go_wp2_with (first | (with_reducible refine wpList_load_row rfl 30 _ rfl (A+1) rfl 30 Y (0,0) _ QA.zs Tryz.underlying30 rfl HSY ?_) | (with_reducible refine Yae rfl 30 _ _ rfl A Y Y rfl rfl 30 QA.res HSY rfl HOY ?_;intro w5 hh5 hg5))
  refine bodyPost_ret (Yaf rfl _ _ A 30 _ (0,0) _ rfl hh5 Tryz.underlying30 rfl HSY) rfl ?_
  exact Ych (by rw [K.out,K2.out]) HY.out rfl ((QA.low).grown hg5 (by have:=(QA.sep).1;have:=(QA.sep).2;omega) (by intro k hk;injection hk with hk;have:=(QA.sep).1;omega))
 subst h2
 by_cases h1:m=0
 case neg=>
  have K:=Lib.hid (Yht (by rw [kOth rfl h1];decide:Ybu l p≠0))
  have K2:=Lib.hid (kOth rfl h1)
  have d2:(m != 0)=true:=by simpa using h1
  clear kErr kOth kOk h1
  go_enter Tryz.func15,Tryz.ntmps15
  go_wp2_with fail
  rw [HWA.out,HA.out]
  refine (cM _).mono ?_
  rintro e u ⟨rfl,rfl⟩
  go_wp2_with (first | (with_reducible refine wpList_load_row rfl 30 _ rfl (A+1) rfl 30 Y (0,0) _ QA.zs Tryz.underlying30 rfl HSY ?_) | (with_reducible refine Yae rfl 30 _ _ rfl A Y Y rfl rfl 30 QA.res HSY rfl HOY ?_;intro w5 hh5 hg5))
  refine bodyPost_ret (Yaf rfl _ _ A 30 _ (0,0) _ rfl hh5 Tryz.underlying30 rfl HSY) rfl ?_
  exact Ych (by rw [K.out,K2.out]) HY.out rfl ((QA.low).grown hg5 (by have:=(QA.sep).1;have:=(QA.sep).2;omega) (by intro k hk;injection hk with hk;have:=(QA.sep).1;omega))
 subst h1
 have KM:=Lib.hid (kOk rfl rfl)
 clear kErr kOth kOk
 obtain ⟨i0,hi,jz0,jz1,jz2⟩:=info_parts Yyd
 obtain ⟨W,hW⟩:∃W,wA.heap.size=W:=⟨_,rfl⟩
 obtain ⟨wB,hwB⟩:∃wB,wA.alloc (.cells #[.int .i64 8,.int .i64 2,.int .i64 3,.int .i64 3,.int .i64 1,.int .i64 4,.int .i64 5,.int .i64 1] 3 (0,0))=wB:=⟨_,rfl⟩
 have QB:QwW w A W Y wB:=by
  have hb:Below wA.heap.size wA wB:=by rw [←hwB];exact (Below.refl _ wA).alloc (Nat.le_refl _) _
  exact ⟨QA.below hb,by rw [←hwB,←hW];exact heap_alloc_new wA _,by omega,by rw [←hwB,←hW];simp⟩
 have HWB:=Lib.hid hwB
 have HW:=Lib.hid hW
 clear hwB QA hzA
 go_enter Tryz.func15,Tryz.ntmps15
 go_wp2_with fail
 rw [HWA.out,HA.out]
 refine (cM _).mono ?_
 rintro e u ⟨rfl,rfl⟩
 clear cM
 go_wp2
 rw [HWB.out]
 go_loopw [10,12,13] (fun t lv i wr=>∃j T:Nat,j≤8∧t = .int .i64 (T:Int)∧i = .int .i64 (j:Int)∧Hid (T=p+22+Yf4 j)∧T≤p+49∧wr.ownsRow (W+1) 3 1 lv j (Y53 (Qat l (p+22) j))∧QwW w A W Y wr∧Hid (upS l (p+22) j=0)) (fun _ _ i _=> 8-(RowKit.intOf i).toNat)
 case atStart=> exact ⟨0,p+22,Nat.zero_le _,by go_num,rfl,Lib.hid rfl,by omega,World.ownsRow_nil _ _ _ _,QB,Lib.hid rfl⟩
 case round=>
  clear QB
  obtain ⟨j,T,hj,rfl,rfl,hT,hT49,hu,QW,hU⟩:=hrel
  by_cases hlt:j<8
  ·have t1:decide ((j:Int)<8)=true:=by simp;omega
   have kw:=QW.at hlt
   obtain ⟨n1,n2,n3⟩:=Y4i ⟨j,hlt⟩
   simp only at n1 n2 n3
   have hTe:=hT.out
   have hTn:T+Yhm j=p+22+Yf4 (j+1):=by show _=p+22+(Yf4 j+Yhm j);omega
   have hTl:T+Yhm j≤p+49:=by omega
   have hPs:8*l.length<T+Yhm j→Yoa l (p+22) j=2:=fun h=> Yit (by omega)
   have hPi:T+Yhm j≤8*l.length→Yoa l (p+22) j=Ygr j (Ygl l (p+22) j):=fun h=> Yle (by omega)
   have hv:Ygl l (p+22) j=Ya0 l T (Yhm j):=by unfold Ygl;rw [hTe]
   have sn:=Y4b l (p+22) j
   obtain ⟨n,hn⟩:∃n,Yhm j=n:=⟨_,rfl⟩
   rw [hn] at kw n1 n2 n3 hTn hTl hPs hPi hv
   obtain ⟨v,hv2⟩:∃v,Ygl l (p+22) j=v:=⟨_,rfl⟩
   rw [hv2] at hPi hv sn
   have HTN:=Lib.hid hTn
   have HSN:=Lib.hid sn
   have KW:Hid (∀x,QwW w A W Y x→x.cell? ⟨W,j,none⟩=some (.int .i64 (n:Int))):=Lib.hid fun x hx=> by rw [hx.at hlt,hn]
   have KP:=Lib.hid (fun f (h:Yoa l (p+22) j=f) h0=> Y3z KM.out hlt hU.out h h0)
   have KN:=Lib.hid (fun (h:Yoa l (p+22) j=0)=> ((Yje hU.out).trans h:upS l (p+22) (j+1)=0))
   clear hn hv2 hTe hTn sn hT hU
   by_cases hsh:8*s.size<T+n
   ·have K:=Lib.hid (KP.out 2 (hPs (by omega)) (by decide))
    have d2:decide ((S.size:Int)-(T:Int)<(n:Int))=true:=by have:=HSS.out;simp;omega
    clear KP KN hPs hPi hv hsh
    go_wp2_with (first | (with_reducible refine wpList_load_row rfl 30 _ rfl (A+1) rfl 30 Y (0,0) _ QW.q.zs Tryz.underlying30 rfl HSY ?_) | (with_reducible refine Yae rfl 30 _ _ rfl A Y Y rfl rfl 30 QW.q.res HSY rfl HOY ?_;intro w5 hh5 hg5))
    refine bodyPost_ret (Yaf rfl _ _ A 30 _ (0,0) _ rfl hh5 Tryz.underlying30 rfl HSY) rfl ?_
    exact Ych K.out HY.out rfl ((QW.q.low).grown hg5 (by have:=(QW.q.sep).1;have:=(QW.q.sep).2;omega) (by intro k hk;injection hk with hk;have:=(QW.q.sep).1;omega))
   ·have d2:decide ((S.size:Int)-(T:Int)<(n:Int))=false:=by have:=HSS.out;simp;omega
    have hc:=HCUT.out T n
    have cc:=fun w=> CN.out T n w (by omega) (by omega)
    rw [←hv] at cc
    have hP:=hPi (by omega)
    generalize (⟨(((Yac l).drop T).take n).toArray⟩:ByteArray)=C at hc cc
    have hTS:T+n≤S.size:=by have:=HSS.out;omega
    clear hPs hPi hv
    go_wp2_with fail
    refine (cc _).mono ?_
    rintro e u ⟨rfl,rfl⟩
    clear cc hc
    by_cases hj1:j=1
    ·have hb:Ygr j v=if v=2 then 0 else 5:=by rw [hj1];exact Qb5 v
     have b1:((j:Int)==1)=true:=by rw [beq_iff_eq];omega
     have b3:((j:Int)==3)=false:=by rw [beq_eq_false_iff_ne];omega
     have b5:((j:Int)==5)=false:=by rw [beq_eq_false_iff_ne];omega
     have b7:((j:Int)==7)=false:=by rw [beq_eq_false_iff_ne];omega
     have b6:((j:Int)==6)=false:=by rw [beq_eq_false_iff_ne];omega
     by_cases hvv:v=2
     ·have N:=Lib.hid (KN.out (hP.trans (hb.trans (if_pos hvv))))
      have dv:((v:Int) != 2)=false:=by rw [hvv];rfl
      clear KP KN hP hb hj1 hvv hsh
      go_wp2_with (at_builtin;refine Ycc (v:=u12) (n:=j) (sl:=.tmp 101) (x:=.tmp 103) (K:=wr.heap.size) (c:=1) (y0:=(v:Int)) rfl rfl Tryz.underlying27 hi jz0 rfl jz1 jz2 ?d5 (hu.alloc _) ?d4 ?d1 ?d2 ?d3 ?_;(case d5=> kernel_rfl);(case d4=> kernel_rfl);(case d1=> go_cell);(case d2=> omega);(case d3=> (have:=QW.lt;simp;omega));intro v2 w2 hu4 hg4;have Q4:=(QW.grown (World.grownBy_alloc _ (.cells #[.int .i64 (v:Int)] 3 (0,0)) none) (fun g h=> by cases h)).grown hg4 (fun g hg=> by have:=Ybc (hu.alloc (.cells #[.int .i64 (v:Int)] 3 (0,0))) g hg;omega);have kw:=KW.out _ Q4;clear hg4 hu)
      go_roundw
      case rel=> exact ⟨j+1,T+n,by omega,by go_num,by go_num,HTN,hTl,by rw [HSN.out,Yde];exact hu4,Q4,N⟩
      case measure=> simp [RowKit.intOf];omega
     ·have K:=Lib.hid (KP.out 5 (hP.trans (hb.trans (if_neg hvv))) (by decide))
      have dv:((v:Int) != 2)=true:=by rw [bne_iff_ne];omega
      clear KP KN hP hb hj1 hvv hsh
      go_wp2_with (first | (with_reducible refine wpList_load_row rfl 30 _ rfl (A+1) rfl 30 Y (0,0) _ QW.q.zs Tryz.underlying30 rfl HSY ?_) | (with_reducible refine Yae rfl 30 _ _ rfl A Y Y rfl rfl 30 QW.q.res HSY rfl HOY ?_;intro w5 hh5 hg5))
      refine bodyPost_ret (Yaf rfl _ _ A 30 _ (0,0) _ rfl hh5 Tryz.underlying30 rfl HSY) rfl ?_
      exact Ych K.out HY.out rfl ((QW.q.low).grown hg5 (by have:=(QW.q.sep).1;have:=(QW.q.sep).2;omega) (by intro k hk;injection hk with hk;have:=(QW.q.sep).1;omega))
    by_cases hj1:j=3
    ·have hb:Ygr j v=if Yes (v:Int)=true then 0 else 5:=by rw [hj1];exact Qcb v
     have b1:((j:Int)==1)=false:=by rw [beq_eq_false_iff_ne];omega
     have b3:((j:Int)==3)=true:=by rw [beq_iff_eq];omega
     have b5:((j:Int)==5)=false:=by rw [beq_eq_false_iff_ne];omega
     have b7:((j:Int)==7)=false:=by rw [beq_eq_false_iff_ne];omega
     have b6:((j:Int)==6)=false:=by rw [beq_eq_false_iff_ne];omega
     have cF2:=fun w=> CF.out (v:Int) w
     have eF2:=EF.out (v:Int)
     generalize (Ydd (v:Int):Int)=M at cF2 eF2
     by_cases hvv:Yes (v:Int)=true
     ·have N:=Lib.hid (KN.out (hP.trans (hb.trans (if_pos hvv))))
      have dv:(M==0)=false:=by rw [eF2,hvv];rfl
      clear KP KN hP hb hj1 hvv hsh eF2
      go_wp2_with fail
      refine (cF2 _).mono ?_
      rintro e y1 ⟨rfl,hb1⟩
      have QM:=QW.below hb1
      have hum:=hu.kept (Yal hb1 none) (by cases hv:u12.ownBlock with | none=> exact .inl rfl | some g=> exact .inr (by simp))
      clear hb1 cF2
      go_wp2_with (at_builtin;refine Ycc (v:=u12) (n:=j) (sl:=.tmp 101) (x:=.tmp 103) (K:=y1.heap.size) (c:=1) (y0:=(v:Int)) rfl rfl Tryz.underlying27 hi jz0 rfl jz1 jz2 ?d5 (hum.alloc _) ?d4 ?d1 ?d2 ?d3 ?_;(case d5=> kernel_rfl);(case d4=> kernel_rfl);(case d1=> go_cell);(case d2=> omega);(case d3=> (have:=QM.lt;simp;omega));intro v2 w2 hu4 hg4;have Q4:=(QM.grown (World.grownBy_alloc _ (.cells #[.int .i64 (v:Int)] 3 (0,0)) none) (fun g h=> by cases h)).grown hg4 (fun g hg=> by have:=Ybc (hum.alloc (.cells #[.int .i64 (v:Int)] 3 (0,0))) g hg;omega);have kw:=KW.out _ Q4;clear hg4 hum)
      go_roundw
      case rel=> exact ⟨j+1,T+n,by omega,by go_num,by go_num,HTN,hTl,by rw [HSN.out,Yde];exact hu4,Q4,N⟩
      case measure=> simp [RowKit.intOf];omega
     ·have K:=Lib.hid (KP.out 5 (hP.trans (hb.trans (if_neg hvv))) (by decide))
      have dv:(M==0)=true:=by rw [eF2];simpa using hvv
      clear KP KN hP hb hj1 hvv hsh eF2
      go_wp2_with fail
      refine (cF2 _).mono ?_
      rintro e y1 ⟨rfl,hb1⟩
      have QM:=QW.below hb1
      have hum:=hu.kept (Yal hb1 none) (by cases hv:u12.ownBlock with | none=> exact .inl rfl | some g=> exact .inr (by simp))
      clear hb1 cF2
      go_wp2_with (first | (with_reducible refine wpList_load_row rfl 30 _ rfl (A+1) rfl 30 Y (0,0) _ QM.q.zs Tryz.underlying30 rfl HSY ?_) | (with_reducible refine Yae rfl 30 _ _ rfl A Y Y rfl rfl 30 QM.q.res HSY rfl HOY ?_;intro w5 hh5 hg5))
      refine bodyPost_ret (Yaf rfl _ _ A 30 _ (0,0) _ rfl hh5 Tryz.underlying30 rfl HSY) rfl ?_
      exact Ych K.out HY.out rfl ((QM.q.low).grown hg5 (by have:=(QM.q.sep).1;have:=(QM.q.sep).2;omega) (by intro k hk;injection hk with hk;have:=(QM.q.sep).1;omega))
    by_cases hj1:j=5
    ·have hb:Ygr j v=if v=0 then 0 else 6:=Y8i (.inl hj1) v
     have b1:((j:Int)==1)=false:=by rw [beq_eq_false_iff_ne];omega
     have b3:((j:Int)==3)=false:=by rw [beq_eq_false_iff_ne];omega
     have b5:((j:Int)==5)=true:=by rw [beq_iff_eq];omega
     have b7:((j:Int)==7)=false:=by rw [beq_eq_false_iff_ne];omega
     have b6:((j:Int)==6)=false:=by rw [beq_eq_false_iff_ne];omega
     by_cases hvv:v=0
     ·have N:=Lib.hid (KN.out (hP.trans (hb.trans (if_pos hvv))))
      have dv:((v:Int) != 0)=false:=by rw [hvv];rfl
      clear KP KN hP hb hj1 hvv hsh
      go_wp2_with (at_builtin;refine Ycc (v:=u12) (n:=j) (sl:=.tmp 101) (x:=.tmp 103) (K:=wr.heap.size) (c:=1) (y0:=(v:Int)) rfl rfl Tryz.underlying27 hi jz0 rfl jz1 jz2 ?d5 (hu.alloc _) ?d4 ?d1 ?d2 ?d3 ?_;(case d5=> kernel_rfl);(case d4=> kernel_rfl);(case d1=> go_cell);(case d2=> omega);(case d3=> (have:=QW.lt;simp;omega));intro v2 w2 hu4 hg4;have Q4:=(QW.grown (World.grownBy_alloc _ (.cells #[.int .i64 (v:Int)] 3 (0,0)) none) (fun g h=> by cases h)).grown hg4 (fun g hg=> by have:=Ybc (hu.alloc (.cells #[.int .i64 (v:Int)] 3 (0,0))) g hg;omega);have kw:=KW.out _ Q4;clear hg4 hu)
      go_roundw
      case rel=> exact ⟨j+1,T+n,by omega,by go_num,by go_num,HTN,hTl,by rw [HSN.out,Yde];exact hu4,Q4,N⟩
      case measure=> simp [RowKit.intOf];omega
     ·have K:=Lib.hid (KP.out 6 (hP.trans (hb.trans (if_neg hvv))) (by decide))
      have dv:((v:Int) != 0)=true:=by rw [bne_iff_ne];omega
      clear KP KN hP hb hj1 hvv hsh
      go_wp2_with (first | (with_reducible refine wpList_load_row rfl 30 _ rfl (A+1) rfl 30 Y (0,0) _ QW.q.zs Tryz.underlying30 rfl HSY ?_) | (with_reducible refine Yae rfl 30 _ _ rfl A Y Y rfl rfl 30 QW.q.res HSY rfl HOY ?_;intro w5 hh5 hg5))
      refine bodyPost_ret (Yaf rfl _ _ A 30 _ (0,0) _ rfl hh5 Tryz.underlying30 rfl HSY) rfl ?_
      exact Ych K.out HY.out rfl ((QW.q.low).grown hg5 (by have:=(QW.q.sep).1;have:=(QW.q.sep).2;omega) (by intro k hk;injection hk with hk;have:=(QW.q.sep).1;omega))
    by_cases hj1:j=7
    ·have hb:Ygr j v=if v=0 then 0 else 6:=Y8i (.inr hj1) v
     have b1:((j:Int)==1)=false:=by rw [beq_eq_false_iff_ne];omega
     have b3:((j:Int)==3)=false:=by rw [beq_eq_false_iff_ne];omega
     have b5:((j:Int)==5)=false:=by rw [beq_eq_false_iff_ne];omega
     have b7:((j:Int)==7)=true:=by rw [beq_iff_eq];omega
     have b6:((j:Int)==6)=false:=by rw [beq_eq_false_iff_ne];omega
     by_cases hvv:v=0
     ·have N:=Lib.hid (KN.out (hP.trans (hb.trans (if_pos hvv))))
      have dv:((v:Int) != 0)=false:=by rw [hvv];rfl
      clear KP KN hP hb hj1 hvv hsh
      go_wp2_with (at_builtin;refine Ycc (v:=u12) (n:=j) (sl:=.tmp 101) (x:=.tmp 103) (K:=wr.heap.size) (c:=1) (y0:=(v:Int)) rfl rfl Tryz.underlying27 hi jz0 rfl jz1 jz2 ?d5 (hu.alloc _) ?d4 ?d1 ?d2 ?d3 ?_;(case d5=> kernel_rfl);(case d4=> kernel_rfl);(case d1=> go_cell);(case d2=> omega);(case d3=> (have:=QW.lt;simp;omega));intro v2 w2 hu4 hg4;have Q4:=(QW.grown (World.grownBy_alloc _ (.cells #[.int .i64 (v:Int)] 3 (0,0)) none) (fun g h=> by cases h)).grown hg4 (fun g hg=> by have:=Ybc (hu.alloc (.cells #[.int .i64 (v:Int)] 3 (0,0))) g hg;omega);have kw:=KW.out _ Q4;clear hg4 hu)
      go_roundw
      case rel=> exact ⟨j+1,T+n,by omega,by go_num,by go_num,HTN,hTl,by rw [HSN.out,Yde];exact hu4,Q4,N⟩
      case measure=> simp [RowKit.intOf];omega
     ·have K:=Lib.hid (KP.out 6 (hP.trans (hb.trans (if_neg hvv))) (by decide))
      have dv:((v:Int) != 0)=true:=by rw [bne_iff_ne];omega
      clear KP KN hP hb hj1 hvv hsh
      go_wp2_with (first | (with_reducible refine wpList_load_row rfl 30 _ rfl (A+1) rfl 30 Y (0,0) _ QW.q.zs Tryz.underlying30 rfl HSY ?_) | (with_reducible refine Yae rfl 30 _ _ rfl A Y Y rfl rfl 30 QW.q.res HSY rfl HOY ?_;intro w5 hh5 hg5))
      refine bodyPost_ret (Yaf rfl _ _ A 30 _ (0,0) _ rfl hh5 Tryz.underlying30 rfl HSY) rfl ?_
      exact Ych K.out HY.out rfl ((QW.q.low).grown hg5 (by have:=(QW.q.sep).1;have:=(QW.q.sep).2;omega) (by intro k hk;injection hk with hk;have:=(QW.q.sep).1;omega))
    by_cases hj1:j=6
    ·have hb:Ygr j v=if v=0 then 9 else 0:=by rw [hj1];exact Qcc v
     have b1:((j:Int)==1)=false:=by rw [beq_eq_false_iff_ne];omega
     have b3:((j:Int)==3)=false:=by rw [beq_eq_false_iff_ne];omega
     have b5:((j:Int)==5)=false:=by rw [beq_eq_false_iff_ne];omega
     have b7:((j:Int)==7)=false:=by rw [beq_eq_false_iff_ne];omega
     have b6:((j:Int)==6)=true:=by rw [beq_iff_eq];omega
     by_cases hvv:v=0
     ·have K:=Lib.hid (KP.out 9 (hP.trans (hb.trans (if_pos hvv))) (by decide))
      have dv:((v:Int)==0)=true:=by rw [hvv];rfl
      clear KP KN hP hb hj1 hvv hsh
      go_wp2_with (first | (with_reducible refine wpList_load_row rfl 30 _ rfl (A+1) rfl 30 Y (0,0) _ QW.q.zs Tryz.underlying30 rfl HSY ?_) | (with_reducible refine Yae rfl 30 _ _ rfl A Y Y rfl rfl 30 QW.q.res HSY rfl HOY ?_;intro w5 hh5 hg5))
      refine bodyPost_ret (Yaf rfl _ _ A 30 _ (0,0) _ rfl hh5 Tryz.underlying30 rfl HSY) rfl ?_
      exact Ych K.out HY.out rfl ((QW.q.low).grown hg5 (by have:=(QW.q.sep).1;have:=(QW.q.sep).2;omega) (by intro k hk;injection hk with hk;have:=(QW.q.sep).1;omega))
     ·have N:=Lib.hid (KN.out (hP.trans (hb.trans (if_neg hvv))))
      have dv:((v:Int)==0)=false:=by rw [beq_eq_false_iff_ne];omega
      clear KP KN hP hb hj1 hvv hsh
      go_wp2_with (at_builtin;refine Ycc (v:=u12) (n:=j) (sl:=.tmp 101) (x:=.tmp 103) (K:=wr.heap.size) (c:=1) (y0:=(v:Int)) rfl rfl Tryz.underlying27 hi jz0 rfl jz1 jz2 ?d5 (hu.alloc _) ?d4 ?d1 ?d2 ?d3 ?_;(case d5=> kernel_rfl);(case d4=> kernel_rfl);(case d1=> go_cell);(case d2=> omega);(case d3=> (have:=QW.lt;simp;omega));intro v2 w2 hu4 hg4;have Q4:=(QW.grown (World.grownBy_alloc _ (.cells #[.int .i64 (v:Int)] 3 (0,0)) none) (fun g h=> by cases h)).grown hg4 (fun g hg=> by have:=Ybc (hu.alloc (.cells #[.int .i64 (v:Int)] 3 (0,0))) g hg;omega);have kw:=KW.out _ Q4;clear hg4 hu)
      go_roundw
      case rel=> exact ⟨j+1,T+n,by omega,by go_num,by go_num,HTN,hTl,by rw [HSN.out,Yde];exact hu4,Q4,N⟩
      case measure=> simp [RowKit.intOf];omega
    have N:=Lib.hid (KN.out (hP.trans (Y6m (by omega))))
    have b1:((j:Int)==1)=false:=by rw [beq_eq_false_iff_ne];omega
    have b3:((j:Int)==3)=false:=by rw [beq_eq_false_iff_ne];omega
    have b5:((j:Int)==5)=false:=by rw [beq_eq_false_iff_ne];omega
    have b7:((j:Int)==7)=false:=by rw [beq_eq_false_iff_ne];omega
    have b6:((j:Int)==6)=false:=by rw [beq_eq_false_iff_ne];omega
    clear KP KN hP hsh
    go_wp2_with (at_builtin;refine Ycc (v:=u12) (n:=j) (sl:=.tmp 101) (x:=.tmp 103) (K:=wr.heap.size) (c:=1) (y0:=(v:Int)) rfl rfl Tryz.underlying27 hi jz0 rfl jz1 jz2 ?d5 (hu.alloc _) ?d4 ?d1 ?d2 ?d3 ?_;(case d5=> kernel_rfl);(case d4=> kernel_rfl);(case d1=> go_cell);(case d2=> omega);(case d3=> (have:=QW.lt;simp;omega));intro v2 w2 hu4 hg4;have Q4:=(QW.grown (World.grownBy_alloc _ (.cells #[.int .i64 (v:Int)] 3 (0,0)) none) (fun g h=> by cases h)).grown hg4 (fun g hg=> by have:=Ybc (hu.alloc (.cells #[.int .i64 (v:Int)] 3 (0,0))) g hg;omega);have kw:=KW.out _ Q4;clear hg4 hu)
    go_roundw
    case rel=> exact ⟨j+1,T+n,by omega,by go_num,by go_num,HTN,hTl,by rw [HSN.out,Yde];exact hu4,Q4,N⟩
    case measure=> simp [RowKit.intOf];omega
  ·obtain rfl:8=j:=by omega
   rw [show (Value.int .i64 ((8:Nat):Int)) = .int .i64 8 from rfl]
   obtain ⟨pl,cl,rfl,hil⟩:=Ygc (Yii l (p+22) 8) hu
   obtain ⟨bL,oL,rfl,hbL,hcL⟩:=hil.hold (by rw [Yii];omega)
   have hT2:T=p+49:=hT.out
   have hbW:W+1≤bL:=Ybc hu bL rfl
   have hU7:=Yls.1 hU.out 7 (by omega)
   have hTq:T≤8*s.size:=by have:=hU7.1;rw [hsl] at this;show T≤_;have e:p+22+Yf4 7+Yhm 7=p+49:=rfl;omega
   have hKS:Hid (∀f,(Ybt l 8 (p+49)).2.2=f→f≠0→shk l p=(Yl8,p,f)):=Lib.hid fun f hf h0=> by rw [Yl3 KM.out hU.out (by rw [hf];exact h0),hf]
   have hKO:Hid (∀L q,Ybt l 8 (p+49)=(L,q,0)→shk l p=(Ym3 l (p+22) L,q,0)):=Lib.hid fun L q h=> by rw [Yyo KM.out hU.out (by rw [h]),h]
   obtain ⟨p0,h0⟩:∃x:Int,((Ygl l (p+22) 0:Nat):Int)=x:=⟨_,rfl⟩
   obtain ⟨p2,h2⟩:∃x:Int,((Ygl l (p+22) 2:Nat):Int)=x:=⟨_,rfl⟩
   obtain ⟨p3,h3⟩:∃x:Int,((Ygl l (p+22) 3:Nat):Int)=x:=⟨_,rfl⟩
   obtain ⟨p4,h4⟩:∃x:Int,((Ygl l (p+22) 4:Nat):Int)=x:=⟨_,rfl⟩
   obtain ⟨p6,h6⟩:∃x:Int,((Ygl l (p+22) 6:Nat):Int)=x:=⟨_,rfl⟩
   have LC:Hid (∀x,x.heap[bL]? = wr.heap[bL]?→Yvp bL oL p0 p2 p3 p4 p6 x):=Lib.hid fun x hx=> by
    have g:=fun i (hi:i<8)=> (World.cell?_of_block (a:=⟨bL,oL+i,none⟩) hx).trans (hcL wr (Below.refl _ _) i (by rw [Yii];exact hi))
    refine ⟨(g 0 (by omega)).trans ?_,(g 2 (by omega)).trans ?_,(g 3 (by omega)).trans ?_,(g 4 (by omega)).trans ?_,(g 6 (by omega)).trans ?_⟩
    ·rw [←h0];rfl
    ·rw [←h2];rfl
    ·rw [←h3];rfl
    ·rw [←h4];rfl
    ·rw [←h6];rfl
   have HO:Hid (∀L,Ym3 l (p+22) L=⟨p0,p2,p3,p4==1,p6,L⟩):=Lib.hid fun L=> by
    unfold Ym3
    rw [h0,h2,h3,h6]
    congr 1
    rw [Bool.eq_iff_iff]
    simp only [beq_iff_eq]
    omega
   obtain ⟨OB,hOB⟩:∃o,wr.heap[bL]? = o:=⟨_,rfl⟩
   rw [hOB] at LC
   obtain ⟨X2,hX2⟩:∃X,wr.heap.size=X:=⟨_,rfl⟩
   have hR0:Hid (Ybt l 8 (p+49)=(([]:List Int)++(Ybt l (8-0) T).1,(Ybt l (8-0) T).2)):=Lib.hid (by rw [hT2];rfl)
   have hWX:W<X2:=by rw [←hX2];exact QW.lt.2
   rw [hX2] at hbL
   have HX2:=Lib.hid hX2
   have hx2:X2≤wr.heap.size:=by omega
   clear hT hT2 hT49 hU hU7 hil hcL hu hX2 h0 h2 h3 h4 h6 hj hlt
   go_wp2
   go_loopw [10,15] (fun t sv wz=>∃(q:Nat) (L:List Int),t = .int .i64 (q:Int)∧q≤8*s.size∧wz.ownsRow X2 3 1 sv L.length (Y53 L)∧QwW w A W Y wz∧wz.heap[bL]? = OB∧L.length≤8∧Hid (Ybt l 8 (p+49)=(L++(Ybt l (8-L.length) q).1,(Ybt l (8-L.length) q).2))∧X2≤wz.heap.size) (fun _ sv _=> 10-Qbp sv)
   case atStart=> exact ⟨T,[],rfl,hTq,World.ownsRow_nil _ _ _ _,QW,hOB,Nat.zero_le _,hR0,hx2⟩
   case round=>
    clear QW hR0 hTq hx2 hOB HX2
    obtain ⟨q,L,rfl,hq,hu,QZ,hbk,hL8,hR,hx2⟩:=hrel
    obtain ⟨pa,cap,rfl,hil⟩:=Ygc rfl hu
    by_cases h1:8*s.size<q+1
    ·have K:=Lib.hid (hKS.out 2 (by rw [hR.out,Yj6 (by omega)]) (by decide))
     have d2:decide ((S.size:Int)-(q:Int)<1)=true:=by have:=HSS.out;simp;omega
     clear hKS hKO LC HO hR h1 hil hu CN
     go_wp2_with (first | (with_reducible refine wpList_load_row rfl 30 _ rfl (A+1) rfl 30 Y (0,0) _ QZ.q.zs Tryz.underlying30 rfl HSY ?_) | (with_reducible refine Yae rfl 30 _ _ rfl A Y Y rfl rfl 30 QZ.q.res HSY rfl HOY ?_;intro w5 hh5 hg5))
     refine bodyPost_ret (Yaf rfl _ _ A 30 _ (0,0) _ rfl hh5 Tryz.underlying30 rfl HSY) rfl ?_
     exact Ych K.out HY.out rfl ((QZ.q.low).grown hg5 (by have:=(QZ.q.sep).1;have:=(QZ.q.sep).2;omega) (by intro k hk;injection hk with hk;have:=(QZ.q.sep).1;omega))
    ·have d2:decide ((S.size:Int)-(q:Int)<1)=false:=by have:=HSS.out;simp;omega
     have hin:q<S.size:=by have:=HSS.out;omega
     have hb:=BT.out q hin
     have hd:=Yzc l q (by omega)
     rw [hb] at hd
     by_cases h48:S[q].toNat=48
     ·have c48:((S[q].toNat:Int)==48)=true:=by rw [h48];rfl
      have he:S[q]=48:=UInt8.toNat_inj.1 h48
      have hz:Ya0 l q 1=0:=hd.2 (by rw [he])
      clear he
      have KK:=Lib.hid (hKO.out L (q+1) (by rw [hR.out,Ymp (by omega) hz,List.append_nil]))
      have LCZ:=LC.out _ hbk
      clear hKS hKO hR h1 hd hb hz h48 CN
      go_wp2_with fail
      obtain ⟨Z,hZ⟩:∃Z:Array Value,#[.int .i64 p0,.int .i64 p2,.int .i64 p3,.bool (p4==1),.int .i64 p6,.slice pa L.length cap,.slice none 0 0,.int .i64 0]=Z:=⟨_,rfl⟩
      have HSZ:(Tryz.prog.info? 30).map (·.size)=some Z.size:=hZ▸Yhq
      have HONE:Z.all (·.oneCell')=true:=hZ▸Ydv ⟨p0,p2,p3,p4==1,p6,L⟩ pa none L.length 0 cap 0 0
      have HYZ:Y.size=Z.size:=by rw [←HY.out,←hZ];rfl
      refine wp_region_held_drew (S:=Yvp bL oL p0 p2 p3 p4 p6) (by kernel_rfl) ⟨LCZ.c0,LCZ.c2,LCZ.c3,LCZ.c4,LCZ.c6⟩ (fun hH=> ?_)
      refine Yab 0 (some 125) (v:=.slice (some ⟨bL,oL,none⟩) 8 cl) rfl rfl (by kernel_rfl) (by kernel_rfl) (by kernel_rfl) (fun _ _ _ h=> h) hH (Or.inl ⟨by kernel_rfl,?_⟩) ?_
      ·(intro x _;go_simp;try with_reducible rfl)
      try simp only [Act.put,List.setIfInBounds_toArray,List.set_cons_zero,List.set_cons_succ]
      refine Yab 1 (some 126) (v:=.pointer (some ⟨bL,oL,none⟩)) rfl rfl (by kernel_rfl) (by kernel_rfl) (by kernel_rfl) (fun _ _ _ h=> h) hH (Or.inl ⟨by kernel_rfl,?_⟩) ?_
      ·(intro x _;go_simp;try with_reducible rfl)
      try simp only [Act.put,List.setIfInBounds_toArray,List.set_cons_zero,List.set_cons_succ]
      refine Yab 2 (some 127) (v:=.int .i64 p0) rfl rfl (by kernel_rfl) (by kernel_rfl) (by kernel_rfl) (fun _ _ _ h=> h) hH (Or.inl ⟨by kernel_rfl,?_⟩) ?_
      ·(intro x hx;have c0:=hx.c0;go_simp)
      try simp only [Act.put,List.setIfInBounds_toArray,List.set_cons_zero,List.set_cons_succ]
      refine Yab 3 (some 128) (v:=.slice (some ⟨bL,oL,none⟩) 8 cl) rfl rfl (by kernel_rfl) (by kernel_rfl) (by kernel_rfl) (fun _ _ _ h=> h) hH (Or.inl ⟨by kernel_rfl,?_⟩) ?_
      ·(intro x _;go_simp;try with_reducible rfl)
      try simp only [Act.put,List.setIfInBounds_toArray,List.set_cons_zero,List.set_cons_succ]
      refine Yab 4 (some 129) (v:=.pointer (some ⟨bL,oL+2,none⟩)) rfl rfl (by kernel_rfl) (by kernel_rfl) (by kernel_rfl) (fun _ _ _ h=> h) hH (Or.inl ⟨by kernel_rfl,?_⟩) ?_
      ·(intro x _;go_simp;try with_reducible rfl)
      try simp only [Act.put,List.setIfInBounds_toArray,List.set_cons_zero,List.set_cons_succ]
      refine Yab 5 (some 130) (v:=.int .i64 p2) rfl rfl (by kernel_rfl) (by kernel_rfl) (by kernel_rfl) (fun _ _ _ h=> h) hH (Or.inl ⟨by kernel_rfl,?_⟩) ?_
      ·(intro x hx;have c0:=hx.c2;go_simp)
      try simp only [Act.put,List.setIfInBounds_toArray,List.set_cons_zero,List.set_cons_succ]
      refine Yab 6 (some 131) (v:=.slice (some ⟨bL,oL,none⟩) 8 cl) rfl rfl (by kernel_rfl) (by kernel_rfl) (by kernel_rfl) (fun _ _ _ h=> h) hH (Or.inl ⟨by kernel_rfl,?_⟩) ?_
      ·(intro x _;go_simp;try with_reducible rfl)
      try simp only [Act.put,List.setIfInBounds_toArray,List.set_cons_zero,List.set_cons_succ]
      refine Yab 7 (some 132) (v:=.pointer (some ⟨bL,oL+3,none⟩)) rfl rfl (by kernel_rfl) (by kernel_rfl) (by kernel_rfl) (fun _ _ _ h=> h) hH (Or.inl ⟨by kernel_rfl,?_⟩) ?_
      ·(intro x _;go_simp;try with_reducible rfl)
      try simp only [Act.put,List.setIfInBounds_toArray,List.set_cons_zero,List.set_cons_succ]
      refine Yab 8 (some 133) (v:=.int .i64 p3) rfl rfl (by kernel_rfl) (by kernel_rfl) (by kernel_rfl) (fun _ _ _ h=> h) hH (Or.inl ⟨by kernel_rfl,?_⟩) ?_
      ·(intro x hx;have c0:=hx.c3;go_simp)
      try simp only [Act.put,List.setIfInBounds_toArray,List.set_cons_zero,List.set_cons_succ]
      refine Yab 9 (some 134) (v:=.slice (some ⟨bL,oL,none⟩) 8 cl) rfl rfl (by kernel_rfl) (by kernel_rfl) (by kernel_rfl) (fun _ _ _ h=> h) hH (Or.inl ⟨by kernel_rfl,?_⟩) ?_
      ·(intro x _;go_simp;try with_reducible rfl)
      try simp only [Act.put,List.setIfInBounds_toArray,List.set_cons_zero,List.set_cons_succ]
      refine Yab 10 (some 135) (v:=.pointer (some ⟨bL,oL+4,none⟩)) rfl rfl (by kernel_rfl) (by kernel_rfl) (by kernel_rfl) (fun _ _ _ h=> h) hH (Or.inl ⟨by kernel_rfl,?_⟩) ?_
      ·(intro x _;go_simp;try with_reducible rfl)
      try simp only [Act.put,List.setIfInBounds_toArray,List.set_cons_zero,List.set_cons_succ]
      refine Yab 11 (some 136) (v:=.int .i64 p4) rfl rfl (by kernel_rfl) (by kernel_rfl) (by kernel_rfl) (fun _ _ _ h=> h) hH (Or.inl ⟨by kernel_rfl,?_⟩) ?_
      ·(intro x hx;have c0:=hx.c4;go_simp)
      try simp only [Act.put,List.setIfInBounds_toArray,List.set_cons_zero,List.set_cons_succ]
      refine Yab 12 (some 137) (v:=.bool (p4==1)) rfl rfl (by kernel_rfl) (by kernel_rfl) (by kernel_rfl) (fun _ _ _ h=> h) hH (Or.inl ⟨by kernel_rfl,?_⟩) ?_
      ·(intro x _;go_simp;try with_reducible rfl)
      try simp only [Act.put,List.setIfInBounds_toArray,List.set_cons_zero,List.set_cons_succ]
      refine Yab 13 (some 138) (v:=.slice (some ⟨bL,oL,none⟩) 8 cl) rfl rfl (by kernel_rfl) (by kernel_rfl) (by kernel_rfl) (fun _ _ _ h=> h) hH (Or.inl ⟨by kernel_rfl,?_⟩) ?_
      ·(intro x _;go_simp;try with_reducible rfl)
      try simp only [Act.put,List.setIfInBounds_toArray,List.set_cons_zero,List.set_cons_succ]
      refine Yab 14 (some 139) (v:=.pointer (some ⟨bL,oL+6,none⟩)) rfl rfl (by kernel_rfl) (by kernel_rfl) (by kernel_rfl) (fun _ _ _ h=> h) hH (Or.inl ⟨by kernel_rfl,?_⟩) ?_
      ·(intro x _;go_simp;try with_reducible rfl)
      try simp only [Act.put,List.setIfInBounds_toArray,List.set_cons_zero,List.set_cons_succ]
      refine Yab 15 (some 140) (v:=.int .i64 p6) rfl rfl (by kernel_rfl) (by kernel_rfl) (by kernel_rfl) (fun _ _ _ h=> h) hH (Or.inl ⟨by kernel_rfl,?_⟩) ?_
      ·(intro x hx;have c0:=hx.c6;go_simp)
      try simp only [Act.put,List.setIfInBounds_toArray,List.set_cons_zero,List.set_cons_succ]
      refine Yab 16 (some 141) (v:=.slice pa L.length cap) rfl rfl (by kernel_rfl) (by kernel_rfl) (by kernel_rfl) (fun _ _ _ h=> h) hH (Or.inl ⟨by kernel_rfl,?_⟩) ?_
      ·(intro x _;go_simp;try with_reducible rfl)
      try simp only [Act.put,List.setIfInBounds_toArray,List.set_cons_zero,List.set_cons_succ]
      refine Yab 17 (some 142) (v:=.agg #[.int .i64 p0,.int .i64 p2,.int .i64 p3,.bool (p4==1),.int .i64 p6,.slice pa L.length cap,.slice none 0 0,.int .i64 0]) rfl rfl (by kernel_rfl) (by kernel_rfl) (by kernel_rfl) (fun _ _ _ h=> h) hH (Or.inl ⟨by kernel_rfl,?_⟩) ?_
      ·(intro x _;go_simp;try with_reducible rfl)
      try simp only [Act.put,List.setIfInBounds_toArray,List.set_cons_zero,List.set_cons_succ]
      refine Yab 18 (some 143) (v:=.int .i64 ((q:Int)+1)) rfl rfl (by kernel_rfl) (by kernel_rfl) (by kernel_rfl) (fun _ _ _ h=> h) hH (Or.inl ⟨by kernel_rfl,?_⟩) ?_
      ·(intro x _;go_simp;try with_reducible rfl)
      try simp only [Act.put,List.setIfInBounds_toArray,List.set_cons_zero,List.set_cons_succ]
      refine wpAnyH_ready (rs:=[19]) (by kernel_rfl) (by simp) ?_
      refine AllReadyH.cons rfl (fun K hK=> ?_) AllReadyH.nil
      refine (if_pos (by kernel_rfl)).mpr ?_
      have hQr:wr.drew.heap[A]? = some (.cells Y 30 (0,0)):=QZ.q.res
      refine wp_store_row 30 (.tmp 4) (.tmp 142) rfl A Z (by kernel_rfl) (by rw [←hZ];kernel_rfl) 30 Y hQr HSZ HYZ HONE ?_
      obtain ⟨w5,hw5⟩:∃w5,wr.drew.setRow A Z=w5:=⟨_,rfl⟩
      have hh5:w5.heap[A]? = some (.cells Z 30 (0,0)):=by rw [←hw5];exact setRow_heap _ _ _ _ _ _ hQr
      have hg5:wr.drew.grownBy w5 (some A):=by rw [←hw5];exact ⟨rfl,rfl,rfl,by simp,fun k _ hk=> setRow_other _ _ _ _ (by intro e;exact hk (by rw [e]))⟩
      rw [hw5]
      have hsp:=QZ.q.sep
      have hWA:=QZ.lt.1
      have hbl:bL<wr.heap.size:=by omega
      have hAb:A≠bL:=by omega
      have hS5:Yvp bL oL p0 p2 p3 p4 p6 w5:=LC.out _ ((hg5.block bL hbl (by simp;omega)).trans hbk)
      refine hK.out _ _ hS5 (fun hH2=> ?_)
      clear hK K hH hw5
      refine Yab 20 (some 5) (v:=.int .i64 ((q:Int)+1)) rfl rfl (by kernel_rfl) (by kernel_rfl) (by kernel_rfl) (fun _ _ _ h=> h) hH2 (Or.inl ⟨by kernel_rfl,?_⟩) ?_
      ·(intro x _;go_simp;try with_reducible rfl)
      try simp only [Act.put,List.setIfInBounds_toArray]
      refine Yab 21 (some 6) (v:=.int .i64 0) rfl rfl (by kernel_rfl) (by kernel_rfl) (by kernel_rfl) (fun _ _ _ h=> h) hH2 (Or.inl ⟨by kernel_rfl,?_⟩) ?_
      ·(intro x _;go_simp;try with_reducible rfl)
      try simp only [Act.put]
      refine wpAnyH_done (by kernel_rfl) ?_ _
      go_wp2
      refine bodyPost_ret (Yaf rfl _ _ A 30 _ (0,0) _ rfl hh5 Tryz.underlying30 rfl HSZ) rfl ?_
      have hu6:=hu.drew.kept hg5 (by cases hv:(Value.slice pa L.length cap).ownBlock with | none=> exact .inl rfl | some g=> exact .inr (by have:=Ybc hu g hv;show some g≠some A;intro e;injection e with e;omega))
      obtain ⟨pa3,cap3,hv3,hil3⟩:=Ygc rfl hu6
      injection hv3 with e1 e2 e3
      subst e1
      have hlow:=QZ.q.low
      refine ⟨pa,cap,?_,?_,⟨hg5.os.trans hlow.os,hg5.tape.trans hlow.tape,hg5.output.trans hlow.output,Nat.le_trans hlow.size hg5.size,fun k hk=> (hg5.block k (Nat.lt_of_lt_of_le hk hlow.size) (by simp;omega)).trans (hlow.block k hk)⟩,fun x hx=> ?_⟩
      rotate_right
      ·rcases hu.2 with ⟨e,_⟩ | ⟨g,cap',cur,e,hg0,_⟩
       ·injection e with e1;rw [hx] at e1;cases e1
       ·injection e with e1;rw [hx] at e1;injection e1 with e1;rw [e1];show w.heap.size≤g;omega
      ·rw [KK.out,HO.out,←hZ]
       rfl
      ·rw [KK.out,HO.out];exact hil3
     ·have c48:((S[q].toNat:Int)==48)=false:=by rw [beq_eq_false_iff_ne];omega
      have hz:Ya0 l q 1≠0:=fun h=> by
       have:=hd.1 h
       injection this with this
       exact h48 (by rw [this];rfl)
      by_cases hL:L.length=8
      ·have K:=Lib.hid (hKS.out 13 (by rw [hR.out,hL,Nat.sub_self,Yj4 (by omega) hz]) (by decide))
       have d3:((L.length:Int)==8)=true:=by rw [hL];rfl
       clear hKS hKO LC HO hR h1 hil hu hd hb hz h48 hL CN
       go_wp2_with (first | (with_reducible refine wpList_load_row rfl 30 _ rfl (A+1) rfl 30 Y (0,0) _ QZ.q.zs Tryz.underlying30 rfl HSY ?_) | (with_reducible refine Yae rfl 30 _ _ rfl A Y Y rfl rfl 30 QZ.q.res HSY rfl HOY ?_;intro w5 hh5 hg5))
       refine bodyPost_ret (Yaf rfl _ _ A 30 _ (0,0) _ rfl hh5 Tryz.underlying30 rfl HSY) rfl ?_
       exact Ych K.out HY.out rfl ((QZ.q.low).grown hg5 (by have:=(QZ.q.sep).1;have:=(QZ.q.sep).2;omega) (by intro k hk;injection hk with hk;have:=(QZ.q.sep).1;omega))
      ·have d3:((L.length:Int)==8)=false:=by rw [beq_eq_false_iff_ne];omega
       obtain ⟨k,hk⟩:∃k,8-L.length=k+1:=⟨7-L.length,by omega⟩
       have hRk:=hR.out
       rw [hk] at hRk
       by_cases h8:8*s.size<q+1+8
       ·have K:=Lib.hid (hKS.out 2 (by rw [hRk,Ymj (by omega) hz (by omega)]) (by decide))
        have d4:decide ((S.size:Int)-((q:Int)+1)<8)=true:=by have:=HSS.out;simp;omega
        clear hKS hKO LC HO hR h1 hil hu hd hb hz h48 hL hRk hk h8 CN
        go_wp2_with (first | (with_reducible refine wpList_load_row rfl 30 _ rfl (A+1) rfl 30 Y (0,0) _ QZ.q.zs Tryz.underlying30 rfl HSY ?_) | (with_reducible refine Yae rfl 30 _ _ rfl A Y Y rfl rfl 30 QZ.q.res HSY rfl HOY ?_;intro w5 hh5 hg5))
        refine bodyPost_ret (Yaf rfl _ _ A 30 _ (0,0) _ rfl hh5 Tryz.underlying30 rfl HSY) rfl ?_
        exact Ych K.out HY.out rfl ((QZ.q.low).grown hg5 (by have:=(QZ.q.sep).1;have:=(QZ.q.sep).2;omega) (by intro k hk;injection hk with hk;have:=(QZ.q.sep).1;omega))
       ·have d4:decide ((S.size:Int)-((q:Int)+1)<8)=false:=by have:=HSS.out;simp;omega
        have hc:=HCUT.out (q+1) 8
        have cc:=fun w=> CN.out (q+1) 8 w (by omega) (by omega)
        rw [Ykc hz (by omega)] at hRk
        generalize (⟨(((Yac l).drop (q+1)).take 8).toArray⟩:ByteArray)=C at hc cc
        generalize Ya0 l (q+1) 8=v at cc hRk
        have hTS:q+1+8≤S.size:=by have:=HSS.out;omega
        have HRN:Hid (Ybt l 8 (p+49)=((L ++ [(v:Int)])++(Ybt l (8-(L ++ [(v:Int)]).length) (q+9)).1,(Ybt l (8-(L ++ [(v:Int)]).length) (q+9)).2)):=Lib.hid (by
         rw [show 8-(L ++ [(v:Int)]).length=k by rw [List.length_append];show 8-(L.length+1)=k;omega,hRk]
         simp)
        clear hKS hKO LC HO hR h1 hil hd hb hz h48 hRk hk CN
        go_wp2_with fail
        refine (cc _).mono ?_
        rintro e u ⟨rfl,rfl⟩
        clear cc hc
        go_wp2_with (at_builtin;refine Ycc (v:=.slice pa L.length cap) (n:=L.length) (sl:=.tmp 156) (x:=.tmp 163) (K:=wr.heap.size) (c:=1) (y0:=(v:Int)) rfl rfl Tryz.underlying27 hi jz0 rfl jz1 jz2 ?d5 (hu.alloc _) ?d4 ?d1 ?d2 ?d3 ?_;(case d5=> kernel_rfl);(case d4=> kernel_rfl);(case d1=> go_cell);(case d2=> omega);(case d3=> (simp;omega));intro v2 w2 hu4 hg4;have Q4:=(QZ.grown (World.grownBy_alloc _ (.cells #[.int .i64 (v:Int)] 3 (0,0)) none) (fun g h=> by cases h)).grown hg4 (fun g hg=> by have:=Ybc (hu.alloc (.cells #[.int .i64 (v:Int)] 3 (0,0))) g hg;omega);have hbk4:=(hg4.block bL (by simp;omega) (by intro e;have:=Ybc (hu.alloc (.cells #[.int .i64 (v:Int)] 3 (0,0))) bL e.symm;omega)).trans (((World.grownBy_alloc wr _ none).block bL (by omega) (by simp)).trans hbk);have hx4:X2≤w2.heap.size:=Nat.le_trans hx2 (Nat.le_trans (by simp) hg4.size);obtain ⟨pa2,cap2,hv2,-⟩:=Ygc (l:=L ++ [(v:Int)]) (n:=L.length+1) (by simp) (by rw [Yde];exact hu4);subst hv2;clear hg4 hu)
        go_roundw
        case rel=> exact ⟨q+9,L ++ [(v:Int)],by go_num,by omega,by rw [List.length_append,Yde];exact hu4,Q4,hbk4,by rw [List.length_append];show L.length+1≤8;omega,HRN,hx4⟩
        case measure=> simp [Qbp];omega
end Go.Proofs.YtpgdngijmihafaaGreatDoor