/- Part 50 of StripsOnce. No condition. -/
import Derived.Test.YtjjmalchelniiaaGreatDoorStripsOnceMa
import Derived.Test.YtjjmalchelniiaaGreatDoorStripsOnceMj
import Derived.Test.YtjjmalchelniiaaGreatDoorStripsOnceMp
import Derived.Test.YtjjmalchelniiaaGreatDoorStripsOnceMba
namespace Go.Proofs.YtjjmalchelniiaaGreatDoor
open Go.RowKit Go.Lib
def eS (l:List UInt8)(p n:Nat):Int:=if Ycc l p≠0 then Ycc l p else upS l (p+22) n
theorem Yzg {l:List UInt8}{p n:Nat}:eS l p n=0↔Ycc l p=0∧upS l (p+22) n=0:=by
 unfold eS;by_cases h:Ycc l p=0
 ·rw[if_neg (fun k=>k h)];exact⟨fun k=>⟨h,k⟩,fun k=>k.2⟩
 ·rw[if_pos h];exact⟨fun k=>absurd k h,fun k=>absurd k.1 h⟩
theorem Y1i (l:List UInt8)(p:Nat):Ycc l p=eS l p 0:=by
 unfold eS
 split
 ·rfl
 ·show _=(0:Int);omega
theorem Y8h {l:List UInt8}{p n:Nat}(h:eS l p n=0):eS l p (n+1)=Y9x l (p+22) n:=by
 obtain⟨h1,h2⟩:=Yzg.1 h;unfold eS;rw[if_neg (fun k=>k h1),Yuu h2]
theorem Qhl {l:List UInt8}{p n:Nat}(h:eS l p n≠0):eS l p (n+1)=eS l p n:=by
 unfold eS at *
 split
 ·rfl
 ·rename_i h1
  rw[if_neg h1] at h;exact Y2z h
structure Yym (l:List UInt8) (p n:Nat) (e V E:Int) (Q:Nat):Prop where
 ok:E=0→e=0∧V=((Yhi l (p+22) n:Nat):Int)∧Q=p+22+Yh4 (n+1)∧eS l p (n+1)=Yl9 n (Yhi l (p+22) n)
 bad:E≠0→E=eS l p (n+1)
theorem Yez {l:List UInt8}{p n q:Nat}{e:Int}(he:eS l p n=e)(hq:e=0→q=p+22+Yh4 n)(d:Int)(hd:d=((Yqc n:Nat):Int))(hn:Yqc n≤32):
  Yym l p n e (Ygn l e q d) (Ygl l e q d) (Ygm l e q d):=by
 unfold Ygn Ygl Ygm;by_cases h0:e=0
 ·rw[if_pos h0,if_pos h0,if_pos h0];have hq:=hq h0;subst hd hq;by_cases hs:8*l.length<p+22+Yh4 n+Yqc n
  ·rw[show Yc1 l (p+22+Yh4 n) ((Yqc n:Nat):Int)=p+22+Yh4 n by unfold Yc1;rw[Ybo (by omega) (by omega)];rfl,Ybo (by omega) (by omega)];exact⟨fun h=>absurd h (by decide),fun _=>by rw[Y8h (he.trans h0),Yo8 hs]⟩
  ·rw[show Yc1 l (p+22+Yh4 n) ((Yqc n:Nat):Int)=p+22+Yh4 n+Yqc n by unfold Yc1;rw[Yc8 (by omega) (by omega)];rfl,Yc8 (by omega) (by omega)];exact⟨fun _=>⟨h0,rfl,by show _=p+22+(Yh4 n+Yqc n);omega,by rw[Y8h (he.trans h0),Yt3 (by omega)]⟩,fun h=>absurd rfl h⟩
 ·rw[if_neg h0,if_neg h0,if_neg h0];exact⟨fun h=>absurd h h0,fun _=>by rw[Qhl (by rw[he];exact h0),he]⟩
theorem Yym.test {l:List UInt8}{p n:Nat}{e V E:Int}{Q:Nat}(h:Yym l p n e V E Q)(holds:Bool)(fault:Int)
  (hh:V=((Yhi l (p+22) n:Nat):Int)→Yl9 n (Yhi l (p+22) n)=if holds=true then 0 else fault):Ym3 E holds fault=eS l p (n+1):=by
 unfold Ym3;by_cases h0:E=0
 ·obtain⟨-,h1,-,h2⟩:=h.ok h0;rw[h2,hh h1];cases holds with
  |true=>rw[if_neg (by simp),if_pos rfl,h0]
  |false=>rw[if_pos ⟨h0,rfl⟩,if_neg (by decide)]
 ·rw[if_neg (by omega)];exact h.bad h0
theorem Yym.free {l:List UInt8}{p n:Nat}{e V E:Int}{Q:Nat}(h:Yym l p n e V E Q)(hb:Yl9 n (Yhi l (p+22) n)=0):E=eS l p (n+1):=by
 by_cases h0:E=0
 ·obtain⟨-,-,-,h2⟩:=h.ok h0;rw[h2,hb,h0]
 ·exact h.bad h0
theorem Yym.done {l:List UInt8}{p n:Nat}{e V E:Int}{Q:Nat}(h:Yym l p n e V E Q)(h0:eS l p (n+1)=0):e=0∧V=((Yhi l (p+22) n:Nat):Int)∧Q=p+22+Yh4 (n+1):=by
 have h1:E=0:=by
  by_cases h1:E=0
  ·exact h1
  ·exact absurd ((h.bad h1).trans h0) h1
 exact⟨(h.ok h1).1,(h.ok h1).2.1,(h.ok h1).2.2.1⟩
theorem Ys4 {n v:Nat}(h:n=0∨n=2∨n=4):Yl9 n v=0:=by
 unfold Yl9;rw[if_neg (by omega),if_neg (by omega),if_neg (by omega)]
theorem Qcr (v:Nat)(V:Int)(h:V=(v:Int)):Yl9 1 v=if (V==2)=true then 0 else 5:=by
 subst h;unfold Yl9;by_cases hv:v=2
 ·rw[if_neg (by omega),if_neg (by omega),if_neg (by omega),if_pos (by rw[hv];rfl)]
 ·rw[if_pos (by omega),if_neg (by simp;omega)]
theorem Y3d (v:Nat)(V:Int)(h:V=(v:Int)):Yl9 3 v=if Ygx V=true then 0 else 5:=by
 subst h;unfold Yl9;cases hv:Ygx (v:Int) with
 |false=>rw[if_pos (by simp),if_neg (by decide)]
 |true=>rw[if_neg (by simp),if_neg (by omega),if_neg (by omega),if_pos rfl]
theorem Y06 {n:Nat}(hn:n=5∨n=7)(v:Nat)(V:Int)(h:V=(v:Int)):Yl9 n v=if (V==0)=true then 0 else 6:=by
 subst h;unfold Yl9;by_cases hv:v=0
 ·rw[if_neg (by omega),if_neg (by omega),if_neg (by omega),if_pos (by rw[hv];rfl)]
 ·rw[if_neg (by omega),if_pos (by omega),if_neg (by simp;omega)]
theorem Y67 (v:Nat)(V:Int)(h:V=(v:Int)):Yl9 6 v=if decide (1≤V)=true then 0 else 9:=by
 subst h;unfold Yl9;by_cases hv:v=0
 ·rw[if_neg (by omega),if_neg (by omega),if_pos ⟨rfl,hv⟩,if_neg (by simp;omega)]
 ·rw[if_neg (by omega),if_neg (by omega),if_neg (by omega),if_pos (by simp;omega)]
def Yst (l:List UInt8)(p:Nat)(e:Int)(q:Nat)(L:List Int):Prop:=
 (e≠0∧(shk l p).2.2=e)∨(e=0∧L.length≤8∧eS l p 8=0∧Ycy l 8 (p+49)=(L++(Ycy l (8-L.length) q).1,(Ycy l (8-L.length) q).2))
def Qj1 (l:List UInt8)(p:Nat)(e:Int)(q:Nat)(L:List Int):Prop:=
 (shk l p).2.2=e∧(e=0→eS l p 8=0∧shk l p=(Yt8 l (p+22) L,q,0))
theorem Yst.start {l:List UInt8}{p q:Nat}{e:Int}(he:eS l p 8=e)(hq:e=0→q=p+49):Yst l p e q []:=by
 by_cases h0:e=0
 ·right
  rw[hq h0];exact⟨h0,Nat.zero_le _,he.trans h0,rfl⟩
 ·left
  refine⟨h0,?_⟩;unfold eS at he;by_cases hm:Ycc l p=0
  ·rw[if_neg (fun k=>k hm)] at he;rw[Yua hm (by rw[he];exact h0),he]
  ·rw[if_pos hm] at he;rw[Ynh hm,he]
theorem Ytr {l:List UInt8}{p:Nat}(h8:eS l p 8=0){f:Int}(hf:(Ycy l 8 (p+49)).2.2=f)(h0:f≠0):(shk l p).2.2=f:=by
 obtain⟨h1,h2⟩:=Yzg.1 h8;rw[Yub h1 h2 (by rw[hf];exact h0),hf]
theorem Yst.bit {l:List UInt8}{p q:Nat}{e:Int}{L:List Int}(h:Yst l p e q L):
  (Ygn l e q 1≠1→Qj1 l p (Ygl l e q 1) (Ygm l e q 1) L)∧(Ygn l e q 1=1→e=0∧Ygl l e q 1=0∧Ygm l e q 1=q+1∧q+1≤8*l.length∧Ya3 l q 1≠0):=by
 unfold Ygn Ygl Ygm;rcases h with ⟨h0,hf⟩|⟨h0,hL,h8,hs⟩
 ·rw[if_neg h0,if_neg h0,if_neg h0];exact⟨fun _=>⟨hf,fun k=>absurd k h0⟩,fun k=>absurd k (by decide)⟩
 ·rw[if_pos h0,if_pos h0,if_pos h0];by_cases hsh:8*l.length<q+1
  ·rw[show Yc1 l q 1=q by unfold Yc1;rw[Ybo (by omega) (by omega)];rfl,Ybo (by omega) (by omega)];refine⟨fun _=>⟨?_,fun k=>absurd k (by decide)⟩,fun k=>absurd k (by decide)⟩;rw[Ysf hsh] at hs;exact Ytr h8 (by rw[hs]) (by decide)
  ·have ht:Yc1 l q 1=q+1:=by unfold Yc1;rw[Yc8 (by omega) (by omega)];rfl
   have hk:ask l q 1=(((Ya3 l q 1:Nat):Int),0):=Yc8 (by omega) (by omega);rw[ht,hk];have hlt:=Ycg l q 1;by_cases h1:Ya3 l q 1=0
   ·refine⟨fun _=>?_,fun k=>absurd k (by simp only[h1];decide)⟩;rw[Ypy (by omega) h1] at hs;obtain⟨k1,k2⟩:=Yzg.1 h8;have e:shk l p=(Yt8 l (p+22) (Ycy l 8 (p+49)).1,(Ycy l 8 (p+49)).2.1,0):=Y2i k1 k2 (by rw[hs]);rw[hs,List.append_nil] at e;exact⟨by rw[e],fun _=>⟨h8,e⟩⟩
   ·refine⟨fun k=>absurd ?_ k,fun _=>⟨h0,rfl,rfl,by omega,h1⟩⟩;show ((Ya3 l q 1:Nat):Int)=1;omega
theorem Yst.byte {l:List UInt8}{p q:Nat}{L:List Int}(h:Yst l p 0 q L)(hin:q+1≤8*l.length)(h1:Ya3 l q 1≠0):
  L.length≤8∧Yst l p (Ygl l (Ym3 0 (decide ((L.length:Int)<8)) 13) (q+1) 8) (Ygm l (Ym3 0 (decide ((L.length:Int)<8)) 13) (q+1) 8) (L++[Ygn l (Ym3 0 (decide ((L.length:Int)<8)) 13) (q+1) 8]):=by
 rcases h with ⟨h0,_⟩|⟨_,hL,h8,hs⟩
 ·exact absurd rfl h0
 refine⟨hL,?_⟩;by_cases hlen:L.length=8
 ·have hT:Ym3 0 (decide ((L.length:Int)<8)) 13=13:=by unfold Ym3;rw[if_pos ⟨rfl,decide_eq_false (by omega)⟩]
  rw[hT];unfold Ygn Ygl Ygm;rw[if_neg (by decide),if_neg (by decide),if_neg (by decide)]
  left
  refine⟨by decide,?_⟩;rw[hlen,Nat.sub_self,Yse hin h1] at hs;exact Ytr h8 (by rw[hs]) (by decide)
 ·have hT:Ym3 0 (decide ((L.length:Int)<8)) 13=0:=by unfold Ym3;rw[if_neg (fun k=>by have:=k.2;rw[decide_eq_true (by omega)] at this;cases this)]
  rw[hT];unfold Ygn Ygl Ygm;rw[if_pos rfl,if_pos rfl,if_pos rfl];obtain⟨k,hk⟩:∃k,8-L.length=k+1:=⟨7-L.length,by omega⟩;rw[hk] at hs;by_cases hsh:8*l.length<q+1+8
  ·rw[show Yc1 l (q+1) 8=q+1 by unfold Yc1;rw[Ybo (by omega) (by omega)];rfl,Ybo (by omega) (by omega)]
   left
   refine⟨by decide,?_⟩;rw[Yxu hin h1 hsh] at hs;exact Ytr h8 (by rw[hs]) (by decide)
  ·rw[show Yc1 l (q+1) 8=q+9 by unfold Yc1;rw[Yc8 (by omega) (by omega)];rfl,Yc8 (by omega) (by omega)]
   right
   rw[Yl2 h1 (by omega)] at hs;refine⟨rfl,by rw[List.length_append];show L.length+1≤8;omega,h8,?_⟩;have hk2:8-(L++[(((Ya3 l (q+1) (Int.toNat 8):Nat):Int),(0:Int)).1]).length=k:=by rw[List.length_append];show 8-(L.length+1)=k;omega
   rw[hk2,hs];simp
structure PwS (w0:World) (A X S b:Nat) (s:ByteArray) (w:World) (e:Int) (q:Nat) (Z:List Value):Prop where
 cap:Cap w X A b s e q
 sh:w.heap[S]? =some (.cells Z.toArray 39 (0,0))
 res:w.heap[A+1]? =some (.cells (Ya5 Yt9 (.slice none 0 0) (.slice none 0 0) 0).toArray 39 (0,0))
 low:w0.grownBy w (some b)
 sep:w0.heap.size=A∧b<A∧A+1<X∧X<S∧S<w.heap.size
theorem PwS.move {w0 w w':World}{A X S b:Nat}{s:ByteArray}{e e':Int}{q q':Nat}{Z:List Value}(h:PwS w0 A X S b s w e q Z)(hc:Cap w' X A b s e' q')(hm:Ybn X b w w'):PwS w0 A X S b s w' e' q' Z:=by
 obtain⟨s1,s2,s3,s4,s5⟩:=h.sep;exact⟨hc,(hm.block S s5 (by omega) (by omega)).trans h.sh,(hm.block (A+1) (by omega) (by omega) (by omega)).trans h.res,
  ⟨hm.os.trans h.low.os,hm.tape.trans h.low.tape,hm.output.trans h.low.output,Nat.le_trans h.low.size hm.size,fun k hk hb=>(hm.block k (Nat.lt_of_lt_of_le hk h.low.size) (by omega) (by simpa using hb)).trans (h.low.block k hk hb)⟩,
  s1,s2,s3,s4,Nat.lt_of_lt_of_le s5 hm.size⟩
theorem PwS.set {w0 w:World}{A X S b:Nat}{s:ByteArray}{e:Int}{q:Nat}{Z:List Value}(h:PwS w0 A X S b s w e q Z)(i:Nat)(v:Value):PwS w0 A X S b s (w.setCell ⟨S,i,none⟩ v) e q (Z.set i v):=by
 obtain⟨s1,s2,s3,s4,s5⟩:=h.sep;have hg:=Yap w ⟨S,i,none⟩ v;exact⟨h.cap.set _ _ ⟨show S≠X by omega,show S≠A by omega,show S≠b by omega⟩,Yau v h.sh,(hg.block (A+1) (by omega) (by show some (A+1)≠some S;intro e;injection e with e;omega)).trans h.res,
  ⟨h.low.os,h.low.tape,h.low.output,Nat.le_trans h.low.size hg.size,fun k hk hb=>(hg.block k (Nat.lt_of_lt_of_le hk h.low.size) (by show some k≠some S;intro e;injection e with e;omega)).trans (h.low.block k hk hb)⟩,
  s1,s2,s3,s4,Nat.lt_of_lt_of_le s5 hg.size⟩
theorem PwS.grown {w0 w w':World}{A X S b:Nat}{s:ByteArray}{e:Int}{q:Nat}{Z:List Value}{row:Option Nat}(h:PwS w0 A X S b s w e q Z)(hg:w.grownBy w' row)(hr:∀g,row=some g→S<g):PwS w0 A X S b s w' e q Z:=by
 obtain⟨s1,s2,s3,s4,s5⟩:=h.sep;have hk:∀k,k≤S→w'.heap[k]? =w.heap[k]?:=fun k hk=>hg.block k (by omega) (fun e=>by have:=hr k e.symm;omega);exact⟨⟨(hk X (by omega)).trans h.cap.wrong,(hk A (by omega)).trans h.cap.box,⟨(hk b (by omega)).trans h.cap.rd.1,h.cap.rd.2⟩,h.cap.apart⟩,(hk S (by omega)).trans h.sh,(hk (A+1) (by omega)).trans h.res,
  ⟨hg.os.trans h.low.os,hg.tape.trans h.low.tape,hg.output.trans h.low.output,Nat.le_trans h.low.size hg.size,fun k hk' hb=>(hk k (by omega)).trans (h.low.block k hk' hb)⟩,
  s1,s2,s3,s4,Nat.lt_of_lt_of_le s5 hg.size⟩
theorem PwS.drew {w0 w:World}{A X S b:Nat}{s:ByteArray}{e:Int}{q:Nat}{Z:List Value}(h:PwS w0 A X S b s w e q Z):PwS w0 A X S b s w.drew e q Z:=h.grown (Yb9 w none) (fun g h=>by cases h)
theorem PwS.at {w0 w:World}{A X S b:Nat}{s:ByteArray}{e:Int}{q:Nat}{Z:List Value}(h:PwS w0 A X S b s w e q Z){i:Nat}{v:Value}(hv:Z[i]? =some v):w.cell? ⟨S,i,none⟩=some v:=Yab h.sh hv
theorem PwS.free {w0 w:World}{A X S b:Nat}{s:ByteArray}{e:Int}{q:Nat}{Z:List Value}(h:PwS w0 A X S b s w e q Z)(i:Nat):w.frozen? ⟨S,i,none⟩=false:=Yai h.sh
theorem Ylr {w w':World}{base e size n a b:Nat}{v:Value}{xs:List Value}(h:w.ownsRow base e size v n xs)(hm:Ybn a b w w')(ha:a<base)(hb:b<base):w'.ownsRow base e size v n xs:=by
 refine⟨h.1,?_⟩;rcases h.2 with hn|⟨g,cap,cur,rfl,hbg,hgg,rest⟩
 ·exact .inl hn
 ·refine .inr ⟨g,cap,cur,rfl,hbg,?_,rest⟩;rw[hm.block g (Array.getElem?_eq_some_iff.1 hgg).1 (by omega) (by omega)];exact hgg
def Qi6 (l:List UInt8)(s:ByteArray)(p b:Nat)(w:World)(e:Ending)(w':World):Prop:=
 ∃(h:Shd) (a:Option Addr) (cap q:Nat),e=.returned (.tuple #[.agg (Ya5 h (.slice a h.supp.length cap) (.slice none 0 0) 0).toArray,.int .i64 (shk l p).2.2])∧
  ((shk l p).2.2=0→shk l p=(h,q,0))∧Ydw w' a h.supp∧(∀x,a=some x→w.heap.size≤x.block)∧Yba w' b s q∧w.grownBy w' (some b)
set_option maxRecDepth 100000 in
set_option maxHeartbeats 8000000 in
theorem Y0h (w:World)(b:Nat)(s:ByteArray)(p:Nat)(hr:Yba w b s p)(hs:s.size≤1099511627776):
  Calls Tryz.prog 156 #[.pointer (some ⟨b,0,none⟩)] w (Qi6 s.data.toList s p b w):=by
 have hmf:∀(fn:Fn) (first cap:Array Value) (w:World),(Instr.makeFunc fn first cap).run Tryz.prog w=.ok (.func fn first cap) w:=fun _ _ _ _=>rfl;have c:=fun w hr=>Y5u w b s p hr hs;have hbA:b<w.heap.size:=hr.lt;obtain⟨A,hA⟩:∃A,w.heap.size=A:=⟨_,rfl⟩;obtain⟨l,hl⟩:∃l,s.data.toList=l:=⟨_,rfl⟩;have hq0:eS l p 0=0→Yr5 l p=p+22+Yh4 0:=fun h=>by unfold Yr5;rw[if_pos ((Y1i l p).trans h)];rfl
 rw[hl] at c ⊢;rw[Y1i] at c;obtain⟨e0,he0⟩:∃e,eS l p 0=e:=⟨_,rfl⟩;obtain⟨q0,hqq⟩:∃q,Yr5 l p=q:=⟨_,rfl⟩;rw[he0,hqq] at c hq0;have E0:=Lib.hid he0;have Q0:=Lib.hid hq0;have HL:=Lib.hid hl;clear he0 hq0 hqq;obtain⟨wA,hwA⟩:∃wA,(w.alloc (.cells #[.pointer (some ⟨b,0,none⟩)] 54 (0,0))).alloc (.cells (Ya5 Yt9 (.slice none 0 0) (.slice none 0 0) 0).toArray 39 (0,0))=wA:=⟨_,rfl⟩
 have hbA0:Below A w wA:=by rw[←hwA,←hA];exact((Below.refl _ w).alloc (Nat.le_refl _) _).alloc (by simp) _
 have hzA:wA.heap.size=A+2:=by rw[←hwA,←hA];simp
 have hA0:wA.heap[A]? =some (.cells [.pointer (some ⟨b,0,none⟩)].toArray 54 (0,0)):=by rw[←hwA,←hA];exact Ybc (heap_alloc_new w _)
 have hA1:wA.heap[A+1]? =some (.cells (Ya5 Yt9 (.slice none 0 0) (.slice none 0 0) 0).toArray 39 (0,0)):=by
  rw[←hwA,←hA];have:=heap_alloc_new (w.alloc (.cells #[.pointer (some ⟨b,0,none⟩)] 54 (0,0))) (.cells (Ya5 Yt9 (.slice none 0 0) (.slice none 0 0) 0).toArray 39 (0,0))
  simpa using this
 have hrA:Yba wA b s p:=hr.below (hA▸hbA0);unfold Ya5 Yt9 at hwA;have HWA:=Lib.hid hwA;have HA:=Lib.hid hA;clear hwA hl hr;rw[hA] at hbA
 go_enter Tryz.func156,Tryz.ntmps156
 go_wp2_with fail
 rw[HWA.out];refine(c _ hrA).mono ?_;rintro e w1 ⟨rfl,hr1,hg1⟩;have h10:=(hg1.block A (by omega) (by intro e;injection e with e;omega)).trans hA0;have h11:=(hg1.block (A+1) (by omega) (by intro e;injection e with e;omega)).trans hA1;obtain⟨X,hX⟩:∃X,w1.heap.size=X:=⟨_,rfl⟩;have hXA:A+1<X:=by have:=hg1.size;omega
 obtain⟨y0,hy0⟩:∃y,(w1.alloc (.cells #[.int .i64 e0] 27 (0,0))).alloc (.cells (Ya5 Yt9 (.slice none 0 0) (.slice none 0 0) 0).toArray 39 (0,0))=y:=⟨_,rfl⟩;have hby:Below X w1 y0:=by rw[←hy0,←hX];exact((Below.refl _ w1).alloc (Nat.le_refl _) _).alloc (by simp) _
 have P0:PwS w A X (X+1) b s y0 e0 q0 (Ya5 Yt9 (.slice none 0 0) (.slice none 0 0) 0):=by
  refine⟨⟨by rw[←hy0,←hX];exact Ybc (heap_alloc_new w1 _),(hby.block A (by omega)).trans h10,⟨(hby.block b (by omega)).trans hr1.1,hr1.2⟩,by omega,by omega,by omega⟩,?_,(hby.block (A+1) (by omega)).trans h11,?_,HA.out,hbA,hXA,by omega,by rw[←hy0];simp;omega⟩
  ·rw[←hy0,←hX];have:=heap_alloc_new (w1.alloc (.cells #[.int .i64 e0] 27 (0,0))) (.cells (Ya5 Yt9 (.slice none 0 0) (.slice none 0 0) 0).toArray 39 (0,0))
   simpa using this
  ·exact Yac (Yac (Yak (HA.out▸hbA0) _) hg1) (Yak (hX▸hby) _)
 unfold Ya5 Yt9 at hy0;have HX:=Lib.hid hX;have HY0:=Lib.hid hy0;clear hy0 hby h10 h11 hr1 hg1 hA0 hA1 hbA0 hzA hrA c HWA hX
 go_wp2_with fail
 rw[HX.out,HY0.out];refine(Ydt _ X A b s e0 q0 8 P0.cap).mono ?_;rintro r0 z0 ⟨rfl,hc,hm⟩;rw[HL.out] at hc ⊢;have F0:=Yez E0.out Q0.out 8 rfl (by decide);generalize Ygn l e0 q0 8=v0 at *;generalize Ygl l e0 q0 8=f0 at *;generalize Ygm l e0 q0 8=q1 at *;have P0t:=P0.move hc hm;clear hc hm P0;have k0:=P0t.at (i:=0) rfl;have k1:=P0t.free 0;have P0s:=P0t.set 0 (.int .i64 v0)
 obtain⟨e1,he⟩:∃e,eS l p 1=e:=⟨_,rfl⟩;have hfree:=(F0.free (Ys4 (by omega))).symm;rw[he] at hfree;subst hfree;have E1:=Lib.hid he;have D0:=Lib.hid fun h=>F0.done (he.trans h);have Q1:=Lib.hid fun h=>(D0.out h).2.2;have P1:=P0s;clear he;clear F0 E0 Q0 P0t P0s
 go_wp2_with fail
 try clear k0 k1
 refine(Ydt _ X A b s e1 q1 2 P1.cap).mono ?_;rintro r1 z1 ⟨rfl,hc,hm⟩;rw[HL.out] at hc ⊢;have F1:=Yez E1.out Q1.out 2 rfl (by decide);generalize Ygn l e1 q1 2=v1 at *;generalize Ygl l e1 q1 2=f1 at *;generalize Ygm l e1 q1 2=q2 at *;have P1t:=P1.move hc hm;clear hc hm P1
 go_wp2_with fail
 try clear k0 k1
 refine(Ygj _ X A b s f1 q2 (v1==2) 5 P1t.cap).mono ?_;rintro r1 u1 ⟨rfl,hc,hm⟩;rw[F1.test (v1==2) 5 (Qcr _ _)] at hc;obtain⟨e2,he⟩:∃e,eS l p 2=e:=⟨_,rfl⟩;rw[he] at hc;have E2:=Lib.hid he;have D1:=Lib.hid fun h=>F1.done (he.trans h);have Q2:=Lib.hid fun h=>(D1.out h).2.2;have P2:=P1t.move hc hm;clear he hc hm P1t F1 E1 Q1
 go_wp2_with fail
 try clear k0 k1
 refine(Ydt _ X A b s e2 q2 3 P2.cap).mono ?_;rintro r2 z2 ⟨rfl,hc,hm⟩;rw[HL.out] at hc ⊢;have F2:=Yez E2.out Q2.out 3 rfl (by decide);generalize Ygn l e2 q2 3=v2 at *;generalize Ygl l e2 q2 3=f2 at *;generalize Ygm l e2 q2 3=q3 at *;have P2t:=P2.move hc hm;clear hc hm P2;have k0:=P2t.at (i:=1) rfl;have k1:=P2t.free 1;have P2s:=P2t.set 1 (.int .i64 v2);obtain⟨e3,he⟩:∃e,eS l p 3=e:=⟨_,rfl⟩
 have hfree:=(F2.free (Ys4 (by omega))).symm;rw[he] at hfree;subst hfree;have E3:=Lib.hid he;have D2:=Lib.hid fun h=>F2.done (he.trans h);have Q3:=Lib.hid fun h=>(D2.out h).2.2;have P3:=P2s;clear he;clear F2 E2 Q2 P2t P2s
 go_wp2_with fail
 try clear k0 k1
 refine(Ydt _ X A b s e3 q3 3 P3.cap).mono ?_;rintro r3 z3 ⟨rfl,hc,hm⟩;rw[HL.out] at hc ⊢;have F3:=Yez E3.out Q3.out 3 rfl (by decide);generalize Ygn l e3 q3 3=v3 at *;generalize Ygl l e3 q3 3=f3 at *;generalize Ygm l e3 q3 3=q4 at *;have P3t:=P3.move hc hm;clear hc hm P3;have k0:=P3t.at (i:=2) rfl;have k1:=P3t.free 2;have P3s:=P3t.set 2 (.int .i64 v3)
 go_wp2_with fail
 try clear k0 k1
 refine(Ymj v3 _).mono ?_;rintro r u ⟨rfl,rfl⟩
 go_wp2_with fail
 refine(Ygj _ X A b s f3 q4 (Ygx v3) 5 P3s.cap).mono ?_;rintro r3 u3 ⟨rfl,hc,hm⟩;rw[F3.test (Ygx v3) 5 (Y3d _ _)] at hc;obtain⟨e4,he⟩:∃e,eS l p 4=e:=⟨_,rfl⟩;rw[he] at hc;have E4:=Lib.hid he;have D3:=Lib.hid fun h=>F3.done (he.trans h);have Q4:=Lib.hid fun h=>(D3.out h).2.2;have P4:=P3s.move hc hm;clear he hc hm P3s P3t F3 E3 Q3
 go_wp2_with fail
 try clear k0 k1
 refine(Ydt _ X A b s e4 q4 1 P4.cap).mono ?_;rintro r4 z4 ⟨rfl,hc,hm⟩;rw[HL.out] at hc ⊢;have F4:=Yez E4.out Q4.out 1 rfl (by decide);generalize Ygn l e4 q4 1=v4 at *;generalize Ygl l e4 q4 1=f4 at *;generalize Ygm l e4 q4 1=q5 at *;have P4t:=P4.move hc hm;clear hc hm P4;have k0:=P4t.at (i:=3) rfl;have k1:=P4t.free 3;have P4s:=P4t.set 3 (.bool (v4==1))
 go_wp2_with fail
 refine(Yml true _).mono ?_;rintro r u ⟨rfl,rfl⟩;rw[if_pos rfl];obtain⟨e5,he⟩:∃e,eS l p 5=e:=⟨_,rfl⟩;have hfree:=(F4.free (Ys4 (by omega))).symm;rw[he] at hfree;subst hfree;have E5:=Lib.hid he;have D4:=Lib.hid fun h=>F4.done (he.trans h);have Q5:=Lib.hid fun h=>(D4.out h).2.2;have P5:=P4s;clear he;clear F4 E4 Q4 P4t P4s
 go_wp2_with fail
 try clear k0 k1
 refine(Ydt _ X A b s e5 q5 4 P5.cap).mono ?_;rintro r5 z5 ⟨rfl,hc,hm⟩;rw[HL.out] at hc ⊢;have F5:=Yez E5.out Q5.out 4 rfl (by decide);generalize Ygn l e5 q5 4=v5 at *;generalize Ygl l e5 q5 4=f5 at *;generalize Ygm l e5 q5 4=q6 at *;have P5t:=P5.move hc hm;clear hc hm P5
 go_wp2_with fail
 try clear k0 k1
 refine(Ygj _ X A b s f5 q6 (v5==0) 6 P5t.cap).mono ?_;rintro r5 u5 ⟨rfl,hc,hm⟩;rw[F5.test (v5==0) 6 (Y06 (.inl rfl) _ _)] at hc;obtain⟨e6,he⟩:∃e,eS l p 6=e:=⟨_,rfl⟩;rw[he] at hc;have E6:=Lib.hid he;have D5:=Lib.hid fun h=>F5.done (he.trans h);have Q6:=Lib.hid fun h=>(D5.out h).2.2;have P6:=P5t.move hc hm;clear he hc hm P5t F5 E5 Q5
 go_wp2_with fail
 try clear k0 k1
 refine(Ydt _ X A b s e6 q6 5 P6.cap).mono ?_;rintro r6 z6 ⟨rfl,hc,hm⟩;rw[HL.out] at hc ⊢;have F6:=Yez E6.out Q6.out 5 rfl (by decide);generalize Ygn l e6 q6 5=v6 at *;generalize Ygl l e6 q6 5=f6 at *;generalize Ygm l e6 q6 5=q7 at *;have P6t:=P6.move hc hm;clear hc hm P6;have k0:=P6t.at (i:=4) rfl;have k1:=P6t.free 4;have P6s:=P6t.set 4 (.int .i64 v6)
 go_wp2_with fail
 try clear k0 k1
 refine(Ygj _ X A b s f6 q7 (decide (1≤v6)) 9 P6s.cap).mono ?_;rintro r6 u6 ⟨rfl,hc,hm⟩;rw[F6.test (decide (1≤v6)) 9 (Y67 _ _)] at hc;obtain⟨e7,he⟩:∃e,eS l p 7=e:=⟨_,rfl⟩;rw[he] at hc;have E7:=Lib.hid he;have D6:=Lib.hid fun h=>F6.done (he.trans h);have Q7:=Lib.hid fun h=>(D6.out h).2.2;have P7:=P6s.move hc hm;clear he hc hm P6s P6t F6 E6 Q6
 go_wp2_with fail
 try clear k0 k1
 refine(Ydt _ X A b s e7 q7 1 P7.cap).mono ?_;rintro r7 z7 ⟨rfl,hc,hm⟩;rw[HL.out] at hc ⊢;have F7:=Yez E7.out Q7.out 1 rfl (by decide);generalize Ygn l e7 q7 1=v7 at *;generalize Ygl l e7 q7 1=f7 at *;generalize Ygm l e7 q7 1=q8 at *;have P7t:=P7.move hc hm;clear hc hm P7
 go_wp2_with fail
 try clear k0 k1
 refine(Ygj _ X A b s f7 q8 (v7==0) 6 P7t.cap).mono ?_;rintro r7 u7 ⟨rfl,hc,hm⟩;rw[F7.test (v7==0) 6 (Y06 (.inr rfl) _ _)] at hc;obtain⟨e8,he⟩:∃e,eS l p 8=e:=⟨_,rfl⟩;rw[he] at hc;have E8:=Lib.hid he;have D7:=Lib.hid fun h=>F7.done (he.trans h);have Q8:=Lib.hid fun h=>(D7.out h).2.2;have P8:=P7t.move hc hm;clear he hc hm P7t F7 E7 Q7;obtain⟨b4,hb4⟩:∃b,(v4==1)=b:=⟨_,rfl⟩;rw[hb4] at P8
 have P9:PwS w A X (X+1) b s u7 e8 q8 (Ya5 ⟨v0,v2,v3,b4,v6,[]⟩ (.slice none 0 0) (.slice none 0 0) 0):=P8;have R0:=Yst.start E8.out (fun h=>Q8.out h);obtain⟨i0,hi,jz0,jz1,jz2⟩:=info_parts Qd0;have hu0:u7.ownsRow (X+2) 3 1 (.slice none 0 0) ([]:List Int).length (Qhx []):=World.ownsRow_nil _ _ _ _;have HB4:=Lib.hid hb4
 have DD:Hid (eS l p 8=0→∀L,Yt8 l (p+22) L=⟨v0,v2,v3,b4,v6,L⟩):=Lib.hid fun h8 L=>by
  have g7:=(D7.out (E8.out.symm.trans h8)).1;obtain⟨g6,x6,-⟩:=D6.out g7;have g5:=(D5.out g6).1;obtain⟨g4,x4,-⟩:=D4.out g5;obtain⟨g3,x3,-⟩:=D3.out g4;obtain⟨g2,x2,-⟩:=D2.out g3;have g1:=(D1.out g2).1;obtain⟨-,x0,-⟩:=D0.out g1;unfold Yt8;rw[←hb4,x0,x2,x3,x4,x6]
  congr 1
  rw[Bool.eq_iff_iff];simp only[beq_iff_eq];omega
 clear hb4 P8 Q8 D0 D1 D2 D3 D4 D5 D6 D7 HY0
 go_wp2
 go_loopw [55] (fun _ wr=>∃(e:Int) (q:Nat) (L:List Int) (v:Value),PwS w A X (X+1) b s wr e q (Ya5 ⟨v0,v2,v3,b4,v6,[]⟩ v (.slice none 0 0) 0)∧wr.ownsRow (X+2) 3 1 v L.length (Qhx L)∧Yst l p e q L) (fun _ wr=>match wr.cell? ⟨X+1,5,none⟩ with|some (.slice _ n _)=>10-n|_=>0)
 case atStart=>exact⟨e8,q8,[],_,P9,hu0,R0⟩
 case round=>
  clear P9 hu0 R0;obtain⟨e,q,L,v,PL,hu,hR⟩:=hrel;obtain⟨pa,cap,rfl,hil⟩:=Ytn rfl hu;obtain⟨x1,x2⟩:=hR.bit
  go_wp2_with fail
  refine(Ydt _ X A b s e q 1 PL.cap).mono ?_;rintro r z0 ⟨rfl,hc,hm⟩;rw[HL.out] at hc ⊢;have PT:=PL.move hc hm;have hu1:=Ylr hu hm (by omega) (by have:=PL.sep;omega);have hcz:=PL.at (i:=5) rfl;generalize Ygn l e q 1=V1 at *;generalize Ygl l e q 1=E1 at *;generalize Ygm l e q 1=Q1 at *;by_cases hV:V1=1
  ·obtain⟨rfl,rfl,rfl,y1,y2⟩:=x2 hV;obtain⟨hL8,hR3⟩:=hR.byte y1 y2;have d1:(V1==1)=true:=by rw[hV];rfl
   have k5:=PT.at (i:=5) rfl;clear x1 x2 hc hm hu hR hV PL
   go_wp2_with fail
   clear k5;refine(Ygj _ X A b s 0 (q+1) (decide ((L.length:Int)<8)) 13 PT.cap).mono ?_;rintro r u1 ⟨rfl,hc,hm⟩;have PU:=PT.move hc hm;have hu2:=Ylr hu1 hm (by omega) (by have:=PT.sep;omega);have hS1:=PT.sep;generalize Ym3 0 (decide ((L.length:Int)<8)) 13=E2 at *;have PD:=PU.drew;have k5:=PD.at (i:=5) rfl;clear PT hu1 hc hm hil d1 y1 y2 PU
   go_wp2
   refine wp_region_any (by kernel_rfl) ?_;change wpAny _ _ _ _ _ _ _ (World.drew _);refine Ybk 0 (some 63) (v:=.pointer (some ⟨X+1,5,none⟩)) rfl rfl (by kernel_rfl) (by kernel_rfl) (by kernel_rfl) (fun _ _ _ h=>h) (Or.inl ⟨by kernel_rfl,?_⟩) ?_
   ·(intro x;go_simp;try with_reducible rfl)
   try simp only[Yaa]
   refine Ybk 2 (some 65) (v:=.func (.func 174) #[] #[.pointer (some ⟨X,0,none⟩),.pointer (some ⟨A,0,none⟩)]) rfl rfl (by kernel_rfl) (by kernel_rfl) (by kernel_rfl) (fun _ _ _ h=>h) (Or.inl ⟨by kernel_rfl,?_⟩) ?_
   ·(intro x;go_simp;try with_reducible rfl)
   try simp only[Yaa]
   refine Y03 (S:=fun x=>x.cell? ⟨X+1,5,none⟩=some (.slice pa L.length cap)) 1 3 4 (some 64) (v:=.slice pa L.length cap) rfl rfl rfl rfl (by kernel_rfl) (by kernel_rfl) (by kernel_rfl) (fun _ _ _ h=>h) (by kernel_rfl) (by kernel_rfl) (by kernel_rfl) (by kernel_rfl) (by kernel_rfl) (by decide) (by decide) k5 (Or.inl ⟨by kernel_rfl,?_⟩) ?_
   ·(intro x hx;have c0:=(show _ from hx);go_simp)
   try simp only[Yaa]
   refine wpOp_step rfl (fun K hK=>?_);have HK:=Lib.hid hK;clear hK
   go_simp
   go_wp2_with fail
   refine(Ydt _ X A b s E2 (q+1) 8 PD.cap).mono ?_;rintro r z2 ⟨rfl,hc,hm⟩;rw[HL.out] at hc ⊢;have PV:=PD.move hc hm;have hu3:=Ylr hu2.drew hm (by omega) (by omega);have hzz:=PV.sep;generalize Ygn l E2 (q+1) 8=V3 at *;generalize Ygl l E2 (q+1) 8=E3 at *;generalize Ygm l E2 (q+1) 8=Q3 at *;refine HK.out _ _ ⟨PV.at (i:=5) rfl,?_⟩;clear HK K k5 hc hm PD hu2;refine wpOp_step rfl (fun K hK=>?_)
   have HK:=Lib.hid hK;clear hK
   go_simp
   have PW:=PV.grown (World.grownBy_alloc z2 (.cells #[.int .i64 V3] 3 (0,0)) none) (fun g h=>by cases h);refine HK.out _ _ ⟨PW.at (i:=5) rfl,?_⟩;clear HK K;have hb4:=hu3.alloc (.cells #[.int .i64 V3] 3 (0,0));have hcn:(z2.alloc (.cells #[.int .i64 V3] 3 (0,0))).cell? ⟨z2.heap.size,0,none⟩=some (.int .i64 V3):=Yab (cs:=[.int .i64 V3]) (heap_alloc_new z2 _) rfl
   have hzn:X+2≤(z2.alloc (.cells #[.int .i64 V3] 3 (0,0))).heap.size:=by simp;omega
   refine wpAny_ready (rs:=[5]) (by kernel_rfl) (by simp) ?_;refine AllReady.cons rfl (fun K hK=>?_) AllReady.nil;refine(if_pos (by kernel_rfl)).mpr ?_;refine Yo3 rfl Tryz.underlying36 hi jz0 rfl jz1 jz2 rfl hb4 rfl hcn (by omega) hzn ?_;intro v4' w4 hu4 hg4;obtain⟨pa2,cap2,hv2,-⟩:=Ytn (l:=L++[V3]) (n:=L.length+1) (by simp) (by rw[Ywl];exact hu4);subst hv2
   have PY:=PW.grown hg4 (fun g hg=>by have:=Yfh hb4 g hg;omega);refine hK _ _ ?_;clear hK K PW PV hb4 hcn hzn hu3;have k5:=PY.at (i:=5) rfl;have k6:=PY.free 5;have PZ:=PY.set 5 (.slice pa2 (L.length+1) cap2);refine Ybk 6 (some 69) (v:=.pointer (some ⟨X+1,5,none⟩)) rfl rfl (by kernel_rfl) (by kernel_rfl) (by kernel_rfl) (fun _ _ _ h=>h) (Or.inl ⟨by kernel_rfl,?_⟩) ?_
   ·(intro x;go_simp;try with_reducible rfl)
   try simp only[Act.put]
   refine wpAny_ready (rs:=[7]) (by kernel_rfl) (by simp) ?_;refine AllReady.cons rfl (fun K hK=>?_) AllReady.nil
   go_simp
   refine hK _ _ ?_;clear hK K k5 k6;refine wpAny_done (by kernel_rfl) ?_ _;have hu5:=hu4.kept (Yap w4 ⟨X+1,5,none⟩ (.slice pa2 (L.length+1) cap2)) (by cases hv:(Value.slice pa2 (L.length+1) cap2).ownBlock with|none=>exact .inl rfl|some g=>exact .inr (by have:=Yfh hu4 g hv;show some g≠some (X+1);intro e;injection e with e;omega));have hm2:=PZ.at (i:=5) rfl
   go_wp2
   go_roundw
   case rel=>exact⟨E3,Q3,L++[V3],_,PZ,by rw[List.length_append,Ywl];exact hu5,hR3⟩
   case measure=>
    rw[hcz,hm2];simp only;omega
  ·have hE:=x1 hV;have d1:(V1==1)=false:=by rw[beq_eq_false_iff_ne];exact hV
   clear x1 x2 hc hm hu hR hV PL hil hcz;obtain⟨Z,hZ⟩:∃Z,(Ya5 ⟨v0,v2,v3,b4,v6,[]⟩ (.slice pa L.length cap) (.slice none 0 0) 0).toArray=Z:=⟨_,rfl⟩;have HSZ:(Tryz.prog.info? 39).map (·.size)=some Z.size:=hZ▸Ypn _ _ _ _;have HONE:Z.all (·.oneCell')=true:=hZ▸Ykv _ _ _ _ _ _ _ _;have HYZ:(Ya5 Yt9 (.slice none 0 0) (.slice none 0 0) 0).toArray.size=Z.size:=by rw[←hZ];rfl
   have hzS:z0.heap[X+1]? =some (.cells Z 39 (0,0)):=hZ▸PT.sh;have hzW:z0.cell? ⟨X,0,none⟩=some (.int .i64 E1):=Yab PT.cap.wrong rfl;have HZ:=Lib.hid hZ;have hsep:=PT.sep;clear hZ
   go_wp2
   refine wp_region_held_drew (S:=(fun x=>x.heap[X+1]? =some (.cells Z 39 (0,0))∧x.cell? ⟨X,0,none⟩=some (.int .i64 E1))) (by kernel_rfl) ⟨hzS,hzW⟩ (fun hH=>?_)
   refine Yaw 0 (some 70) (v:=.agg Z) rfl rfl (by kernel_rfl) (by kernel_rfl) (by kernel_rfl) (fun _ _ _ h=>h) hH (Or.inl ⟨by kernel_rfl,fun x hx=>Ybw (ty:=39) (x:=.tmp 7) (ad:=⟨X+1,0,none⟩) (by kernel_rfl) (by kernel_rfl) (run_loadVar_row x (X+1) _ _ Z (0,0) _ hx.1 Tryz.underlying39 rfl HSZ)⟩) ?_
   try simp only[Yaa]
   refine Yco 1 (some 71) (v:=.int .i64 E1) rfl rfl hH (by kernel_rfl) (fun x hx=>by have c0:=hx.2;go_simp) ?_
   try simp only[Yaa]
   refine wpAnyH_ready (rs:=[2]) (by kernel_rfl) (by simp) ?_;refine AllReadyH.cons rfl (fun K hK=>?_) AllReadyH.nil;refine(if_pos (by kernel_rfl)).mpr ?_;refine wp_store_row 39 _ _ rfl (A+1) Z rfl rfl 39 _ PT.drew.res HSZ HYZ HONE ?_;obtain⟨w5,hw5⟩:∃w5,z0.drew.setRow (A+1) Z=w5:=⟨_,rfl⟩;have hh5:w5.heap[A+1]? =some (.cells Z 39 (0,0)):=by rw[←hw5];exact setRow_heap _ _ _ _ _ _ PT.drew.res
   have hg5:z0.drew.grownBy w5 (some (A+1)):=by rw[←hw5];exact⟨rfl,rfl,rfl,by simp,fun k _ hk=>setRow_other _ _ _ _ (by intro e;exact hk (by rw[e]))⟩
   rw[hw5];have hS5:(fun x=>x.heap[X+1]? =some (.cells Z 39 (0,0))∧x.cell? ⟨X,0,none⟩=some (.int .i64 E1)) w5:=⟨(hg5.block (X+1) (by show X+1<z0.heap.size;omega) (by simp;omega)).trans hzS,(World.cell?_of_block (a:=⟨X,0,none⟩) (hg5.block X (by show X<z0.heap.size;omega) (by simp;omega))).trans hzW⟩;refine hK.out _ _ hS5 (fun hH2=>?_);clear hK K hH hw5
   refine Yco 3 (some 3) rfl rfl hH2 (by kernel_rfl) (fun x _=>by go_simp;try with_reducible rfl) ?_
   try simp only[Act.put]
   refine wpAnyH_done (by kernel_rfl) ?_ _
   go_wp2
   refine bodyPost_ret (Yam rfl _ _ (A+1) 39 _ (0,0) _ rfl hh5 Tryz.underlying39 rfl HSZ) rfl ?_;have hu6:=hu1.drew.kept hg5 (by cases hv:(Value.slice pa L.length cap).ownBlock with|none=>exact .inl rfl|some g=>exact .inr (by have:=Yfh hu1 g hv;show some g≠some (A+1);intro e;injection e with e;omega));obtain⟨pa3,cap3,hv3,hil3⟩:=Ytn rfl hu6;injection hv3 with e1 e2 e3;subst e1
   have hlow:=PT.drew.low;have hrd:=PT.drew.cap.rd;refine⟨⟨v0,v2,v3,b4,v6,L⟩,pa,cap,Q1,?_,fun h0=>?_,hil3,fun x hx=>?_,⟨(hg5.block b hrd.lt (by simp;omega)).trans hrd.1,hrd.2⟩,hg5.os.trans hlow.os,hg5.tape.trans hlow.tape,hg5.output.trans hlow.output,Nat.le_trans hlow.size hg5.size,fun k hk hn=>(hg5.block k (Nat.lt_of_lt_of_le hk hlow.size) (by simp;omega)).trans (hlow.block k hk hn)⟩
   ·rw[hE.1,←HZ.out];rfl
   ·rw[hE.1] at h0;obtain⟨g1,g2⟩:=hE.2 h0;rw[g2,DD.out g1 L]
   ·have:=Yfh hu1 x.block (by rw[hx];rfl);omega
theorem Qij {l:List UInt8}{p:Nat}(h:(shk l p).2.2≠0):(shk l p).1=Yt9∧(shk l p).2.1=p:=by
 by_cases h1:Ycc l p=0
 ·by_cases h2:upS l (p+22) 8=0
  ·by_cases h3:(Ycy l 8 (p+49)).2.2=0
   ·rw[Y2i h1 h2 h3] at h;exact absurd rfl h
   ·rw[Yub h1 h2 h3];exact⟨rfl,rfl⟩
  ·rw[Yua h1 h2];exact⟨rfl,rfl⟩
 ·rw[Ynh h1];exact⟨rfl,rfl⟩
def Qf7 (l:List UInt8)(s:ByteArray)(p b:Nat)(w:World)(e:Ending)(w':World):Prop:=
 ∃(a:Option Addr) (cap:Nat),e=.returned (.tuple #[.agg (Ya5 (shk l p).1 (.slice a (shk l p).1.supp.length cap) (.slice none 0 0) 0).toArray,.int .i64 (shk l p).2.2])∧
  Ydw w' a (shk l p).1.supp∧(∀x,a=some x→w.heap.size≤x.block)∧Yba w' b s (shk l p).2.1∧w.grownBy w' (some b)
set_option maxRecDepth 100000 in
set_option maxHeartbeats 4000000 in
theorem Qfj (w:World)(b:Nat)(s:ByteArray)(p:Nat)(hr:Yba w b s p)(hs:s.size≤1099511627776):
  Calls Tryz.prog 126 #[.pointer (some ⟨b,0,none⟩)] w (Qf7 s.data.toList s p b w):=by
 have c:=fun w hr=>Y0h w b s p hr hs;have hp:=hr.2.1;have hbA:b<w.heap.size:=hr.lt;obtain⟨A,hA⟩:∃A,w.heap.size=A:=⟨_,rfl⟩;obtain⟨wA,hwA⟩:∃wA,w.alloc (.cells #[.int .i64 0,.int .i64 0,.int .i64 0,.bool false,.int .i64 0,.slice none 0 0,.slice none 0 0,.int .i64 0] 39 (0,0))=wA:=⟨_,rfl⟩;have hbA0:Below A w wA:=by rw[←hwA,←hA];exact(Below.refl _ w).alloc (Nat.le_refl _) _
 have hzA:wA.heap.size=A+1:=by rw[←hwA,←hA];simp
 have hA0:wA.heap[A]? =some (.cells #[.int .i64 0,.int .i64 0,.int .i64 0,.bool false,.int .i64 0,.slice none 0 0,.slice none 0 0,.int .i64 0] 39 (0,0)):=by rw[←hwA,←hA];exact heap_alloc_new w _
 have hrA:Yba wA b s p:=hr.below (hA▸hbA0);have bad:=fun h=>Qij (l:=s.data.toList) (p:=p) h;obtain⟨l,hl⟩:∃l,s.data.toList=l:=⟨_,rfl⟩;rw[hl] at c bad ⊢;have HWA:=Lib.hid hwA;have HA:=Lib.hid hA;rw[hA] at hbA;clear hwA hr hl
 go_enter Tryz.func126,Tryz.ntmps126
 go_wp2_with fail
 rw[HWA.out];refine(Yb7 _ _ _ _ hrA).mono ?_;rintro e u ⟨rfl,rfl⟩
 go_wp2_with fail
 refine(c _ hrA).mono ?_;rintro e w1 ⟨h,a,cap,q,rfl,hok,hil,hfr,hr1,hg1⟩;clear c hrA;obtain⟨f,hf⟩:∃f,(shk l p).2.2=f:=⟨_,rfl⟩;rw[hf] at hok bad ⊢;have HF:=Lib.hid hf;obtain⟨Z,hZ⟩:∃Z,(Ya5 h (.slice a h.supp.length cap) (.slice none 0 0) 0).toArray=Z:=⟨_,rfl⟩;rw[hZ];have HSZ:(Tryz.prog.info? 39).map (·.size)=some Z.size:=hZ▸Ypn _ _ _ _;have HONE:Z.all (·.oneCell')=true:=hZ▸Ykv _ _ _ _ _ _ _ _
 have HYZ:(#[.int .i64 0,.int .i64 0,.int .i64 0,.bool false,.int .i64 0,.slice none 0 0,.slice none 0 0,.int .i64 0]:Array Value).size=Z.size:=by rw[←hZ];rfl
 have HSY:(Tryz.prog.info? 39).map (·.size)=some (#[.int .i64 0,.int .i64 0,.int .i64 0,.bool false,.int .i64 0,.slice none 0 0,.slice none 0 0,.int .i64 0]:Array Value).size:=Yr6;have HOY:(#[.int .i64 0,.int .i64 0,.int .i64 0,.bool false,.int .i64 0,.slice none 0 0,.slice none 0 0,.int .i64 0]:Array Value).all (·.oneCell')=true:=by kernel_rfl
 obtain⟨C,hC⟩:∃C,w1.heap.size=C:=⟨_,rfl⟩;obtain⟨w2,hw2⟩:∃w2,w1.alloc (.cells Z 39 (0,0))=w2:=⟨_,rfl⟩;have hz1:A+1≤C:=by have:=hg1.size;omega
 have hb2:Below C w1 w2:=by rw[←hw2,←hC];exact(Below.refl _ w1).alloc (Nat.le_refl _) _
 have hcZ:w2.heap[C]? =some (.cells Z 39 (0,0)):=by rw[←hw2,←hC];exact heap_alloc_new w1 _
 have hcR:w2.heap[A]? =some (.cells #[.int .i64 0,.int .i64 0,.int .i64 0,.bool false,.int .i64 0,.slice none 0 0,.slice none 0 0,.int .i64 0] 39 (0,0)):=(hb2.block A (by omega)).trans ((hg1.block A (by omega) (by simp;omega)).trans hA0);have hr2:Yba w2 b s q:=hr1.below (hC▸hb2);have hil2:Ydw w2 a h.supp:=hil.below (hC▸hb2)
 have hg2:w.grownBy w2 (some b):=Yac (Yac (Yak (HA.out▸hbA0) _) hg1) (Yak (hC▸hb2) _);have hz2:C<w2.heap.size:=by rw[←hw2,←hC];simp
 have HZ:=Lib.hid hZ;have HC:=Lib.hid hC;have HW2:=Lib.hid hw2;clear hf hA0 hZ hC hw2 hil hr1 hg1 hb2 hbA0 hA;by_cases h0:f=0
 ·subst h0;have hk:=hok rfl;have HK:=Lib.hid hk;clear hok bad hk
  go_wp2_with (first|(with_reducible refine Yao rfl 39 _ _ rfl Z _ 39 rfl rfl HSZ HYZ HONE ?_;rw[HW2.out,HC.out])|(with_reducible refine wpList_load_row rfl 39 _ rfl C rfl 39 Z (0,0) _ hcZ Tryz.underlying39 rfl HSZ ?_)|(with_reducible refine Yaj rfl 39 _ _ rfl A Z _ rfl rfl 39 hcR HSZ HYZ HONE ?_;intro w5 hh5 hg5))
  refine bodyPost_ret (Yam rfl _ _ A 39 _ (0,0) _ rfl hh5 Tryz.underlying39 rfl HSZ) rfl ?_;have hil5:Ydw w5 a h.supp:=by
   rcases hil2 with k|⟨x,o,rfl,hlt,k⟩
   ·exact .inl k
   ·have hx:=hfr ⟨x,o,none⟩ rfl;have hx:A+1≤x:=by rw[←hzA];exact hx
    exact .inr ⟨x,o,rfl,Nat.lt_of_lt_of_le hlt hg5.size,fun i hi=>(World.cell?_of_block (a:=⟨x,o+i,none⟩) (hg5.block x hlt (by simp;omega))).trans (k i hi)⟩
  refine⟨a,cap,?_,?_,fun x hx=>?_,?_,?_⟩
  ·rw[HK.out,HZ.out];rfl
  ·rw[HK.out];exact hil5
  ·have:=hfr x hx;have:=HA.out;omega
  ·rw[HK.out];exact⟨(hg5.block b hr2.lt (by simp;omega)).trans hr2.1,hr2.2⟩
  ·exact⟨hg5.os.trans hg2.os,hg5.tape.trans hg2.tape,hg5.output.trans hg2.output,Nat.le_trans hg2.size hg5.size,fun k hk hn=>(hg5.block k (Nat.lt_of_lt_of_le hk hg2.size) (by have:=HA.out;simp;omega)).trans (hg2.block k hk hn)⟩
 ·have d1:(f != 0)=true:=by simpa using h0
  obtain⟨b1,b2⟩:=bad h0;have B1:=Lib.hid b1;have B2:=Lib.hid b2;clear hok bad b1 b2 hil2 h0
  go_wp2_with (with_reducible refine Yao rfl 39 _ _ rfl Z _ 39 rfl rfl HSZ HYZ HONE ?_;rw[HW2.out,HC.out])
  refine(Yb2 _ _ _ _ (p:Int) hr2 (by omega) (by omega)).mono ?_;rintro e w3 ⟨rfl,hr3,hg3⟩;rw[Int.toNat_natCast] at hr3;have hcR3:=(hg3.block A (by omega) (by simp;omega)).trans hcR;have hg4:=Yac hg2 hg3;clear hcR hg3 hg2 hr2 hcZ
  go_wp2_with (with_reducible refine Yaj rfl 39 _ _ rfl A _ _ rfl rfl 39 hcR3 HSY rfl HOY ?_;intro w5 hh5 hg5)
  refine bodyPost_ret (Yam rfl _ _ A 39 _ (0,0) _ rfl hh5 Tryz.underlying39 rfl HSY) rfl ?_;refine⟨none,0,?_,?_,(fun x hx=>by cases hx),?_,?_⟩
  ·rw[B1.out,HF.out];rfl
  ·rw[B1.out];exact Ydw.nil _ _
  ·rw[B2.out];exact⟨(hg5.block b hr3.lt (by simp;omega)).trans hr3.1,hr3.2⟩
  ·exact⟨hg5.os.trans hg4.os,hg5.tape.trans hg4.tape,hg5.output.trans hg4.output,Nat.le_trans hg4.size hg5.size,fun k hk hn=>(hg5.block k (Nat.lt_of_lt_of_le hk hg4.size) (by have:=HA.out;simp;omega)).trans (hg4.block k hk hn)⟩
end Go.Proofs.YtjjmalchelniiaaGreatDoor