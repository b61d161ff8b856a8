/- Part 38 of StripsBack. No condition. -/
import Derived.Test.YtjjmalchelniiaaGreatDoorStripsBackMb
import Derived.Test.YtjjmalchelniiaaGreatDoorStripsBackMj
import Derived.Test.YtjjmalchelniiaaGreatDoorStripsBackMk
import Derived.Test.YtjjmalchelniiaaGreatDoorStripsBackMo
import Derived.Test.YtjjmalchelniiaaGreatDoorStripsBackMs
import Derived.Test.YtjjmalchelniiaaGreatDoorStripsBackMv
import Derived.Test.YtjjmalchelniiaaGreatDoorStripsBackMw
import Derived.Test.YtjjmalchelniiaaGreatDoorStripsBackMx
import Derived.Test.YtjjmalchelniiaaGreatDoorStripsBackMbh
import Derived.Test.YtjjmalchelniiaaGreatDoorStripsBackMbj
import Derived.Test.YtjjmalchelniiaaGreatDoorStripsBackMbk
namespace Go.Proofs.YtjjmalchelniiaaGreatDoor
theorem Qje (inter:Bool)(b:List UInt8):(mtk inter b=(0,0,(mtk inter b).2.2.1,0)∧(mtk inter b).2.2.1≠0)∨((mtk inter b).2.2.1=0∧0≤(mtk inter b).1∧(mtk inter b).1≤5∧(mtk inter b).1≠2∧0≤(mtk inter b).2.1∧(mtk inter b).2.1≤3∧(mtk inter b).2.2.2≤b.length):=by
 obtain⟨⟨f,n⟩,ht⟩:∃x,tk ((Ylk inter).map Yat) b 25 1=x:=⟨_,rfl⟩;by_cases hf:f=0
 ·subst hf;have hh:=Yyk ht;unfold mtk;rw[ht,if_pos rfl]
  split
  next x _=>
   split
   ·exact .inl ⟨rfl,(show (6:Int)≠0 by decide)⟩
   ·refine .inr ⟨rfl,?_,?_,by assumption,?_,?_,hh.2.1⟩ <;> simp only[sA,sB] <;> omega
  ·exact .inr ⟨rfl,by decide,by decide,by decide,by decide,by decide,Nat.zero_le _⟩
 ·rw[Yt8 inter ht hf];exact .inl ⟨rfl,hf⟩
theorem Qav {all:List (ByteArray×Int)}{lo hi:Int}(h0:lo≤0∧0≤hi)(hall:∀x∈all,lo≤x.2∧x.2≤hi)(b:List UInt8):lo≤(gtk all b).1∧(gtk all b).1≤hi∧(gtk all b).2.2≤b.length:=by
 obtain⟨⟨f,n⟩,ht⟩:∃x,tk (all.map Ya2) b 25 1=x:=⟨_,rfl⟩;unfold gtk;by_cases hf:f=0
 ·subst hf;have hh:=Yyk ht;rw[ht,if_pos rfl]
  split
  next x hx=>exact⟨(hall x (List.mem_of_find?_eq_some hx)).1,(hall x (List.mem_of_find?_eq_some hx)).2,hh.2.1⟩
  ·exact⟨h0.1,h0.2,Nat.zero_le _⟩
 ·rw[ht,if_neg hf];exact⟨h0.1,h0.2,Nat.zero_le _⟩
theorem Qbi (intra:Bool)(b:List UInt8):0≤(ptk intra b).1∧(ptk intra b).1≤15∧(ptk intra b).2.2≤b.length:=
 Qav (all:=Ylf intra) (lo:=0) (hi:=15) ⟨by decide,by decide⟩ (by cases intra <;> decide +kernel) b
theorem Y9k (b:List UInt8):-32≤(dtk b).1∧(dtk b).1≤31∧(dtk b).2.2≤b.length:=
 Qav (all:=allD) (lo:=-32) (hi:=31) ⟨by decide,by decide⟩ (by decide +kernel) b
def Yqn (b:List UInt8):Int×Int×Nat:=match b with|[]=>(0,2,0)|c::_=>(if c=49 then 1 else 0,0,1)
abbrev Stt:=Nat×Int
def Ygo (k:List UInt8→Int×Int×Nat)(S:List UInt8)(st:Stt):Int×Stt:=
 if st.2=0 then ((k (S.drop st.1)).1,st.1+(k (S.drop st.1)).2.2,(k (S.drop st.1)).2.1) else (0,st)
def Ym5 (inter:Bool)(S:List UInt8)(st:Stt):Int×Int×Stt:=
 if st.2=0 then ((mtk inter (S.drop st.1)).1,(mtk inter (S.drop st.1)).2.1,st.1+(mtk inter (S.drop st.1)).2.2.2,(mtk inter (S.drop st.1)).2.2.1) else (0,0,st)
def Yi6 (intra coded:Bool)(S:List UInt8)(st:Stt):Int×List Ev×Stt:=
 if st.2=0 then ((btk S st.1 intra coded).1,(btk S st.1 intra coded).2.1,(btk S st.1 intra coded).2.2.1,(btk S st.1 intra coded).2.2.2) else (0,[],st)
def Yen (inter:Bool)(S:List UInt8):Nat→Nat→Stt→Nat×Bool×Int×Int×Stt
 |0,_,st=>(0,false,0,0,st.1,13)
 |k+1,n,st=>
  if inter=true∧(Ygo Yqn S st).1=1 then (n,true,0,0,(Ygo Yqn S st).2) else
  if (Ym5 inter S (if inter then (Ygo Yqn S st).2 else st)).1=5 then Yen inter S k (n+1) (Ym5 inter S (if inter then (Ygo Yqn S st).2 else st)).2.2 else
  (n,false,Ym5 inter S (if inter then (Ygo Yqn S st).2 else st))
def Y3g (S:List UInt8)(kind:Int)(st:Stt):Int×Stt:=if Y6x kind then Ygo stk S st else (0,st)
def Yjf (S:List UInt8)(pr:Int)(st:Stt):Int×Stt:=(Ycb (Ycb pr+(Ygo dtk S st).1),(Ygo dtk S st).2)
def Yy2 (S:List UInt8)(kind:Int)(x y:Int)(st:Stt):Int×Int×Stt:=
 if Yas kind then (0,0,st) else ((Yjf S x st).1,(Yjf S y (Yjf S x st).2).1,(Yjf S y (Yjf S x st).2).2)
def Yj3 (c i:Nat):Bool:=c / 2^(5-i)%2==1
def stB (intra:Bool)(c:Nat)(S:List UInt8)(st:Stt):Nat→Stt
 |0=>st
 |i+1=>(Yi6 intra (Yj3 c i) S (stB intra c S st i)).2.2
def Qip (inter:Bool)(S:List UInt8)(st:Stt):Nat:=
 4*(Ygo (ptk (Yas (Yen inter S 65 0 st).2.2.1)) S (Yen inter S 65 0 st).2.2.2.2).1.toNat+(Yen inter S 65 0 st).2.2.2.1.toNat
def st2 (inter:Bool)(S:List UInt8)(st:Stt):Stt:=(Ygo (ptk (Yas (Yen inter S 65 0 st).2.2.1)) S (Yen inter S 65 0 st).2.2.2.2).2
def st3 (inter:Bool)(S:List UInt8)(st:Stt):Stt:=(Y3g S (Yen inter S 65 0 st).2.2.1 (st2 inter S st)).2
def st4 (inter:Bool)(S:List UInt8)(x y:Int)(st:Stt):Stt:=(Yy2 S (Yen inter S 65 0 st).2.2.1 x y (st3 inter S st)).2.2
def Yyz (inter:Bool)(S:List UInt8)(x y:Int)(st:Stt):Cel×Stt:=
 if (Yen inter S 65 0 st).2.1 then ({Ymj with stuff:=(Yen inter S 65 0 st).1,skip:=true},(Yen inter S 65 0 st).2.2.2.2) else
 ({stuff:=(Yen inter S 65 0 st).1,skip:=false,kind:=(Yen inter S 65 0 st).2.2.1,step:=(Y3g S (Yen inter S 65 0 st).2.2.1 (st2 inter S st)).1,mx:=(Yy2 S (Yen inter S 65 0 st).2.2.1 x y (st3 inter S st)).1,my:=(Yy2 S (Yen inter S 65 0 st).2.2.1 x y (st3 inter S st)).2.1,dc:=fun i=>(Yi6 (Yas (Yen inter S 65 0 st).2.2.1) (Yj3 (Qip inter S st) i) S (stB (Yas (Yen inter S 65 0 st).2.2.1) (Qip inter S st) S (st4 inter S x y st) i)).1,ev:=fun i=>(Yi6 (Yas (Yen inter S 65 0 st).2.2.1) (Yj3 (Qip inter S st) i) S (stB (Yas (Yen inter S 65 0 st).2.2.1) (Qip inter S st) S (st4 inter S x y st) i)).2.1},
  stB (Yas (Yen inter S 65 0 st).2.2.1) (Qip inter S st) S (st4 inter S x y st) 6)
def ctk (inter:Bool)(S:List UInt8)(x y:Int)(p:Nat):Cel×Nat×Int:=
 if (Yyz inter S x y (p,0)).2.2=0 then ((Yyz inter S x y (p,0)).1,(Yyz inter S x y (p,0)).2.1,0) else (Ymj,p,(Yyz inter S x y (p,0)).2.2)
theorem Yfz {k:List UInt8→Int×Int×Nat}{S:List UInt8}{p:Nat}:Ygo k S (p,0)=((k (S.drop p)).1,p+(k (S.drop p)).2.2,(k (S.drop p)).2.1):=if_pos rfl
theorem Yf6 {k:List UInt8→Int×Int×Nat}{S:List UInt8}{st:Stt}(h:st.2≠0):Ygo k S st=(0,st):=if_neg h
theorem Y0i {inter:Bool}{S:List UInt8}{p:Nat}:Ym5 inter S (p,0)=((mtk inter (S.drop p)).1,(mtk inter (S.drop p)).2.1,p+(mtk inter (S.drop p)).2.2.2,(mtk inter (S.drop p)).2.2.1):=if_pos rfl
theorem Yt1 {inter:Bool}{S:List UInt8}{st:Stt}(h:st.2≠0):Ym5 inter S st=(0,0,st):=if_neg h
theorem Yzf {intra coded:Bool}{S:List UInt8}{p:Nat}:Yi6 intra coded S (p,0)=((btk S p intra coded).1,(btk S p intra coded).2.1,(btk S p intra coded).2.2.1,(btk S p intra coded).2.2.2):=if_pos rfl
theorem Y14 {intra coded:Bool}{S:List UInt8}{st:Stt}(h:st.2≠0):Yi6 intra coded S st=(0,[],st):=if_neg h
theorem Y08 {intra:Bool}{c:Nat}{S:List UInt8}{st:Stt}{i:Nat}(h:(stB intra c S st i).2≠0):∀k,stB intra c S st (i+k)=stB intra c S st i
 |0=>rfl
 |k+1=>by
  have ih:=Y08 h k;show (Yi6 intra (Yj3 c (i+k)) S (stB intra c S st (i+k))).2.2=_;rw[ih,Y14 h]
theorem Y3h {S:List UInt8}{kind:Int}{st:Stt}(h:st.2≠0):Y3g S kind st=(0,st):=by
 unfold Y3g;rw[Yf6 h]
 split <;> rfl
theorem Y3u {S:List UInt8}{kind x y:Int}{st:Stt}(h:st.2≠0):(Yy2 S kind x y st).2.2=st:=by
 unfold Yy2 Yjf;rw[Yf6 h]
 split
 ·rfl
 ·simp only;rw[Yf6 h]
theorem Y8n {inter:Bool}{S:List UInt8}{x y:Int}{p:Nat}{f:Int}(hf:f≠0)(h:(Yyz inter S x y (p,0)).2.2=f):ctk inter S x y p=(Ymj,p,f):=by
 unfold ctk;rw[h,if_neg hf]
theorem Yn8 {inter:Bool}{S:List UInt8}{x y:Int}{p q:Nat}{c:Cel}(h:Yyz inter S x y (p,0)=(c,q,0)):ctk inter S x y p=(c,q,0):=by
 unfold ctk;rw[h,if_pos rfl]
theorem Qim {inter:Bool}{S:List UInt8}{x y:Int}{st:Stt}{n:Nat}{k c:Int}{sk:Bool}{q:Nat}{f:Int}(h:Yen inter S 65 0 st=(n,sk,k,c,q,f))(hf:f≠0):(Yyz inter S x y st).2.2=f:=by
 have e2:st2 inter S st=(q,f):=by unfold st2;rw[h,Yf6 hf]
 have e3:st3 inter S st=(q,f):=by unfold st3;rw[h,e2,Y3h hf]
 have e4:st4 inter S x y st=(q,f):=by unfold st4;rw[e3,Y3u hf]
 unfold Yyz;rw[e4,h];simp only
 split
 ·rfl
 ·have:=Y08 (intra:=Yas k) (c:=Qip inter S st) (S:=S) (st:=(q,f)) (i:=0) hf 6;rw[Nat.zero_add] at this;rw[this]
  rfl
theorem Ytk {inter:Bool}{S:List UInt8}{x y:Int}{st s':Stt}{n:Nat}{k c:Int}(h:Yen inter S 65 0 st=(n,true,k,c,s')):Yyz inter S x y st=({Ymj with stuff:=n,skip:=true},s'):=by
 unfold Yyz;rw[h]
 rfl
theorem Yn4 {inter:Bool}{S:List UInt8}{k n:Nat}{st st1:Stt}{v:Int}(hi:inter=true)(h:Ygo Yqn S st=(v,st1))(hv:v=1):Yen inter S (k+1) n st=(n,true,0,0,st1):=by
 unfold Yen;rw[h,if_pos ⟨hi,hv⟩]
theorem Yke {S:List UInt8}{k n:Nat}{st st1 st2:Stt}{v a c:Int}(h:Ygo Yqn S st=(v,st1))(hv:v≠1)(h2:Ym5 true S st1=(a,c,st2)):Yen true S (k+1) n st=if a=5 then Yen true S k (n+1) st2 else (n,false,a,c,st2):=by
 conv=>lhs;unfold Yen
 rw[h,if_neg (fun e=>hv e.2),if_pos rfl,h2]
theorem Ykf {S:List UInt8}{k n:Nat}{st st2:Stt}{a c:Int}(h2:Ym5 false S st=(a,c,st2)):Yen false S (k+1) n st=if a=5 then Yen false S k (n+1) st2 else (n,false,a,c,st2):=by
 conv=>lhs;unfold Yen
 rw[if_neg (fun e=>by cases e.1)];simp only[Bool.false_eq_true,if_false,h2]
theorem Y8a (inter:Bool)(S:List UInt8):∀(j n:Nat) (st:Stt) (n':Nat) (sk:Bool) (k c:Int) (st':Stt),Yen inter S j n st=(n',sk,k,c,st')→n'≤n+j∧0≤k∧k≤4∧k≠2∧0≤c∧c≤3∧(sk=true→k=0)
 |0,n,st,n',sk,k,c,st',h=>by
  simp only[Yen,Prod.mk.injEq] at h;exact⟨by omega,by omega,by omega,by omega,by omega,by omega,fun _=>h.2.2.1.symm⟩
 |j+1,n,st,n',sk,k,c,st',h=>by
  have hk:∀s2,(Ym5 inter S s2).1≠5→0≤(Ym5 inter S s2).1∧(Ym5 inter S s2).1≤4∧(Ym5 inter S s2).1≠2∧0≤(Ym5 inter S s2).2.1∧(Ym5 inter S s2).2.1≤3:=by
   intro s2 h5;unfold Ym5 at h5 ⊢
   split at h5
   next hz=>
    rw[if_pos hz];simp only at h5 ⊢;rcases Qje inter (S.drop s2.1) with ⟨h1,_⟩|⟨h0,h1,h2,h3,h4,h6,_⟩
    ·rw[h1];refine⟨?_,?_,?_,?_,?_⟩ <;> simp
    ·exact⟨h1,by omega,h3,h4,h6⟩
   next hz=>
    rw[if_neg hz];refine⟨?_,?_,?_,?_,?_⟩ <;> simp
  unfold Yen at h;generalize (if inter=true then (Ygo Yqn S st).2 else st)=s1 at h
  split at h
  ·simp only[Prod.mk.injEq] at h;exact⟨by omega,by omega,by omega,by omega,by omega,by omega,fun _=>h.2.2.1.symm⟩
  ·split at h
   ·have:=Y8a inter S j (n+1) _ n' sk k c st' h;exact⟨by omega,this.2⟩
   next h5=>
    have h1:=hk _ h5;simp only[Prod.mk.injEq] at h;obtain⟨e1,e2,e3⟩:=h;rw[e3] at h1;simp only at h1;exact⟨by omega,h1.1,h1.2.1,h1.2.2.1,h1.2.2.2.1,h1.2.2.2.2,fun e=>by rw[←e2] at e;cases e⟩
theorem Yzl {inter:Bool}{S:List UInt8}{x y:Int}{st st1 s2 s3 s4:Stt}{n:Nat}{k ch pt sp mx my:Int}(h:Yen inter S 65 0 st=(n,false,k,ch,st1))(h2:Ygo (ptk (Yas k)) S st1=(pt,s2))(h3:Y3g S k s2=(sp,s3))(h4:Yy2 S k x y s3=(mx,my,s4)):
  Yyz inter S x y st=({stuff:=n,skip:=false,kind:=k,step:=sp,mx:=mx,my:=my,dc:=fun i=>(Yi6 (Yas k) (Yj3 (4*pt.toNat+ch.toNat) i) S (stB (Yas k) (4*pt.toNat+ch.toNat) S s4 i)).1,ev:=fun i=>(Yi6 (Yas k) (Yj3 (4*pt.toNat+ch.toNat) i) S (stB (Yas k) (4*pt.toNat+ch.toNat) S s4 i)).2.1},stB (Yas k) (4*pt.toNat+ch.toNat) S s4 6):=by
 simp only[Yyz,st4,st3,st2,Qip,h,h2,h3,h4,Bool.false_eq_true,if_false]
theorem Qkz (intra:Bool)(S:List UInt8)(st:Stt):0≤(Ygo (ptk intra) S st).1∧(Ygo (ptk intra) S st).1≤15:=by
 unfold Ygo
 split
 ·exact⟨(Qbi intra _).1,(Qbi intra _).2.1⟩
 ·constructor <;> simp
theorem Y9h (S:List UInt8)(st:Stt):-32≤(Ygo dtk S st).1∧(Ygo dtk S st).1≤31:=by
 unfold Ygo
 split
 ·exact⟨(Y9k _).1,(Y9k _).2.1⟩
 ·constructor <;> simp
end Go.Proofs.YtjjmalchelniiaaGreatDoor
namespace Go.Proofs.YtjjmalchelniiaaGreatDoor
open Go.RowKit Go.Lib
def Yjk (w:World)(pb rb:Nat)(s:ByteArray)(st:Stt):Prop:=
 w.heap[pb]? =some (.cells [.pointer (some ⟨rb,0,none⟩),.int .i64 st.2].toArray 212 (0,0))∧Ybc w rb s st.1∧rb<pb
theorem Yjk.lt {w:World}{pb rb:Nat}{s:ByteArray}{st:Stt}(h:Yjk w pb rb s st):pb<w.heap.size:=(Array.getElem?_eq_some_iff.1 h.1).1
theorem Yjk.under {w x:World}{pb rb N:Nat}{s:ByteArray}{st:Stt}(h:Yjk w pb rb s st)(hb:Below N w x)(hp:pb<N):Yjk x pb rb s st:=
 ⟨(hb.block pb hp).trans h.1,h.2.1.under hb (by have:=h.2.2;omega),h.2.2⟩
theorem Yjk.store {w x:World}{pb rb:Nat}{s:ByteArray}{st:Stt}{q:Nat}{f:Int}(h:Yjk w pb rb s st)(hr:Ybc x rb s q)(hg:w.grownBy x (some rb)):
  Yjk (x.setCell ⟨pb,1,none⟩ (.int .i64 f)) pb rb s (q,f)∧Ybo rb pb w (x.setCell ⟨pb,1,none⟩ (.int .i64 f)):=by
 have h0:=(hg.block pb h.lt (by have:=h.2.2;simp;omega)).trans h.1;have hne:rb≠pb:=by have:=h.2.2;omega
 refine⟨⟨?_,⟨?_,hr.2⟩,h.2.2⟩,(Ybo.grown hg (.inl rfl)).trans (Ybo.set _ (.inr rfl))⟩
 ·exact Yau (o:=1) (.int .i64 f) h0
 ·rw[Below.heap_setCell _ _ _ _ hne];exact hr.1
def Ym1 (w:World)(B:Nat)(v:Value)(L:List Ev):Prop:=∃(q:Option Addr) (cap:Nat),v=.slice q L.length cap∧Yel w q L∧Yfq B q
theorem Ym1.nil (w:World)(B:Nat):Ym1 w B (.slice none 0 0) []:=⟨none,0,rfl,.inl rfl,Yfq.none _⟩
theorem Ym1.one {w:World}{B:Nat}{v:Value}{L:List Ev}(h:Ym1 w B v L):v.oneCell'=true:=by
 obtain⟨q,cap,rfl,_⟩:=h
 rfl
theorem Ym1.from {w:World}{A B:Nat}{v:Value}{L:List Ev}(h:Ym1 w B v L)(hab:A≤B):Ym1 w A v L:=by
 obtain⟨q,cap,h1,h2,h3⟩:=h;exact⟨q,cap,h1,h2,h3.mono hab⟩
theorem Ym1.moved {w x:World}{a b B:Nat}{v:Value}{L:List Ev}(h:Ym1 w B v L)(hm:Ybo a b w x)(ha:a<B)(hb:b<B):Ym1 x B v L:=by
 obtain⟨q,cap,h1,h2,h3⟩:=h;refine⟨q,cap,h1,?_,h3⟩;rcases h2 with h|⟨k,o,rfl,h4,h5⟩
 ·exact .inl h
 ·have hk:B≤k:=h3 _ rfl;have hb:=hm.block k h4 (by omega) (by omega);refine .inr ⟨k,o,rfl,Nat.lt_of_lt_of_le h4 hm.size,fun i hi=>?_⟩;obtain⟨a0,a1,a2⟩:=h5 i hi;exact⟨(World.cell?_of_block (a:=⟨k,o+i*3,none⟩) hb).trans a0,(World.cell?_of_block (a:=⟨k,o+i*3+1,none⟩) hb).trans a1,(World.cell?_of_block (a:=⟨k,o+i*3+2,none⟩) hb).trans a2⟩
theorem Ym1.below {w x:World}{B:Nat}{v:Value}{L:List Ev}(h:Ym1 w B v L)(hb:Below w.heap.size w x):Ym1 x B v L:=by
 obtain⟨q,cap,h1,h2,h3⟩:=h;exact⟨q,cap,h1,h2.below hb,h3⟩
def Ys6 (k:List UInt8→Int×Int×Nat)(s:ByteArray)(rb p:Nat)(w:World)(e:Ending)(w':World):Prop:=
 e=.returned (.tuple #[.int .i64 (k ((Yae s.data.toList).drop p)).1,.int .i64 (k ((Yae s.data.toList).drop p)).2.1])∧Ybc w' rb s (p+(k ((Yae s.data.toList).drop p)).2.2)∧w.grownBy w' (some rb)
def Yd0 (k:List UInt8→Int×Int×Nat)(s:ByteArray)(pb rb:Nat)(st:Stt)(w:World)(e:Ending)(w':World):Prop:=
 e=.returned (.int .i64 (Ygo k (Yae s.data.toList) st).1)∧Yjk w' pb rb s (Ygo k (Yae s.data.toList) st).2∧Ybo rb pb w w'
theorem Qih (s:ByteArray)(p:Nat)(hp:p≤8*s.size):∃(v f:Int) (n:Nat),Yqn ((Yae s.data.toList).drop p)=(v,f,n)∧ask s.data.toList p 1=(v,f)∧Yc3 s.data.toList p 1=p+n:=by
 have hdl:s.data.toList.length=s.size:=rfl;have hbl:((Yae s.data.toList).drop p).length=8*s.size-p:=by rw[List.length_drop,Yah];rfl
 by_cases hsh:8*s.size<p+1
 ·have ha:ask s.data.toList p 1=(0,2):=Ybp (by omega) (by rw[hdl];omega);refine⟨0,2,0,?_,ha,by unfold Yc3;rw[ha];rfl⟩;cases hd:(Yae s.data.toList).drop p with
  |nil=>rfl
  |cons a l=>rw[hd] at hbl;simp at hbl;omega
 ·have ha:ask s.data.toList p 1=(((Ya5 s.data.toList p 1:Nat):Int),0):=Yda (by omega) (by rw[hdl];omega);obtain⟨t,ht,h01,hd⟩:=Yrm s p (by omega);rw[ht] at ha;refine⟨t,0,1,?_,ha,by unfold Yc3;rw[ha];rfl⟩;cases hc:(Yae s.data.toList).drop p with
  |nil=>rw[hc] at hd;cases hd
  |cons a l=>
   rw[hc] at hd;have:a=UInt8.ofNat (48+t):=by simpa using hd
   subst this;rcases h01 with rfl|rfl <;> rfl
theorem Yzm (w:World)(rb:Nat)(s:ByteArray)(p:Nat)(hr:Ybc w rb s p):Calls Tryz.prog 225 #[.pointer (some ⟨rb,0,none⟩)] w (Ys6 Yqn s rb p w):=by
 have hc:=Yc0 w rb s p 1 hr;obtain⟨v,f,n,hb,ha,ht⟩:=Qih s p hr.2.1;unfold Ys6;rw[hb];rw[ha,ht] at hc;clear ha ht hb hr
 go_enter Tryz.func225,Tryz.ntmps225
 go_wp2_with fail
 refine hc.mono ?_;rintro e w1 ⟨rfl,hr1,hg1⟩
 go_wp2
 go_ret2
 exact⟨rfl,hr1,hg1⟩
theorem Yon {f : FuncId} {fn : Func} {c : Code} (hf : Tryz.prog.funcs[f]? = some fn) (hname : (fn.name == "runtime.NumGoroutine") = false) (hb : fn.body = some c) (args : Array Value) (w : World) : (callFunc f args).run Tryz.prog w = .ok (.enter f args) w := by
 have h1 : fn.name ≠ "runtime.NumGoroutine" := by simpa using hname
 simp[callFunc,hf,h1,hb]
theorem Yh0 (k:List UInt8→Int×Int×Nat)(fn:FuncId)(w:World)(pb rb:Nat)(s:ByteArray)(st:Stt)(hr:Yjk w pb rb s st)(hen:∀args x,(callFunc fn args).run Tryz.prog x=.ok (.enter fn args) x)
  (hk:Ybc w rb s st.1→Calls Tryz.prog fn #[.pointer (some ⟨rb,0,none⟩)] w (Ys6 k s rb st.1 w)):
  Calls Tryz.prog 211 #[.pointer (some ⟨pb,0,none⟩),.func (.func fn) #[] #[]] w (Yd0 k s pb rb st w):=by
 obtain⟨p,f⟩:=st;have c0:=Yab (o:=0) hr.1 rfl;have c1:=Yab (o:=1) hr.1 rfl;simp only at c0 c1;unfold Yd0;by_cases hf:f=0
 ·subst hf;have hk:=hk hr.2.1;unfold Ys6 at hk;rw[Yfz];simp only at hk ⊢;generalize k ((Yae s.data.toList).drop p)=z at hk ⊢;obtain⟨v,f,n⟩:=z;simp only at hk ⊢;have HR:=Lib.hid hr;clear hr
  go_enter Tryz.func211,Tryz.ntmps211
  go_wp2_with fail
  refine hk.mono ?_;rintro e w1 ⟨rfl,hr1,hg1⟩;have h0:=(hg1.block pb HR.out.lt (by have:=HR.out.2.2;simp;omega)).trans HR.out.1;have hfr:=Yaj (o:=1) h0;have hd0:=Yab (o:=1) h0 rfl;have ST:=Lib.hid (HR.out.store (f:=f) hr1 hg1);clear hr1 hg1 h0 hk c0 c1
  go_wp2
  go_ret
  exact⟨rfl,ST.out⟩
 ·rw[Yf6 hf];have t0:(f != 0)=true:=by simpa using hf
  go_enter Tryz.func211,Tryz.ntmps211
  go_wp2
  go_ret
  exact⟨rfl,hr,Ybo.refl _ _ _⟩
section
variable {N:Nat}{w:World}{pb rb:Nat}{s:ByteArray}{st:Stt}
theorem Qem (hr:Yjk w pb rb s st):Calls Tryz.prog 211 #[.pointer (some ⟨pb,0,none⟩),.func (.func 225) #[] #[]] w (Yd0 Yqn s pb rb st w):=
 Yh0 Yqn _ w pb rb s st hr (Yon Tryz.func225 (by kernel_rfl) rfl) fun h=>Yzm w rb s st.1 h
theorem Y8z (ht:Ybi N w)(hN:N≤rb)(hr:Yjk w pb rb s st):Calls Tryz.prog 211 #[.pointer (some ⟨pb,0,none⟩),.func (.func 212) #[] #[]] w (Yd0 stk s pb rb st w):=
 Yh0 stk _ w pb rb s st hr (Yon Tryz.func212 (by kernel_rfl) rfl) fun h=>(Y6w w rb s st.1 ht.steps (by have:=ht.lo.2.2.2.1;omega) h).mono fun _ _ h=>h
theorem Yv4 (ht:Ybi N w)(hr:Yjk w pb rb s st):Calls Tryz.prog 211 #[.pointer (some ⟨pb,0,none⟩),.func (.func 213) #[] #[]] w (Yd0 dtk s pb rb st w):=
 Yh0 dtk _ w pb rb s st hr (Yon Tryz.func213 (by kernel_rfl) rfl) fun h=>(Y9f w rb s st.1 ht.mvd h).mono fun _ _ h=>h
end
theorem Y85 {N:Nat}{w:World}{pb rb:Nat}{s:ByteArray}{st:Stt}(intra:Bool)(ht:Ybi N w)(hr:Yjk w pb rb s st):
  Calls Tryz.prog 210 #[.pointer (some ⟨pb,0,none⟩),.bool intra] w (Yd0 (ptk intra) s pb rb st w):=by
 obtain⟨p,f⟩:=st;have c0:=Yab (o:=0) hr.1 rfl;have c1:=Yab (o:=1) hr.1 rfl;simp only at c0 c1;unfold Yd0;by_cases hf:f=0
 ·subst hf;have hk:=Y52 intra w rb s p ht.pats hr.2.1;unfold Qdl at hk;rw[Yfz];generalize ptk intra ((Yae s.data.toList).drop p)=z at hk ⊢;obtain⟨v,f,n⟩:=z;simp only at hk ⊢;have HR:=Lib.hid hr;clear hr ht
  go_enter Tryz.func210,Tryz.ntmps210
  go_wp2_with fail
  refine hk.mono ?_;rintro e w1 ⟨rfl,hr1,hg1⟩;have h0:=(hg1.block pb HR.out.lt (by have:=HR.out.2.2;simp;omega)).trans HR.out.1;have hfr:=Yaj (o:=1) h0;have hd0:=Yab (o:=1) h0 rfl;have ST:=Lib.hid (HR.out.store (f:=f) hr1 hg1);clear hr1 hg1 h0 hk c0 c1
  go_wp2
  go_ret
  exact⟨rfl,ST.out⟩
 ·rw[Yf6 hf];have t0:(f != 0)=true:=by simpa using hf
  clear ht
  go_enter Tryz.func210,Tryz.ntmps210
  go_wp2
  go_ret
  exact⟨rfl,hr,Ybo.refl _ _ _⟩
def Ync (inter:Bool)(s:ByteArray)(pb rb:Nat)(st:Stt)(w:World)(e:Ending)(w':World):Prop:=
 e=.returned (.tuple #[.int .i64 (Ym5 inter (Yae s.data.toList) st).1,.int .i64 (Ym5 inter (Yae s.data.toList) st).2.1])∧Yjk w' pb rb s (Ym5 inter (Yae s.data.toList) st).2.2∧Ybo rb pb w w'
theorem Yri {w:World}{pb rb:Nat}{s:ByteArray}{st:Stt}(inter:Bool)(hr:Yjk w pb rb s st):
  Calls Tryz.prog 226 #[.pointer (some ⟨pb,0,none⟩),.bool inter] w (Ync inter s pb rb st w):=by
 obtain⟨p,f⟩:=st;have c0:=Yab (o:=0) hr.1 rfl;have c1:=Yab (o:=1) hr.1 rfl;simp only at c0 c1;unfold Ync;by_cases hf:f=0
 ·subst hf;have hk:=Y5n inter w rb s p hr.2.1;unfold Qdk at hk;rw[Y0i];generalize mtk inter ((Yae s.data.toList).drop p)=z at hk ⊢;obtain⟨v,v2,f,n⟩:=z;simp only at hk ⊢;have HR:=Lib.hid hr;clear hr
  go_enter Tryz.func226,Tryz.ntmps226
  go_wp2_with fail
  refine hk.mono ?_;rintro e w1 ⟨rfl,hr1,hg1⟩;have h0:=(hg1.block pb HR.out.lt (by have:=HR.out.2.2;simp;omega)).trans HR.out.1;have hfr:=Yaj (o:=1) h0;have hd0:=Yab (o:=1) h0 rfl;have ST:=Lib.hid (HR.out.store (f:=f) hr1 hg1);clear hr1 hg1 h0 hk c0 c1
  go_wp2
  go_ret2
  exact⟨rfl,ST.out⟩
 ·rw[Yt1 hf];have t0:(f != 0)=true:=by simpa using hf
  go_enter Tryz.func226,Tryz.ntmps226
  go_wp2
  go_ret2
  exact⟨rfl,hr,Ybo.refl _ _ _⟩
def Ynv (intra coded:Bool)(s:ByteArray)(pb rb:Nat)(st:Stt)(w:World)(e:Ending)(w':World):Prop:=
 ∃v,e=.returned (.tuple #[.int .i64 (Yi6 intra coded (Yae s.data.toList) st).1,v])∧Ym1 w' w.heap.size v (Yi6 intra coded (Yae s.data.toList) st).2.1∧Yjk w' pb rb s (Yi6 intra coded (Yae s.data.toList) st).2.2∧Ybo rb pb w w'
theorem Yzh {N:Nat}{w:World}{pb rb:Nat}{s:ByteArray}{st:Stt}(intra coded:Bool)(ht:Ybi N w)(hr:Yjk w pb rb s st):
  Calls Tryz.prog 214 #[.pointer (some ⟨pb,0,none⟩),.bool intra,.bool coded] w (Ynv intra coded s pb rb st w):=by
 obtain⟨p,f⟩:=st;have c0:=Yab (o:=0) hr.1 rfl;have c1:=Yab (o:=1) hr.1 rfl;simp only at c0 c1;unfold Ynv;by_cases hf:f=0
 ·subst hf;have hk:=Y8f w rb s p intra coded ht.tcoef hr.2.1;unfold Y7p at hk;rw[Yzf];generalize btk (Yae s.data.toList) p intra coded=z at hk ⊢;obtain⟨d,L,q,f⟩:=z;simp only at hk ⊢;have HR:=Lib.hid hr;clear hr ht
  go_enter Tryz.func214,Tryz.ntmps214
  go_wp2_with fail
  refine hk.mono ?_;rintro e w1 ⟨d1,L1,f1,t1,m,a,cap,heq,rfl,hm,hev,hr1,hg1,hfm⟩;simp only[Prod.mk.injEq] at heq;obtain⟨rfl,rfl,rfl,rfl⟩:=heq;have h0:=(hg1.block pb HR.out.lt (by have:=HR.out.2.2;simp;omega)).trans HR.out.1;have hfr:=Yaj (o:=1) h0;have hd0:=Yab (o:=1) h0 rfl;have ST:=Lib.hid (HR.out.store (f:=f) hr1 hg1)
  have SL:=Lib.hid ((show Ym1 w1 w.heap.size (.slice a L.length cap) L from⟨a,cap,rfl,hev,hfm⟩).moved (Ybo.set (a:=pb) (b:=pb) (p:=⟨pb,1,none⟩) (.int .i64 f) (.inl rfl)) HR.out.lt HR.out.lt);rw[hm] at SL;clear hr1 hg1 h0 hk c0 c1 hev hfm
  go_wp2
  go_ret2
  exact⟨_,rfl,SL.out,ST.out⟩
 ·rw[Y14 hf];have t0:(f != 0)=true:=by simpa using hf
  clear ht
  go_enter Tryz.func214,Tryz.ntmps214
  go_wp2
  go_ret2
  exact⟨_,rfl,Ym1.nil _ _,hr,Ybo.refl _ _ _⟩
theorem Ybo.onto {a b N:Nat}{w x y:World}(h:Ybo a b w x)(hb:Below N x y)(hN:w.heap.size≤N):Ybo a b w y:=
 ⟨hb.os.trans h.os,hb.tape.trans h.tape,hb.output.trans h.output,Nat.le_trans h.size hb.size,fun k hk h1 h2=>(hb.block k (by omega)).trans (h.block k hk h1 h2)⟩
theorem Ye2 {w x:World}{R:Nat}(h:w.grownBy x (some R))(hR:R<w.heap.size):Below R w x:=
 ⟨h.os,h.tape,h.output,h.size,fun k hk=>h.block k (by omega) (by simp;omega)⟩
theorem Yjk.wrong {w:World}{pb rb:Nat}{s:ByteArray}{st:Stt}(f:Int)(h:Yjk w pb rb s st):
  Yjk (w.setCell ⟨pb,1,none⟩ (.int .i64 f)) pb rb s (st.1,f)∧Ybo rb pb w (w.setCell ⟨pb,1,none⟩ (.int .i64 f)):=
 h.store h.2.1 ⟨rfl,rfl,rfl,Nat.le_refl _,fun _ _ _=>rfl⟩
theorem Ykh (c:Cel)(sl:Nat→Value):(Tryz.prog.info? 77).map (·.size)=some (Ybe c sl).toArray.size:=by kernel_rfl
theorem Yn7 (c:Cel)(sl:Nat→Value)(h:∀i,i<6→(sl i).oneCell'=true):(Ybe c sl).toArray.all (·.oneCell')=true:=by
 rw[Array.all_eq_true_iff_forall_mem];intro v hv;have hm:v∈Ybe c sl:=by simpa using hv
 simp only[Ybe,List.mem_cons,List.not_mem_nil,or_false] at hm;rcases hm with rfl|rfl|rfl|rfl|rfl|rfl|rfl|rfl|rfl|rfl|rfl|rfl|rfl|rfl|rfl|rfl|rfl|rfl
 all_goals first|rfl|exact h _ (by omega)
def Y7r (inter:Bool)(s:ByteArray)(pb rb:Nat)(st:Stt)(w:World)(e:Ending)(w':World):Prop:=
 ∃(n:Nat) (sk:Bool) (k c:Int) (st':Stt),Yen inter (Yae s.data.toList) 65 0 st=(n,sk,k,c,st')∧e=.returned (.tuple #[.agg (Ybe {Ymj with stuff:=n,skip:=sk,kind:=k} nilS).toArray,.int .i64 c])∧Yjk w' pb rb s st'∧Ybo rb pb w w'
set_option maxRecDepth 100000 in
set_option maxHeartbeats 2000000 in
theorem Y36 {w:World}{pb rb:Nat}{s:ByteArray}{st:Stt}(inter:Bool)(hr:Yjk w pb rb s st):
  Calls Tryz.prog 209 #[.pointer (some ⟨pb,0,none⟩),.bool inter] w (Y7r inter s pb rb st w):=by
 obtain⟨R,hR⟩:∃R,w.heap.size=R:=⟨_,rfl⟩;obtain⟨wA,hwA⟩:∃x,w.alloc (.cells #[.int .i64 0,.bool false,.int .i64 0,.int .i64 0,.int .i64 0,.int .i64 0,.int .i64 0,.int .i64 0,.int .i64 0,.int .i64 0,.int .i64 0,.int .i64 0,.slice none 0 0,.slice none 0 0,.slice none 0 0,.slice none 0 0,.slice none 0 0,.slice none 0 0] 77 (0,0))=x:=⟨_,rfl⟩
 have hbA:Below R w wA:=by rw[←hwA,←hR];exact(Below.refl _ w).alloc (Nat.le_refl _) _
 have hzA:wA.heap.size=R+1:=by rw[←hwA,←hR];simp
 have hA:wA.heap[R]? =some (.cells #[.int .i64 0,.bool false,.int .i64 0,.int .i64 0,.int .i64 0,.int .i64 0,.int .i64 0,.int .i64 0,.int .i64 0,.int .i64 0,.int .i64 0,.int .i64 0,.slice none 0 0,.slice none 0 0,.slice none 0 0,.slice none 0 0,.slice none 0 0,.slice none 0 0] 77 (0,0)):=by rw[←hwA,←hR];exact heap_alloc_new w _
 obtain⟨Y,hY⟩:∃Y:Array Value,#[.int .i64 0,.bool false,.int .i64 0,.int .i64 0,.int .i64 0,.int .i64 0,.int .i64 0,.int .i64 0,.int .i64 0,.int .i64 0,.int .i64 0,.int .i64 0,.slice none 0 0,.slice none 0 0,.slice none 0 0,.slice none 0 0,.slice none 0 0,.slice none 0 0]=Y:=⟨_,rfl⟩;have hYs:Y.size=18:=by rw[←hY];rfl
 rw[hY] at hA;clear hY;have HYS:∀(n k:Int) (sk:Bool),Y.size=((#[.int .i64 n,.bool sk,.int .i64 k,.int .i64 0,.int .i64 0,.int .i64 0,.int .i64 0,.int .i64 0,.int .i64 0,.int .i64 0,.int .i64 0,.int .i64 0,.slice none 0 0,.slice none 0 0,.slice none 0 0,.slice none 0 0,.slice none 0 0,.slice none 0 0]:Array Value)).size:=fun _ _ _=>hYs
 have HSZ:∀(n k:Int) (sk:Bool),(Tryz.prog.info? 77).map (·.size)=some ((#[.int .i64 n,.bool sk,.int .i64 k,.int .i64 0,.int .i64 0,.int .i64 0,.int .i64 0,.int .i64 0,.int .i64 0,.int .i64 0,.int .i64 0,.int .i64 0,.slice none 0 0,.slice none 0 0,.slice none 0 0,.slice none 0 0,.slice none 0 0,.slice none 0 0]:Array Value)).size:=fun n k sk=>Ykh {Ymj with stuff:=n,skip:=sk,kind:=k} nilS
 have HONE:∀(n k:Int) (sk:Bool),((#[.int .i64 n,.bool sk,.int .i64 k,.int .i64 0,.int .i64 0,.int .i64 0,.int .i64 0,.int .i64 0,.int .i64 0,.int .i64 0,.int .i64 0,.int .i64 0,.slice none 0 0,.slice none 0 0,.slice none 0 0,.slice none 0 0,.slice none 0 0,.slice none 0 0]:Array Value)).all (·.oneCell')=true:=fun n k sk=>Yn7 {Ymj with stuff:=n,skip:=sk,kind:=k} nilS fun _ _=>rfl
 have hpb:pb<R:=hR▸hr.lt;have hrb:rb<pb:=hr.2.2;have hrA:Yjk wA pb rb s st:=hr.under hbA hpb;have hmA:Ybo rb pb w wA:=(Ybo.refl rb pb w).onto hbA (by omega);have HWA:=Lib.hid hwA;have HR:=Lib.hid hR;have HY:=Lib.hid HYS;clear hwA hR hYs hbA hr
 go_enter Tryz.func209,Tryz.ntmps209
 go_wp2
 rw[HWA.out,HR.out]
 go_loopw [9] (fun z wr=>∃(i:Nat) (st':Stt),i≤65∧z=.int .i64 i∧Yjk wr pb rb s st'∧Hid (Yen inter (Yae s.data.toList) 65 0 st=Yen inter (Yae s.data.toList) (65-i) i st')∧Ybo rb pb w wr∧wr.heap[R]? =some (.cells Y 77 (0,0))∧R<wr.heap.size) (fun z _=>65-(intOf z).toNat)
 case atStart=>exact⟨0,st,by omega,rfl,hrA,Lib.hid rfl,hmA,hA,by omega⟩
 case round=>
  clear hrA hmA hA hzA;obtain⟨i,st1,hi,rfl,hr1,hs,hm1,hA1,hz1⟩:=hrel;by_cases hlt:i<65
  ·have t0:decide ((i:Int)<65)=true:=by simp;omega
   obtain⟨j,hj⟩:∃j,65-i=j+1:=⟨64-i,by omega⟩;have hs':=hs.out;rw[hj] at hs';have hj2:j=65-(i+1):=by omega
   have HJ:=Lib.hid hj2;clear hj hj2 hs;cases inter with
   |true=>
    have cb:=Qem hr1;unfold Yd0 at cb;generalize hnum:Ygo Yqn (Yae s.data.toList) st1=z at cb;obtain⟨v,st2⟩:=z;simp only at cb;have HNUM:=Lib.hid hnum;clear hnum;by_cases hv:v=1
    ·have F:=Lib.hid (show Yen true (Yae s.data.toList) 65 0 st=(i,true,0,0,st2) by rw[hs'];exact Yn4 rfl HNUM.out hv);subst hv;clear hs'
     go_wp2_with fail
     refine cb.mono ?_;rintro e w2 ⟨rfl,hr2,hm⟩;have hA2:=(hm.block R hz1 (by omega) (by omega)).trans hA1;have hz2:=Nat.lt_of_lt_of_le hz1 hm.size;have hm2:=hm1.trans hm;clear cb hm hr1 hm1 hA1 hz1
     go_wp2_with (with_reducible refine Yak rfl 77 _ _ rfl R _ Y rfl rfl 77 hA2 (HSZ _ _ _) (HY.out _ _ _) (HONE _ _ _) ?_;intro w5 hh5 hg5)
     have hb5:=Ye2 hg5 hz2;refine bodyPost_ret (Yao rfl _ _ R 77 _ (0,0) _ rfl hh5 Tryz.underlying77 rfl (by kernel_rfl)) rfl ?_;exact⟨i,true,0,0,st2,F.out,rfl,hr2.under hb5 hpb,hm2.onto hb5 (Nat.le_of_eq HR.out)⟩
    ·have g1:(v==1)=false:=by simpa using hv
     have HV:=Lib.hid hv;clear hv
     go_wp2_with fail
     refine cb.mono ?_;rintro e w3 ⟨rfl,hr2,hm⟩;have hA2:=(hm.block R hz1 (by omega) (by omega)).trans hA1;have hz2:=Nat.lt_of_lt_of_le hz1 hm.size;have hm2:=hm1.trans hm;clear cb hm hr1 hm1 hA1 hz1;have ck:=Yri true hr2;unfold Ync at ck;generalize hkin:Ym5 true (Yae s.data.toList) st2=z at ck;obtain⟨a,c,st3⟩:=z;simp only at ck;have HKIN:=Lib.hid hkin;clear hkin;by_cases ha5:a=5
     ·subst ha5;have F:=Lib.hid (show Yen true (Yae s.data.toList) 65 0 st=Yen true (Yae s.data.toList) j (i+1) st3 by rw[hs'];exact(Yke HNUM.out HV.out HKIN.out).trans (if_pos rfl));clear hs'
      go_wp2_with fail
      refine ck.mono ?_;rintro e w2 ⟨rfl,hr3,hm⟩;have hA3:=(hm.block R hz2 (by omega) (by omega)).trans hA2;have hz3:=Nat.lt_of_lt_of_le hz2 hm.size;have hm3:=hm2.trans hm;clear ck hm hr2 hm2 hA2 hz2
      go_wp2
      go_roundw
      case rel=>exact⟨i+1,st3,by omega,by go_num,hr3,Lib.hid (by rw[F.out,HJ.out]),hm3,hA3,hz3⟩
      case measure=>simp[intOf];omega
     ·have g5:(a != 5)=true:=by simpa using ha5
      have F:=Lib.hid (show Yen true (Yae s.data.toList) 65 0 st=(i,false,a,c,st3) by rw[hs'];exact(Yke HNUM.out HV.out HKIN.out).trans (if_neg ha5));clear hs' ha5
      go_wp2_with fail
      refine ck.mono ?_;rintro e w2 ⟨rfl,hr3,hm⟩;have hA3:=(hm.block R hz2 (by omega) (by omega)).trans hA2;have hz3:=Nat.lt_of_lt_of_le hz2 hm.size;have hm3:=hm2.trans hm;clear ck hm hr2 hm2 hA2 hz2
      go_wp2_with (with_reducible refine Yak rfl 77 _ _ rfl R _ Y rfl rfl 77 hA3 (HSZ _ _ _) (HY.out _ _ _) (HONE _ _ _) ?_;intro w5 hh5 hg5)
      have hb5:=Ye2 hg5 hz3;refine bodyPost_ret (Yao rfl _ _ R 77 _ (0,0) _ rfl hh5 Tryz.underlying77 rfl (by kernel_rfl)) rfl ?_;exact⟨i,false,a,c,st3,F.out,rfl,hr3.under hb5 hpb,hm3.onto hb5 (Nat.le_of_eq HR.out)⟩
   |false=>
    have ck:=Yri false hr1;unfold Ync at ck;generalize hkin:Ym5 false (Yae s.data.toList) st1=z at ck;obtain⟨a,c,st2⟩:=z;simp only at ck;have HKIN:=Lib.hid hkin;clear hkin;by_cases ha5:a=5
    ·subst ha5;have F:=Lib.hid (show Yen false (Yae s.data.toList) 65 0 st=Yen false (Yae s.data.toList) j (i+1) st2 by rw[hs'];exact(Ykf HKIN.out).trans (if_pos rfl));clear hs'
     go_wp2_with fail
     refine ck.mono ?_;rintro e w2 ⟨rfl,hr2,hm⟩;have hA2:=(hm.block R hz1 (by omega) (by omega)).trans hA1;have hz2:=Nat.lt_of_lt_of_le hz1 hm.size;have hm2:=hm1.trans hm;clear ck hm hr1 hm1 hA1 hz1
     go_wp2
     go_roundw
     case rel=>exact⟨i+1,st2,by omega,by go_num,hr2,Lib.hid (by rw[F.out,HJ.out]),hm2,hA2,hz2⟩
     case measure=>simp[intOf];omega
    ·have g5:(a != 5)=true:=by simpa using ha5
     have F:=Lib.hid (show Yen false (Yae s.data.toList) 65 0 st=(i,false,a,c,st2) by rw[hs'];exact(Ykf HKIN.out).trans (if_neg ha5));clear hs' ha5
     go_wp2_with fail
     refine ck.mono ?_;rintro e w2 ⟨rfl,hr2,hm⟩;have hA2:=(hm.block R hz1 (by omega) (by omega)).trans hA1;have hz2:=Nat.lt_of_lt_of_le hz1 hm.size;have hm2:=hm1.trans hm;clear ck hm hr1 hm1 hA1 hz1
     go_wp2_with (with_reducible refine Yak rfl 77 _ _ rfl R _ Y rfl rfl 77 hA2 (HSZ _ _ _) (HY.out _ _ _) (HONE _ _ _) ?_;intro w5 hh5 hg5)
     have hb5:=Ye2 hg5 hz2;refine bodyPost_ret (Yao rfl _ _ R 77 _ (0,0) _ rfl hh5 Tryz.underlying77 rfl (by kernel_rfl)) rfl ?_;exact⟨i,false,a,c,st2,F.out,rfl,hr2.under hb5 hpb,hm2.onto hb5 (Nat.le_of_eq HR.out)⟩
  ·obtain rfl:i=65:=by omega
   have t0:decide ((65:Int)<65)=false:=by simp
   have F:=Lib.hid (show Yen inter (Yae s.data.toList) 65 0 st=(0,false,0,0,st1.1,13) by rw[hs.out];rfl);obtain⟨hr2,hm⟩:=hr1.wrong 13;have hA2:=(hm.block R hz1 (by omega) (by omega)).trans hA1;have hz2:=Nat.lt_of_lt_of_le hz1 hm.size;have hm2:=hm1.trans hm;have c1:=Yab (o:=1) hr1.1 rfl;have hfr:=Yaj (o:=1) hr1.1;clear hs hm hr1 hm1 hA1 hz1
   go_wp2_with (with_reducible refine Yak rfl 77 _ _ rfl R _ Y rfl rfl 77 hA2 (HSZ _ _ _) (HY.out _ _ _) (HONE _ _ _) ?_;intro w5 hh5 hg5)
   have hb5:=Ye2 hg5 hz2;refine bodyPost_ret (Yao rfl _ _ R 77 _ (0,0) _ rfl hh5 Tryz.underlying77 rfl (by kernel_rfl)) rfl ?_;exact⟨0,false,0,0,_,F.out,rfl,hr2.under hb5 hpb,hm2.onto hb5 (Nat.le_of_eq HR.out)⟩
def Qeq (D:Cel)(i:Nat):Cel:={D with dc:=fun j=>if j<i then D.dc j else 0}
theorem Y88 (D:Cel)(i:Nat):{Qeq D i with dc:=Y29 (Qeq D i).dc i (D.dc i)}=Qeq D (i+1):=by
 have h:Y29 (Qeq D i).dc i (D.dc i)=(Qeq D (i+1)).dc:=by
  funext j
  show (if j=i then D.dc i else if j<i then D.dc j else 0)=if j<i+1 then D.dc j else 0
  by_cases e:j=i
  ·rw[if_pos e,if_pos (by omega),e]
  ·rw[if_neg e];by_cases h:j<i
   ·rw[if_pos h,if_pos (by omega)]
   ·rw[if_neg h,if_neg (by omega)]
 rw[h]
 rfl
theorem Yzj (c:Cel)(sl:Nat→Value)(v:Int):∀i,i<6→(Ybe c sl).set (6+i) (.int .i64 v)=Ybe {c with dc:=Y29 c.dc i v} sl
 |0,_=>rfl
 |1,_=>rfl
 |2,_=>rfl
 |3,_=>rfl
 |4,_=>rfl
 |5,_=>rfl
def Qgp (sl:Nat→Value)(i:Nat)(v:Value):Nat→Value:=fun j=>if j=i then v else sl j
theorem Yzk (c:Cel)(sl:Nat→Value)(v:Value):∀i,i<6→(Ybe c sl).set (12+i) v=Ybe c (Qgp sl i v)
 |0,_=>rfl
 |1,_=>rfl
 |2,_=>rfl
 |3,_=>rfl
 |4,_=>rfl
 |5,_=>rfl
theorem Qeg {c:Cel}{f:Nat→Int}{sl:Nat→Value}(h:∀i,i<6→c.dc i=f i):Ybe c sl=Ybe {c with dc:=f} sl:=by
 unfold Ybe;rw[h 0 (by omega),h 1 (by omega),h 2 (by omega),h 3 (by omega),h 4 (by omega),h 5 (by omega)]
theorem Qer (D:Cel)(sl:Nat→Value):Ybe (Qeq D 6) sl=Ybe D sl:=Qeg (c:=Qeq D 6) (f:=D.dc) fun _ hi=>if_pos hi
theorem Y16 (w:World):(zeroValue 77).run Tryz.prog w=.ok (.agg (Ybe Ymj nilS).toArray) w:=by
 have h:(Tryz.prog.info? 77).map (fun i=>i.zero)=some (some (.agg (Ybe Ymj nilS).toArray)):=by kernel_rfl
 generalize (Ybe Ymj nilS).toArray=Z at h ⊢;cases hq:Tryz.prog.info? 77 with
 |none=>simp[hq] at h
 |some i=>
  simp[hq] at h;simp[zeroValue,typeInfo,hq,h]
def Qhe (S:List UInt8)(x y:Int)(st:Stt):Nat→Int×Int×Stt
 |0=>(0,0,st)
 |1=>((Yjf S x st).1,0,(Yjf S x st).2)
 |_=>((Yjf S x st).1,(Yjf S y (Yjf S x st).2).1,(Yjf S y (Yjf S x st).2).2)
theorem Qj6 {S:List UInt8}{k x y:Int}{st:Stt}(h:Yas k=false):Yy2 S k x y st=Qhe S x y st 2:=by
 unfold Yy2;rw[h]
 rfl
structure Yvc (w wr:World) (pb rb A R C:Nat) (s:ByteArray) (x y:Int) (Y:Array Value) (st:Stt) (c:Cel) (sl:Nat→Value):Prop where
 rd:Yjk wr pb rb s st
 mv:Ybo rb pb w wr
 two:wr.heap[A]? =some (.cells #[.int .i64 x,.int .i64 y] 73 (0,0))
 res:wr.heap[R]? =some (.cells Y 77 (0,0))
 cel:wr.heap[C]? =some (.cells (Ybe c sl).toArray 77 (0,0))
 lt:rb<pb∧pb<A∧A<R∧R<C∧C<wr.heap.size∧w.heap.size≤A
section
variable {w wr z:World}{pb rb A R C:Nat}{s:ByteArray}{x y:Int}{Y:Array Value}{st st':Stt}{c c':Cel}{sl sl':Nat→Value}
theorem Yvc.move (h:Yvc w wr pb rb A R C s x y Y st c sl)(hr:Yjk z pb rb s st')(hm:Ybo rb pb wr z):Yvc w z pb rb A R C s x y Y st' c sl:=by
 obtain⟨l1,l2,l3,l4,l5,l6⟩:=h.lt;exact⟨hr,h.mv.trans hm,(hm.block A (by omega) (by omega) (by omega)).trans h.two,(hm.block R (by omega) (by omega) (by omega)).trans h.res,(hm.block C l5 (by omega) (by omega)).trans h.cel,l1,l2,l3,l4,Nat.lt_of_lt_of_le l5 hm.size,l6⟩
theorem Yvc.set (h:Yvc w wr pb rb A R C s x y Y st c sl)(o:Nat)(v:Value)(hs:(Ybe c sl).set o v=Ybe c' sl'):Yvc w (wr.setCell ⟨C,o,none⟩ v) pb rb A R C s x y Y st c' sl':=by
 obtain⟨l1,l2,l3,l4,l5,l6⟩:=h.lt;have hb:Below C wr (wr.setCell ⟨C,o,none⟩ v):=⟨rfl,rfl,rfl,by simp[World.setCell],fun k hk=>Below.heap_setCell _ _ _ _ (by simp;omega)⟩;refine⟨h.rd.under hb (by omega),h.mv.onto hb (by omega),(hb.block A (by omega)).trans h.two,(hb.block R l4).trans h.res,?_,l1,l2,l3,l4,Nat.lt_of_lt_of_le l5 hb.size,l6⟩;rw[←hs];exact Yau (o:=o) v h.cel
theorem Yvc.same (h:Yvc w wr pb rb A R C s x y Y st c sl)(he:Ybe c sl=Ybe c' sl'):Yvc w wr pb rb A R C s x y Y st c' sl':=
 ⟨h.rd,h.mv,h.two,h.res,he▸h.cel,h.lt⟩
end
theorem Qd7 (c k:Nat):(bits .and .i64 ((c:Int) / 2^k) 1==1)=(c / 2^k%2==1):=by
 have h:=Yg3 ((c:Int) / 2^k) 1 (by omega);have h2:((2:Int)^1-1)=1:=rfl;rw[h2] at h;rw[h];rw[Bool.eq_iff_iff,beq_iff_eq,beq_iff_eq];have h3:((c:Int) / 2^k)=((c / 2^k:Nat):Int):=by simp
 rw[h3];omega
def Y3z (inter:Bool)(s:ByteArray)(pb rb:Nat)(x y:Int)(st:Stt)(w:World)(e:Ending)(w':World):Prop:=
 ∃(c:Cel) (st':Stt) (sl:Nat→Value),Yyz inter (Yae s.data.toList) x y st=(c,st')∧e=.returned (.agg (Ybe c sl).toArray)∧(∀i,i<6→Ym1 w' w.heap.size (sl i) (c.ev i))∧Yjk w' pb rb s st'∧Ybo rb pb w w'
set_option maxRecDepth 100000 in
set_option maxHeartbeats 4000000 in
theorem Y8q {N:Nat}{w:World}{pb rb:Nat}{s:ByteArray}{st:Stt}(inter:Bool)(x y:Int)(ht:Ybi N w)(hN:N≤rb)(hr:Yjk w pb rb s st):
  Calls Tryz.prog 193 #[.pointer (some ⟨pb,0,none⟩),.bool inter,.agg #[.int .i64 x,.int .i64 y]] w (Y3z inter s pb rb x y st w):=by
 obtain⟨Y,hY⟩:∃Y:Array Value,(Ybe Ymj nilS).toArray=Y:=⟨_,rfl⟩;have hzv:∀w,(zeroValue 77).run Tryz.prog w=.ok (.agg Y) w:=by rw[←hY];exact Y16
 obtain⟨A,wA,wB,hA,hwA,hwB,hzA,hzB,hC0,hC1,hbB⟩:=Y0j w (.cells #[.int .i64 x,.int .i64 y] 73 (0,0)) (.cells Y 77 (0,0));have hpA:pb<A:=hA▸hr.lt;have hrp:rb<pb:=hr.2.2;have hrB:Yjk wB pb rb s st:=hr.under hbB hpA;have hmB:Ybo rb pb w wB:=(Ybo.refl rb pb w).onto hbB (Nat.le_of_eq hA);have htx:∀z,Ybo rb pb w z→Ybi N z:=fun z hz=>ht.below (hz.under (by have:=hr.lt;omega) hN (by omega))
 have cb:=Y36 inter hrB;have HY:=Lib.hid hY;have HA:=Lib.hid hA;have HWA:=Lib.hid hwA;have HWB:=Lib.hid hwB;have HT:=Lib.hid htx;clear hY hA hwA hwB htx ht hr
 go_enter Tryz.func193,Tryz.ntmps193
 go_wp2_with fail
 rw[HWA.out,HA.out,HWB.out];refine cb.mono ?_;rintro e w1 ⟨n,sk,k,ch,st1,hbeg,rfl,hr1,hm1⟩;obtain⟨Z,hZ⟩:∃Z,(Ybe {Ymj with stuff:=n,skip:=sk,kind:=k} nilS).toArray=Z:=⟨_,rfl⟩;rw[hZ];obtain⟨C,hC⟩:∃C,w1.heap.size=C:=⟨_,rfl⟩;obtain⟨w2,hw2⟩:∃z,w1.alloc (.cells Z 77 (0,0))=z:=⟨_,rfl⟩;have AT:Yvc w w2 pb rb A (A+1) C s x y Y st1 {Ymj with stuff:=n,skip:=sk,kind:=k} nilS:=by
  have hb2:Below C w1 w2:=by rw[←hw2,←hC];exact(Below.refl _ w1).alloc (Nat.le_refl _) _
  have hz1:=hm1.size;refine⟨hr1.under hb2 (by omega),(hmB.trans hm1).onto hb2 (by have:=HA.out;omega),?_,?_,?_,hrp,hpA,by omega,by omega,by rw[←hw2,←hC];simp,Nat.le_of_eq HA.out⟩
  ·exact(hb2.block A (by omega)).trans ((hm1.block A (by omega) (by omega) (by omega)).trans hC0)
  ·exact(hb2.block (A+1) (by omega)).trans ((hm1.block (A+1) (by omega) (by omega) (by omega)).trans hC1)
  ·rw[hZ,←hw2,←hC];exact heap_alloc_new w1 _
 have HSZ:(Tryz.prog.info? 77).map (·.size)=some Z.size:=hZ▸Ykh _ _;have HYZ:Y.size=Z.size:=by rw[←hZ,←HY.out];rfl
 have HONE:Z.all (·.oneCell')=true:=hZ▸Yn7 _ _ fun _ _=>rfl;have HZ:=Lib.hid hZ;have HC:=Lib.hid hC;have HW2:=Lib.hid hw2;have HBEG:=Lib.hid hbeg;have HAT:=Lib.hid AT;clear hZ hC hw2 hbeg AT hr1 hm1 hrB hmB hbB hC0 hC1 hzA hzB cb;have hcel:=HAT.out.cel;rw[HZ.out] at hcel;have hres:=HAT.out.res;have hC:=HAT.out.lt;have BIN:=Y8a _ _ _ _ _ _ _ _ _ _ HBEG.out;cases sk with
 |true=>
  have c1:w2.cell? ⟨C,1,none⟩=some (.bool true):=Yab (o:=1) HAT.out.cel rfl;obtain rfl:0=k:=(BIN.2.2.2.2.2.2 rfl).symm;clear BIN
  go_wp2_with (first|(with_reducible refine Yam rfl 77 _ _ rfl Z Y 77 rfl rfl HSZ HYZ HONE ?_;rw[HW2.out,HC.out])|(with_reducible refine wpList_load_row rfl 77 _ rfl C rfl 77 Z (0,0) _ hcel Tryz.underlying77 rfl HSZ ?_)|(with_reducible refine Yak rfl 77 _ _ rfl (A+1) Z Y rfl rfl 77 hres HSZ HYZ HONE ?_;intro w5 hh5 hg5))
  have hb5:=Ye2 hg5 (by omega);refine bodyPost_ret (results_cell_row rfl _ _ (A+1) 77 _ (0,0) _ rfl hh5 Tryz.underlying77 rfl HSZ) rfl ?_;exact⟨_,st1,nilS,Ytk HBEG.out,by rw[←HZ.out];rfl,fun i hi=>Ym1.nil _ _,HAT.out.rd.under hb5 (by omega),HAT.out.mv.onto hb5 (by omega)⟩
 |false=>
  obtain⟨b0,b1,b2,b3,b4,b5,_⟩:=BIN;obtain⟨a,rfl⟩:∃a:Nat,ch=(a:Int):=⟨ch.toNat,by omega⟩;have c1:w2.cell? ⟨C,1,none⟩=some (.bool false):=Yab (o:=1) HAT.out.cel rfl;have c2:w2.cell? ⟨C,2,none⟩=some (.int .i64 k):=Yab (o:=2) HAT.out.cel rfl;have HKK:Hid (k=0∨k=1∨k=3∨k=4):=Lib.hid (by omega);obtain⟨ik,hik⟩:∃ik,Yas k=ik:=⟨_,rfl⟩;have pin:=Qkz ik (Yae s.data.toList) st1
  have cp:=Y85 ik (HT.out _ HAT.out.mv) HAT.out.rd;unfold Yd0 at cp;generalize hpt:Ygo (ptk ik) (Yae s.data.toList) st1=z at cp pin;obtain⟨pt,s2⟩:=z;simp only at cp pin;obtain⟨b,rfl⟩:∃b:Nat,pt=(b:Int):=⟨pt.toNat,by omega⟩;have HPT:Hid (Ygo (ptk (Yas k)) (Yae s.data.toList) st1=((b:Int),s2)):=Lib.hid (by rw[hik];exact hpt);obtain⟨cd,hcd⟩:∃cd,4*b+a=cd:=⟨_,rfl⟩;have hcl:cd≤63:=by omega
  have hb15:(b:Int)≤15:=by omega
  have ho:bits .or .i64 ((b:Int)*4) (a:Int)=(cd:Int):=(Yxg b 4 a 2 rfl (by omega) (by omega)).trans (by rw[hcd]);have HCD:=Lib.hid hcd;have HIK:=Lib.hid hik;clear hcd hpt hik b1 b2 b3
  go_upto_region 4 with (with_reducible refine Yam rfl 77 _ _ rfl Z Y 77 rfl rfl HSZ HYZ HONE ?_;rw[HW2.out,HC.out])
  go_cut [9] (fun v wx=>v=.bool ik∧wx=w2)
  case first=>
   obtain rfl|rfl|rfl|rfl:=HKK.out
   all_goals
    go_wp2
    go_meet
    case rel=>exact⟨by rw[←HIK.out];rfl,by trivial⟩
  case rest=>
   obtain⟨rfl,hwc⟩:=hcut;rw[hwc];clear hwc
   go_wp2_with fail
   refine cp.mono ?_;rintro e w3 ⟨rfl,hr3,hm3⟩;have AT3:=HAT.out.move hr3 hm3;have d2:w3.cell? ⟨C,2,none⟩=some (.int .i64 k):=Yab (o:=2) AT3.cel rfl;have HAT3:=Lib.hid AT3;clear cp pin hr3 hm3 HAT hcel hres c1 c2 HSZ HYZ HONE AT3
   go_upto_region 6 with fail
   go_cut [43] (fun v wx=>v=.bool (Y6x k)∧wx=w3)
   case first=>
    obtain rfl|rfl|rfl|rfl:=HKK.out
    all_goals
     go_wp2
     go_meet
     case rel=>exact⟨by rfl,by trivial⟩
   case rest=>
   obtain⟨rfl,hwc⟩:=hcut;rw[hwc];clear hwc d2;obtain⟨sk,hsk⟩:∃sk,Y6x k=sk:=⟨_,rfl⟩;have HS:=Lib.hid hsk;rw[hsk];clear hsk
   go_upto_if 43 with fail
   go_cut [45] (fun v wx=>∃(sp:Int) (s3:Stt),Y3g (Yae s.data.toList) k s2=(sp,s3)∧Yvc w wx pb rb A (A+1) C s x y Y s3 {Ymj with stuff:=n,skip:=false,kind:=k,step:=sp,mx:=0,my:=0} nilS)
   case first=>
    cases sk with
    |false=>
     go_wp2
     go_meet
     case rel=>exact⟨0,s2,by unfold Y3g;rw[HS.out];rfl,HAT3.out⟩
    |true=>
     have cs:=Y8z (HT.out _ HAT3.out.mv) hN HAT3.out.rd;unfold Yd0 at cs;generalize hsp:Ygo stk (Yae s.data.toList) s2=z at cs;obtain⟨sp,s3⟩:=z;simp only at cs;have HST:Hid (Y3g (Yae s.data.toList) k s2=(sp,s3)):=Lib.hid (by unfold Y3g;rw[HS.out];exact hsp);clear hsp
     go_wp2_with fail
     refine cs.mono ?_;rintro e w4 ⟨rfl,hr4,hm4⟩;have AT4:=HAT3.out.move hr4 hm4;have e3:=Yab (o:=3) AT4.cel rfl;have f3:=Yaj (o:=3) AT4.cel;have HAT5:=Lib.hid (AT4.set 3 (.int .i64 sp) (c':={Ymj with stuff:=n,skip:=false,kind:=k,step:=sp,mx:=0,my:=0}) (sl':=nilS) rfl);clear cs hr4 hm4 AT4
     go_wp2
     go_meet
     case rel=>exact⟨sp,s3,HST.out,HAT5.out⟩
   case rest=>
    obtain⟨sp,s3,hstp,AT5⟩:=hcut;obtain⟨wk,rfl⟩:∃z,z=wc:=⟨_,rfl⟩;have HSTP:=Lib.hid hstp;have HAT5:=Lib.hid AT5;clear hstp AT5 HAT3
    go_upto_if 48 with fail
    go_cut [49] (fun v wx=>∃(mx my:Int) (s4:Stt),Yy2 (Yae s.data.toList) k x y s3=(mx,my,s4)∧Yvc w wx pb rb A (A+1) C s x y Y s4 {Ymj with stuff:=n,skip:=false,kind:=k,step:=sp,mx:=mx,my:=my} nilS)
    case first=>
     cases ik with
     |true=>
      go_wp2
      go_meet
      case rel=>exact⟨0,0,s3,by unfold Yy2;rw[HIK.out];rfl,HAT5.out⟩
     |false=>
      go_wp2
      obtain⟨mx,s4,hmx⟩:∃mx s4,Yjf (Yae s.data.toList) x s3=(mx,s4):=⟨_,_,rfl⟩;have HMX:=Lib.hid hmx;have HV0:Hid (Qhe (Yae s.data.toList) x y s3 0=(0,0,s3)):=Lib.hid rfl;have HV1:Hid (Qhe (Yae s.data.toList) x y s3 1=(mx,0,s4)):=Lib.hid (congrArg (fun q=>(q.1,(0:Int),q.2)) hmx)
      have HV2:Hid (Qhe (Yae s.data.toList) x y s3 2=(mx,(Yjf (Yae s.data.toList) y s4).1,(Yjf (Yae s.data.toList) y s4).2)):=Lib.hid (by show ((Yjf (Yae s.data.toList) x s3).1,(Yjf (Yae s.data.toList) y (Yjf (Yae s.data.toList) x s3).2).1,(Yjf (Yae s.data.toList) y (Yjf (Yae s.data.toList) x s3).2).2)=_;rw[hmx]);clear hmx
      go_loopw [49] (fun z wr=>∃i:Nat,i≤2∧z=.int .i64 i∧Hid (Yvc w wr pb rb A (A+1) C s x y Y (Qhe (Yae s.data.toList) x y s3 i).2.2 {Ymj with stuff:=n,skip:=false,kind:=k,step:=sp,mx:=(Qhe (Yae s.data.toList) x y s3 i).1,my:=(Qhe (Yae s.data.toList) x y s3 i).2.1} nilS)) (fun z _=>2-(intOf z).toNat)
      case atStart=>exact⟨0,by omega,rfl,Lib.hid (by rw[HV0.out];exact HAT5.out)⟩
      case round=>
       clear HAT5;obtain⟨i,hi2,rfl,hat⟩:=hrel;obtain rfl|rfl|rfl:i=0∨i=1∨i=2:=by omega
       ·have AT2:Yvc w wr pb rb A (A+1) C s x y Y s3 {Ymj with stuff:=n,skip:=false,kind:=k,step:=sp,mx:=0,my:=0} nilS:=by have h:=hat.out;rw[HV0.out] at h;exact h
        have p0:wr.cell? ⟨A,0,none⟩=some (.int .i64 x):=Yab (cs:=[.int .i64 x,.int .i64 y]) AT2.two rfl;have cd2:=Yv4 (HT.out _ AT2.mv) AT2.rd;unfold Yd0 at cd2;have din:=Y9h (Yae s.data.toList) s3;have hon:Yjf (Yae s.data.toList) x s3=(Ycb (Ycb x+(Ygo dtk (Yae s.data.toList) s3).1),(Ygo dtk (Yae s.data.toList) s3).2):=rfl;generalize Ygo dtk (Yae s.data.toList) s3=z at cd2 din hon;obtain⟨dd,s6⟩:=z
        simp only at cd2 din hon;have wl:=Qdb x;have wh:=Qda x;have HON:=Lib.hid hon;have sw:IntKind.i64.wrap (Ycb x+dd)=Ycb x+dd:=IntWalk.i64_in _ (by omega);generalize hwp:Ycb x=p1 at HON sw wl wh;have cw:=Yg0 x;rw[hwp] at cw;have cw2:=Yg0 (p1+dd);generalize Ycb (p1+dd)=p2 at cw2 HON;clear hat hon hwp
        go_wp2_with fail
        refine(cw _).mono ?_;rintro e w6 ⟨rfl,rfl⟩
        go_wp2_with fail
        refine cd2.mono ?_;rintro e w6 ⟨rfl,hr6,hm6⟩;have AT6:=AT2.move hr6 hm6;have e4:=Yab (o:=4) AT6.cel rfl;have f4:=Yaj (o:=4) AT6.cel;have N7:=Lib.hid (AT6.set 4 (.int .i64 p2) (c':={Ymj with stuff:=n,skip:=false,kind:=k,step:=sp,mx:=p2,my:=0}) (sl':=nilS) rfl);clear AT6 hr6 hm6 cd2 AT2
        go_wp2_with fail
        refine(cw2 _).mono ?_;rintro e w8 ⟨rfl,rfl⟩
        go_wp2
        go_roundw
        case rel=>exact⟨1,by omega,by go_num,Lib.hid (by rw[show Qhe (Yae s.data.toList) x y s3 1=(p2,0,s6) from by rw[HV1.out];exact congrArg (fun q=>(q.1,(0:Int),q.2)) (HMX.out.symm.trans HON.out)];exact N7.out)⟩
        case measure=>simp[intOf]
       ·have AT2:Yvc w wr pb rb A (A+1) C s x y Y s4 {Ymj with stuff:=n,skip:=false,kind:=k,step:=sp,mx:=mx,my:=0} nilS:=by have h:=hat.out;rw[HV1.out] at h;exact h
        have p0:wr.cell? ⟨A,1,none⟩=some (.int .i64 y):=Yab (cs:=[.int .i64 x,.int .i64 y]) AT2.two rfl;have cd2:=Yv4 (HT.out _ AT2.mv) AT2.rd;unfold Yd0 at cd2;have din:=Y9h (Yae s.data.toList) s4;have hon:Yjf (Yae s.data.toList) y s4=(Ycb (Ycb y+(Ygo dtk (Yae s.data.toList) s4).1),(Ygo dtk (Yae s.data.toList) s4).2):=rfl;generalize Ygo dtk (Yae s.data.toList) s4=z at cd2 din hon;obtain⟨dd,s6⟩:=z
        simp only at cd2 din hon;have wl:=Qdb y;have wh:=Qda y;have HON:=Lib.hid hon;have sw:IntKind.i64.wrap (Ycb y+dd)=Ycb y+dd:=IntWalk.i64_in _ (by omega);generalize hwp:Ycb y=p1 at HON sw wl wh;have cw:=Yg0 y;rw[hwp] at cw;have cw2:=Yg0 (p1+dd);generalize Ycb (p1+dd)=p2 at cw2 HON;clear hat hon hwp
        go_wp2_with fail
        refine(cw _).mono ?_;rintro e w6 ⟨rfl,rfl⟩
        go_wp2_with fail
        refine cd2.mono ?_;rintro e w6 ⟨rfl,hr6,hm6⟩;have AT6:=AT2.move hr6 hm6;have e4:=Yab (o:=5) AT6.cel rfl;have f4:=Yaj (o:=5) AT6.cel;have N7:=Lib.hid (AT6.set 5 (.int .i64 p2) (c':={Ymj with stuff:=n,skip:=false,kind:=k,step:=sp,mx:=mx,my:=p2}) (sl':=nilS) rfl);clear AT6 hr6 hm6 cd2 AT2
        go_wp2_with fail
        refine(cw2 _).mono ?_;rintro e w8 ⟨rfl,rfl⟩
        go_wp2
        go_roundw
        case rel=>exact⟨2,by omega,by go_num,Lib.hid (by rw[show Qhe (Yae s.data.toList) x y s3 2=(mx,p2,s6) from HV2.out.trans (congrArg (fun q=>(mx,q.1,q.2)) HON.out)];exact N7.out)⟩
        case measure=>simp[intOf]
       ·have h:=hat.out;rw[HV2.out] at h;have HH:=Lib.hid h;have HVEC:Hid (Yy2 (Yae s.data.toList) k x y s3=(mx,(Yjf (Yae s.data.toList) y s4).1,(Yjf (Yae s.data.toList) y s4).2)):=Lib.hid (by rw[Qj6 (S:=(Yae s.data.toList)) (k:=k) (x:=x) (y:=y) (st:=s3) HIK.out,HV2.out]);clear h hat HV0 HV1 HV2 HMX;rw[show (Value.int .i64 ((2:Nat):Int))=.int .i64 2 from rfl]
        go_wp2
        go_meet
        case rel=>exact⟨_,_,_,HVEC.out,HH.out⟩
    case rest=>
     obtain⟨mx,my,s5,hvec,AT2⟩:=hcut;obtain⟨wo,rfl⟩:∃z,z=wc:=⟨_,rfl⟩;have hall:=Yzl (inter:=inter) (x:=x) (y:=y) HBEG.out HPT.out HSTP.out hvec;rw[show ((b:Int)).toNat=b from rfl,show ((a:Int)).toNat=a from rfl,HCD.out,HIK.out] at hall
     obtain⟨D,hD⟩:∃D:Cel,{stuff:=n,skip:=false,kind:=k,step:=sp,mx:=mx,my:=my,dc:=fun i=>(Yi6 ik (Yj3 cd i) (Yae s.data.toList) (stB ik cd (Yae s.data.toList) s5 i)).1,ev:=fun i=>(Yi6 ik (Yj3 cd i) (Yae s.data.toList) (stB ik cd (Yae s.data.toList) s5 i)).2.1}=D:=⟨_,rfl⟩;rw[hD] at hall
     have HDC:=Lib.hid (fun i=>(by rw[←hD]:D.dc i=(Yi6 ik (Yj3 cd i) (Yae s.data.toList) (stB ik cd (Yae s.data.toList) s5 i)).1));have HDE:=Lib.hid (fun i=>(by rw[←hD]:D.ev i=(Yi6 ik (Yj3 cd i) (Yae s.data.toList) (stB ik cd (Yae s.data.toList) s5 i)).2.1));have HATD:Hid (Yvc w wo pb rb A (A+1) C s x y Y (stB ik cd (Yae s.data.toList) s5 0) (Qeq D 0) nilS):=Lib.hid (Yvc.same AT2 (by rw[←hD];rfl))
     have HALL:=Lib.hid hall;clear hall hD AT2 hvec HAT5
     go_wp2
     go_loopw [64] (fun z wr=>∃i:Nat,i≤6∧z=.int .i64 i∧∃sl,Hid (Yvc w wr pb rb A (A+1) C s x y Y (stB ik cd (Yae s.data.toList) s5 i) (Qeq D i) sl∧(∀j,j<i→Ym1 wr (C+1) (sl j) (D.ev j))∧∀j,i≤j→sl j=.slice none 0 0)) (fun z _=>6-(intOf z).toNat)
     case atStart=>exact⟨0,by omega,rfl,nilS,Lib.hid ⟨HATD.out,fun j h=>absurd h (Nat.not_lt_zero j),fun _ _=>rfl⟩⟩
     case round=>
      clear HATD;obtain⟨i,hi6,rfl,sl,hat⟩:=hrel;by_cases hlt:i<6
      ·have t0:decide ((i:Int)<6)=true:=by simp;omega
       have cb:=Yzh ik (Yj3 cd i) (HT.out _ hat.out.1.mv) hat.out.1.rd;unfold Ynv at cb;have hst:(Yi6 ik (Yj3 cd i) (Yae s.data.toList) (stB ik cd (Yae s.data.toList) s5 i)).2.2=stB ik cd (Yae s.data.toList) s5 (i+1):=rfl;have hdv:=HDC.out i;have hev:=HDE.out i;generalize Yi6 ik (Yj3 cd i) (Yae s.data.toList) (stB ik cd (Yae s.data.toList) s5 i)=z at cb hst hdv hev;obtain⟨dv,L,s5⟩:=z
       simp only at cb hst hdv hev;subst hst;have HDV:=Lib.hid hdv;have HEV:=Lib.hid hev;have q1:IntKind.i64.wrap (5-(i:Int))=((5-i:Nat):Int):=(IntWalk.i64_in _ (by omega)).trans (by omega);have q2:=Qd7 cd (5-i);have q3:decide (((5-i:Nat):Int)<0)=false:=by simp
       clear hdv hev
       go_wp2_with fail
       refine cb.mono ?_;rintro e w6 ⟨v,rfl,hsl,hr6,hm6⟩;have AT6:=hat.out.1.move hr6 hm6;have hlt6:=AT6.lt;have hsz:=hat.out.1.lt;obtain⟨q,cap,rfl,hevs,hfr⟩:=hsl;have e6:=Yab (o:=6+i) AT6.cel (Y8l _ _ i hlt);have f6:=Yaj (o:=6+i) AT6.cel;have AT7:=AT6.set (6+i) (.int .i64 dv) (Yzj _ _ dv i hlt);rw[←HDV.out,Y88] at AT7;rw[HDV.out] at AT7;have e7:=Yab (o:=12+i) AT7.cel (Yzi _ _ i hlt)
       have f7:=Yaj (o:=12+i) AT7.cel;have AT8:=AT7.set (12+i) (.slice q L.length cap) (Yzk _ _ _ i hlt);have hm8:Ybo C C w6 ((w6.setCell ⟨C,6+i,none⟩ (.int .i64 dv)).setCell ⟨C,12+i,none⟩ (.slice q L.length cap)):=(Ybo.set (a:=C) (b:=C) (p:=⟨C,6+i,none⟩) _ (.inl rfl)).trans (Ybo.set (a:=C) (b:=C) (p:=⟨C,12+i,none⟩) _ (.inl rfl))
       have SL8:∀j,j<i+1→Ym1 ((w6.setCell ⟨C,6+i,none⟩ (.int .i64 dv)).setCell ⟨C,12+i,none⟩ (.slice q L.length cap)) (C+1) (Qgp sl i (.slice q L.length cap) j) (D.ev j):=by
        intro j hj;unfold Qgp;by_cases e:j=i
        ·rw[if_pos e,e,HEV.out];exact(show Ym1 w6 (C+1) _ _ from⟨q,cap,rfl,hevs,hfr.mono (by omega)⟩).moved hm8 (by omega) (by omega)
        ·rw[if_neg e];exact((hat.out.2.1 j (by omega)).moved hm6 (by omega) (by omega)).moved hm8 (by omega) (by omega)
       have NL8:∀j,i+1≤j→Qgp sl i (.slice q L.length cap) j=.slice none 0 0:=fun j hj=>(if_neg (by omega)).trans (hat.out.2.2 j (by omega));have N8:=Lib.hid (And.intro AT8 (And.intro SL8 NL8));obtain⟨m,hm⟩:∃m,L.length=m:=⟨_,rfl⟩;rw[hat.out.2.2 i (Nat.le_refl i)] at e7;rw[hm] at N8 ⊢;clear cb hat hr6 hm6 AT6 AT7 AT8 hm8 SL8 NL8 hevs hfr hm
       go_wp2
       go_roundw
       case rel=>exact⟨i+1,by omega,by go_num,_,N8⟩
       case measure=>simp[intOf];omega
      ·obtain rfl:i=6:=by omega
       have t0:decide ((6:Int)<6)=false:=by simp
       have hc6:=hat.out.1.cel;rw[Qer] at hc6;have hl6:=hat.out.1.lt;have hr6:=hat.out.1.res;have one6:=Yn7 D sl fun j hj=>(hat.out.2.1 j hj).one;have siz6:=Ykh D sl;have syz6:Y.size=(Ybe D sl).toArray.size:=by rw[←HY.out];rfl
       obtain⟨V,hV⟩:∃V,(Ybe D sl).toArray=V:=⟨_,rfl⟩;rw[hV] at hc6 one6 siz6 syz6;have HV:=Lib.hid hV;clear hV
       go_wp2_with (first|(with_reducible refine wpList_load_row rfl 77 _ rfl C rfl 77 V (0,0) _ hc6 Tryz.underlying77 rfl siz6 ?_)|(with_reducible refine Yak rfl 77 _ _ rfl (A+1) V Y rfl rfl 77 hr6 siz6 syz6 one6 ?_;intro w5 hh5 hg5))
       have hb5:=Ye2 hg5 (by omega);refine bodyPost_ret (results_cell_row rfl _ _ (A+1) 77 _ (0,0) _ rfl hh5 Tryz.underlying77 rfl siz6) rfl ?_;exact⟨D,_,sl,HALL.out,by rw[HV.out],fun j hj=>((hat.out.2.1 j hj).moved (Ybo.grown hg5 (.inl rfl):Ybo (A+1) (A+1) _ _) (by omega) (by omega)).from (by omega),hat.out.1.rd.under hb5 (by omega),hat.out.1.mv.onto hb5 (by omega)⟩
end Go.Proofs.YtjjmalchelniiaaGreatDoor
namespace Go.Proofs.YtjjmalchelniiaaGreatDoor
theorem Yn2 (r m:List UInt8):r.isPrefixOf (r++m)=true:=List.isPrefixOf_iff_prefix.2 (List.prefix_append _ _)
theorem Qfo (inter:Bool)(a b:Int)(r:ByteArray)(hr:Ybz inter a b=r)(hne:r.data.toList.isEmpty=false)(m:List UInt8):
  mtk inter (r.data.toList++m)=if a=2 then (0,0,6,0) else (a,b,0,r.size):=by
 by_cases hn:a<0∨5<a∨b<0∨3<b∨(a=5∧0<b)
 ·rw[Ypo hn] at hr;rw[←hr] at hne;cases hne
 obtain⟨k,rfl⟩:∃k:Nat,a=k:=⟨a.toNat,by omega⟩;obtain⟨c,rfl⟩:∃c:Nat,b=c:=⟨b.toNat,by omega⟩;obtain⟨e1,e2,e3⟩:=Y17 inter k c (by omega) (by omega);rw[hr] at e1;have hrow:Yat (Yki inter (4*k+c))=r.data.toList:=by unfold Yat;rw[e1]
 have hx:Yki inter (4*k+c)∈Ylk inter:=Y8o (by omega) (by rw[hrow,hne];rfl);obtain⟨h1,h2,h3⟩:=Yb2 (Y73 inter _ hx);rw[hrow] at h1 h2 h3;have hlen:r.data.toList.length=r.size:=rfl;have h0:=List.length_pos_iff.2 h1;have ht:=Y3n (Ys9 inter) (b:=r.data.toList++m) (r:=r.data.toList) (by rw[←hrow];exact List.mem_map_of_mem hx) (Yn2 _ _) (k:=25) (n:=1) (by omega) (by omega)
 have hy:=Y0l inter ht hx (by rw[hrow];exact(Yb6.1 (Yn2 _ _)).symm);rw[e2,e3] at hy;exact hy
theorem Qf9 (intra:Bool)(k:Nat)(hk:k<16)(r:ByteArray)(hr:Ygb intra k=r)(m:List UInt8):ptk intra (r.data.toList++m)=((k:Int),0,r.size):=by
 have e:Ym3 intra (Ygd intra k)=(r,((Ygd intra (Ygd intra k):Nat):Int)):=by rw[Yvw intra _ (Yk2 hk),←Y2y hk rfl,hr]
 have hx:Ym3 intra (Ygd intra k)∈Ylf intra:=Y8p intra (Yk2 hk);have hrow:Ya2 (Ym3 intra (Ygd intra k))=r.data.toList:=by rw[e];rfl
 obtain⟨h1,h2,h3⟩:=Yb2 (Yzb intra _ hx);rw[hrow] at h1 h2 h3;have hlen:r.data.toList.length=r.size:=rfl;have h0:=List.length_pos_iff.2 h1;have ht:=Y3n (Yn0 intra) (b:=r.data.toList++m) (r:=r.data.toList) (by rw[←hrow];exact List.mem_map_of_mem hx) (Yn2 _ _) (k:=25) (n:=1) (by omega) (by omega);have hy:=Qbk intra ht hx (by rw[hrow];exact(Yb6.1 (Yn2 _ _)).symm);rw[e,Y6e hk] at hy;exact hy
theorem Qew {d:Int}(hd:-32≤d∧d≤31)(r:ByteArray)(hr:Yb0 d=r)(m:List UInt8):dtk (r.data.toList++m)=(d,0,r.size):=by
 obtain⟨j,hj⟩:∃j:Nat,d=(j:Int)-32:=⟨(d+32).toNat,by omega⟩;have hj64:j<64:=by omega
 have hrow:Ya2 (Ym2 j)=r.data.toList:=by
  show (Yb0 ((j:Int)-32)).data.toList=_;rw[←hj,hr]
 have ht:=Yz0 hj64 (b:=r.data.toList++m) (by rw[hrow];exact Yn2 _ _);rw[hrow,←hj] at ht;exact ht
theorem Qgw {s:Int}(hs:s = -1∨s = -2∨s=1∨s=2)(m:List UInt8):stk ((Yb9 s).data.toList++m)=(s,0,2):=by
 rcases hs with rfl|rfl|rfl|rfl
 all_goals
  rw[Yup (by simp[Yb9])]
  rfl
theorem Qjp (inter:Bool):∀x∈Ylk inter,Ybz inter (sA x.2) (sB x.2)=x.1:=by
 cases inter <;> decide +kernel
theorem Qfp {inter:Bool}{B:List UInt8}{a b:Int}{n:Nat}(h:mtk inter B=(a,b,0,n)):
  B.take n=(Ybz inter a b).data.toList∧n=(Ybz inter a b).size∧n≤B.length∧(Ybz inter a b).data.toList.isEmpty=false∧a≠2:=by
 obtain⟨⟨f,k⟩,ht⟩:∃x,tk ((Ylk inter).map Yat) B 25 1=x:=⟨_,rfl⟩;by_cases hf:f=0
 ·subst hf;obtain⟨h1,h2,h3⟩:=Yyk ht;obtain⟨x,hx,hxe⟩:=List.mem_map.1 h1;rw[Y0l inter ht hx hxe] at h
  split at h
  ·simp at h
  next h5=>
   simp only[Prod.mk.injEq,true_and] at h;obtain⟨rfl,rfl,rfl⟩:=h;rw[Qjp inter x hx];have e:x.1.data.toList=B.take k:=hxe;have hl:x.1.data.toList.length=k:=by rw[e,List.length_take];omega
   refine⟨e.symm,hl.symm,h2,?_,h5⟩;cases hq:x.1.data.toList with
   |nil=>rw[hq] at hl;simp at hl;omega
   |cons _ _=>rfl
 ·rw[Yt8 inter ht hf] at h;simp only[Prod.mk.injEq] at h;exact absurd h.2.2.1 hf
theorem Ytv {all:List (ByteArray×Int)}{F:Int→ByteArray}(hF:∀x∈all,F x.2=x.1){B:List UInt8}{v:Int}{n:Nat}(h:gtk all B=(v,0,n)):
  B.take n=(F v).data.toList∧n=(F v).size∧n≤B.length∧∃x∈all,x.2=v:=by
 obtain⟨⟨f,k⟩,ht⟩:∃x,tk (all.map Ya2) B 25 1=x:=⟨_,rfl⟩;unfold gtk at h;rw[ht] at h;by_cases hf:f=0
 ·subst hf;obtain⟨h1,h2,h3⟩:=Yyk ht;rw[if_pos rfl] at h
  split at h
  next x hx=>
   simp only[Prod.mk.injEq,true_and] at h;obtain⟨rfl,rfl⟩:=h;have hm:=List.mem_of_find?_eq_some hx;have e:x.1.data.toList=B.take k:=by simpa [Ya2] using List.find?_some hx
   rw[hF x hm];exact⟨e.symm,by have:=congrArg List.length e;rw[List.length_take] at this;have h2:x.1.data.toList.length=x.1.size:=rfl;omega,h2,x,hm,rfl⟩
  next hx=>
   obtain⟨y,hy,hye⟩:=List.mem_map.1 h1;have:=List.find?_eq_none.1 hx y hy;rw[hye] at this;simp at this
 ·rw[if_neg hf] at h;simp only[Prod.mk.injEq] at h;exact absurd h.2.1 hf
theorem Qji (intra:Bool):∀x∈Ylf intra,Ygb intra x.2=x.1:=by
 cases intra <;> decide +kernel
theorem Qga {intra:Bool}{B:List UInt8}{v:Int}{n:Nat}(h:ptk intra B=(v,0,n)):B.take n=(Ygb intra v).data.toList∧n=(Ygb intra v).size∧n≤B.length∧0≤v∧v<16:=by
 obtain⟨h1,h2,h3,x,hx,hv⟩:=Ytv (Qji intra) (show gtk (Ylf intra) B=(v,0,n) from h);have hb:∀x∈Ylf intra,0≤x.2∧x.2<16:=by cases intra <;> decide +kernel
 exact⟨h1,h2,h3,hv▸(hb x hx).1,hv▸(hb x hx).2⟩
theorem Qeu:∀x∈allD,Yb0 x.2=x.1:=by decide +kernel
theorem Qez {B:List UInt8}{d:Int}{n:Nat}(h:dtk B=(d,0,n)):B.take n=(Yb0 d).data.toList∧n=(Yb0 d).size∧n≤B.length∧-32≤d∧d≤31:=by
 obtain⟨h1,h2,h3,x,hx,hv⟩:=Ytv Qeu (show gtk allD B=(d,0,n) from h);have hb:∀x∈allD,-32≤x.2∧x.2≤31:=by decide +kernel
 exact⟨h1,h2,h3,hv▸(hb x hx).1,hv▸(hb x hx).2⟩
theorem Qgx {B:List UInt8}{s:Int}{n:Nat}(hB:Yax B=true)(h:stk B=(s,0,n)):B.take n=(Yb9 s).data.toList∧n=2∧2≤B.length∧(s = -1∨s = -2∨s=1∨s=2):=by
 by_cases hl:B.length<2
 ·rw[Qcg hl] at h;simp at h
 ·rw[Yup (by omega)] at h;simp only[Prod.mk.injEq,true_and] at h;obtain⟨rfl,rfl⟩:=h;have hr:=Yhc (B.take 2) (Ycc _ _ hB);have h4:=Yrx B hB 2 (by omega);have hl2:(B.take 2).length=2:=by rw[List.length_take];omega
  rw[hl2] at hr;generalize num (B.take 2)=v at hr h4;rw[←hr]
  match v,h4 with
  |0,_=>exact⟨rfl,rfl,by omega,.inl rfl⟩
  |1,_=>exact⟨rfl,rfl,by omega,.inr (.inl rfl)⟩
  |2,_=>exact⟨rfl,rfl,by omega,.inr (.inr (.inl rfl))⟩
  |3,_=>exact⟨rfl,rfl,by omega,.inr (.inr (.inr rfl))⟩
theorem Qgf:∀x∈allT,Qk1 x.2.toNat=x.1:=by
 intro x hx;obtain⟨i,_,rfl⟩:=List.mem_map.1 hx;show Qk1 ((i:Int)).toNat=Qk1 i;rw[Int.toNat_natCast]
theorem Yuw {B:List UInt8}{n v:Nat}(hB:Yax B=true)(hl:n≤B.length)(hv:num (B.take n)=v):B.take n=Yav v n:=by
 have h:=Yhc (B.take n) (Ycc _ _ hB);rw[hv,List.length_take,Nat.min_eq_left hl] at h;exact h.symm
theorem Yxe {B:List UInt8}{n m:Nat}(hB:Yax B=true)(hl:n+m≤B.length):∃r,r<2^m∧num (B.take (n+m))=num (B.take n)*2^m+r:=by
 refine⟨num ((B.drop n).take m),?_,?_⟩
 ·exact Yrx (B.drop n) (Ybg _ _ hB) m (by rw[List.length_drop];omega)
 ·have e:B.take (n+m)=B.take n++(B.drop n).take m:=List.take_add;have hm:((B.drop n).take m).length=m:=by rw[List.length_take,List.length_drop];omega
  rw[e,Yeu,hm]
theorem Qe3 {B:List UInt8}(hB:Yax B=true){l:Bool}{r n:Nat}{v:Int}(h:etk B=((l,r,v),0,n)):Yeg r v=true∧B.take n=(Ycs l r v).data.toList∧n≤B.length∧0<n:=by
 obtain⟨⟨iv,f,k⟩,hg⟩:∃x,gtk allT B=x:=⟨_,rfl⟩;by_cases hf:f=0
 ·subst hf;obtain⟨h1,h2,h3,x,hx,hxv⟩:=Ytv (F:=fun v=>Qk1 v.toNat) Qgf hg;obtain⟨i,hi0,rfl⟩:=List.mem_map.1 hx;have hi:i<103:=List.mem_range.1 hi0;have hiv:iv=(i:Int):=hxv.symm;subst hiv;rw[Int.toNat_natCast] at h1 h2;obtain⟨c1,c2,c3,c4⟩:=Ydc i hi;have hk:k=Yc4 i:=h2.trans (by show (Yav (Yea i) (Yc4 i)).toArray.size=_;simp[Yan]);subst hk;have h1':B.take (Yc4 i)=Yav (Yea i) (Yc4 i):=h1
  have hnc:num (B.take (Yc4 i))=Yea i:=by rw[h1',Ycx,Nat.mod_eq_of_lt c3]
  by_cases hl:B.length<if i=102 then 22 else Yc4 i+1
  ·rw[Y9r hg hl] at h;simp at h
  by_cases h102:i=102
  ·subst h102;rw[if_pos rfl] at hl;rw[Yls hg (by omega)] at h
   split at h
   next hc=>
    rw[Bool.and_eq_true,Bool.not_eq_true'] at hc;have e7:Yc4 102=7:=by decide +kernel
    have e3:Yea 102=3:=by decide +kernel
    rw[e7,e3] at hnc;obtain⟨q,hq,hs⟩:=Yxe (n:=7) (m:=15) hB (by omega);rw[hnc] at hs;have hs:num (B.take 22)=3*2^15+q:=hs;generalize hV:num (B.take 22)=V at h hc hs;simp only[Prod.mk.injEq,true_and] at h;obtain⟨hE,rfl⟩:=h;rw[hE] at hc;obtain⟨hr,hin⟩:=hc;simp only at hr hin;have hE':(V / 16384%2==1)=l:=(Prod.mk.inj hE).1;have hE2:V / 256%64=r:=(Prod.mk.inj (Prod.mk.inj hE).2).1
    have hE3:(if 127<V%256 then ((V%256:Nat):Int)-256 else ((V%256:Nat):Int))=v:=(Prod.mk.inj (Prod.mk.inj hE).2).2;have hl':l.toNat=V / 16384%2:=by
     rw[←hE'];rcases Nat.mod_two_eq_zero_or_one (V / 16384) with e|e <;> simp[e]
    have hv':(v%256).toNat=V%256:=by
     rw[←hE3]
     split <;> omega
    have hN:Ylh l r v=V:=by
     unfold Ylh;rw[if_neg (by simp[hin]),hl',hv',←hE2];omega
    have hD:Yko l r v=22:=by
     unfold Yko;rw[if_neg (by simp[hin])]
    refine⟨hr,?_,by omega,by omega⟩;rw[Yuw hB (by omega) hV];unfold Ycs;rw[if_pos hr,Int.toNat_natCast,hN,hD]
   ·simp at h
  ·rw[if_neg h102] at hl;rw[Yok hg h102 (by omega)] at h;obtain⟨⟨o1,o2,o3⟩,_,o4,o5⟩:=Qhw i (by omega);obtain⟨x,hx⟩:∃x,evT i=x:=⟨_,rfl⟩;rw[hx] at o1 o2 o3 o4 o5 h;obtain⟨l0,r0,am⟩:=x;simp only at o1 o2 o3 o4 o5;simp only[Y02,Prod.mk.injEq,true_and] at h;obtain⟨⟨rfl,rfl,hv⟩,rfl⟩:=h;obtain⟨q,hq,hs⟩:=Yxe (n:=Yc4 i) (m:=1) hB (by omega);rw[hnc] at hs;have hs:num (B.take (Yc4 i+1))=Yea i*2+q:=hs
   have hq2:q=0∨q=1:=by omega
   have key:v.natAbs=am∧(if v<0 then 1 else 0)=q∧-12≤v∧v≤12∧v≠0:=by
    rcases hq2 with rfl|rfl
    ·rw[if_neg (by rw[hs];simp)] at hv;subst hv;exact⟨by simp,if_neg (by omega),by omega,by omega,by omega⟩
    ·rw[if_pos (by rw[hs];simp)] at hv;subst hv;exact⟨by simp,if_pos (by omega),by omega,by omega,by omega⟩
   obtain⟨k1,k2,k3,k4,k5⟩:=key;have hr:Yeg (r0:Int) v=true:=Yd5.2 ⟨by omega,by omega,by omega,by omega,k5⟩;have hN:Ylh l0 r0 v=Yea i*2+q:=by
    unfold Ylh;rw[k1,if_pos o1,o2,k2];omega
   have hD:Yko l0 r0 v=Yc4 i+1:=by
    unfold Yko;rw[k1,if_pos o1,o2]
   refine⟨hr,?_,by omega,by omega⟩;rw[Yuw hB (by omega) hs];unfold Ycs;rw[if_pos hr,Int.toNat_natCast,hN,hD]
 ·have hg0:gtk allT B=(0,f,0):=by
   obtain⟨⟨f',k'⟩,ht⟩:∃x,tk (allT.map Ya2) B 25 1=x:=⟨_,rfl⟩;by_cases h0:f'=0
   ·subst h0;unfold gtk at hg;rw[ht,if_pos rfl] at hg
    split at hg <;> (simp only[Prod.mk.injEq] at hg;exact absurd hg.2.1.symm hf)
   ·rw[Yjx ht h0] at hg ⊢;simp only[Prod.mk.injEq] at hg;rw[hg.2.1]
  rw[Y9s hg0 hf] at h;simp only[Prod.mk.injEq] at h;exact absurd h.2.1 hf
theorem Yr9 (x:Ev)(l:List Ev):Ycl (x::l)=(Ymq x).data.toList++Ycl l:=rfl
theorem Yrj {S:List UInt8}(hS:Yax S=true)(a:Nat):∀(k:Nat) (acc:List Ev) (p m:Nat) (L:List Ev) (t:Nat),p≤S.length→Yds S k acc p m=(L,0,t)→(lvS a acc).1=m→
  (∀j,(hj:j<acc.length)→acc[j].1=false∧Yeg acc[j].2.1 acc[j].2.2=true∧(lvS a (acc.take j)).1+acc[j].2.1.toNat<64)→
  ∃l2,L=acc++l2∧0<l2.length∧p≤t∧t≤S.length∧(S.drop p).take (t-p)=Ycl l2∧Yqh a L L.length=false
 |0,acc,p,m,L,t,hp,h,hm,hall=>by
  simp[Yds] at h
 |k+1,acc,p,m,L,t,hp,h,hm,hall=>by
  obtain⟨⟨⟨l,r,v⟩,f,n⟩,he⟩:∃x,etk (S.drop p)=x:=⟨_,rfl⟩;by_cases hf:f=0
  ·subst hf;obtain⟨hr,hrow,hn,hn0⟩:=Qe3 (Ybg _ _ hS) he;rw[List.length_drop] at hn;by_cases h63:63<m+r
   ·rw[Ywe he h63] at h;simp at h
   have hfit:∀j,(hj:j<acc.length)→∀L',(hL:acc.length<L'.length)→(∀(hj':j<L'.length),L'[j]=acc[j])→L'.take j=acc.take j→Yve a L' j acc[j]=true:=by
    intro j hj L' hL _ ht;obtain⟨g1,g2,g3⟩:=hall j hj;unfold Yve;rw[ht,g1,g2];simp only[Bool.true_and,Bool.and_eq_true,beq_iff_eq,decide_eq_true_eq];exact⟨by rw[eq_comm,decide_eq_false_iff_not];omega,g3⟩
   cases l with
   |true=>
    rw[Yoj he (by omega)] at h;simp only[Prod.mk.injEq,true_and] at h;obtain⟨rfl,rfl⟩:=h;refine⟨[(true,(r:Int),v)],rfl,by simp,by omega,by omega,?_,?_⟩
    ·rw[Nat.add_sub_cancel_left,hrow,Yr9];simp[Ymq,Ycl]
    ·refine Ytd _ (Nat.le_refl _) fun j hj _=>?_;by_cases hja:j<acc.length
     ·rw[List.getElem_append_left hja];exact hfit j hja _ (by simp) (fun _=>List.getElem_append_left hja) (by rw[List.take_append_of_le_length (by omega)])
     ·have hj2:j=acc.length:=by simp at hj;omega
      subst hj2;rw[List.getElem_append_right (Nat.le_refl _)];simp only[Nat.sub_self,List.getElem_cons_zero];unfold Yve;rw[List.take_append_of_le_length (Nat.le_refl _),List.take_length,hm,hr];simp;omega
   |false=>
    rw[Ytp he (by omega)] at h;obtain⟨l2,e1,e2,e3,e4,e5,e6⟩:=Yrj hS a k (acc++[(false,(r:Int),v)]) (p+n) (m+r+1) L t (by omega) h (by rw[Y2q,hm];simp) (fun j hj=>by
     by_cases hja:j<acc.length
     ·rw[List.getElem_append_left hja,List.take_append_of_le_length (by omega)];exact hall j hja
     ·have hj2:j=acc.length:=by simp at hj;omega
      subst hj2;rw[List.getElem_append_right (Nat.le_refl _)];simp only[Nat.sub_self,List.getElem_cons_zero];rw[List.take_append_of_le_length (Nat.le_refl _),List.take_length,hm];exact⟨by simp,hr,by simp;omega⟩)
    refine⟨(false,(r:Int),v)::l2,by rw[e1,List.append_assoc];rfl,by simp,by omega,e4,?_,e6⟩;rw[show t-p=n+(t-(p+n)) by omega,List.take_add,hrow,List.drop_drop,Yr9,e5]
    rfl
  ·rw[Ywd he hf] at h;simp only[Prod.mk.injEq] at h;exact absurd h.2.1 hf
theorem Qet {B:List UInt8}(hB:Yax B=true){i:Bool}{d:Int}{n:Nat}(h:dcT B i=(d,0,n)):B.take n=dcB i d∧n≤B.length∧Y9a i d=true∧n=8*Ycg i:=by
 cases i with
 |false=>
  rw[Qes] at h;simp only[Prod.mk.injEq,true_and] at h;obtain⟨rfl,rfl⟩:=h;exact⟨rfl,Nat.zero_le _,rfl,rfl⟩
 |true=>
  by_cases h8:B.length<8
  ·rw[Yv6 h8] at h;simp at h
  have hlt:=Yrx B hB 8 (by omega);have htr:=fun v (hv:num (B.take 8)=v)=>Yuw hB (by omega) hv;by_cases h0:num (B.take 8)=0∨num (B.take 8)=128
  ·rw[Yzw (by omega) h0] at h;simp at h
  by_cases h255:num (B.take 8)=255
  ·rw[Yzv (by omega) h255] at h;simp only[Prod.mk.injEq,true_and] at h;obtain⟨rfl,rfl⟩:=h;exact⟨htr 255 h255,by omega,rfl,rfl⟩
  ·rw[Y9c (by omega) rfl (fun e=>h0 (.inl e)) (fun e=>h0 (.inr e)) h255] at h;simp only[Prod.mk.injEq,true_and] at h;obtain⟨rfl,rfl⟩:=h;refine⟨?_,by omega,?_,rfl⟩
   ·refine(htr _ rfl).trans ?_;unfold dcB;rw[if_pos rfl,if_neg (by omega),Int.toNat_natCast]
   ·rw[Y9b,Bool.and_eq_true,decide_eq_true_iff,decide_eq_true_iff];omega
theorem Qec {S:List UInt8}(hS:Yax S=true){p t:Nat}{i c:Bool}{d:Int}{L:List Ev}(hp:p≤S.length)(h:btk S p i c=(d,L,t,0)):
  p≤t∧t≤S.length∧(S.drop p).take (t-p)=Yhr i d L∧Yt6 i d L=true∧decide (0<L.length)=c:=by
 obtain⟨⟨d',f,n⟩,hd⟩:∃x,dcT (S.drop p) i=x:=⟨_,rfl⟩;by_cases hf:f=0
 ·subst hf;obtain⟨g1,g2,g3,g4⟩:=Qet (Ybg _ _ hS) hd;rw[List.length_drop] at g2;cases c with
  |false=>
   rw[Yti hd] at h;simp only[Prod.mk.injEq,and_true] at h;obtain⟨rfl,rfl,rfl⟩:=h;refine⟨by omega,by omega,?_,?_,rfl⟩
   ·rw[Nat.add_sub_cancel_left,g1];simp[Yhr,Ycl]
   ·unfold Yt6;rw[g3]
    rfl
  |true=>
   obtain⟨⟨l,f2,e⟩,hl⟩:∃x,Yds S (65-Ycg i) [] (p+n) (Ycg i)=x:=⟨_,rfl⟩;by_cases hf2:f2=0
   ·subst hf2;rw[Yzg hd hl] at h;simp only[Prod.mk.injEq,and_true] at h;obtain⟨rfl,rfl,rfl⟩:=h;obtain⟨l2,e1,e2,e3,e4,e5,e6⟩:=Yrj hS (Ycg i) _ [] (p+n) (Ycg i) l e (by omega) hl rfl (fun j hj=>absurd hj (Nat.not_lt_zero j));rw[List.nil_append] at e1;subst e1;refine⟨by omega,e4,?_,?_,by simpa using e2⟩
    ·rw[show e-p=n+(e-(p+n)) by omega,List.take_add,g1,List.drop_drop,e5]
     rfl
    ·unfold Yt6;rw[g3,e6]
     rfl
   ·rw[Qhs hd hl hf2] at h;simp only[Prod.mk.injEq] at h;exact absurd h.2.2.2 hf2
 ·rw[Qhr hd hf] at h;simp only[Prod.mk.injEq] at h;exact absurd h.2.2.2 hf
theorem Y5q {k:List UInt8→Int×Int×Nat}{S:List UInt8}{p:Nat}{f:Int}(hf:f≠0):Ygo k S (p,f)=(0,p,f):=Yf6 hf
theorem Yrg {inter:Bool}{S:List UInt8}{p:Nat}{f:Int}(hf:f≠0):∀j n,(Yen inter S j n (p,f)).2.2.2.2.2≠0
 |0,_=>by simp[Yen]
 |j+1,n=>by
  unfold Yen;rw[Y5q hf];have h1:Ym5 inter S (if inter then (p,f) else (p,f))=(0,0,p,f):=by
   rw[ite_self];exact Yt1 hf
  simp only at h1 ⊢;rw[h1]
  simpa using hf
theorem Qd6 {S:List UInt8}(hS:Yax S=true){p q:Nat}{v:Int}(hp:p≤S.length)(h:Ygo Yqn S (p,0)=(v,q,0)):(v=1∧Seg S p q [49])∨(v=0∧Seg S p q [48]):=by
 rw[Yfz] at h;have hr:=Ybg S p hS;cases hd:S.drop p with
 |nil=>
  rw[hd] at h;simp[Yqn] at h
 |cons c l=>
  rw[hd] at h;simp only[Yqn,Prod.mk.injEq,and_true] at h;obtain⟨rfl,rfl⟩:=h;have hc:c=48∨c=49:=by
   rw[hd] at hr;unfold Yax at hr;simp at hr;exact hr.1
  rcases hc with rfl|rfl
  ·exact .inr ⟨rfl,Seg.of hp (by rw[hd];simp) (by rw[hd];rfl)⟩
  ·exact .inl ⟨rfl,Seg.of hp (by rw[hd];simp) (by rw[hd];rfl)⟩
theorem Y24 {inter:Bool}{b:Int}(h:(Ybz inter 5 b).data.toList.isEmpty=false):b=0:=by
 by_cases hb:b<0∨0<b
 ·rw[Ypo (by omega)] at h;cases h
 ·omega
theorem Y2m {inter:Bool}{S:List UInt8}{p q:Nat}{a c:Int}(hp:p≤S.length)(h:Ym5 inter S (p,0)=(a,c,q,0)):Seg S p q (Ybz inter a c).data.toList∧(Ybz inter a c).data.toList.isEmpty=false∧a≠2:=by
 rw[Y0i] at h;obtain⟨⟨a',c',f,n⟩,hk⟩:∃x,mtk inter (S.drop p)=x:=⟨_,rfl⟩;rw[hk] at h;simp only[Prod.mk.injEq] at h;obtain⟨rfl,rfl,rfl,rfl⟩:=h;obtain⟨h1,h2,h3,h4,h5⟩:=Qfp hk;exact⟨Seg.of hp h3 h1,h4,h5⟩
theorem Yn3 {inter:Bool}{S:List UInt8}(hS:Yax S=true):∀(j n p n':Nat) (sk:Bool) (k c:Int) (q:Nat),p≤S.length→Yen inter S j n (p,0)=(n',sk,k,c,q,0)→∃d,n'=n+d∧d<j∧
  (sk=true→inter=true∧k=0∧c=0∧Seg S p q (Yf8 inter d++[49]))∧
  (sk=false→Seg S p q (Yf8 inter d++(Qdf inter++(Ybz inter k c).data.toList))∧(Ybz inter k c).data.toList.isEmpty=false∧k≠2∧k≠5)
 |0,n,p,n',sk,k,c,q,hp,h=>by
  simp[Yen] at h
 |j+1,n,p,n',sk,k,c,q,hp,h=>by
  cases inter with
  |false=>
   obtain⟨⟨a,c0,q1,f⟩,hk⟩:∃x,Ym5 false S (p,0)=x:=⟨_,rfl⟩;rw[Ykf hk] at h;by_cases hf:f=0
   ·subst hf;obtain⟨g1,g2,g3⟩:=Y2m hp hk;by_cases ha:a=5
    ·subst ha;rw[if_pos rfl] at h;obtain rfl:=Y24 g2;obtain⟨d,e1,e2,e3,e4⟩:=Yn3 hS j (n+1) q1 n' sk k c q g1.2.1 h;have gs:Seg S p q1 (Yji false):=g1;refine⟨d+1,by omega,by omega,fun hs=>absurd (e3 hs).1 (by decide),fun hs=>?_⟩;obtain⟨k1,k2⟩:=e4 hs;rw[Ydg,List.append_assoc];exact⟨gs.app k1,k2⟩
    ·rw[if_neg ha] at h;simp only[Prod.mk.injEq] at h;obtain⟨rfl,rfl,rfl,rfl,rfl,_⟩:=h;exact⟨0,rfl,by omega,fun hs=>(by cases hs),fun _=>⟨g1,g2,g3,ha⟩⟩
   ·exfalso
    split at h
    ·exact Yrg hf j (n+1) (by rw[h])
    ·simp only[Prod.mk.injEq] at h;exact hf h.2.2.2.2.2
  |true=>
   obtain⟨⟨v,q1,f1⟩,hn⟩:∃x,Ygo Yqn S (p,0)=x:=⟨_,rfl⟩;by_cases hf1:f1=0
   ·subst hf1;rcases Qd6 hS hp hn with ⟨rfl,g0⟩|⟨rfl,g0⟩
    ·rw[Yn4 rfl hn rfl] at h;simp only[Prod.mk.injEq] at h;obtain⟨rfl,rfl,rfl,rfl,rfl,_⟩:=h;exact⟨0,rfl,by omega,fun _=>⟨rfl,rfl,rfl,g0⟩,fun hs=>(by cases hs)⟩
    ·obtain⟨⟨a,c0,q2,f⟩,hk⟩:∃x,Ym5 true S (q1,0)=x:=⟨_,rfl⟩;rw[Yke hn (by decide) hk] at h;by_cases hf:f=0
     ·subst hf;obtain⟨g1,g2,g3⟩:=Y2m g0.2.1 hk;by_cases ha:a=5
      ·subst ha;rw[if_pos rfl] at h;obtain rfl:=Y24 g2;obtain⟨d,e1,e2,e3,e4⟩:=Yn3 hS j (n+1) q2 n' sk k c q g1.2.1 h;have gs:Seg S p q2 (Yji true):=g0.app g1;refine⟨d+1,by omega,by omega,fun hs=>?_,fun hs=>?_⟩
       ·obtain⟨k0,k1,k2,k3⟩:=e3 hs;rw[Ydg,List.append_assoc];exact⟨rfl,k1,k2,gs.app k3⟩
       ·obtain⟨k1,k2⟩:=e4 hs;rw[Ydg,List.append_assoc];exact⟨gs.app k1,k2⟩
      ·rw[if_neg ha] at h;simp only[Prod.mk.injEq] at h;obtain⟨rfl,rfl,rfl,rfl,rfl,_⟩:=h;exact⟨0,rfl,by omega,fun hs=>(by cases hs),fun _=>⟨g0.app g1,g2,g3,ha⟩⟩
     ·exfalso
      split at h
      ·exact Yrg hf j (n+1) (by rw[h])
      ·simp only[Prod.mk.injEq] at h;exact hf h.2.2.2.2.2
   ·exfalso;have hv:v≠1:=by
     rw[Yfz] at hn;intro hv;cases hd:S.drop p with
     |nil=>rw[hd] at hn;simp[Yqn] at hn;omega
     |cons c0 l0=>rw[hd] at hn;simp[Yqn] at hn;omega
    have hk:Ym5 true S (q1,f1)=(0,0,q1,f1):=Yt1 hf1;rw[Yke hn hv hk,if_neg (by decide)] at h;simp only[Prod.mk.injEq] at h;exact hf1 h.2.2.2.2.2
theorem Qf5 {intra:Bool}{S:List UInt8}{p q:Nat}{v:Int}(hp:p≤S.length)(h:Ygo (ptk intra) S (p,0)=(v,q,0)):Seg S p q (Ygb intra v).data.toList∧0≤v∧v<16:=by
 rw[Yfz] at h;obtain⟨⟨a,f,n⟩,hk⟩:∃x,ptk intra (S.drop p)=x:=⟨_,rfl⟩;rw[hk] at h;simp only[Prod.mk.injEq] at h;obtain⟨rfl,rfl,rfl⟩:=h;obtain⟨h1,h2,h3,h4,h5⟩:=Qga hk;exact⟨Seg.of hp h3 h1,h4,h5⟩
theorem Qgy {S:List UInt8}(hS:Yax S=true){p q:Nat}{k v:Int}(hp:p≤S.length)(h:Y3g S k (p,0)=(v,q,0)):Seg S p q (Yb9 v).data.toList∧Yq4 k v=true:=by
 unfold Y3g at h;unfold Yq4;cases hk:Y6x k with
 |true=>
  rw[hk,if_pos rfl,Yfz] at h;obtain⟨⟨a,f,n⟩,ht⟩:∃x,stk (S.drop p)=x:=⟨_,rfl⟩;rw[ht] at h;simp only[Prod.mk.injEq] at h;obtain⟨rfl,rfl,rfl⟩:=h;obtain⟨h1,rfl,h3,h4⟩:=Qgx (Ybg _ _ hS) ht;exact⟨Seg.of hp h3 h1,by rw[if_pos rfl,Ymw.2 h4];rfl⟩
 |false=>
  rw[hk,if_neg (by decide)] at h;simp only[Prod.mk.injEq,and_true] at h;obtain⟨rfl,rfl⟩:=h;exact⟨Seg.nil hp,rfl⟩
theorem Yv8 {S:List UInt8}{p q:Nat}{pr v:Int}(hp:p≤S.length)(h:Yjf S pr (p,0)=(v,q,0)):Seg S p q (Yb0 (Ycb (v-Ycb pr))).data.toList∧v=Ycb v:=by
 unfold Yjf at h;rw[Yfz] at h;obtain⟨⟨d,f,n⟩,ht⟩:∃x,dtk (S.drop p)=x:=⟨_,rfl⟩;rw[ht] at h;simp only[Prod.mk.injEq] at h;obtain⟨rfl,rfl,rfl⟩:=h;obtain⟨h1,h2,h3,h4,h5⟩:=Qez ht;have e:Ycb (Ycb (Ycb pr+d)-Ycb pr)=d:=by unfold Ycb;omega
 rw[e];exact⟨Seg.of hp h3 h1,by unfold Ycb;omega⟩
theorem Qhg {S:List UInt8}{p q:Nat}{k x y mx my:Int}(hp:p≤S.length)(h:Yy2 S k x y (p,0)=(mx,my,q,0)):Seg S p q (Qhf k x y mx my)∧Ynb k mx my=true:=by
 unfold Yy2 at h;unfold Qhf Ynb;cases hk:Yas k with
 |true=>
  rw[hk,if_pos rfl] at h;simp only[Prod.mk.injEq,and_true] at h;obtain⟨rfl,rfl,rfl⟩:=h;exact⟨Seg.nil hp,rfl⟩
 |false=>
  rw[hk,if_neg (by decide)] at h;obtain⟨⟨a,q1,f1⟩,h1⟩:∃z,Yjf S x (p,0)=z:=⟨_,rfl⟩;obtain⟨⟨b,q2,f2⟩,h2⟩:∃z,Yjf S y (q1,f1)=z:=⟨_,rfl⟩;rw[h1] at h;simp only at h;rw[h2] at h;simp only[Prod.mk.injEq] at h;obtain⟨rfl,rfl,rfl,rfl⟩:=h;by_cases hf:f1=0
  ·subst hf;obtain⟨g1,g2⟩:=Yv8 hp h1;obtain⟨k1,k2⟩:=Yv8 g1.2.1 h2;rw[if_neg (by decide),if_neg (by decide),Bool.and_eq_true,beq_iff_eq,beq_iff_eq];exact⟨g1.app k1,g2,k2⟩
  ·exfalso;unfold Yjf at h2;rw[Yf6 (show ((q1,f1):Stt).2≠0 from hf)] at h2;simp only[Prod.mk.injEq] at h2;exact hf h2.2.2
theorem Y15 {S:List UInt8}(hS:Yax S=true){p q:Nat}{i c:Bool}{d:Int}{L:List Ev}(hp:p≤S.length)(h:Yi6 i c S (p,0)=(d,L,q,0)):Seg S p q (Yhr i d L)∧Yt6 i d L=true∧decide (0<L.length)=c:=by
 rw[Yzf] at h;obtain⟨⟨a,l,t,f⟩,hb⟩:∃x,btk S p i c=x:=⟨_,rfl⟩;rw[hb] at h;simp only[Prod.mk.injEq] at h;obtain⟨rfl,rfl,rfl,rfl⟩:=h;obtain⟨h1,h2,h3,h4,h5⟩:=Qec hS hp hb;exact⟨⟨h1,h2,h3⟩,h4,h5⟩
theorem Y56 {inter:Bool}{k c:Int}(h:(Ybz inter k c).data.toList.isEmpty=false)(h2:k≠2)(h5:k≠5):Ykv inter k=true∧0≤c∧c≤3:=by
 have hb:¬ (k<0∨5<k∨c<0∨3<c∨(k=5∧0<c)):=by
  intro hn;rw[Ypo hn] at h;cases h
 refine⟨?_,by omega,by omega⟩;rcases (by omega:k=0∨k=1∨k=3∨k=4) with rfl|rfl|rfl|rfl
 ·cases inter with
  |true=>rfl
  |false=>
   exfalso;unfold Ybz at h;rw[if_pos (by omega)] at h;rcases (by omega:c=0∨c=1∨c=2∨c=3) with rfl|rfl|rfl|rfl <;> cases h
 ·cases inter with
  |true=>rfl
  |false=>
   exfalso;unfold Ybz at h;rw[if_pos (by omega)] at h;rcases (by omega:c=0∨c=1∨c=2∨c=3) with rfl|rfl|rfl|rfl <;> cases h
 ·rfl
 ·cases inter <;> rfl
theorem Qen {pt ch:Nat}(hp:pt<16)(hc:ch<4){c:Cel}(h:∀i,i<6→decide (0<(c.ev i).length)=Yj3 (4*pt+ch) i):Yf5 c 4=pt∧Ykm c=ch:=by
 have hh:∀i,i<6→Yqv c i=(4*pt+ch) / 2^(5-i)%2:=by
  intro i hi;unfold Yqv;rw[h i hi];unfold Yj3;rcases Nat.mod_two_eq_zero_or_one ((4*pt+ch) / 2^(5-i)) with e|e <;> rw[e] <;> rfl
 have h0:=hh 0 (by omega);have h1:=hh 1 (by omega);have h2:=hh 2 (by omega);have h3:=hh 3 (by omega);have h4:=hh 4 (by omega);have h5:=hh 5 (by omega);simp only[Nat.reduceSub,Nat.reducePow,Nat.sub_zero] at h0 h1 h2 h3 h4 h5;rw[Yni];unfold Ykm;omega
theorem Y19 {inter:Bool}{S:List UInt8}(hS:Yax S=true){x y:Int}{p q:Nat}{c:Cel}(hp:p≤S.length)(h:ctk inter S x y p=(c,q,0)):Seg S p q (Yc6 inter x y c)∧Ybq inter c=true:=by
 have h0:Yyz inter S x y (p,0)=(c,q,0):=by
  obtain⟨⟨c1,q1,f1⟩,hz⟩:∃z,Yyz inter S x y (p,0)=z:=⟨_,rfl⟩;unfold ctk at h;rw[hz] at h ⊢;simp only at h;by_cases e:f1=0
  ·subst e;rw[if_pos rfl] at h;exact h
  ·rw[if_neg e] at h;simp only[Prod.mk.injEq] at h;exact absurd h.2.2 e
 clear h;obtain⟨⟨n,sk,k,ch,q1,f1⟩,hb⟩:∃z,Yen inter S 65 0 (p,0)=z:=⟨_,rfl⟩;by_cases hf1:f1=0
 ·subst hf1;obtain⟨d,e1,e2,e3,e4⟩:=Yn3 hS 65 0 p n sk k ch q1 hp hb;rw[Nat.zero_add] at e1;subst e1;cases sk with
  |true=>
   obtain⟨g1,g2,g3,g4⟩:=e3 rfl;rw[Ytk hb] at h0;simp only[Prod.mk.injEq,and_true] at h0;obtain⟨rfl,rfl⟩:=h0;refine⟨?_,?_⟩
   ·unfold Yc6
    simpa using g4
   ·unfold Ybq;rw[g1];simp only[if_true,Bool.true_and,Bool.and_eq_true,decide_eq_true_eq];exact⟨by omega,rfl⟩
  |false=>
   obtain⟨g1,g2,g3,g4⟩:=e4 rfl;obtain⟨hkin,c0,c3⟩:=Y56 g2 g3 g4;obtain⟨⟨pt,s2⟩,h2⟩:∃z,Ygo (ptk (Yas k)) S (q1,0)=z:=⟨_,rfl⟩;obtain⟨⟨sp,s3⟩,h3⟩:∃z,Y3g S k s2=z:=⟨_,rfl⟩;obtain⟨⟨mx,my,s4⟩,h4⟩:∃z,Yy2 S k x y s3=z:=⟨_,rfl⟩;rw[Yzl hb h2 h3 h4] at h0;simp only[Prod.mk.injEq] at h0;obtain⟨hc,hq⟩:=h0;have z6:(stB (Yas k) (4*pt.toNat+ch.toNat) S s4 6).2=0:=by rw[hq]
   have zi:∀i,i≤6→(stB (Yas k) (4*pt.toNat+ch.toNat) S s4 i).2=0:=by
    intro i hi;refine Decidable.byContradiction fun hne=>?_;have h1:=Y08 hne (6-i);rw[show i+(6-i)=6 by omega] at h1;rw[h1] at z6;exact hne z6
   have z4:s4.2=0:=zi 0 (by omega);have z3:s3.2=0:=by
    refine Decidable.byContradiction fun hne=>?_;have h1:=Y3u (kind:=k) (x:=x) (y:=y) (S:=S) hne;rw[h4] at h1;simp only at h1;rw[h1] at z4;exact hne z4
   have z2:s2.2=0:=by
    refine Decidable.byContradiction fun hne=>?_;have h1:=Y3h (kind:=k) (S:=S) hne;rw[h3] at h1;simp only[Prod.mk.injEq] at h1;rw[h1.2] at z3;exact hne z3
   obtain⟨q2,f2⟩:=s2;obtain⟨q3,f3⟩:=s3;obtain⟨q4,f4⟩:=s4;simp only at z2 z3 z4;subst z2 z3 z4;obtain⟨a1,a2,a3⟩:=Qf5 g1.2.1 h2;obtain⟨b1,b2⟩:=Qgy hS a1.2.1 h3;obtain⟨v1,v2⟩:=Qhg b1.2.1 h4
   have hev:∀i,i<6→Seg S (stB (Yas k) (4*pt.toNat+ch.toNat) S (q4,0) i).1 (stB (Yas k) (4*pt.toNat+ch.toNat) S (q4,0) (i+1)).1 (Yhr (Yas k) (c.dc i) (c.ev i))∧Yt6 (Yas k) (c.dc i) (c.ev i)=true∧decide (0<(c.ev i).length)=Yj3 (4*pt.toNat+ch.toNat) i:=by
    intro i
    induction i with
    |zero=>
     intro hi;have hz:=zi 1 (by omega);obtain⟨⟨d0,l0,t0,f0⟩,hb0⟩:∃z,Yi6 (Yas k) (Yj3 (4*pt.toNat+ch.toNat) 0) S (q4,0)=z:=⟨_,rfl⟩;have hn:stB (Yas k) (4*pt.toNat+ch.toNat) S (q4,0) 1=(t0,f0):=by
      show (Yi6 (Yas k) (Yj3 (4*pt.toNat+ch.toNat) 0) S (q4,0)).2.2=_;rw[hb0]
     rw[hn] at hz ⊢;simp only at hz;subst hz;have hd:c.dc 0=d0:=by rw[←hc];show (Yi6 (Yas k) (Yj3 (4*pt.toNat+ch.toNat) 0) S (q4,0)).1=d0;rw[hb0]
     have hl:c.ev 0=l0:=by rw[←hc];show (Yi6 (Yas k) (Yj3 (4*pt.toNat+ch.toNat) 0) S (q4,0)).2.1=l0;rw[hb0]
     rw[hd,hl];exact Y15 hS v1.2.1 hb0
    |succ i ih=>
     intro hi;obtain⟨k1,_,_⟩:=ih (by omega);have hz1:=zi (i+1) (by omega);have hz:=zi (i+1+1) (by omega);obtain⟨⟨t1,f1⟩,hst⟩:∃z,stB (Yas k) (4*pt.toNat+ch.toNat) S (q4,0) (i+1)=z:=⟨_,rfl⟩;rw[hst] at hz1 k1;simp only at hz1 k1;subst hz1;obtain⟨⟨d0,l0,t0,f0⟩,hb0⟩:∃z,Yi6 (Yas k) (Yj3 (4*pt.toNat+ch.toNat) (i+1)) S (t1,0)=z:=⟨_,rfl⟩
     have hn:stB (Yas k) (4*pt.toNat+ch.toNat) S (q4,0) (i+1+1)=(t0,f0):=by
      show (Yi6 (Yas k) (Yj3 (4*pt.toNat+ch.toNat) (i+1)) S (stB (Yas k) (4*pt.toNat+ch.toNat) S (q4,0) (i+1))).2.2=_;rw[hst,hb0]
     rw[hn] at hz ⊢;simp only at hz;subst hz;have hd:c.dc (i+1)=d0:=by rw[←hc];show (Yi6 (Yas k) (Yj3 (4*pt.toNat+ch.toNat) (i+1)) S (stB (Yas k) (4*pt.toNat+ch.toNat) S (q4,0) (i+1))).1=d0;rw[hst,hb0]
     have hl:c.ev (i+1)=l0:=by rw[←hc];show (Yi6 (Yas k) (Yj3 (4*pt.toNat+ch.toNat) (i+1)) S (stB (Yas k) (4*pt.toNat+ch.toNat) S (q4,0) (i+1))).2.1=l0;rw[hst,hb0]
     rw[hd,hl,hst];exact Y15 hS k1.2.1 hb0
   have hkd:c.kind=k:=by rw[←hc]
   have hsk:c.skip=false:=by rw[←hc]
   have hsu:c.stuff=(n:Int):=by rw[←hc]
   have hsp:c.step=sp:=by rw[←hc]
   have hmx:c.mx=mx:=by rw[←hc]
   have hmy:c.my=my:=by rw[←hc]
   have hseg:∀i,i≤6→Seg S q4 (stB (Yas k) (4*pt.toNat+ch.toNat) S (q4,0) i).1 (Yjn c i):=by
    intro i
    induction i with
    |zero=>intro _;exact Seg.nil v1.2.1
    |succ i ih=>
     intro hi;show Seg S q4 _ (Yjn c i++Yhr (Yas c.kind) (c.dc i) (c.ev i));rw[hkd];exact(ih (by omega)).app (hev i (by omega)).1
   have h6:=hseg 6 (Nat.le_refl _);rw[hq] at h6;simp only at h6;obtain⟨m1,m2⟩:=Qen (pt:=pt.toNat) (ch:=ch.toNat) (c:=c) (by omega) (by omega) (fun i hi=>(hev i hi).2.2);refine⟨?_,?_⟩
   ·unfold Yc6;rw[hsk,if_neg (by decide),hkd,hsu,hsp,hmx,hmy,m1,m2,Int.toNat_of_nonneg a2,Int.toNat_of_nonneg c0,Int.toNat_natCast,←List.append_assoc,←List.append_assoc,←List.append_assoc,←List.append_assoc];exact(((g1.app a1).app b1).app v1).app h6
   ·unfold Ybq;rw[hsk,if_neg (by decide),hkd,hsu,hsp,hmx,hmy,hkin,b2,v2];simp only[Bool.true_and,Bool.and_eq_true,decide_eq_true_eq];refine⟨by omega,Yhw.2 fun i hi=>?_⟩;rw[hkd];exact(hev i hi).2.1
 ·exfalso;have:=Qim (x:=x) (y:=y) hb hf1;rw[h0] at this;exact hf1 this.symm
theorem Yw1 {inter:Bool}{S:List UInt8}{p q:Nat}{a c:Int}(h:Seg S p q (Ybz inter a c).data.toList)(hne:(Ybz inter a c).data.toList.isEmpty=false)(h2:a≠2):Ym5 inter S (p,0)=(a,c,q,0):=by
 have hl:=h.len;rw[Y0i,h.at,Qfo inter a c _ rfl hne,if_neg h2];simp only[Prod.mk.injEq,and_true,true_and];exact hl.symm
theorem Yvt {S:List UInt8}{p q:Nat}{d:UInt8}(h:Seg S p q [d]):Ygo Yqn S (p,0)=(if d=49 then 1 else 0,q,0):=by
 have hl:=h.len;rw[Yfz,h.at];simp only[List.cons_append,Yqn,Prod.mk.injEq,and_true,true_and];exact hl.symm
theorem Yn1 {inter:Bool}{S:List UInt8}{j m p q:Nat}{a c:Int}(h:Seg S p q (Qdf inter++(Ybz inter a c).data.toList))(hne:(Ybz inter a c).data.toList.isEmpty=false)(h2:a≠2):
  Yen inter S (j+1) m (p,0)=if a=5 then Yen inter S j (m+1) (q,0) else (m,false,a,c,q,0):=by
 cases inter with
 |false=>exact Ykf (Yw1 h hne h2)
 |true=>
  obtain⟨g1,g2⟩:=h.split;exact Yke (Yvt g1) (by decide) (Yw1 g2 hne h2)
theorem Ywn (inter:Bool):(Ybz inter 5 0).data.toList.isEmpty=false:=by cases inter <;> rfl
theorem Y11 {S:List UInt8}:∀(n j m p q:Nat),n<j→Seg S p q (Yf8 true n++[49])→Yen true S j m (p,0)=(m+n,true,0,0,q,0)
 |0,j,m,p,q,hj,h=>by
  obtain⟨k,rfl⟩:∃k,j=k+1:=⟨j-1,by omega⟩;exact Yn4 rfl (Yvt (show Seg S p q [49] from h)) (by decide)
 |n+1,j,m,p,q,hj,h=>by
  obtain⟨k,rfl⟩:∃k,j=k+1:=⟨j-1,by omega⟩;rw[Ydg,List.append_assoc] at h;obtain⟨g1,g2⟩:=h.split;rw[Yn1 g1 (Ywn true) (by decide),if_pos rfl,Y11 n k (m+1) _ q (by omega) g2,Nat.add_assoc,Nat.add_comm 1 n]
theorem Y10 {inter:Bool}{S:List UInt8}{a c:Int}(hne:(Ybz inter a c).data.toList.isEmpty=false)(h2:a≠2)(h5:a≠5):∀(n j m p q:Nat),n<j→Seg S p q (Yf8 inter n++(Qdf inter++(Ybz inter a c).data.toList))→Yen inter S j m (p,0)=(m+n,false,a,c,q,0)
 |0,j,m,p,q,hj,h=>by
  obtain⟨k,rfl⟩:∃k,j=k+1:=⟨j-1,by omega⟩;rw[Yn1 (show Seg S p q (Qdf inter++(Ybz inter a c).data.toList) from h) hne h2,if_neg h5]
  rfl
 |n+1,j,m,p,q,hj,h=>by
  obtain⟨k,rfl⟩:∃k,j=k+1:=⟨j-1,by omega⟩;rw[Ydg,List.append_assoc] at h;obtain⟨g1,g2⟩:=h.split;rw[Yn1 g1 (Ywn inter) (by decide),if_pos rfl,Y10 hne h2 h5 n k (m+1) _ q (by omega) g2,Nat.add_assoc,Nat.add_comm 1 n]
theorem Qac {inter:Bool}{k:Int}{c:Nat}(h:Ykv inter k=true)(hc:c<4):(Ybz inter k (c:Nat)).data.toList.isEmpty=false∧k≠2∧k≠5:=by
 have hk:k=3∨k=4∨(inter=true∧(k=0∨k=1)):=by
  unfold Ykv at h
  simpa [or_assoc] using h
 rcases hk with rfl|rfl|⟨rfl,rfl|rfl⟩
 all_goals
  refine⟨?_,by decide,by decide⟩
  match c,hc with
  |0,_=>first|rfl|(cases inter <;> rfl)
  |1,_=>first|rfl|(cases inter <;> rfl)
  |2,_=>first|rfl|(cases inter <;> rfl)
  |3,_=>first|rfl|(cases inter <;> rfl)
theorem Qbc {S:List UInt8}{p q:Nat}{i:Bool}{k:Nat}(h:Seg S p q (Ygb i (k:Nat)).data.toList)(hk:k<16):Ygo (ptk i) S (p,0)=(((k:Nat):Int),(q,0)):=by
 have hl:=h.len;rw[Yfz,h.at,Qf9 i k hk _ rfl];simp only[Prod.mk.injEq,and_true,true_and];exact hl.symm
theorem Qch {S:List UInt8}{p q:Nat}{k s:Int}(h:Seg S p q (Yb9 s).data.toList)(hs:Yq4 k s=true):Y3g S k (p,0)=(s,q,0):=by
 have hl:=h.len;unfold Y3g;unfold Yq4 at hs;cases hk:Y6x k with
 |true=>
  rw[hk,if_pos rfl,Bool.not_eq_true'] at hs;have h4:=Ymw.1 hs;rw[if_pos rfl,Yfz,h.at,Qgw h4];simp only[Prod.mk.injEq,and_true,true_and];have:(Yb9 s).data.toList.length=2:=by rcases h4 with rfl|rfl|rfl|rfl <;> rfl
  omega
 |false=>
  rw[hk,if_neg (by decide),beq_iff_eq] at hs;subst hs;rw[if_neg (by decide)];simp only[Prod.mk.injEq,and_true,true_and];exact hl.symm
theorem Yxf {S:List UInt8}{p q:Nat}{pr v:Int}(h:Seg S p q (Yb0 (Ycb (v-Ycb pr))).data.toList)(hv:v=Ycb v):Yjf S pr (p,0)=(v,q,0):=by
 have hl:=h.len;unfold Yjf;rw[Yfz,h.at,Qew (Y1o _) _ rfl];have e:Ycb (Ycb pr+Ycb (v-Ycb pr))=v:=by unfold Ycb at hv ⊢;omega
 rw[e];simp only[Prod.mk.injEq,and_true,true_and];exact hl.symm
theorem Qc5 {S:List UInt8}{p q:Nat}{k x y mx my:Int}(h:Seg S p q (Qhf k x y mx my))(hv:Ynb k mx my=true):Yy2 S k x y (p,0)=(mx,my,q,0):=by
 unfold Qhf at h;unfold Ynb at hv;unfold Yy2;cases hk:Yas k with
 |true=>
  rw[hk,if_pos rfl] at h hv;rw[Bool.and_eq_true,beq_iff_eq,beq_iff_eq] at hv;obtain⟨rfl,rfl⟩:=hv;rw[if_pos rfl];simp only[Prod.mk.injEq,and_true,true_and];exact h.len.symm
 |false=>
  rw[hk,if_neg (by decide)] at h hv;rw[Bool.and_eq_true,beq_iff_eq,beq_iff_eq] at hv;obtain⟨g1,g2⟩:=h.split;have h1:=Yxf g1 hv.1;have h2:=Yxf g2 hv.2;rw[if_neg (by decide),h1];simp only;rw[h2]
theorem Yvu {S:List UInt8}{p q:Nat}{i:Bool}{d:Int}{l:List Ev}(h:Seg S p q (Yhr i d l))(hm:Yt6 i d l=true):Yi6 i (decide (0<l.length)) S (p,0)=(d,l,q,0):=by
 have hl:=h.len;have h1:=h.at;obtain⟨e1,e2,_⟩:=h;have hS:S=S.take p++Yhr i d l++S.drop q:=by rw[List.append_assoc,←h1,List.take_append_drop]
 have hA:(S.take p).length=p:=by rw[List.length_take];omega
 have hb:=Qd1 hm (S.take p) (S.drop q);rw[←hS,hA,←hl] at hb;rw[Yzf,hb]
theorem Y12 {S:List UInt8}{a:Nat}{c:Cel}{i:Nat}:∀(k b:Nat),Seg S a b (Yjn c (i+k))→Seg S a (a+(Yjn c i).length) (Yjn c i)
 |0,b,h=>by
  have hl:=h.len;rw[Nat.add_zero] at hl h;rw[←hl];exact h
 |k+1,b,h=>by
  have h':Seg S a b (Yjn c (i+k)++Yhr (Yas c.kind) (c.dc (i+k)) (c.ev (i+k))):=h;exact Y12 k _ h'.split.1
theorem Y18 {c:Cel}:∀i,i<6→Yj3 (4*Yf5 c 4+Ykm c) i=decide (0<(c.ev i).length):=by
 have hb:∀i,(Yqv c i==1)=decide (0<(c.ev i).length):=by
  intro i;unfold Yqv;cases decide (0<(c.ev i).length) <;> rfl
 have h:=fun i=>Yz8 c i;have h0:=h 0;have h1:=h 1;have h2:=h 2;have h3:=h 3;have h4:=h 4;have h5:=h 5;intro i hi;rw[←hb];unfold Yj3
 congr 1
 rw[Yni];unfold Ykm
 match i,hi with
 |0,_=>simp only[Nat.sub_zero,Nat.reducePow];omega
 |1,_=>simp only[Nat.reduceSub,Nat.reducePow];omega
 |2,_=>simp only[Nat.reduceSub,Nat.reducePow];omega
 |3,_=>simp only[Nat.reduceSub,Nat.reducePow];omega
 |4,_=>simp only[Nat.reduceSub,Nat.reducePow];omega
 |5,_=>simp only[Nat.reduceSub,Nat.reducePow];omega
theorem Y8k {c d:Cel}(he:∀i,i<6→c.ev i=d.ev i)(hd:∀i,i<6→c.dc i=d.dc i)(h1:c.stuff=d.stuff)(h2:c.skip=d.skip)(h3:c.kind=d.kind)(h4:c.step=d.step)(h5:c.mx=d.mx)(h6:c.my=d.my):Yqo c d=true:=by
 unfold Yqo;rw[Y9t he,Bool.true_and];unfold Qkh;rw[h1,h2,h3,h4,h5,h6];simp only[beq_self_eq_true,Bool.and_self,Bool.true_and,List.all_eq_true];intro i hi;rw[hd i (List.mem_range.1 hi)];exact beq_self_eq_true _
theorem Y87 {inter:Bool}{S:List UInt8}{x y:Int}{p q:Nat}{c:Cel}(h:Seg S p q (Yc6 inter x y c))(hm:Ybq inter c=true):∃c',ctk inter S x y p=(c',q,0)∧Yqo c' c=true:=by
 unfold Ybq at hm;rw[Bool.and_eq_true,Bool.and_eq_true,decide_eq_true_iff,decide_eq_true_iff] at hm;obtain⟨⟨s0,s1⟩,hm⟩:=hm;obtain⟨n,hn⟩:∃n:Nat,c.stuff=n:=⟨c.stuff.toNat,by omega⟩;unfold Yc6 at h;rw[hn,Int.toNat_natCast] at h;cases hsk:c.skip with
 |true=>
  rw[hsk,if_pos rfl] at hm h;rw[Bool.and_eq_true] at hm;obtain⟨hi,hz⟩:=hm;subst hi;have hb:=Y11 n 65 0 p q (by omega) h;refine⟨_,Yn8 (Ytk hb),?_⟩;unfold Yqf at hz;simp only[Bool.and_eq_true,beq_iff_eq,List.all_eq_true,List.mem_range,decide_eq_true_eq] at hz;obtain⟨⟨⟨k0,k1⟩,k2,k3⟩,hd,he⟩:=hz
  exact Y8k (fun i hi=>(List.eq_nil_of_length_eq_zero (he i hi)).symm) (fun i hi=>(hd i hi).symm) (by rw[hn];simp) hsk.symm k0.symm k1.symm k2.symm k3.symm
 |false=>
  rw[hsk,if_neg (by decide)] at hm h;simp only[Bool.and_eq_true] at hm;obtain⟨⟨hk,hs⟩,hv,hbk⟩:=hm;rw[←List.append_assoc,←List.append_assoc,←List.append_assoc,←List.append_assoc] at h;obtain⟨q4,h,g5⟩:=h.cut;obtain⟨q3,h,g4⟩:=h.cut;obtain⟨q2,h,g3⟩:=h.cut;obtain⟨q1,g1,g2⟩:=h.cut;obtain⟨c1,c2,c3⟩:=Y81 c;obtain⟨r1,r2,r3⟩:=Qac hk c2;have hb:=Y10 r1 r2 r3 n 65 0 p q1 (by omega) g1;rw[Nat.zero_add] at hb
  have hall:=Yzl hb (Qbc g2 c1) (Qch g3 hs) (Qc5 g4 hv);rw[Int.toNat_natCast,Int.toNat_natCast] at hall;have hseg:∀i,i<6→Seg S (q4+(Yjn c i).length) (q4+(Yjn c (i+1)).length) (Yhr (Yas c.kind) (c.dc i) (c.ev i)):=by
   intro i hi;have g6:Seg S q4 q (Yjn c (i+1+(5-i))):=by rw[show i+1+(5-i)=6 by omega];exact g5
   have g7:Seg S q4 (q4+(Yjn c (i+1)).length) (Yjn c i++Yhr (Yas c.kind) (c.dc i) (c.ev i)):=Y12 (5-i) q g6;exact g7.split.2
  have hmy:=Yhw.1 hbk;have hst:∀i,i≤6→stB (Yas c.kind) (4*Yf5 c 4+Ykm c) S (q4,0) i=(q4+(Yjn c i).length,0):=by
   intro i
   induction i with
   |zero=>intro _;rfl
   |succ i ih=>
    intro hi;show (Yi6 (Yas c.kind) (Yj3 (4*Yf5 c 4+Ykm c) i) S (stB (Yas c.kind) (4*Yf5 c 4+Ykm c) S (q4,0) i)).2.2=_;rw[ih (by omega),Y18 i (by omega),Yvu (hseg i (by omega)) (hmy i (by omega))]
  have hbl:∀i,i<6→Yi6 (Yas c.kind) (Yj3 (4*Yf5 c 4+Ykm c) i) S (stB (Yas c.kind) (4*Yf5 c 4+Ykm c) S (q4,0) i)=(c.dc i,c.ev i,q4+(Yjn c (i+1)).length,0):=by
   intro i hi;rw[hst i (by omega),Y18 i hi,Yvu (hseg i hi) (hmy i hi)]
  rw[hst 6 (Nat.le_refl _),←g5.len] at hall;refine⟨_,Yn8 hall,?_⟩;refine Y8k (fun i hi=>?_) (fun i hi=>?_) hn.symm hsk.symm rfl rfl rfl rfl
  ·show (Yi6 (Yas c.kind) (Yj3 (4*Yf5 c 4+Ykm c) i) S (stB (Yas c.kind) (4*Yf5 c 4+Ykm c) S (q4,0) i)).2.1=_;rw[hbl i hi]
  ·show (Yi6 (Yas c.kind) (Yj3 (4*Yf5 c 4+Ykm c) i) S (stB (Yas c.kind) (4*Yf5 c 4+Ykm c) S (q4,0) i)).1=_;rw[hbl i hi]
end Go.Proofs.YtjjmalchelniiaaGreatDoor