/- Part 38 of StripsOnce. No condition. -/
import Derived.Test.YtjjmalchelniiaaGreatDoorStripsOnceMb
import Derived.Test.YtjjmalchelniiaaGreatDoorStripsOnceMj
import Derived.Test.YtjjmalchelniiaaGreatDoorStripsOnceMk
import Derived.Test.YtjjmalchelniiaaGreatDoorStripsOnceMo
import Derived.Test.YtjjmalchelniiaaGreatDoorStripsOnceMs
import Derived.Test.YtjjmalchelniiaaGreatDoorStripsOnceMv
import Derived.Test.YtjjmalchelniiaaGreatDoorStripsOnceMw
import Derived.Test.YtjjmalchelniiaaGreatDoorStripsOnceMx
import Derived.Test.YtjjmalchelniiaaGreatDoorStripsOnceMbh
import Derived.Test.YtjjmalchelniiaaGreatDoorStripsOnceMbj
import Derived.Test.YtjjmalchelniiaaGreatDoorStripsOnceMbk
namespace Go.Proofs.YtjjmalchelniiaaGreatDoor
theorem Qh5 (inter:Bool)(b:List UInt8):(mtk inter b=(0,0,(mtk inter b).2.2.1,0)∧(mtk inter b).2.2.1≠0)∨((mtk inter b).2.2.1=0∧0≤(mtk inter b).1∧(mtk inter b).1≤5∧(mtk inter b).1≠2∧0≤(mtk inter b).2.1∧(mtk inter b).2.1≤3∧(mtk inter b).2.2.2≤b.length):=by
 obtain⟨⟨f,n⟩,ht⟩:∃x,tk ((Ylb inter).map Yat) b 25 1=x:=⟨_,rfl⟩;by_cases hf:f=0
 ·subst hf;have hh:=Yx1 ht;unfold mtk;rw[ht,if_pos rfl]
  split
  next x _=>
   split
   ·exact .inl ⟨rfl,(show (6:Int)≠0 by decide)⟩
   ·refine .inr ⟨rfl,?_,?_,by assumption,?_,?_,hh.2.1⟩ <;> simp only[sA,sB] <;> omega
  ·exact .inr ⟨rfl,by decide,by decide,by decide,by decide,by decide,Nat.zero_le _⟩
 ·rw[Ytx inter ht hf];exact .inl ⟨rfl,hf⟩
theorem Y9k {all:List (ByteArray×Int)}{lo hi:Int}(h0:lo≤0∧0≤hi)(hall:∀x∈all,lo≤x.2∧x.2≤hi)(b:List UInt8):lo≤(gtk all b).1∧(gtk all b).1≤hi∧(gtk all b).2.2≤b.length:=by
 obtain⟨⟨f,n⟩,ht⟩:∃x,tk (all.map Ya1) b 25 1=x:=⟨_,rfl⟩;unfold gtk;by_cases hf:f=0
 ·subst hf;have hh:=Yx1 ht;rw[ht,if_pos rfl]
  split
  next x hx=>exact⟨(hall x (List.mem_of_find?_eq_some hx)).1,(hall x (List.mem_of_find?_eq_some hx)).2,hh.2.1⟩
  ·exact⟨h0.1,h0.2,Nat.zero_le _⟩
 ·rw[ht,if_neg hf];exact⟨h0.1,h0.2,Nat.zero_le _⟩
theorem Y97 (intra:Bool)(b:List UInt8):0≤(ptk intra b).1∧(ptk intra b).1≤15∧(ptk intra b).2.2≤b.length:=
 Y9k (all:=Yk5 intra) (lo:=0) (hi:=15) ⟨by decide,by decide⟩ (by cases intra <;> decide +kernel) b
theorem Y8g (b:List UInt8):-32≤(dtk b).1∧(dtk b).1≤31∧(dtk b).2.2≤b.length:=
 Y9k (all:=allD) (lo:=-32) (hi:=31) ⟨by decide,by decide⟩ (by decide +kernel) b
def Yqe (b:List UInt8):Int×Int×Nat:=match b with|[]=>(0,2,0)|c::_=>(if c=49 then 1 else 0,0,1)
abbrev Stt:=Nat×Int
def Ygf (k:List UInt8→Int×Int×Nat)(S:List UInt8)(st:Stt):Int×Stt:=
 if st.2=0 then ((k (S.drop st.1)).1,st.1+(k (S.drop st.1)).2.2,(k (S.drop st.1)).2.1) else (0,st)
def Ymy (inter:Bool)(S:List UInt8)(st:Stt):Int×Int×Stt:=
 if st.2=0 then ((mtk inter (S.drop st.1)).1,(mtk inter (S.drop st.1)).2.1,st.1+(mtk inter (S.drop st.1)).2.2.2,(mtk inter (S.drop st.1)).2.2.1) else (0,0,st)
def Yiz (intra coded:Bool)(S:List UInt8)(st:Stt):Int×List Ev×Stt:=
 if st.2=0 then ((btk S st.1 intra coded).1,(btk S st.1 intra coded).2.1,(btk S st.1 intra coded).2.2.1,(btk S st.1 intra coded).2.2.2) else (0,[],st)
def Yeh (inter:Bool)(S:List UInt8):Nat→Nat→Stt→Nat×Bool×Int×Int×Stt
 |0,_,st=>(0,false,0,0,st.1,13)
 |k+1,n,st=>
  if inter=true∧(Ygf Yqe S st).1=1 then (n,true,0,0,(Ygf Yqe S st).2) else
  if (Ymy inter S (if inter then (Ygf Yqe S st).2 else st)).1=5 then Yeh inter S k (n+1) (Ymy inter S (if inter then (Ygf Yqe S st).2 else st)).2.2 else
  (n,false,Ymy inter S (if inter then (Ygf Yqe S st).2 else st))
def Y2n (S:List UInt8)(kind:Int)(st:Stt):Int×Stt:=if Y5x kind then Ygf stk S st else (0,st)
def Yi6 (S:List UInt8)(pr:Int)(st:Stt):Int×Stt:=(Yca (Yca pr+(Ygf dtk S st).1),(Ygf dtk S st).2)
def Yyk (S:List UInt8)(kind:Int)(x y:Int)(st:Stt):Int×Int×Stt:=
 if Yas kind then (0,0,st) else ((Yi6 S x st).1,(Yi6 S y (Yi6 S x st).2).1,(Yi6 S y (Yi6 S x st).2).2)
def Yju (c i:Nat):Bool:=c / 2^(5-i)%2==1
def stB (intra:Bool)(c:Nat)(S:List UInt8)(st:Stt):Nat→Stt
 |0=>st
 |i+1=>(Yiz intra (Yju c i) S (stB intra c S st i)).2.2
def Qhg (inter:Bool)(S:List UInt8)(st:Stt):Nat:=
 4*(Ygf (ptk (Yas (Yeh inter S 65 0 st).2.2.1)) S (Yeh inter S 65 0 st).2.2.2.2).1.toNat+(Yeh inter S 65 0 st).2.2.2.1.toNat
def st2 (inter:Bool)(S:List UInt8)(st:Stt):Stt:=(Ygf (ptk (Yas (Yeh inter S 65 0 st).2.2.1)) S (Yeh inter S 65 0 st).2.2.2.2).2
def st3 (inter:Bool)(S:List UInt8)(st:Stt):Stt:=(Y2n S (Yeh inter S 65 0 st).2.2.1 (st2 inter S st)).2
def st4 (inter:Bool)(S:List UInt8)(x y:Int)(st:Stt):Stt:=(Yyk S (Yeh inter S 65 0 st).2.2.1 x y (st3 inter S st)).2.2
def Yyh (inter:Bool)(S:List UInt8)(x y:Int)(st:Stt):Cel×Stt:=
 if (Yeh inter S 65 0 st).2.1 then ({Yma with stuff:=(Yeh inter S 65 0 st).1,skip:=true},(Yeh inter S 65 0 st).2.2.2.2) else
 ({stuff:=(Yeh inter S 65 0 st).1,skip:=false,kind:=(Yeh inter S 65 0 st).2.2.1,step:=(Y2n S (Yeh inter S 65 0 st).2.2.1 (st2 inter S st)).1,mx:=(Yyk S (Yeh inter S 65 0 st).2.2.1 x y (st3 inter S st)).1,my:=(Yyk S (Yeh inter S 65 0 st).2.2.1 x y (st3 inter S st)).2.1,dc:=fun i=>(Yiz (Yas (Yeh inter S 65 0 st).2.2.1) (Yju (Qhg inter S st) i) S (stB (Yas (Yeh inter S 65 0 st).2.2.1) (Qhg inter S st) S (st4 inter S x y st) i)).1,ev:=fun i=>(Yiz (Yas (Yeh inter S 65 0 st).2.2.1) (Yju (Qhg inter S st) i) S (stB (Yas (Yeh inter S 65 0 st).2.2.1) (Qhg inter S st) S (st4 inter S x y st) i)).2.1},
  stB (Yas (Yeh inter S 65 0 st).2.2.1) (Qhg inter S st) S (st4 inter S x y st) 6)
def ctk (inter:Bool)(S:List UInt8)(x y:Int)(p:Nat):Cel×Nat×Int:=
 if (Yyh inter S x y (p,0)).2.2=0 then ((Yyh inter S x y (p,0)).1,(Yyh inter S x y (p,0)).2.1,0) else (Yma,p,(Yyh inter S x y (p,0)).2.2)
theorem Yfq {k:List UInt8→Int×Int×Nat}{S:List UInt8}{p:Nat}:Ygf k S (p,0)=((k (S.drop p)).1,p+(k (S.drop p)).2.2,(k (S.drop p)).2.1):=if_pos rfl
theorem Yfx {k:List UInt8→Int×Int×Nat}{S:List UInt8}{st:Stt}(h:st.2≠0):Ygf k S st=(0,st):=if_neg h
theorem Yzv {inter:Bool}{S:List UInt8}{p:Nat}:Ymy inter S (p,0)=((mtk inter (S.drop p)).1,(mtk inter (S.drop p)).2.1,p+(mtk inter (S.drop p)).2.2.2,(mtk inter (S.drop p)).2.2.1):=if_pos rfl
theorem Ytq {inter:Bool}{S:List UInt8}{st:Stt}(h:st.2≠0):Ymy inter S st=(0,0,st):=if_neg h
theorem Yyv {intra coded:Bool}{S:List UInt8}{p:Nat}:Yiz intra coded S (p,0)=((btk S p intra coded).1,(btk S p intra coded).2.1,(btk S p intra coded).2.2.1,(btk S p intra coded).2.2.2):=if_pos rfl
theorem Y1b {intra coded:Bool}{S:List UInt8}{st:Stt}(h:st.2≠0):Yiz intra coded S st=(0,[],st):=if_neg h
theorem Y0i {intra:Bool}{c:Nat}{S:List UInt8}{st:Stt}{i:Nat}(h:(stB intra c S st i).2≠0):∀k,stB intra c S st (i+k)=stB intra c S st i
 |0=>rfl
 |k+1=>by
  have ih:=Y0i h k;show (Yiz intra (Yju c (i+k)) S (stB intra c S st (i+k))).2.2=_;rw[ih,Y1b h]
theorem Y2o {S:List UInt8}{kind:Int}{st:Stt}(h:st.2≠0):Y2n S kind st=(0,st):=by
 unfold Y2n;rw[Yfx h]
 split <;> rfl
theorem Y22 {S:List UInt8}{kind x y:Int}{st:Stt}(h:st.2≠0):(Yyk S kind x y st).2.2=st:=by
 unfold Yyk Yi6;rw[Yfx h]
 split
 ·rfl
 ·simp only;rw[Yfx h]
theorem Y7k {inter:Bool}{S:List UInt8}{x y:Int}{p:Nat}{f:Int}(hf:f≠0)(h:(Yyh inter S x y (p,0)).2.2=f):ctk inter S x y p=(Yma,p,f):=by
 unfold ctk;rw[h,if_neg hf]
theorem Yn1 {inter:Bool}{S:List UInt8}{x y:Int}{p q:Nat}{c:Cel}(h:Yyh inter S x y (p,0)=(c,q,0)):ctk inter S x y p=(c,q,0):=by
 unfold ctk;rw[h,if_pos rfl]
theorem Qhe {inter:Bool}{S:List UInt8}{x y:Int}{st:Stt}{n:Nat}{k c:Int}{sk:Bool}{q:Nat}{f:Int}(h:Yeh inter S 65 0 st=(n,sk,k,c,q,f))(hf:f≠0):(Yyh inter S x y st).2.2=f:=by
 have e2:st2 inter S st=(q,f):=by unfold st2;rw[h,Yfx hf]
 have e3:st3 inter S st=(q,f):=by unfold st3;rw[h,e2,Y2o hf]
 have e4:st4 inter S x y st=(q,f):=by unfold st4;rw[e3,Y22 hf]
 unfold Yyh;rw[e4,h];simp only
 split
 ·rfl
 ·have:=Y0i (intra:=Yas k) (c:=Qhg inter S st) (S:=S) (st:=(q,f)) (i:=0) hf 6;rw[Nat.zero_add] at this;rw[this]
  rfl
theorem Ys9 {inter:Bool}{S:List UInt8}{x y:Int}{st s':Stt}{n:Nat}{k c:Int}(h:Yeh inter S 65 0 st=(n,true,k,c,s')):Yyh inter S x y st=({Yma with stuff:=n,skip:=true},s'):=by
 unfold Yyh;rw[h]
 rfl
theorem Ynx {inter:Bool}{S:List UInt8}{k n:Nat}{st st1:Stt}{v:Int}(hi:inter=true)(h:Ygf Yqe S st=(v,st1))(hv:v=1):Yeh inter S (k+1) n st=(n,true,0,0,st1):=by
 unfold Yeh;rw[h,if_pos ⟨hi,hv⟩]
theorem Yj5 {S:List UInt8}{k n:Nat}{st st1 st2:Stt}{v a c:Int}(h:Ygf Yqe S st=(v,st1))(hv:v≠1)(h2:Ymy true S st1=(a,c,st2)):Yeh true S (k+1) n st=if a=5 then Yeh true S k (n+1) st2 else (n,false,a,c,st2):=by
 conv=>lhs;unfold Yeh
 rw[h,if_neg (fun e=>hv e.2),if_pos rfl,h2]
theorem Yj6 {S:List UInt8}{k n:Nat}{st st2:Stt}{a c:Int}(h2:Ymy false S st=(a,c,st2)):Yeh false S (k+1) n st=if a=5 then Yeh false S k (n+1) st2 else (n,false,a,c,st2):=by
 conv=>lhs;unfold Yeh
 rw[if_neg (fun e=>by cases e.1)];simp only[Bool.false_eq_true,if_false,h2]
theorem Y68 (inter:Bool)(S:List UInt8):∀(j n:Nat) (st:Stt) (n':Nat) (sk:Bool) (k c:Int) (st':Stt),Yeh inter S j n st=(n',sk,k,c,st')→n'≤n+j∧0≤k∧k≤4∧k≠2∧0≤c∧c≤3∧(sk=true→k=0)
 |0,n,st,n',sk,k,c,st',h=>by
  simp only[Yeh,Prod.mk.injEq] at h;exact⟨by omega,by omega,by omega,by omega,by omega,by omega,fun _=>h.2.2.1.symm⟩
 |j+1,n,st,n',sk,k,c,st',h=>by
  have hk:∀s2,(Ymy inter S s2).1≠5→0≤(Ymy inter S s2).1∧(Ymy inter S s2).1≤4∧(Ymy inter S s2).1≠2∧0≤(Ymy inter S s2).2.1∧(Ymy inter S s2).2.1≤3:=by
   intro s2 h5;unfold Ymy at h5 ⊢
   split at h5
   next hz=>
    rw[if_pos hz];simp only at h5 ⊢;rcases Qh5 inter (S.drop s2.1) with ⟨h1,_⟩|⟨h0,h1,h2,h3,h4,h6,_⟩
    ·rw[h1];refine⟨?_,?_,?_,?_,?_⟩ <;> simp
    ·exact⟨h1,by omega,h3,h4,h6⟩
   next hz=>
    rw[if_neg hz];refine⟨?_,?_,?_,?_,?_⟩ <;> simp
  unfold Yeh at h;generalize (if inter=true then (Ygf Yqe S st).2 else st)=s1 at h
  split at h
  ·simp only[Prod.mk.injEq] at h;exact⟨by omega,by omega,by omega,by omega,by omega,by omega,fun _=>h.2.2.1.symm⟩
  ·split at h
   ·have:=Y68 inter S j (n+1) _ n' sk k c st' h;exact⟨by omega,this.2⟩
   next h5=>
    have h1:=hk _ h5;simp only[Prod.mk.injEq] at h;obtain⟨e1,e2,e3⟩:=h;rw[e3] at h1;simp only at h1;exact⟨by omega,h1.1,h1.2.1,h1.2.2.1,h1.2.2.2.1,h1.2.2.2.2,fun e=>by rw[←e2] at e;cases e⟩
theorem Yy0 {inter:Bool}{S:List UInt8}{x y:Int}{st st1 s2 s3 s4:Stt}{n:Nat}{k ch pt sp mx my:Int}(h:Yeh inter S 65 0 st=(n,false,k,ch,st1))(h2:Ygf (ptk (Yas k)) S st1=(pt,s2))(h3:Y2n S k s2=(sp,s3))(h4:Yyk S k x y s3=(mx,my,s4)):
  Yyh inter S x y st=({stuff:=n,skip:=false,kind:=k,step:=sp,mx:=mx,my:=my,dc:=fun i=>(Yiz (Yas k) (Yju (4*pt.toNat+ch.toNat) i) S (stB (Yas k) (4*pt.toNat+ch.toNat) S s4 i)).1,ev:=fun i=>(Yiz (Yas k) (Yju (4*pt.toNat+ch.toNat) i) S (stB (Yas k) (4*pt.toNat+ch.toNat) S s4 i)).2.1},stB (Yas k) (4*pt.toNat+ch.toNat) S s4 6):=by
 simp only[Yyh,st4,st3,st2,Qhg,h,h2,h3,h4,Bool.false_eq_true,if_false]
theorem Qjn (intra:Bool)(S:List UInt8)(st:Stt):0≤(Ygf (ptk intra) S st).1∧(Ygf (ptk intra) S st).1≤15:=by
 unfold Ygf
 split
 ·exact⟨(Y97 intra _).1,(Y97 intra _).2.1⟩
 ·constructor <;> simp
theorem Y8d (S:List UInt8)(st:Stt):-32≤(Ygf dtk S st).1∧(Ygf dtk S st).1≤31:=by
 unfold Ygf
 split
 ·exact⟨(Y8g _).1,(Y8g _).2.1⟩
 ·constructor <;> simp
end Go.Proofs.YtjjmalchelniiaaGreatDoor
namespace Go.Proofs.YtjjmalchelniiaaGreatDoor
open Go.RowKit Go.Lib
def Yjd (w:World)(pb rb:Nat)(s:ByteArray)(st:Stt):Prop:=
 w.heap[pb]? =some (.cells [.pointer (some ⟨rb,0,none⟩),.int .i64 st.2].toArray 212 (0,0))∧Yba w rb s st.1∧rb<pb
theorem Yjd.lt {w:World}{pb rb:Nat}{s:ByteArray}{st:Stt}(h:Yjd w pb rb s st):pb<w.heap.size:=(Array.getElem?_eq_some_iff.1 h.1).1
theorem Yjd.under {w x:World}{pb rb N:Nat}{s:ByteArray}{st:Stt}(h:Yjd w pb rb s st)(hb:Below N w x)(hp:pb<N):Yjd x pb rb s st:=
 ⟨(hb.block pb hp).trans h.1,h.2.1.under hb (by have:=h.2.2;omega),h.2.2⟩
theorem Yjd.store {w x:World}{pb rb:Nat}{s:ByteArray}{st:Stt}{q:Nat}{f:Int}(h:Yjd w pb rb s st)(hr:Yba x rb s q)(hg:w.grownBy x (some rb)):
  Yjd (x.setCell ⟨pb,1,none⟩ (.int .i64 f)) pb rb s (q,f)∧Ybn rb pb w (x.setCell ⟨pb,1,none⟩ (.int .i64 f)):=by
 have h0:=(hg.block pb h.lt (by have:=h.2.2;simp;omega)).trans h.1;have hne:rb≠pb:=by have:=h.2.2;omega
 refine⟨⟨?_,⟨?_,hr.2⟩,h.2.2⟩,(Ybn.grown hg (.inl rfl)).trans (Ybn.set _ (.inr rfl))⟩
 ·exact Yau (o:=1) (.int .i64 f) h0
 ·rw[Below.heap_setCell _ _ _ _ hne];exact hr.1
def Ymu (w:World)(B:Nat)(v:Value)(L:List Ev):Prop:=∃(q:Option Addr) (cap:Nat),v=.slice q L.length cap∧Ye2 w q L∧Yfi B q
theorem Ymu.nil (w:World)(B:Nat):Ymu w B (.slice none 0 0) []:=⟨none,0,rfl,.inl rfl,Yfi.none _⟩
theorem Ymu.one {w:World}{B:Nat}{v:Value}{L:List Ev}(h:Ymu w B v L):v.oneCell'=true:=by
 obtain⟨q,cap,rfl,_⟩:=h
 rfl
theorem Ymu.from {w:World}{A B:Nat}{v:Value}{L:List Ev}(h:Ymu w B v L)(hab:A≤B):Ymu w A v L:=by
 obtain⟨q,cap,h1,h2,h3⟩:=h;exact⟨q,cap,h1,h2,h3.mono hab⟩
theorem Ymu.moved {w x:World}{a b B:Nat}{v:Value}{L:List Ev}(h:Ymu w B v L)(hm:Ybn a b w x)(ha:a<B)(hb:b<B):Ymu x B v L:=by
 obtain⟨q,cap,h1,h2,h3⟩:=h;refine⟨q,cap,h1,?_,h3⟩;rcases h2 with h|⟨k,o,rfl,h4,h5⟩
 ·exact .inl h
 ·have hk:B≤k:=h3 _ rfl;have hb:=hm.block k h4 (by omega) (by omega);refine .inr ⟨k,o,rfl,Nat.lt_of_lt_of_le h4 hm.size,fun i hi=>?_⟩;obtain⟨a0,a1,a2⟩:=h5 i hi;exact⟨(World.cell?_of_block (a:=⟨k,o+i*3,none⟩) hb).trans a0,(World.cell?_of_block (a:=⟨k,o+i*3+1,none⟩) hb).trans a1,(World.cell?_of_block (a:=⟨k,o+i*3+2,none⟩) hb).trans a2⟩
theorem Ymu.below {w x:World}{B:Nat}{v:Value}{L:List Ev}(h:Ymu w B v L)(hb:Below w.heap.size w x):Ymu x B v L:=by
 obtain⟨q,cap,h1,h2,h3⟩:=h;exact⟨q,cap,h1,h2.below hb,h3⟩
def Ysw (k:List UInt8→Int×Int×Nat)(s:ByteArray)(rb p:Nat)(w:World)(e:Ending)(w':World):Prop:=
 e=.returned (.tuple #[.int .i64 (k ((Yad s.data.toList).drop p)).1,.int .i64 (k ((Yad s.data.toList).drop p)).2.1])∧Yba w' rb s (p+(k ((Yad s.data.toList).drop p)).2.2)∧w.grownBy w' (some rb)
def Ydu (k:List UInt8→Int×Int×Nat)(s:ByteArray)(pb rb:Nat)(st:Stt)(w:World)(e:Ending)(w':World):Prop:=
 e=.returned (.int .i64 (Ygf k (Yad s.data.toList) st).1)∧Yjd w' pb rb s (Ygf k (Yad s.data.toList) st).2∧Ybn rb pb w w'
theorem Qg8 (s:ByteArray)(p:Nat)(hp:p≤8*s.size):∃(v f:Int) (n:Nat),Yqe ((Yad s.data.toList).drop p)=(v,f,n)∧ask s.data.toList p 1=(v,f)∧Yc1 s.data.toList p 1=p+n:=by
 have hdl:s.data.toList.length=s.size:=rfl;have hbl:((Yad s.data.toList).drop p).length=8*s.size-p:=by rw[List.length_drop,Yag];rfl
 by_cases hsh:8*s.size<p+1
 ·have ha:ask s.data.toList p 1=(0,2):=Ybo (by omega) (by rw[hdl];omega);refine⟨0,2,0,?_,ha,by unfold Yc1;rw[ha];rfl⟩;cases hd:(Yad s.data.toList).drop p with
  |nil=>rfl
  |cons a l=>rw[hd] at hbl;simp at hbl;omega
 ·have ha:ask s.data.toList p 1=(((Ya3 s.data.toList p 1:Nat):Int),0):=Yc8 (by omega) (by rw[hdl];omega);obtain⟨t,ht,h01,hd⟩:=Yrb s p (by omega);rw[ht] at ha;refine⟨t,0,1,?_,ha,by unfold Yc1;rw[ha];rfl⟩;cases hc:(Yad s.data.toList).drop p with
  |nil=>rw[hc] at hd;cases hd
  |cons a l=>
   rw[hc] at hd;have:a=UInt8.ofNat (48+t):=by simpa using hd
   subst this;rcases h01 with rfl|rfl <;> rfl
theorem Yy1 (w:World)(rb:Nat)(s:ByteArray)(p:Nat)(hr:Yba w rb s p):Calls Tryz.prog 225 #[.pointer (some ⟨rb,0,none⟩)] w (Ysw Yqe s rb p w):=by
 have hc:=Ycz w rb s p 1 hr;obtain⟨v,f,n,hb,ha,ht⟩:=Qg8 s p hr.2.1;unfold Ysw;rw[hb];rw[ha,ht] at hc;clear ha ht hb hr
 go_enter Tryz.func225,Tryz.ntmps225
 go_wp2_with fail
 refine hc.mono ?_;rintro e w1 ⟨rfl,hr1,hg1⟩
 go_wp2
 go_ret2
 exact⟨rfl,hr1,hg1⟩
theorem Yog {f : FuncId} {fn : Func} {c : Code} (hf : Tryz.prog.funcs[f]? = some fn) (hname : (fn.name == "runtime.NumGoroutine") = false) (hb : fn.body = some c) (args : Array Value) (w : World) : (callFunc f args).run Tryz.prog w = .ok (.enter f args) w := by
 have h1 : fn.name ≠ "runtime.NumGoroutine" := by simpa using hname
 simp[callFunc,hf,h1,hb]
theorem Yhs (k:List UInt8→Int×Int×Nat)(fn:FuncId)(w:World)(pb rb:Nat)(s:ByteArray)(st:Stt)(hr:Yjd w pb rb s st)(hen:∀args x,(callFunc fn args).run Tryz.prog x=.ok (.enter fn args) x)
  (hk:Yba w rb s st.1→Calls Tryz.prog fn #[.pointer (some ⟨rb,0,none⟩)] w (Ysw k s rb st.1 w)):
  Calls Tryz.prog 211 #[.pointer (some ⟨pb,0,none⟩),.func (.func fn) #[] #[]] w (Ydu k s pb rb st w):=by
 obtain⟨p,f⟩:=st;have c0:=Yab (o:=0) hr.1 rfl;have c1:=Yab (o:=1) hr.1 rfl;simp only at c0 c1;unfold Ydu;by_cases hf:f=0
 ·subst hf;have hk:=hk hr.2.1;unfold Ysw at hk;rw[Yfq];simp only at hk ⊢;generalize k ((Yad s.data.toList).drop p)=z at hk ⊢;obtain⟨v,f,n⟩:=z;simp only at hk ⊢;have HR:=Lib.hid hr;clear hr
  go_enter Tryz.func211,Tryz.ntmps211
  go_wp2_with fail
  refine hk.mono ?_;rintro e w1 ⟨rfl,hr1,hg1⟩;have h0:=(hg1.block pb HR.out.lt (by have:=HR.out.2.2;simp;omega)).trans HR.out.1;have hfr:=Yai (o:=1) h0;have hd0:=Yab (o:=1) h0 rfl;have ST:=Lib.hid (HR.out.store (f:=f) hr1 hg1);clear hr1 hg1 h0 hk c0 c1
  go_wp2
  go_ret
  exact⟨rfl,ST.out⟩
 ·rw[Yfx hf];have t0:(f != 0)=true:=by simpa using hf
  go_enter Tryz.func211,Tryz.ntmps211
  go_wp2
  go_ret
  exact⟨rfl,hr,Ybn.refl _ _ _⟩
section
variable {N:Nat}{w:World}{pb rb:Nat}{s:ByteArray}{st:Stt}
theorem Qdb (hr:Yjd w pb rb s st):Calls Tryz.prog 211 #[.pointer (some ⟨pb,0,none⟩),.func (.func 225) #[] #[]] w (Ydu Yqe s pb rb st w):=
 Yhs Yqe _ w pb rb s st hr (Yog Tryz.func225 (by kernel_rfl) rfl) fun h=>Yy1 w rb s st.1 h
theorem Y7v (ht:Ybh N w)(hN:N≤rb)(hr:Yjd w pb rb s st):Calls Tryz.prog 211 #[.pointer (some ⟨pb,0,none⟩),.func (.func 212) #[] #[]] w (Ydu stk s pb rb st w):=
 Yhs stk _ w pb rb s st hr (Yog Tryz.func212 (by kernel_rfl) rfl) fun h=>(Y5w w rb s st.1 ht.steps (by have:=ht.lo.2.2.2.1;omega) h).mono fun _ _ h=>h
theorem Yvr (ht:Ybh N w)(hr:Yjd w pb rb s st):Calls Tryz.prog 211 #[.pointer (some ⟨pb,0,none⟩),.func (.func 213) #[] #[]] w (Ydu dtk s pb rb st w):=
 Yhs dtk _ w pb rb s st hr (Yog Tryz.func213 (by kernel_rfl) rfl) fun h=>(Y8b w rb s st.1 ht.mvd h).mono fun _ _ h=>h
end
theorem Y71 {N:Nat}{w:World}{pb rb:Nat}{s:ByteArray}{st:Stt}(intra:Bool)(ht:Ybh N w)(hr:Yjd w pb rb s st):
  Calls Tryz.prog 210 #[.pointer (some ⟨pb,0,none⟩),.bool intra] w (Ydu (ptk intra) s pb rb st w):=by
 obtain⟨p,f⟩:=st;have c0:=Yab (o:=0) hr.1 rfl;have c1:=Yab (o:=1) hr.1 rfl;simp only at c0 c1;unfold Ydu;by_cases hf:f=0
 ·subst hf;have hk:=Y45 intra w rb s p ht.pats hr.2.1;unfold Qca at hk;rw[Yfq];generalize ptk intra ((Yad s.data.toList).drop p)=z at hk ⊢;obtain⟨v,f,n⟩:=z;simp only at hk ⊢;have HR:=Lib.hid hr;clear hr ht
  go_enter Tryz.func210,Tryz.ntmps210
  go_wp2_with fail
  refine hk.mono ?_;rintro e w1 ⟨rfl,hr1,hg1⟩;have h0:=(hg1.block pb HR.out.lt (by have:=HR.out.2.2;simp;omega)).trans HR.out.1;have hfr:=Yai (o:=1) h0;have hd0:=Yab (o:=1) h0 rfl;have ST:=Lib.hid (HR.out.store (f:=f) hr1 hg1);clear hr1 hg1 h0 hk c0 c1
  go_wp2
  go_ret
  exact⟨rfl,ST.out⟩
 ·rw[Yfx hf];have t0:(f != 0)=true:=by simpa using hf
  clear ht
  go_enter Tryz.func210,Tryz.ntmps210
  go_wp2
  go_ret
  exact⟨rfl,hr,Ybn.refl _ _ _⟩
def Ym5 (inter:Bool)(s:ByteArray)(pb rb:Nat)(st:Stt)(w:World)(e:Ending)(w':World):Prop:=
 e=.returned (.tuple #[.int .i64 (Ymy inter (Yad s.data.toList) st).1,.int .i64 (Ymy inter (Yad s.data.toList) st).2.1])∧Yjd w' pb rb s (Ymy inter (Yad s.data.toList) st).2.2∧Ybn rb pb w w'
theorem Yq7 {w:World}{pb rb:Nat}{s:ByteArray}{st:Stt}(inter:Bool)(hr:Yjd w pb rb s st):
  Calls Tryz.prog 226 #[.pointer (some ⟨pb,0,none⟩),.bool inter] w (Ym5 inter s pb rb st w):=by
 obtain⟨p,f⟩:=st;have c0:=Yab (o:=0) hr.1 rfl;have c1:=Yab (o:=1) hr.1 rfl;simp only at c0 c1;unfold Ym5;by_cases hf:f=0
 ·subst hf;have hk:=Y4s inter w rb s p hr.2.1;unfold Qb9 at hk;rw[Yzv];generalize mtk inter ((Yad s.data.toList).drop p)=z at hk ⊢;obtain⟨v,v2,f,n⟩:=z;simp only at hk ⊢;have HR:=Lib.hid hr;clear hr
  go_enter Tryz.func226,Tryz.ntmps226
  go_wp2_with fail
  refine hk.mono ?_;rintro e w1 ⟨rfl,hr1,hg1⟩;have h0:=(hg1.block pb HR.out.lt (by have:=HR.out.2.2;simp;omega)).trans HR.out.1;have hfr:=Yai (o:=1) h0;have hd0:=Yab (o:=1) h0 rfl;have ST:=Lib.hid (HR.out.store (f:=f) hr1 hg1);clear hr1 hg1 h0 hk c0 c1
  go_wp2
  go_ret2
  exact⟨rfl,ST.out⟩
 ·rw[Ytq hf];have t0:(f != 0)=true:=by simpa using hf
  go_enter Tryz.func226,Tryz.ntmps226
  go_wp2
  go_ret2
  exact⟨rfl,hr,Ybn.refl _ _ _⟩
def Ynn (intra coded:Bool)(s:ByteArray)(pb rb:Nat)(st:Stt)(w:World)(e:Ending)(w':World):Prop:=
 ∃v,e=.returned (.tuple #[.int .i64 (Yiz intra coded (Yad s.data.toList) st).1,v])∧Ymu w' w.heap.size v (Yiz intra coded (Yad s.data.toList) st).2.1∧Yjd w' pb rb s (Yiz intra coded (Yad s.data.toList) st).2.2∧Ybn rb pb w w'
theorem Yyx {N:Nat}{w:World}{pb rb:Nat}{s:ByteArray}{st:Stt}(intra coded:Bool)(ht:Ybh N w)(hr:Yjd w pb rb s st):
  Calls Tryz.prog 214 #[.pointer (some ⟨pb,0,none⟩),.bool intra,.bool coded] w (Ynn intra coded s pb rb st w):=by
 obtain⟨p,f⟩:=st;have c0:=Yab (o:=0) hr.1 rfl;have c1:=Yab (o:=1) hr.1 rfl;simp only at c0 c1;unfold Ynn;by_cases hf:f=0
 ·subst hf;have hk:=Y7d w rb s p intra coded ht.tcoef hr.2.1;unfold Y6p at hk;rw[Yyv];generalize btk (Yad s.data.toList) p intra coded=z at hk ⊢;obtain⟨d,L,q,f⟩:=z;simp only at hk ⊢;have HR:=Lib.hid hr;clear hr ht
  go_enter Tryz.func214,Tryz.ntmps214
  go_wp2_with fail
  refine hk.mono ?_;rintro e w1 ⟨d1,L1,f1,t1,m,a,cap,heq,rfl,hm,hev,hr1,hg1,hfm⟩;simp only[Prod.mk.injEq] at heq;obtain⟨rfl,rfl,rfl,rfl⟩:=heq;have h0:=(hg1.block pb HR.out.lt (by have:=HR.out.2.2;simp;omega)).trans HR.out.1;have hfr:=Yai (o:=1) h0;have hd0:=Yab (o:=1) h0 rfl;have ST:=Lib.hid (HR.out.store (f:=f) hr1 hg1)
  have SL:=Lib.hid ((show Ymu w1 w.heap.size (.slice a L.length cap) L from⟨a,cap,rfl,hev,hfm⟩).moved (Ybn.set (a:=pb) (b:=pb) (p:=⟨pb,1,none⟩) (.int .i64 f) (.inl rfl)) HR.out.lt HR.out.lt);rw[hm] at SL;clear hr1 hg1 h0 hk c0 c1 hev hfm
  go_wp2
  go_ret2
  exact⟨_,rfl,SL.out,ST.out⟩
 ·rw[Y1b hf];have t0:(f != 0)=true:=by simpa using hf
  clear ht
  go_enter Tryz.func214,Tryz.ntmps214
  go_wp2
  go_ret2
  exact⟨_,rfl,Ymu.nil _ _,hr,Ybn.refl _ _ _⟩
theorem Ybn.onto {a b N:Nat}{w x y:World}(h:Ybn a b w x)(hb:Below N x y)(hN:w.heap.size≤N):Ybn a b w y:=
 ⟨hb.os.trans h.os,hb.tape.trans h.tape,hb.output.trans h.output,Nat.le_trans h.size hb.size,fun k hk h1 h2=>(hb.block k (by omega)).trans (h.block k hk h1 h2)⟩
theorem Yeu {w x:World}{R:Nat}(h:w.grownBy x (some R))(hR:R<w.heap.size):Below R w x:=
 ⟨h.os,h.tape,h.output,h.size,fun k hk=>h.block k (by omega) (by simp;omega)⟩
theorem Yjd.wrong {w:World}{pb rb:Nat}{s:ByteArray}{st:Stt}(f:Int)(h:Yjd w pb rb s st):
  Yjd (w.setCell ⟨pb,1,none⟩ (.int .i64 f)) pb rb s (st.1,f)∧Ybn rb pb w (w.setCell ⟨pb,1,none⟩ (.int .i64 f)):=
 h.store h.2.1 ⟨rfl,rfl,rfl,Nat.le_refl _,fun _ _ _=>rfl⟩
theorem Yj8 (c:Cel)(sl:Nat→Value):(Tryz.prog.info? 77).map (·.size)=some (Ybd c sl).toArray.size:=by kernel_rfl
theorem Yn0 (c:Cel)(sl:Nat→Value)(h:∀i,i<6→(sl i).oneCell'=true):(Ybd c sl).toArray.all (·.oneCell')=true:=by
 rw[Array.all_eq_true_iff_forall_mem];intro v hv;have hm:v∈Ybd c sl:=by simpa using hv
 simp only[Ybd,List.mem_cons,List.not_mem_nil,or_false] at hm;rcases hm with rfl|rfl|rfl|rfl|rfl|rfl|rfl|rfl|rfl|rfl|rfl|rfl|rfl|rfl|rfl|rfl|rfl|rfl
 all_goals first|rfl|exact h _ (by omega)
def Y6r (inter:Bool)(s:ByteArray)(pb rb:Nat)(st:Stt)(w:World)(e:Ending)(w':World):Prop:=
 ∃(n:Nat) (sk:Bool) (k c:Int) (st':Stt),Yeh inter (Yad s.data.toList) 65 0 st=(n,sk,k,c,st')∧e=.returned (.tuple #[.agg (Ybd {Yma with stuff:=n,skip:=sk,kind:=k} nilS).toArray,.int .i64 c])∧Yjd w' pb rb s st'∧Ybn rb pb w w'
set_option maxRecDepth 100000 in
set_option maxHeartbeats 2000000 in
theorem Y3e {w:World}{pb rb:Nat}{s:ByteArray}{st:Stt}(inter:Bool)(hr:Yjd w pb rb s st):
  Calls Tryz.prog 209 #[.pointer (some ⟨pb,0,none⟩),.bool inter] w (Y6r inter s pb rb st w):=by
 obtain⟨R,hR⟩:∃R,w.heap.size=R:=⟨_,rfl⟩;obtain⟨wA,hwA⟩:∃x,w.alloc (.cells #[.int .i64 0,.bool false,.int .i64 0,.int .i64 0,.int .i64 0,.int .i64 0,.int .i64 0,.int .i64 0,.int .i64 0,.int .i64 0,.int .i64 0,.int .i64 0,.slice none 0 0,.slice none 0 0,.slice none 0 0,.slice none 0 0,.slice none 0 0,.slice none 0 0] 77 (0,0))=x:=⟨_,rfl⟩
 have hbA:Below R w wA:=by rw[←hwA,←hR];exact(Below.refl _ w).alloc (Nat.le_refl _) _
 have hzA:wA.heap.size=R+1:=by rw[←hwA,←hR];simp
 have hA:wA.heap[R]? =some (.cells #[.int .i64 0,.bool false,.int .i64 0,.int .i64 0,.int .i64 0,.int .i64 0,.int .i64 0,.int .i64 0,.int .i64 0,.int .i64 0,.int .i64 0,.int .i64 0,.slice none 0 0,.slice none 0 0,.slice none 0 0,.slice none 0 0,.slice none 0 0,.slice none 0 0] 77 (0,0)):=by rw[←hwA,←hR];exact heap_alloc_new w _
 obtain⟨Y,hY⟩:∃Y:Array Value,#[.int .i64 0,.bool false,.int .i64 0,.int .i64 0,.int .i64 0,.int .i64 0,.int .i64 0,.int .i64 0,.int .i64 0,.int .i64 0,.int .i64 0,.int .i64 0,.slice none 0 0,.slice none 0 0,.slice none 0 0,.slice none 0 0,.slice none 0 0,.slice none 0 0]=Y:=⟨_,rfl⟩;have hYs:Y.size=18:=by rw[←hY];rfl
 rw[hY] at hA;clear hY;have HYS:∀(n k:Int) (sk:Bool),Y.size=((#[.int .i64 n,.bool sk,.int .i64 k,.int .i64 0,.int .i64 0,.int .i64 0,.int .i64 0,.int .i64 0,.int .i64 0,.int .i64 0,.int .i64 0,.int .i64 0,.slice none 0 0,.slice none 0 0,.slice none 0 0,.slice none 0 0,.slice none 0 0,.slice none 0 0]:Array Value)).size:=fun _ _ _=>hYs
 have HSZ:∀(n k:Int) (sk:Bool),(Tryz.prog.info? 77).map (·.size)=some ((#[.int .i64 n,.bool sk,.int .i64 k,.int .i64 0,.int .i64 0,.int .i64 0,.int .i64 0,.int .i64 0,.int .i64 0,.int .i64 0,.int .i64 0,.int .i64 0,.slice none 0 0,.slice none 0 0,.slice none 0 0,.slice none 0 0,.slice none 0 0,.slice none 0 0]:Array Value)).size:=fun n k sk=>Yj8 {Yma with stuff:=n,skip:=sk,kind:=k} nilS
 have HONE:∀(n k:Int) (sk:Bool),((#[.int .i64 n,.bool sk,.int .i64 k,.int .i64 0,.int .i64 0,.int .i64 0,.int .i64 0,.int .i64 0,.int .i64 0,.int .i64 0,.int .i64 0,.int .i64 0,.slice none 0 0,.slice none 0 0,.slice none 0 0,.slice none 0 0,.slice none 0 0,.slice none 0 0]:Array Value)).all (·.oneCell')=true:=fun n k sk=>Yn0 {Yma with stuff:=n,skip:=sk,kind:=k} nilS fun _ _=>rfl
 have hpb:pb<R:=hR▸hr.lt;have hrb:rb<pb:=hr.2.2;have hrA:Yjd wA pb rb s st:=hr.under hbA hpb;have hmA:Ybn rb pb w wA:=(Ybn.refl rb pb w).onto hbA (by omega);have HWA:=Lib.hid hwA;have HR:=Lib.hid hR;have HY:=Lib.hid HYS;clear hwA hR hYs hbA hr
 go_enter Tryz.func209,Tryz.ntmps209
 go_wp2
 rw[HWA.out,HR.out]
 go_loopw [9] (fun z wr=>∃(i:Nat) (st':Stt),i≤65∧z=.int .i64 i∧Yjd wr pb rb s st'∧Hid (Yeh inter (Yad s.data.toList) 65 0 st=Yeh inter (Yad s.data.toList) (65-i) i st')∧Ybn rb pb w wr∧wr.heap[R]? =some (.cells Y 77 (0,0))∧R<wr.heap.size) (fun z _=>65-(intOf z).toNat)
 case atStart=>exact⟨0,st,by omega,rfl,hrA,Lib.hid rfl,hmA,hA,by omega⟩
 case round=>
  clear hrA hmA hA hzA;obtain⟨i,st1,hi,rfl,hr1,hs,hm1,hA1,hz1⟩:=hrel;by_cases hlt:i<65
  ·have t0:decide ((i:Int)<65)=true:=by simp;omega
   obtain⟨j,hj⟩:∃j,65-i=j+1:=⟨64-i,by omega⟩;have hs':=hs.out;rw[hj] at hs';have hj2:j=65-(i+1):=by omega
   have HJ:=Lib.hid hj2;clear hj hj2 hs;cases inter with
   |true=>
    have cb:=Qdb hr1;unfold Ydu at cb;generalize hnum:Ygf Yqe (Yad s.data.toList) st1=z at cb;obtain⟨v,st2⟩:=z;simp only at cb;have HNUM:=Lib.hid hnum;clear hnum;by_cases hv:v=1
    ·have F:=Lib.hid (show Yeh true (Yad s.data.toList) 65 0 st=(i,true,0,0,st2) by rw[hs'];exact Ynx rfl HNUM.out hv);subst hv;clear hs'
     go_wp2_with fail
     refine cb.mono ?_;rintro e w2 ⟨rfl,hr2,hm⟩;have hA2:=(hm.block R hz1 (by omega) (by omega)).trans hA1;have hz2:=Nat.lt_of_lt_of_le hz1 hm.size;have hm2:=hm1.trans hm;clear cb hm hr1 hm1 hA1 hz1
     go_wp2_with (with_reducible refine Yaj rfl 77 _ _ rfl R _ Y rfl rfl 77 hA2 (HSZ _ _ _) (HY.out _ _ _) (HONE _ _ _) ?_;intro w5 hh5 hg5)
     have hb5:=Yeu hg5 hz2;refine bodyPost_ret (Yam rfl _ _ R 77 _ (0,0) _ rfl hh5 Tryz.underlying77 rfl (by kernel_rfl)) rfl ?_;exact⟨i,true,0,0,st2,F.out,rfl,hr2.under hb5 hpb,hm2.onto hb5 (Nat.le_of_eq HR.out)⟩
    ·have g1:(v==1)=false:=by simpa using hv
     have HV:=Lib.hid hv;clear hv
     go_wp2_with fail
     refine cb.mono ?_;rintro e w3 ⟨rfl,hr2,hm⟩;have hA2:=(hm.block R hz1 (by omega) (by omega)).trans hA1;have hz2:=Nat.lt_of_lt_of_le hz1 hm.size;have hm2:=hm1.trans hm;clear cb hm hr1 hm1 hA1 hz1;have ck:=Yq7 true hr2;unfold Ym5 at ck;generalize hkin:Ymy true (Yad s.data.toList) st2=z at ck;obtain⟨a,c,st3⟩:=z;simp only at ck;have HKIN:=Lib.hid hkin;clear hkin;by_cases ha5:a=5
     ·subst ha5;have F:=Lib.hid (show Yeh true (Yad s.data.toList) 65 0 st=Yeh true (Yad s.data.toList) j (i+1) st3 by rw[hs'];exact(Yj5 HNUM.out HV.out HKIN.out).trans (if_pos rfl));clear hs'
      go_wp2_with fail
      refine ck.mono ?_;rintro e w2 ⟨rfl,hr3,hm⟩;have hA3:=(hm.block R hz2 (by omega) (by omega)).trans hA2;have hz3:=Nat.lt_of_lt_of_le hz2 hm.size;have hm3:=hm2.trans hm;clear ck hm hr2 hm2 hA2 hz2
      go_wp2
      go_roundw
      case rel=>exact⟨i+1,st3,by omega,by go_num,hr3,Lib.hid (by rw[F.out,HJ.out]),hm3,hA3,hz3⟩
      case measure=>simp[intOf];omega
     ·have g5:(a != 5)=true:=by simpa using ha5
      have F:=Lib.hid (show Yeh true (Yad s.data.toList) 65 0 st=(i,false,a,c,st3) by rw[hs'];exact(Yj5 HNUM.out HV.out HKIN.out).trans (if_neg ha5));clear hs' ha5
      go_wp2_with fail
      refine ck.mono ?_;rintro e w2 ⟨rfl,hr3,hm⟩;have hA3:=(hm.block R hz2 (by omega) (by omega)).trans hA2;have hz3:=Nat.lt_of_lt_of_le hz2 hm.size;have hm3:=hm2.trans hm;clear ck hm hr2 hm2 hA2 hz2
      go_wp2_with (with_reducible refine Yaj rfl 77 _ _ rfl R _ Y rfl rfl 77 hA3 (HSZ _ _ _) (HY.out _ _ _) (HONE _ _ _) ?_;intro w5 hh5 hg5)
      have hb5:=Yeu hg5 hz3;refine bodyPost_ret (Yam rfl _ _ R 77 _ (0,0) _ rfl hh5 Tryz.underlying77 rfl (by kernel_rfl)) rfl ?_;exact⟨i,false,a,c,st3,F.out,rfl,hr3.under hb5 hpb,hm3.onto hb5 (Nat.le_of_eq HR.out)⟩
   |false=>
    have ck:=Yq7 false hr1;unfold Ym5 at ck;generalize hkin:Ymy false (Yad s.data.toList) st1=z at ck;obtain⟨a,c,st2⟩:=z;simp only at ck;have HKIN:=Lib.hid hkin;clear hkin;by_cases ha5:a=5
    ·subst ha5;have F:=Lib.hid (show Yeh false (Yad s.data.toList) 65 0 st=Yeh false (Yad s.data.toList) j (i+1) st2 by rw[hs'];exact(Yj6 HKIN.out).trans (if_pos rfl));clear hs'
     go_wp2_with fail
     refine ck.mono ?_;rintro e w2 ⟨rfl,hr2,hm⟩;have hA2:=(hm.block R hz1 (by omega) (by omega)).trans hA1;have hz2:=Nat.lt_of_lt_of_le hz1 hm.size;have hm2:=hm1.trans hm;clear ck hm hr1 hm1 hA1 hz1
     go_wp2
     go_roundw
     case rel=>exact⟨i+1,st2,by omega,by go_num,hr2,Lib.hid (by rw[F.out,HJ.out]),hm2,hA2,hz2⟩
     case measure=>simp[intOf];omega
    ·have g5:(a != 5)=true:=by simpa using ha5
     have F:=Lib.hid (show Yeh false (Yad s.data.toList) 65 0 st=(i,false,a,c,st2) by rw[hs'];exact(Yj6 HKIN.out).trans (if_neg ha5));clear hs' ha5
     go_wp2_with fail
     refine ck.mono ?_;rintro e w2 ⟨rfl,hr2,hm⟩;have hA2:=(hm.block R hz1 (by omega) (by omega)).trans hA1;have hz2:=Nat.lt_of_lt_of_le hz1 hm.size;have hm2:=hm1.trans hm;clear ck hm hr1 hm1 hA1 hz1
     go_wp2_with (with_reducible refine Yaj rfl 77 _ _ rfl R _ Y rfl rfl 77 hA2 (HSZ _ _ _) (HY.out _ _ _) (HONE _ _ _) ?_;intro w5 hh5 hg5)
     have hb5:=Yeu hg5 hz2;refine bodyPost_ret (Yam rfl _ _ R 77 _ (0,0) _ rfl hh5 Tryz.underlying77 rfl (by kernel_rfl)) rfl ?_;exact⟨i,false,a,c,st2,F.out,rfl,hr2.under hb5 hpb,hm2.onto hb5 (Nat.le_of_eq HR.out)⟩
  ·obtain rfl:i=65:=by omega
   have t0:decide ((65:Int)<65)=false:=by simp
   have F:=Lib.hid (show Yeh inter (Yad s.data.toList) 65 0 st=(0,false,0,0,st1.1,13) by rw[hs.out];rfl);obtain⟨hr2,hm⟩:=hr1.wrong 13;have hA2:=(hm.block R hz1 (by omega) (by omega)).trans hA1;have hz2:=Nat.lt_of_lt_of_le hz1 hm.size;have hm2:=hm1.trans hm;have c1:=Yab (o:=1) hr1.1 rfl;have hfr:=Yai (o:=1) hr1.1;clear hs hm hr1 hm1 hA1 hz1
   go_wp2_with (with_reducible refine Yaj rfl 77 _ _ rfl R _ Y rfl rfl 77 hA2 (HSZ _ _ _) (HY.out _ _ _) (HONE _ _ _) ?_;intro w5 hh5 hg5)
   have hb5:=Yeu hg5 hz2;refine bodyPost_ret (Yam rfl _ _ R 77 _ (0,0) _ rfl hh5 Tryz.underlying77 rfl (by kernel_rfl)) rfl ?_;exact⟨0,false,0,0,_,F.out,rfl,hr2.under hb5 hpb,hm2.onto hb5 (Nat.le_of_eq HR.out)⟩
def Qdf (D:Cel)(i:Nat):Cel:={D with dc:=fun j=>if j<i then D.dc j else 0}
theorem Y74 (D:Cel)(i:Nat):{Qdf D i with dc:=Y2g (Qdf D i).dc i (D.dc i)}=Qdf D (i+1):=by
 have h:Y2g (Qdf D i).dc i (D.dc i)=(Qdf D (i+1)).dc:=by
  funext j
  show (if j=i then D.dc i else if j<i then D.dc j else 0)=if j<i+1 then D.dc j else 0
  by_cases e:j=i
  ·rw[if_pos e,if_pos (by omega),e]
  ·rw[if_neg e];by_cases h:j<i
   ·rw[if_pos h,if_pos (by omega)]
   ·rw[if_neg h,if_neg (by omega)]
 rw[h]
 rfl
theorem Yyy (c:Cel)(sl:Nat→Value)(v:Int):∀i,i<6→(Ybd c sl).set (6+i) (.int .i64 v)=Ybd {c with dc:=Y2g c.dc i v} sl
 |0,_=>rfl
 |1,_=>rfl
 |2,_=>rfl
 |3,_=>rfl
 |4,_=>rfl
 |5,_=>rfl
def Qfd (sl:Nat→Value)(i:Nat)(v:Value):Nat→Value:=fun j=>if j=i then v else sl j
theorem Yyz (c:Cel)(sl:Nat→Value)(v:Value):∀i,i<6→(Ybd c sl).set (12+i) v=Ybd c (Qfd sl i v)
 |0,_=>rfl
 |1,_=>rfl
 |2,_=>rfl
 |3,_=>rfl
 |4,_=>rfl
 |5,_=>rfl
theorem Qc5 {c:Cel}{f:Nat→Int}{sl:Nat→Value}(h:∀i,i<6→c.dc i=f i):Ybd c sl=Ybd {c with dc:=f} sl:=by
 unfold Ybd;rw[h 0 (by omega),h 1 (by omega),h 2 (by omega),h 3 (by omega),h 4 (by omega),h 5 (by omega)]
theorem Qdg (D:Cel)(sl:Nat→Value):Ybd (Qdf D 6) sl=Ybd D sl:=Qc5 (c:=Qdf D 6) (f:=D.dc) fun _ hi=>if_pos hi
theorem Y1d (w:World):(zeroValue 77).run Tryz.prog w=.ok (.agg (Ybd Yma nilS).toArray) w:=by
 have h:(Tryz.prog.info? 77).map (fun i=>i.zero)=some (some (.agg (Ybd Yma nilS).toArray)):=by kernel_rfl
 generalize (Ybd Yma nilS).toArray=Z at h ⊢;cases hq:Tryz.prog.info? 77 with
 |none=>simp[hq] at h
 |some i=>
  simp[hq] at h;simp[zeroValue,typeInfo,hq,h]
def Qf1 (S:List UInt8)(x y:Int)(st:Stt):Nat→Int×Int×Stt
 |0=>(0,0,st)
 |1=>((Yi6 S x st).1,0,(Yi6 S x st).2)
 |_=>((Yi6 S x st).1,(Yi6 S y (Yi6 S x st).2).1,(Yi6 S y (Yi6 S x st).2).2)
theorem Qiv {S:List UInt8}{k x y:Int}{st:Stt}(h:Yas k=false):Yyk S k x y st=Qf1 S x y st 2:=by
 unfold Yyk;rw[h]
 rfl
structure Yu0 (w wr:World) (pb rb A R C:Nat) (s:ByteArray) (x y:Int) (Y:Array Value) (st:Stt) (c:Cel) (sl:Nat→Value):Prop where
 rd:Yjd wr pb rb s st
 mv:Ybn rb pb w wr
 two:wr.heap[A]? =some (.cells #[.int .i64 x,.int .i64 y] 73 (0,0))
 res:wr.heap[R]? =some (.cells Y 77 (0,0))
 cel:wr.heap[C]? =some (.cells (Ybd c sl).toArray 77 (0,0))
 lt:rb<pb∧pb<A∧A<R∧R<C∧C<wr.heap.size∧w.heap.size≤A
section
variable {w wr z:World}{pb rb A R C:Nat}{s:ByteArray}{x y:Int}{Y:Array Value}{st st':Stt}{c c':Cel}{sl sl':Nat→Value}
theorem Yu0.move (h:Yu0 w wr pb rb A R C s x y Y st c sl)(hr:Yjd z pb rb s st')(hm:Ybn rb pb wr z):Yu0 w z pb rb A R C s x y Y st' c sl:=by
 obtain⟨l1,l2,l3,l4,l5,l6⟩:=h.lt;exact⟨hr,h.mv.trans hm,(hm.block A (by omega) (by omega) (by omega)).trans h.two,(hm.block R (by omega) (by omega) (by omega)).trans h.res,(hm.block C l5 (by omega) (by omega)).trans h.cel,l1,l2,l3,l4,Nat.lt_of_lt_of_le l5 hm.size,l6⟩
theorem Yu0.set (h:Yu0 w wr pb rb A R C s x y Y st c sl)(o:Nat)(v:Value)(hs:(Ybd c sl).set o v=Ybd c' sl'):Yu0 w (wr.setCell ⟨C,o,none⟩ v) pb rb A R C s x y Y st c' sl':=by
 obtain⟨l1,l2,l3,l4,l5,l6⟩:=h.lt;have hb:Below C wr (wr.setCell ⟨C,o,none⟩ v):=⟨rfl,rfl,rfl,by simp[World.setCell],fun k hk=>Below.heap_setCell _ _ _ _ (by simp;omega)⟩;refine⟨h.rd.under hb (by omega),h.mv.onto hb (by omega),(hb.block A (by omega)).trans h.two,(hb.block R l4).trans h.res,?_,l1,l2,l3,l4,Nat.lt_of_lt_of_le l5 hb.size,l6⟩;rw[←hs];exact Yau (o:=o) v h.cel
theorem Yu0.same (h:Yu0 w wr pb rb A R C s x y Y st c sl)(he:Ybd c sl=Ybd c' sl'):Yu0 w wr pb rb A R C s x y Y st c' sl':=
 ⟨h.rd,h.mv,h.two,h.res,he▸h.cel,h.lt⟩
end
theorem Qcw (c k:Nat):(bits .and .i64 ((c:Int) / 2^k) 1==1)=(c / 2^k%2==1):=by
 have h:=Ygt ((c:Int) / 2^k) 1 (by omega);have h2:((2:Int)^1-1)=1:=rfl;rw[h2] at h;rw[h];rw[Bool.eq_iff_iff,beq_iff_eq,beq_iff_eq];have h3:((c:Int) / 2^k)=((c / 2^k:Nat):Int):=by simp
 rw[h3];omega
def Y27 (inter:Bool)(s:ByteArray)(pb rb:Nat)(x y:Int)(st:Stt)(w:World)(e:Ending)(w':World):Prop:=
 ∃(c:Cel) (st':Stt) (sl:Nat→Value),Yyh inter (Yad s.data.toList) x y st=(c,st')∧e=.returned (.agg (Ybd c sl).toArray)∧(∀i,i<6→Ymu w' w.heap.size (sl i) (c.ev i))∧Yjd w' pb rb s st'∧Ybn rb pb w w'
set_option maxRecDepth 100000 in
set_option maxHeartbeats 4000000 in
theorem Y7n {N:Nat}{w:World}{pb rb:Nat}{s:ByteArray}{st:Stt}(inter:Bool)(x y:Int)(ht:Ybh N w)(hN:N≤rb)(hr:Yjd w pb rb s st):
  Calls Tryz.prog 193 #[.pointer (some ⟨pb,0,none⟩),.bool inter,.agg #[.int .i64 x,.int .i64 y]] w (Y27 inter s pb rb x y st w):=by
 obtain⟨Y,hY⟩:∃Y:Array Value,(Ybd Yma nilS).toArray=Y:=⟨_,rfl⟩;have hzv:∀w,(zeroValue 77).run Tryz.prog w=.ok (.agg Y) w:=by rw[←hY];exact Y1d
 obtain⟨A,wA,wB,hA,hwA,hwB,hzA,hzB,hC0,hC1,hbB⟩:=Y4k w (.cells #[.int .i64 x,.int .i64 y] 73 (0,0)) (.cells Y 77 (0,0));have hpA:pb<A:=hA▸hr.lt;have hrp:rb<pb:=hr.2.2;have hrB:Yjd wB pb rb s st:=hr.under hbB hpA;have hmB:Ybn rb pb w wB:=(Ybn.refl rb pb w).onto hbB (Nat.le_of_eq hA);have htx:∀z,Ybn rb pb w z→Ybh N z:=fun z hz=>ht.below (hz.under (by have:=hr.lt;omega) hN (by omega))
 have cb:=Y3e inter hrB;have HY:=Lib.hid hY;have HA:=Lib.hid hA;have HWA:=Lib.hid hwA;have HWB:=Lib.hid hwB;have HT:=Lib.hid htx;clear hY hA hwA hwB htx ht hr
 go_enter Tryz.func193,Tryz.ntmps193
 go_wp2_with fail
 rw[HWA.out,HA.out,HWB.out];refine cb.mono ?_;rintro e w1 ⟨n,sk,k,ch,st1,hbeg,rfl,hr1,hm1⟩;obtain⟨Z,hZ⟩:∃Z,(Ybd {Yma with stuff:=n,skip:=sk,kind:=k} nilS).toArray=Z:=⟨_,rfl⟩;rw[hZ];obtain⟨C,hC⟩:∃C,w1.heap.size=C:=⟨_,rfl⟩;obtain⟨w2,hw2⟩:∃z,w1.alloc (.cells Z 77 (0,0))=z:=⟨_,rfl⟩;have AT:Yu0 w w2 pb rb A (A+1) C s x y Y st1 {Yma with stuff:=n,skip:=sk,kind:=k} nilS:=by
  have hb2:Below C w1 w2:=by rw[←hw2,←hC];exact(Below.refl _ w1).alloc (Nat.le_refl _) _
  have hz1:=hm1.size;refine⟨hr1.under hb2 (by omega),(hmB.trans hm1).onto hb2 (by have:=HA.out;omega),?_,?_,?_,hrp,hpA,by omega,by omega,by rw[←hw2,←hC];simp,Nat.le_of_eq HA.out⟩
  ·exact(hb2.block A (by omega)).trans ((hm1.block A (by omega) (by omega) (by omega)).trans hC0)
  ·exact(hb2.block (A+1) (by omega)).trans ((hm1.block (A+1) (by omega) (by omega) (by omega)).trans hC1)
  ·rw[hZ,←hw2,←hC];exact heap_alloc_new w1 _
 have HSZ:(Tryz.prog.info? 77).map (·.size)=some Z.size:=hZ▸Yj8 _ _;have HYZ:Y.size=Z.size:=by rw[←hZ,←HY.out];rfl
 have HONE:Z.all (·.oneCell')=true:=hZ▸Yn0 _ _ fun _ _=>rfl;have HZ:=Lib.hid hZ;have HC:=Lib.hid hC;have HW2:=Lib.hid hw2;have HBEG:=Lib.hid hbeg;have HAT:=Lib.hid AT;clear hZ hC hw2 hbeg AT hr1 hm1 hrB hmB hbB hC0 hC1 hzA hzB cb;have hcel:=HAT.out.cel;rw[HZ.out] at hcel;have hres:=HAT.out.res;have hC:=HAT.out.lt;have BIN:=Y68 _ _ _ _ _ _ _ _ _ _ HBEG.out;cases sk with
 |true=>
  have c1:w2.cell? ⟨C,1,none⟩=some (.bool true):=Yab (o:=1) HAT.out.cel rfl;obtain rfl:0=k:=(BIN.2.2.2.2.2.2 rfl).symm;clear BIN
  go_wp2_with (first|(with_reducible refine Yao rfl 77 _ _ rfl Z Y 77 rfl rfl HSZ HYZ HONE ?_;rw[HW2.out,HC.out])|(with_reducible refine wpList_load_row rfl 77 _ rfl C rfl 77 Z (0,0) _ hcel Tryz.underlying77 rfl HSZ ?_)|(with_reducible refine Yaj rfl 77 _ _ rfl (A+1) Z Y rfl rfl 77 hres HSZ HYZ HONE ?_;intro w5 hh5 hg5))
  have hb5:=Yeu hg5 (by omega);refine bodyPost_ret (results_cell_row rfl _ _ (A+1) 77 _ (0,0) _ rfl hh5 Tryz.underlying77 rfl HSZ) rfl ?_;exact⟨_,st1,nilS,Ys9 HBEG.out,by rw[←HZ.out];rfl,fun i hi=>Ymu.nil _ _,HAT.out.rd.under hb5 (by omega),HAT.out.mv.onto hb5 (by omega)⟩
 |false=>
  obtain⟨b0,b1,b2,b3,b4,b5,_⟩:=BIN;obtain⟨a,rfl⟩:∃a:Nat,ch=(a:Int):=⟨ch.toNat,by omega⟩;have c1:w2.cell? ⟨C,1,none⟩=some (.bool false):=Yab (o:=1) HAT.out.cel rfl;have c2:w2.cell? ⟨C,2,none⟩=some (.int .i64 k):=Yab (o:=2) HAT.out.cel rfl;have HKK:Hid (k=0∨k=1∨k=3∨k=4):=Lib.hid (by omega);obtain⟨ik,hik⟩:∃ik,Yas k=ik:=⟨_,rfl⟩;have pin:=Qjn ik (Yad s.data.toList) st1
  have cp:=Y71 ik (HT.out _ HAT.out.mv) HAT.out.rd;unfold Ydu at cp;generalize hpt:Ygf (ptk ik) (Yad s.data.toList) st1=z at cp pin;obtain⟨pt,s2⟩:=z;simp only at cp pin;obtain⟨b,rfl⟩:∃b:Nat,pt=(b:Int):=⟨pt.toNat,by omega⟩;have HPT:Hid (Ygf (ptk (Yas k)) (Yad s.data.toList) st1=((b:Int),s2)):=Lib.hid (by rw[hik];exact hpt);obtain⟨cd,hcd⟩:∃cd,4*b+a=cd:=⟨_,rfl⟩;have hcl:cd≤63:=by omega
  have hb15:(b:Int)≤15:=by omega
  have ho:bits .or .i64 ((b:Int)*4) (a:Int)=(cd:Int):=(Yw3 b 4 a 2 rfl (by omega) (by omega)).trans (by rw[hcd]);have HCD:=Lib.hid hcd;have HIK:=Lib.hid hik;clear hcd hpt hik b1 b2 b3
  go_upto_region 4 with (with_reducible refine Yao rfl 77 _ _ rfl Z Y 77 rfl rfl HSZ HYZ HONE ?_;rw[HW2.out,HC.out])
  go_cut [9] (fun v wx=>v=.bool ik∧wx=w2)
  case first=>
   obtain rfl|rfl|rfl|rfl:=HKK.out
   all_goals
    go_wp2
    go_meet
    case rel=>exact⟨by rw[←HIK.out];rfl,by trivial⟩
  case rest=>
   obtain⟨rfl,hwc⟩:=hcut;rw[hwc];clear hwc
   go_wp2_with fail
   refine cp.mono ?_;rintro e w3 ⟨rfl,hr3,hm3⟩;have AT3:=HAT.out.move hr3 hm3;have d2:w3.cell? ⟨C,2,none⟩=some (.int .i64 k):=Yab (o:=2) AT3.cel rfl;have HAT3:=Lib.hid AT3;clear cp pin hr3 hm3 HAT hcel hres c1 c2 HSZ HYZ HONE AT3
   go_upto_region 6 with fail
   go_cut [43] (fun v wx=>v=.bool (Y5x k)∧wx=w3)
   case first=>
    obtain rfl|rfl|rfl|rfl:=HKK.out
    all_goals
     go_wp2
     go_meet
     case rel=>exact⟨by rfl,by trivial⟩
   case rest=>
   obtain⟨rfl,hwc⟩:=hcut;rw[hwc];clear hwc d2;obtain⟨sk,hsk⟩:∃sk,Y5x k=sk:=⟨_,rfl⟩;have HS:=Lib.hid hsk;rw[hsk];clear hsk
   go_upto_if 43 with fail
   go_cut [45] (fun v wx=>∃(sp:Int) (s3:Stt),Y2n (Yad s.data.toList) k s2=(sp,s3)∧Yu0 w wx pb rb A (A+1) C s x y Y s3 {Yma with stuff:=n,skip:=false,kind:=k,step:=sp,mx:=0,my:=0} nilS)
   case first=>
    cases sk with
    |false=>
     go_wp2
     go_meet
     case rel=>exact⟨0,s2,by unfold Y2n;rw[HS.out];rfl,HAT3.out⟩
    |true=>
     have cs:=Y7v (HT.out _ HAT3.out.mv) hN HAT3.out.rd;unfold Ydu at cs;generalize hsp:Ygf stk (Yad s.data.toList) s2=z at cs;obtain⟨sp,s3⟩:=z;simp only at cs;have HST:Hid (Y2n (Yad s.data.toList) k s2=(sp,s3)):=Lib.hid (by unfold Y2n;rw[HS.out];exact hsp);clear hsp
     go_wp2_with fail
     refine cs.mono ?_;rintro e w4 ⟨rfl,hr4,hm4⟩;have AT4:=HAT3.out.move hr4 hm4;have e3:=Yab (o:=3) AT4.cel rfl;have f3:=Yai (o:=3) AT4.cel;have HAT5:=Lib.hid (AT4.set 3 (.int .i64 sp) (c':={Yma with stuff:=n,skip:=false,kind:=k,step:=sp,mx:=0,my:=0}) (sl':=nilS) rfl);clear cs hr4 hm4 AT4
     go_wp2
     go_meet
     case rel=>exact⟨sp,s3,HST.out,HAT5.out⟩
   case rest=>
    obtain⟨sp,s3,hstp,AT5⟩:=hcut;obtain⟨wk,rfl⟩:∃z,z=wc:=⟨_,rfl⟩;have HSTP:=Lib.hid hstp;have HAT5:=Lib.hid AT5;clear hstp AT5 HAT3
    go_upto_if 48 with fail
    go_cut [49] (fun v wx=>∃(mx my:Int) (s4:Stt),Yyk (Yad s.data.toList) k x y s3=(mx,my,s4)∧Yu0 w wx pb rb A (A+1) C s x y Y s4 {Yma with stuff:=n,skip:=false,kind:=k,step:=sp,mx:=mx,my:=my} nilS)
    case first=>
     cases ik with
     |true=>
      go_wp2
      go_meet
      case rel=>exact⟨0,0,s3,by unfold Yyk;rw[HIK.out];rfl,HAT5.out⟩
     |false=>
      go_wp2
      obtain⟨mx,s4,hmx⟩:∃mx s4,Yi6 (Yad s.data.toList) x s3=(mx,s4):=⟨_,_,rfl⟩;have HMX:=Lib.hid hmx;have HV0:Hid (Qf1 (Yad s.data.toList) x y s3 0=(0,0,s3)):=Lib.hid rfl;have HV1:Hid (Qf1 (Yad s.data.toList) x y s3 1=(mx,0,s4)):=Lib.hid (congrArg (fun q=>(q.1,(0:Int),q.2)) hmx)
      have HV2:Hid (Qf1 (Yad s.data.toList) x y s3 2=(mx,(Yi6 (Yad s.data.toList) y s4).1,(Yi6 (Yad s.data.toList) y s4).2)):=Lib.hid (by show ((Yi6 (Yad s.data.toList) x s3).1,(Yi6 (Yad s.data.toList) y (Yi6 (Yad s.data.toList) x s3).2).1,(Yi6 (Yad s.data.toList) y (Yi6 (Yad s.data.toList) x s3).2).2)=_;rw[hmx]);clear hmx
      go_loopw [49] (fun z wr=>∃i:Nat,i≤2∧z=.int .i64 i∧Hid (Yu0 w wr pb rb A (A+1) C s x y Y (Qf1 (Yad s.data.toList) x y s3 i).2.2 {Yma with stuff:=n,skip:=false,kind:=k,step:=sp,mx:=(Qf1 (Yad s.data.toList) x y s3 i).1,my:=(Qf1 (Yad s.data.toList) x y s3 i).2.1} nilS)) (fun z _=>2-(intOf z).toNat)
      case atStart=>exact⟨0,by omega,rfl,Lib.hid (by rw[HV0.out];exact HAT5.out)⟩
      case round=>
       clear HAT5;obtain⟨i,hi2,rfl,hat⟩:=hrel;obtain rfl|rfl|rfl:i=0∨i=1∨i=2:=by omega
       ·have AT2:Yu0 w wr pb rb A (A+1) C s x y Y s3 {Yma with stuff:=n,skip:=false,kind:=k,step:=sp,mx:=0,my:=0} nilS:=by have h:=hat.out;rw[HV0.out] at h;exact h
        have p0:wr.cell? ⟨A,0,none⟩=some (.int .i64 x):=Yab (cs:=[.int .i64 x,.int .i64 y]) AT2.two rfl;have cd2:=Yvr (HT.out _ AT2.mv) AT2.rd;unfold Ydu at cd2;have din:=Y8d (Yad s.data.toList) s3;have hon:Yi6 (Yad s.data.toList) x s3=(Yca (Yca x+(Ygf dtk (Yad s.data.toList) s3).1),(Ygf dtk (Yad s.data.toList) s3).2):=rfl;generalize Ygf dtk (Yad s.data.toList) s3=z at cd2 din hon;obtain⟨dd,s6⟩:=z
        simp only at cd2 din hon;have wl:=Qb0 x;have wh:=Qbz x;have HON:=Lib.hid hon;have sw:IntKind.i64.wrap (Yca x+dd)=Yca x+dd:=IntWalk.i64_in _ (by omega);generalize hwp:Yca x=p1 at HON sw wl wh;have cw:=Ygr x;rw[hwp] at cw;have cw2:=Ygr (p1+dd);generalize Yca (p1+dd)=p2 at cw2 HON;clear hat hon hwp
        go_wp2_with fail
        refine(cw _).mono ?_;rintro e w6 ⟨rfl,rfl⟩
        go_wp2_with fail
        refine cd2.mono ?_;rintro e w6 ⟨rfl,hr6,hm6⟩;have AT6:=AT2.move hr6 hm6;have e4:=Yab (o:=4) AT6.cel rfl;have f4:=Yai (o:=4) AT6.cel;have N7:=Lib.hid (AT6.set 4 (.int .i64 p2) (c':={Yma with stuff:=n,skip:=false,kind:=k,step:=sp,mx:=p2,my:=0}) (sl':=nilS) rfl);clear AT6 hr6 hm6 cd2 AT2
        go_wp2_with fail
        refine(cw2 _).mono ?_;rintro e w8 ⟨rfl,rfl⟩
        go_wp2
        go_roundw
        case rel=>exact⟨1,by omega,by go_num,Lib.hid (by rw[show Qf1 (Yad s.data.toList) x y s3 1=(p2,0,s6) from by rw[HV1.out];exact congrArg (fun q=>(q.1,(0:Int),q.2)) (HMX.out.symm.trans HON.out)];exact N7.out)⟩
        case measure=>simp[intOf]
       ·have AT2:Yu0 w wr pb rb A (A+1) C s x y Y s4 {Yma with stuff:=n,skip:=false,kind:=k,step:=sp,mx:=mx,my:=0} nilS:=by have h:=hat.out;rw[HV1.out] at h;exact h
        have p0:wr.cell? ⟨A,1,none⟩=some (.int .i64 y):=Yab (cs:=[.int .i64 x,.int .i64 y]) AT2.two rfl;have cd2:=Yvr (HT.out _ AT2.mv) AT2.rd;unfold Ydu at cd2;have din:=Y8d (Yad s.data.toList) s4;have hon:Yi6 (Yad s.data.toList) y s4=(Yca (Yca y+(Ygf dtk (Yad s.data.toList) s4).1),(Ygf dtk (Yad s.data.toList) s4).2):=rfl;generalize Ygf dtk (Yad s.data.toList) s4=z at cd2 din hon;obtain⟨dd,s6⟩:=z
        simp only at cd2 din hon;have wl:=Qb0 y;have wh:=Qbz y;have HON:=Lib.hid hon;have sw:IntKind.i64.wrap (Yca y+dd)=Yca y+dd:=IntWalk.i64_in _ (by omega);generalize hwp:Yca y=p1 at HON sw wl wh;have cw:=Ygr y;rw[hwp] at cw;have cw2:=Ygr (p1+dd);generalize Yca (p1+dd)=p2 at cw2 HON;clear hat hon hwp
        go_wp2_with fail
        refine(cw _).mono ?_;rintro e w6 ⟨rfl,rfl⟩
        go_wp2_with fail
        refine cd2.mono ?_;rintro e w6 ⟨rfl,hr6,hm6⟩;have AT6:=AT2.move hr6 hm6;have e4:=Yab (o:=5) AT6.cel rfl;have f4:=Yai (o:=5) AT6.cel;have N7:=Lib.hid (AT6.set 5 (.int .i64 p2) (c':={Yma with stuff:=n,skip:=false,kind:=k,step:=sp,mx:=mx,my:=p2}) (sl':=nilS) rfl);clear AT6 hr6 hm6 cd2 AT2
        go_wp2_with fail
        refine(cw2 _).mono ?_;rintro e w8 ⟨rfl,rfl⟩
        go_wp2
        go_roundw
        case rel=>exact⟨2,by omega,by go_num,Lib.hid (by rw[show Qf1 (Yad s.data.toList) x y s3 2=(mx,p2,s6) from HV2.out.trans (congrArg (fun q=>(mx,q.1,q.2)) HON.out)];exact N7.out)⟩
        case measure=>simp[intOf]
       ·have h:=hat.out;rw[HV2.out] at h;have HH:=Lib.hid h;have HVEC:Hid (Yyk (Yad s.data.toList) k x y s3=(mx,(Yi6 (Yad s.data.toList) y s4).1,(Yi6 (Yad s.data.toList) y s4).2)):=Lib.hid (by rw[Qiv (S:=(Yad s.data.toList)) (k:=k) (x:=x) (y:=y) (st:=s3) HIK.out,HV2.out]);clear h hat HV0 HV1 HV2 HMX;rw[show (Value.int .i64 ((2:Nat):Int))=.int .i64 2 from rfl]
        go_wp2
        go_meet
        case rel=>exact⟨_,_,_,HVEC.out,HH.out⟩
    case rest=>
     obtain⟨mx,my,s5,hvec,AT2⟩:=hcut;obtain⟨wo,rfl⟩:∃z,z=wc:=⟨_,rfl⟩;have hall:=Yy0 (inter:=inter) (x:=x) (y:=y) HBEG.out HPT.out HSTP.out hvec;rw[show ((b:Int)).toNat=b from rfl,show ((a:Int)).toNat=a from rfl,HCD.out,HIK.out] at hall
     obtain⟨D,hD⟩:∃D:Cel,{stuff:=n,skip:=false,kind:=k,step:=sp,mx:=mx,my:=my,dc:=fun i=>(Yiz ik (Yju cd i) (Yad s.data.toList) (stB ik cd (Yad s.data.toList) s5 i)).1,ev:=fun i=>(Yiz ik (Yju cd i) (Yad s.data.toList) (stB ik cd (Yad s.data.toList) s5 i)).2.1}=D:=⟨_,rfl⟩;rw[hD] at hall
     have HDC:=Lib.hid (fun i=>(by rw[←hD]:D.dc i=(Yiz ik (Yju cd i) (Yad s.data.toList) (stB ik cd (Yad s.data.toList) s5 i)).1));have HDE:=Lib.hid (fun i=>(by rw[←hD]:D.ev i=(Yiz ik (Yju cd i) (Yad s.data.toList) (stB ik cd (Yad s.data.toList) s5 i)).2.1));have HATD:Hid (Yu0 w wo pb rb A (A+1) C s x y Y (stB ik cd (Yad s.data.toList) s5 0) (Qdf D 0) nilS):=Lib.hid (Yu0.same AT2 (by rw[←hD];rfl))
     have HALL:=Lib.hid hall;clear hall hD AT2 hvec HAT5
     go_wp2
     go_loopw [64] (fun z wr=>∃i:Nat,i≤6∧z=.int .i64 i∧∃sl,Hid (Yu0 w wr pb rb A (A+1) C s x y Y (stB ik cd (Yad s.data.toList) s5 i) (Qdf D i) sl∧(∀j,j<i→Ymu wr (C+1) (sl j) (D.ev j))∧∀j,i≤j→sl j=.slice none 0 0)) (fun z _=>6-(intOf z).toNat)
     case atStart=>exact⟨0,by omega,rfl,nilS,Lib.hid ⟨HATD.out,fun j h=>absurd h (Nat.not_lt_zero j),fun _ _=>rfl⟩⟩
     case round=>
      clear HATD;obtain⟨i,hi6,rfl,sl,hat⟩:=hrel;by_cases hlt:i<6
      ·have t0:decide ((i:Int)<6)=true:=by simp;omega
       have cb:=Yyx ik (Yju cd i) (HT.out _ hat.out.1.mv) hat.out.1.rd;unfold Ynn at cb;have hst:(Yiz ik (Yju cd i) (Yad s.data.toList) (stB ik cd (Yad s.data.toList) s5 i)).2.2=stB ik cd (Yad s.data.toList) s5 (i+1):=rfl;have hdv:=HDC.out i;have hev:=HDE.out i;generalize Yiz ik (Yju cd i) (Yad s.data.toList) (stB ik cd (Yad s.data.toList) s5 i)=z at cb hst hdv hev;obtain⟨dv,L,s5⟩:=z
       simp only at cb hst hdv hev;subst hst;have HDV:=Lib.hid hdv;have HEV:=Lib.hid hev;have q1:IntKind.i64.wrap (5-(i:Int))=((5-i:Nat):Int):=(IntWalk.i64_in _ (by omega)).trans (by omega);have q2:=Qcw cd (5-i);have q3:decide (((5-i:Nat):Int)<0)=false:=by simp
       clear hdv hev
       go_wp2_with fail
       refine cb.mono ?_;rintro e w6 ⟨v,rfl,hsl,hr6,hm6⟩;have AT6:=hat.out.1.move hr6 hm6;have hlt6:=AT6.lt;have hsz:=hat.out.1.lt;obtain⟨q,cap,rfl,hevs,hfr⟩:=hsl;have e6:=Yab (o:=6+i) AT6.cel (Y7j _ _ i hlt);have f6:=Yai (o:=6+i) AT6.cel;have AT7:=AT6.set (6+i) (.int .i64 dv) (Yyy _ _ dv i hlt);rw[←HDV.out,Y74] at AT7;rw[HDV.out] at AT7;have e7:=Yab (o:=12+i) AT7.cel (Qhd _ _ i hlt)
       have f7:=Yai (o:=12+i) AT7.cel;have AT8:=AT7.set (12+i) (.slice q L.length cap) (Yyz _ _ _ i hlt);have hm8:Ybn C C w6 ((w6.setCell ⟨C,6+i,none⟩ (.int .i64 dv)).setCell ⟨C,12+i,none⟩ (.slice q L.length cap)):=(Ybn.set (a:=C) (b:=C) (p:=⟨C,6+i,none⟩) _ (.inl rfl)).trans (Ybn.set (a:=C) (b:=C) (p:=⟨C,12+i,none⟩) _ (.inl rfl))
       have SL8:∀j,j<i+1→Ymu ((w6.setCell ⟨C,6+i,none⟩ (.int .i64 dv)).setCell ⟨C,12+i,none⟩ (.slice q L.length cap)) (C+1) (Qfd sl i (.slice q L.length cap) j) (D.ev j):=by
        intro j hj;unfold Qfd;by_cases e:j=i
        ·rw[if_pos e,e,HEV.out];exact(show Ymu w6 (C+1) _ _ from⟨q,cap,rfl,hevs,hfr.mono (by omega)⟩).moved hm8 (by omega) (by omega)
        ·rw[if_neg e];exact((hat.out.2.1 j (by omega)).moved hm6 (by omega) (by omega)).moved hm8 (by omega) (by omega)
       have NL8:∀j,i+1≤j→Qfd sl i (.slice q L.length cap) j=.slice none 0 0:=fun j hj=>(if_neg (by omega)).trans (hat.out.2.2 j (by omega));have N8:=Lib.hid (And.intro AT8 (And.intro SL8 NL8));obtain⟨m,hm⟩:∃m,L.length=m:=⟨_,rfl⟩;rw[hat.out.2.2 i (Nat.le_refl i)] at e7;rw[hm] at N8 ⊢;clear cb hat hr6 hm6 AT6 AT7 AT8 hm8 SL8 NL8 hevs hfr hm
       go_wp2
       go_roundw
       case rel=>exact⟨i+1,by omega,by go_num,_,N8⟩
       case measure=>simp[intOf];omega
      ·obtain rfl:i=6:=by omega
       have t0:decide ((6:Int)<6)=false:=by simp
       have hc6:=hat.out.1.cel;rw[Qdg] at hc6;have hl6:=hat.out.1.lt;have hr6:=hat.out.1.res;have one6:=Yn0 D sl fun j hj=>(hat.out.2.1 j hj).one;have siz6:=Yj8 D sl;have syz6:Y.size=(Ybd D sl).toArray.size:=by rw[←HY.out];rfl
       obtain⟨V,hV⟩:∃V,(Ybd D sl).toArray=V:=⟨_,rfl⟩;rw[hV] at hc6 one6 siz6 syz6;have HV:=Lib.hid hV;clear hV
       go_wp2_with (first|(with_reducible refine wpList_load_row rfl 77 _ rfl C rfl 77 V (0,0) _ hc6 Tryz.underlying77 rfl siz6 ?_)|(with_reducible refine Yaj rfl 77 _ _ rfl (A+1) V Y rfl rfl 77 hr6 siz6 syz6 one6 ?_;intro w5 hh5 hg5))
       have hb5:=Yeu hg5 (by omega);refine bodyPost_ret (results_cell_row rfl _ _ (A+1) 77 _ (0,0) _ rfl hh5 Tryz.underlying77 rfl siz6) rfl ?_;exact⟨D,_,sl,HALL.out,by rw[HV.out],fun j hj=>((hat.out.2.1 j hj).moved (Ybn.grown hg5 (.inl rfl):Ybn (A+1) (A+1) _ _) (by omega) (by omega)).from (by omega),hat.out.1.rd.under hb5 (by omega),hat.out.1.mv.onto hb5 (by omega)⟩
end Go.Proofs.YtjjmalchelniiaaGreatDoor
namespace Go.Proofs.YtjjmalchelniiaaGreatDoor
theorem Ynv (r m:List UInt8):r.isPrefixOf (r++m)=true:=List.isPrefixOf_iff_prefix.2 (List.prefix_append _ _)
theorem Qec (inter:Bool)(a b:Int)(r:ByteArray)(hr:Yby inter a b=r)(hne:r.data.toList.isEmpty=false)(m:List UInt8):
  mtk inter (r.data.toList++m)=if a=2 then (0,0,6,0) else (a,b,0,r.size):=by
 by_cases hn:a<0∨5<a∨b<0∨3<b∨(a=5∧0<b)
 ·rw[Ypg hn] at hr;rw[←hr] at hne;cases hne
 obtain⟨k,rfl⟩:∃k:Nat,a=k:=⟨a.toNat,by omega⟩;obtain⟨c,rfl⟩:∃c:Nat,b=c:=⟨b.toNat,by omega⟩;obtain⟨e1,e2,e3⟩:=Y1e inter k c (by omega) (by omega);rw[hr] at e1;have hrow:Yat (Yj9 inter (4*k+c))=r.data.toList:=by unfold Yat;rw[e1]
 have hx:Yj9 inter (4*k+c)∈Ylb inter:=Y7l (by omega) (by rw[hrow,hne];rfl);obtain⟨h1,h2,h3⟩:=Yb1 (Y61 inter _ hx);rw[hrow] at h1 h2 h3;have hlen:r.data.toList.length=r.size:=rfl;have h0:=List.length_pos_iff.2 h1;have ht:=Y2u (Ysz inter) (b:=r.data.toList++m) (r:=r.data.toList) (by rw[←hrow];exact List.mem_map_of_mem hx) (Ynv _ _) (k:=25) (n:=1) (by omega) (by omega)
 have hy:=Yzx inter ht hx (by rw[hrow];exact(Yb5.1 (Ynv _ _)).symm);rw[e2,e3] at hy;exact hy
theorem Qex (intra:Bool)(k:Nat)(hk:k<16)(r:ByteArray)(hr:Yf2 intra k=r)(m:List UInt8):ptk intra (r.data.toList++m)=((k:Int),0,r.size):=by
 have e:Ymw intra (Yf4 intra k)=(r,((Yf4 intra (Yf4 intra k):Nat):Int)):=by rw[Yvk intra _ (Ykt hk),←Y15 hk rfl,hr]
 have hx:Ymw intra (Yf4 intra k)∈Yk5 intra:=Y7m intra (Ykt hk);have hrow:Ya1 (Ymw intra (Yf4 intra k))=r.data.toList:=by rw[e];rfl
 obtain⟨h1,h2,h3⟩:=Yb1 (Yyr intra _ hx);rw[hrow] at h1 h2 h3;have hlen:r.data.toList.length=r.size:=rfl;have h0:=List.length_pos_iff.2 h1;have ht:=Y2u (Ynt intra) (b:=r.data.toList++m) (r:=r.data.toList) (by rw[←hrow];exact List.mem_map_of_mem hx) (Ynv _ _) (k:=25) (n:=1) (by omega) (by omega);have hy:=Y99 intra ht hx (by rw[hrow];exact(Yb5.1 (Ynv _ _)).symm);rw[e,Y5h hk] at hy;exact hy
theorem Qdl {d:Int}(hd:-32≤d∧d≤31)(r:ByteArray)(hr:Ybz d=r)(m:List UInt8):dtk (r.data.toList++m)=(d,0,r.size):=by
 obtain⟨j,hj⟩:∃j:Nat,d=(j:Int)-32:=⟨(d+32).toNat,by omega⟩;have hj64:j<64:=by omega
 have hrow:Ya1 (Ymv j)=r.data.toList:=by
  show (Ybz ((j:Int)-32)).data.toList=_;rw[←hj,hr]
 have ht:=Yzf hj64 (b:=r.data.toList++m) (by rw[hrow];exact Ynv _ _);rw[hrow,←hj] at ht;exact ht
theorem Qfk {s:Int}(hs:s = -1∨s = -2∨s=1∨s=2)(m:List UInt8):stk ((Yb8 s).data.toList++m)=(s,0,2):=by
 rcases hs with rfl|rfl|rfl|rfl
 all_goals
  rw[Yuf (by simp[Yb8])]
  rfl
theorem Qif (inter:Bool):∀x∈Ylb inter,Yby inter (sA x.2) (sB x.2)=x.1:=by
 cases inter <;> decide +kernel
theorem Qed {inter:Bool}{B:List UInt8}{a b:Int}{n:Nat}(h:mtk inter B=(a,b,0,n)):
  B.take n=(Yby inter a b).data.toList∧n=(Yby inter a b).size∧n≤B.length∧(Yby inter a b).data.toList.isEmpty=false∧a≠2:=by
 obtain⟨⟨f,k⟩,ht⟩:∃x,tk ((Ylb inter).map Yat) B 25 1=x:=⟨_,rfl⟩;by_cases hf:f=0
 ·subst hf;obtain⟨h1,h2,h3⟩:=Yx1 ht;obtain⟨x,hx,hxe⟩:=List.mem_map.1 h1;rw[Yzx inter ht hx hxe] at h
  split at h
  ·simp at h
  next h5=>
   simp only[Prod.mk.injEq,true_and] at h;obtain⟨rfl,rfl,rfl⟩:=h;rw[Qif inter x hx];have e:x.1.data.toList=B.take k:=hxe;have hl:x.1.data.toList.length=k:=by rw[e,List.length_take];omega
   refine⟨e.symm,hl.symm,h2,?_,h5⟩;cases hq:x.1.data.toList with
   |nil=>rw[hq] at hl;simp at hl;omega
   |cons _ _=>rfl
 ·rw[Ytx inter ht hf] at h;simp only[Prod.mk.injEq] at h;exact absurd h.2.2.1 hf
theorem Ytk {all:List (ByteArray×Int)}{F:Int→ByteArray}(hF:∀x∈all,F x.2=x.1){B:List UInt8}{v:Int}{n:Nat}(h:gtk all B=(v,0,n)):
  B.take n=(F v).data.toList∧n=(F v).size∧n≤B.length∧∃x∈all,x.2=v:=by
 obtain⟨⟨f,k⟩,ht⟩:∃x,tk (all.map Ya1) B 25 1=x:=⟨_,rfl⟩;unfold gtk at h;rw[ht] at h;by_cases hf:f=0
 ·subst hf;obtain⟨h1,h2,h3⟩:=Yx1 ht;rw[if_pos rfl] at h
  split at h
  next x hx=>
   simp only[Prod.mk.injEq,true_and] at h;obtain⟨rfl,rfl⟩:=h;have hm:=List.mem_of_find?_eq_some hx;have e:x.1.data.toList=B.take k:=by simpa [Ya1] using List.find?_some hx
   rw[hF x hm];exact⟨e.symm,by have:=congrArg List.length e;rw[List.length_take] at this;have h2:x.1.data.toList.length=x.1.size:=rfl;omega,h2,x,hm,rfl⟩
  next hx=>
   obtain⟨y,hy,hye⟩:=List.mem_map.1 h1;have:=List.find?_eq_none.1 hx y hy;rw[hye] at this;simp at this
 ·rw[if_neg hf] at h;simp only[Prod.mk.injEq] at h;exact absurd h.2.1 hf
theorem Qh9 (intra:Bool):∀x∈Yk5 intra,Yf2 intra x.2=x.1:=by
 cases intra <;> decide +kernel
theorem Qey {intra:Bool}{B:List UInt8}{v:Int}{n:Nat}(h:ptk intra B=(v,0,n)):B.take n=(Yf2 intra v).data.toList∧n=(Yf2 intra v).size∧n≤B.length∧0≤v∧v<16:=by
 obtain⟨h1,h2,h3,x,hx,hv⟩:=Ytk (Qh9 intra) (show gtk (Yk5 intra) B=(v,0,n) from h);have hb:∀x∈Yk5 intra,0≤x.2∧x.2<16:=by cases intra <;> decide +kernel
 exact⟨h1,h2,h3,hv▸(hb x hx).1,hv▸(hb x hx).2⟩
theorem Qdj:∀x∈allD,Ybz x.2=x.1:=by decide +kernel
theorem Qdo {B:List UInt8}{d:Int}{n:Nat}(h:dtk B=(d,0,n)):B.take n=(Ybz d).data.toList∧n=(Ybz d).size∧n≤B.length∧-32≤d∧d≤31:=by
 obtain⟨h1,h2,h3,x,hx,hv⟩:=Ytk Qdj (show gtk allD B=(d,0,n) from h);have hb:∀x∈allD,-32≤x.2∧x.2≤31:=by decide +kernel
 exact⟨h1,h2,h3,hv▸(hb x hx).1,hv▸(hb x hx).2⟩
theorem Qfl {B:List UInt8}{s:Int}{n:Nat}(hB:Yax B=true)(h:stk B=(s,0,n)):B.take n=(Yb8 s).data.toList∧n=2∧2≤B.length∧(s = -1∨s = -2∨s=1∨s=2):=by
 by_cases hl:B.length<2
 ·rw[Qa6 hl] at h;simp at h
 ·rw[Yuf (by omega)] at h;simp only[Prod.mk.injEq,true_and] at h;obtain⟨rfl,rfl⟩:=h;have hr:=Yg3 (B.take 2) (Ycb _ _ hB);have h4:=Yrm B hB 2 (by omega);have hl2:(B.take 2).length=2:=by rw[List.length_take];omega
  rw[hl2] at hr;generalize num (B.take 2)=v at hr h4;rw[←hr]
  match v,h4 with
  |0,_=>exact⟨rfl,rfl,by omega,.inl rfl⟩
  |1,_=>exact⟨rfl,rfl,by omega,.inr (.inl rfl)⟩
  |2,_=>exact⟨rfl,rfl,by omega,.inr (.inr (.inl rfl))⟩
  |3,_=>exact⟨rfl,rfl,by omega,.inr (.inr (.inr rfl))⟩
theorem Qe3:∀x∈allT,Qjp x.2.toNat=x.1:=by
 intro x hx;obtain⟨i,_,rfl⟩:=List.mem_map.1 hx;show Qjp ((i:Int)).toNat=Qjp i;rw[Int.toNat_natCast]
theorem Yun {B:List UInt8}{n v:Nat}(hB:Yax B=true)(hl:n≤B.length)(hv:num (B.take n)=v):B.take n=Yav v n:=by
 have h:=Yg3 (B.take n) (Ycb _ _ hB);rw[hv,List.length_take,Nat.min_eq_left hl] at h;exact h.symm
theorem Yw1 {B:List UInt8}{n m:Nat}(hB:Yax B=true)(hl:n+m≤B.length):∃r,r<2^m∧num (B.take (n+m))=num (B.take n)*2^m+r:=by
 refine⟨num ((B.drop n).take m),?_,?_⟩
 ·exact Yrm (B.drop n) (Ybf _ _ hB) m (by rw[List.length_drop];omega)
 ·have e:B.take (n+m)=B.take n++(B.drop n).take m:=List.take_add;have hm:((B.drop n).take m).length=m:=by rw[List.length_take,List.length_drop];omega
  rw[e,Yeo,hm]
theorem Qds {B:List UInt8}(hB:Yax B=true){l:Bool}{r n:Nat}{v:Int}(h:etk B=((l,r,v),0,n)):Yec r v=true∧B.take n=(Ycr l r v).data.toList∧n≤B.length∧0<n:=by
 obtain⟨⟨iv,f,k⟩,hg⟩:∃x,gtk allT B=x:=⟨_,rfl⟩;by_cases hf:f=0
 ·subst hf;obtain⟨h1,h2,h3,x,hx,hxv⟩:=Ytk (F:=fun v=>Qjp v.toNat) Qe3 hg;obtain⟨i,hi0,rfl⟩:=List.mem_map.1 hx;have hi:i<103:=List.mem_range.1 hi0;have hiv:iv=(i:Int):=hxv.symm;subst hiv;rw[Int.toNat_natCast] at h1 h2;obtain⟨c1,c2,c3,c4⟩:=Yda i hi;have hk:k=Yc2 i:=h2.trans (by show (Yav (Yd6 i) (Yc2 i)).toArray.size=_;simp[Yal]);subst hk;have h1':B.take (Yc2 i)=Yav (Yd6 i) (Yc2 i):=h1
  have hnc:num (B.take (Yc2 i))=Yd6 i:=by rw[h1',Ycw,Nat.mod_eq_of_lt c3]
  by_cases hl:B.length<if i=102 then 22 else Yc2 i+1
  ·rw[Y8m hg hl] at h;simp at h
  by_cases h102:i=102
  ·subst h102;rw[if_pos rfl] at hl;rw[Ylj hg (by omega)] at h
   split at h
   next hc=>
    rw[Bool.and_eq_true,Bool.not_eq_true'] at hc;have e7:Yc2 102=7:=by decide +kernel
    have e3:Yd6 102=3:=by decide +kernel
    rw[e7,e3] at hnc;obtain⟨q,hq,hs⟩:=Yw1 (n:=7) (m:=15) hB (by omega);rw[hnc] at hs;have hs:num (B.take 22)=3*2^15+q:=hs;generalize hV:num (B.take 22)=V at h hc hs;simp only[Prod.mk.injEq,true_and] at h;obtain⟨hE,rfl⟩:=h;rw[hE] at hc;obtain⟨hr,hin⟩:=hc;simp only at hr hin;have hE':(V / 16384%2==1)=l:=(Prod.mk.inj hE).1;have hE2:V / 256%64=r:=(Prod.mk.inj (Prod.mk.inj hE).2).1
    have hE3:(if 127<V%256 then ((V%256:Nat):Int)-256 else ((V%256:Nat):Int))=v:=(Prod.mk.inj (Prod.mk.inj hE).2).2;have hl':l.toNat=V / 16384%2:=by
     rw[←hE'];rcases Nat.mod_two_eq_zero_or_one (V / 16384) with e|e <;> simp[e]
    have hv':(v%256).toNat=V%256:=by
     rw[←hE3]
     split <;> omega
    have hN:Yk7 l r v=V:=by
     unfold Yk7;rw[if_neg (by simp[hin]),hl',hv',←hE2];omega
    have hD:Ykf l r v=22:=by
     unfold Ykf;rw[if_neg (by simp[hin])]
    refine⟨hr,?_,by omega,by omega⟩;rw[Yun hB (by omega) hV];unfold Ycr;rw[if_pos hr,Int.toNat_natCast,hN,hD]
   ·simp at h
  ·rw[if_neg h102] at hl;rw[Yod hg h102 (by omega)] at h;obtain⟨⟨o1,o2,o3⟩,_,o4,o5⟩:=Qgm i (by omega);obtain⟨x,hx⟩:∃x,evT i=x:=⟨_,rfl⟩;rw[hx] at o1 o2 o3 o4 o5 h;obtain⟨l0,r0,am⟩:=x;simp only at o1 o2 o3 o4 o5;simp only[Y0e,Prod.mk.injEq,true_and] at h;obtain⟨⟨rfl,rfl,hv⟩,rfl⟩:=h;obtain⟨q,hq,hs⟩:=Yw1 (n:=Yc2 i) (m:=1) hB (by omega);rw[hnc] at hs;have hs:num (B.take (Yc2 i+1))=Yd6 i*2+q:=hs
   have hq2:q=0∨q=1:=by omega
   have key:v.natAbs=am∧(if v<0 then 1 else 0)=q∧-12≤v∧v≤12∧v≠0:=by
    rcases hq2 with rfl|rfl
    ·rw[if_neg (by rw[hs];simp)] at hv;subst hv;exact⟨by simp,if_neg (by omega),by omega,by omega,by omega⟩
    ·rw[if_pos (by rw[hs];simp)] at hv;subst hv;exact⟨by simp,if_pos (by omega),by omega,by omega,by omega⟩
   obtain⟨k1,k2,k3,k4,k5⟩:=key;have hr:Yec (r0:Int) v=true:=Yd1.2 ⟨by omega,by omega,by omega,by omega,k5⟩;have hN:Yk7 l0 r0 v=Yd6 i*2+q:=by
    unfold Yk7;rw[k1,if_pos o1,o2,k2];omega
   have hD:Ykf l0 r0 v=Yc2 i+1:=by
    unfold Ykf;rw[k1,if_pos o1,o2]
   refine⟨hr,?_,by omega,by omega⟩;rw[Yun hB (by omega) hs];unfold Ycr;rw[if_pos hr,Int.toNat_natCast,hN,hD]
 ·have hg0:gtk allT B=(0,f,0):=by
   obtain⟨⟨f',k'⟩,ht⟩:∃x,tk (allT.map Ya1) B 25 1=x:=⟨_,rfl⟩;by_cases h0:f'=0
   ·subst h0;unfold gtk at hg;rw[ht,if_pos rfl] at hg
    split at hg <;> (simp only[Prod.mk.injEq] at hg;exact absurd hg.2.1.symm hf)
   ·rw[Yjp ht h0] at hg ⊢;simp only[Prod.mk.injEq] at hg;rw[hg.2.1]
  rw[Y8n hg0 hf] at h;simp only[Prod.mk.injEq] at h;exact absurd h.2.1 hf
theorem Yrz (x:Ev)(l:List Ev):Ycl (x::l)=(Ymh x).data.toList++Ycl l:=rfl
theorem Yq8 {S:List UInt8}(hS:Yax S=true)(a:Nat):∀(k:Nat) (acc:List Ev) (p m:Nat) (L:List Ev) (t:Nat),p≤S.length→Ydn S k acc p m=(L,0,t)→(lvS a acc).1=m→
  (∀j,(hj:j<acc.length)→acc[j].1=false∧Yec acc[j].2.1 acc[j].2.2=true∧(lvS a (acc.take j)).1+acc[j].2.1.toNat<64)→
  ∃l2,L=acc++l2∧0<l2.length∧p≤t∧t≤S.length∧(S.drop p).take (t-p)=Ycl l2∧Yp9 a L L.length=false
 |0,acc,p,m,L,t,hp,h,hm,hall=>by
  simp[Ydn] at h
 |k+1,acc,p,m,L,t,hp,h,hm,hall=>by
  obtain⟨⟨⟨l,r,v⟩,f,n⟩,he⟩:∃x,etk (S.drop p)=x:=⟨_,rfl⟩;by_cases hf:f=0
  ·subst hf;obtain⟨hr,hrow,hn,hn0⟩:=Qds (Ybf _ _ hS) he;rw[List.length_drop] at hn;by_cases h63:63<m+r
   ·rw[Yv1 he h63] at h;simp at h
   have hfit:∀j,(hj:j<acc.length)→∀L',(hL:acc.length<L'.length)→(∀(hj':j<L'.length),L'[j]=acc[j])→L'.take j=acc.take j→Yu2 a L' j acc[j]=true:=by
    intro j hj L' hL _ ht;obtain⟨g1,g2,g3⟩:=hall j hj;unfold Yu2;rw[ht,g1,g2];simp only[Bool.true_and,Bool.and_eq_true,beq_iff_eq,decide_eq_true_eq];exact⟨by rw[eq_comm,decide_eq_false_iff_not];omega,g3⟩
   cases l with
   |true=>
    rw[Yoc he (by omega)] at h;simp only[Prod.mk.injEq,true_and] at h;obtain⟨rfl,rfl⟩:=h;refine⟨[(true,(r:Int),v)],rfl,by simp,by omega,by omega,?_,?_⟩
    ·rw[Nat.add_sub_cancel_left,hrow,Yrz];simp[Ymh,Ycl]
    ·refine Ys3 _ (Nat.le_refl _) fun j hj _=>?_;by_cases hja:j<acc.length
     ·rw[List.getElem_append_left hja];exact hfit j hja _ (by simp) (fun _=>List.getElem_append_left hja) (by rw[List.take_append_of_le_length (by omega)])
     ·have hj2:j=acc.length:=by simp at hj;omega
      subst hj2;rw[List.getElem_append_right (Nat.le_refl _)];simp only[Nat.sub_self,List.getElem_cons_zero];unfold Yu2;rw[List.take_append_of_le_length (Nat.le_refl _),List.take_length,hm,hr];simp;omega
   |false=>
    rw[Yte he (by omega)] at h;obtain⟨l2,e1,e2,e3,e4,e5,e6⟩:=Yq8 hS a k (acc++[(false,(r:Int),v)]) (p+n) (m+r+1) L t (by omega) h (by rw[Y1x,hm];simp) (fun j hj=>by
     by_cases hja:j<acc.length
     ·rw[List.getElem_append_left hja,List.take_append_of_le_length (by omega)];exact hall j hja
     ·have hj2:j=acc.length:=by simp at hj;omega
      subst hj2;rw[List.getElem_append_right (Nat.le_refl _)];simp only[Nat.sub_self,List.getElem_cons_zero];rw[List.take_append_of_le_length (Nat.le_refl _),List.take_length,hm];exact⟨by simp,hr,by simp;omega⟩)
    refine⟨(false,(r:Int),v)::l2,by rw[e1,List.append_assoc];rfl,by simp,by omega,e4,?_,e6⟩;rw[show t-p=n+(t-(p+n)) by omega,List.take_add,hrow,List.drop_drop,Yrz,e5]
    rfl
  ·rw[Yv0 he hf] at h;simp only[Prod.mk.injEq] at h;exact absurd h.2.1 hf
theorem Qdi {B:List UInt8}(hB:Yax B=true){i:Bool}{d:Int}{n:Nat}(h:dcT B i=(d,0,n)):B.take n=dcB i d∧n≤B.length∧Y76 i d=true∧n=8*Ycf i:=by
 cases i with
 |false=>
  rw[Qdh] at h;simp only[Prod.mk.injEq,true_and] at h;obtain⟨rfl,rfl⟩:=h;exact⟨rfl,Nat.zero_le _,rfl,rfl⟩
 |true=>
  by_cases h8:B.length<8
  ·rw[Yvt h8] at h;simp at h
  have hlt:=Yrm B hB 8 (by omega);have htr:=fun v (hv:num (B.take 8)=v)=>Yun hB (by omega) hv;by_cases h0:num (B.take 8)=0∨num (B.take 8)=128
  ·rw[Yzb (by omega) h0] at h;simp at h
  by_cases h255:num (B.take 8)=255
  ·rw[Yza (by omega) h255] at h;simp only[Prod.mk.injEq,true_and] at h;obtain⟨rfl,rfl⟩:=h;exact⟨htr 255 h255,by omega,rfl,rfl⟩
  ·rw[Y78 (by omega) rfl (fun e=>h0 (.inl e)) (fun e=>h0 (.inr e)) h255] at h;simp only[Prod.mk.injEq,true_and] at h;obtain⟨rfl,rfl⟩:=h;refine⟨?_,by omega,?_,rfl⟩
   ·refine(htr _ rfl).trans ?_;unfold dcB;rw[if_pos rfl,if_neg (by omega),Int.toNat_natCast]
   ·rw[Y77,Bool.and_eq_true,decide_eq_true_iff,decide_eq_true_iff];omega
theorem Qc1 {S:List UInt8}(hS:Yax S=true){p t:Nat}{i c:Bool}{d:Int}{L:List Ev}(hp:p≤S.length)(h:btk S p i c=(d,L,t,0)):
  p≤t∧t≤S.length∧(S.drop p).take (t-p)=Yhj i d L∧Ytv i d L=true∧decide (0<L.length)=c:=by
 obtain⟨⟨d',f,n⟩,hd⟩:∃x,dcT (S.drop p) i=x:=⟨_,rfl⟩;by_cases hf:f=0
 ·subst hf;obtain⟨g1,g2,g3,g4⟩:=Qdi (Ybf _ _ hS) hd;rw[List.length_drop] at g2;cases c with
  |false=>
   rw[Ys7 hd] at h;simp only[Prod.mk.injEq,and_true] at h;obtain⟨rfl,rfl,rfl⟩:=h;refine⟨by omega,by omega,?_,?_,rfl⟩
   ·rw[Nat.add_sub_cancel_left,g1];simp[Yhj,Ycl]
   ·unfold Ytv;rw[g3]
    rfl
  |true=>
   obtain⟨⟨l,f2,e⟩,hl⟩:∃x,Ydn S (65-Ycf i) [] (p+n) (Ycf i)=x:=⟨_,rfl⟩;by_cases hf2:f2=0
   ·subst hf2;rw[Yyw hd hl] at h;simp only[Prod.mk.injEq,and_true] at h;obtain⟨rfl,rfl,rfl⟩:=h;obtain⟨l2,e1,e2,e3,e4,e5,e6⟩:=Yq8 hS (Ycf i) _ [] (p+n) (Ycf i) l e (by omega) hl rfl (fun j hj=>absurd hj (Nat.not_lt_zero j));rw[List.nil_append] at e1;subst e1;refine⟨by omega,e4,?_,?_,by simpa using e2⟩
    ·rw[show e-p=n+(e-(p+n)) by omega,List.take_add,g1,List.drop_drop,e5]
     rfl
    ·unfold Ytv;rw[g3,e6]
     rfl
   ·rw[Qgh hd hl hf2] at h;simp only[Prod.mk.injEq] at h;exact absurd h.2.2.2 hf2
 ·rw[Qgg hd hf] at h;simp only[Prod.mk.injEq] at h;exact absurd h.2.2.2 hf
theorem Y4v {k:List UInt8→Int×Int×Nat}{S:List UInt8}{p:Nat}{f:Int}(hf:f≠0):Ygf k S (p,f)=(0,p,f):=Yfx hf
theorem Yq5 {inter:Bool}{S:List UInt8}{p:Nat}{f:Int}(hf:f≠0):∀j n,(Yeh inter S j n (p,f)).2.2.2.2.2≠0
 |0,_=>by simp[Yeh]
 |j+1,n=>by
  unfold Yeh;rw[Y4v hf];have h1:Ymy inter S (if inter then (p,f) else (p,f))=(0,0,p,f):=by
   rw[ite_self];exact Ytq hf
  simp only at h1 ⊢;rw[h1]
  simpa using hf
theorem Qcv {S:List UInt8}(hS:Yax S=true){p q:Nat}{v:Int}(hp:p≤S.length)(h:Ygf Yqe S (p,0)=(v,q,0)):(v=1∧Seg S p q [49])∨(v=0∧Seg S p q [48]):=by
 rw[Yfq] at h;have hr:=Ybf S p hS;cases hd:S.drop p with
 |nil=>
  rw[hd] at h;simp[Yqe] at h
 |cons c l=>
  rw[hd] at h;simp only[Yqe,Prod.mk.injEq,and_true] at h;obtain⟨rfl,rfl⟩:=h;have hc:c=48∨c=49:=by
   rw[hd] at hr;unfold Yax at hr;simp at hr;exact hr.1
  rcases hc with rfl|rfl
  ·exact .inr ⟨rfl,Seg.of hp (by rw[hd];simp) (by rw[hd];rfl)⟩
  ·exact .inl ⟨rfl,Seg.of hp (by rw[hd];simp) (by rw[hd];rfl)⟩
theorem Y2b {inter:Bool}{b:Int}(h:(Yby inter 5 b).data.toList.isEmpty=false):b=0:=by
 by_cases hb:b<0∨0<b
 ·rw[Ypg (by omega)] at h;cases h
 ·omega
theorem Y1t {inter:Bool}{S:List UInt8}{p q:Nat}{a c:Int}(hp:p≤S.length)(h:Ymy inter S (p,0)=(a,c,q,0)):Seg S p q (Yby inter a c).data.toList∧(Yby inter a c).data.toList.isEmpty=false∧a≠2:=by
 rw[Yzv] at h;obtain⟨⟨a',c',f,n⟩,hk⟩:∃x,mtk inter (S.drop p)=x:=⟨_,rfl⟩;rw[hk] at h;simp only[Prod.mk.injEq] at h;obtain⟨rfl,rfl,rfl,rfl⟩:=h;obtain⟨h1,h2,h3,h4,h5⟩:=Qed hk;exact⟨Seg.of hp h3 h1,h4,h5⟩
theorem Ynw {inter:Bool}{S:List UInt8}(hS:Yax S=true):∀(j n p n':Nat) (sk:Bool) (k c:Int) (q:Nat),p≤S.length→Yeh inter S j n (p,0)=(n',sk,k,c,q,0)→∃d,n'=n+d∧d<j∧
  (sk=true→inter=true∧k=0∧c=0∧Seg S p q (Yfz inter d++[49]))∧
  (sk=false→Seg S p q (Yfz inter d++(Qb4 inter++(Yby inter k c).data.toList))∧(Yby inter k c).data.toList.isEmpty=false∧k≠2∧k≠5)
 |0,n,p,n',sk,k,c,q,hp,h=>by
  simp[Yeh] at h
 |j+1,n,p,n',sk,k,c,q,hp,h=>by
  cases inter with
  |false=>
   obtain⟨⟨a,c0,q1,f⟩,hk⟩:∃x,Ymy false S (p,0)=x:=⟨_,rfl⟩;rw[Yj6 hk] at h;by_cases hf:f=0
   ·subst hf;obtain⟨g1,g2,g3⟩:=Y1t hp hk;by_cases ha:a=5
    ·subst ha;rw[if_pos rfl] at h;obtain rfl:=Y2b g2;obtain⟨d,e1,e2,e3,e4⟩:=Ynw hS j (n+1) q1 n' sk k c q g1.2.1 h;have gs:Seg S p q1 (Yi9 false):=g1;refine⟨d+1,by omega,by omega,fun hs=>absurd (e3 hs).1 (by decide),fun hs=>?_⟩;obtain⟨k1,k2⟩:=e4 hs;rw[Ydd,List.append_assoc];exact⟨gs.app k1,k2⟩
    ·rw[if_neg ha] at h;simp only[Prod.mk.injEq] at h;obtain⟨rfl,rfl,rfl,rfl,rfl,_⟩:=h;exact⟨0,rfl,by omega,fun hs=>(by cases hs),fun _=>⟨g1,g2,g3,ha⟩⟩
   ·exfalso
    split at h
    ·exact Yq5 hf j (n+1) (by rw[h])
    ·simp only[Prod.mk.injEq] at h;exact hf h.2.2.2.2.2
  |true=>
   obtain⟨⟨v,q1,f1⟩,hn⟩:∃x,Ygf Yqe S (p,0)=x:=⟨_,rfl⟩;by_cases hf1:f1=0
   ·subst hf1;rcases Qcv hS hp hn with ⟨rfl,g0⟩|⟨rfl,g0⟩
    ·rw[Ynx rfl hn rfl] at h;simp only[Prod.mk.injEq] at h;obtain⟨rfl,rfl,rfl,rfl,rfl,_⟩:=h;exact⟨0,rfl,by omega,fun _=>⟨rfl,rfl,rfl,g0⟩,fun hs=>(by cases hs)⟩
    ·obtain⟨⟨a,c0,q2,f⟩,hk⟩:∃x,Ymy true S (q1,0)=x:=⟨_,rfl⟩;rw[Yj5 hn (by decide) hk] at h;by_cases hf:f=0
     ·subst hf;obtain⟨g1,g2,g3⟩:=Y1t g0.2.1 hk;by_cases ha:a=5
      ·subst ha;rw[if_pos rfl] at h;obtain rfl:=Y2b g2;obtain⟨d,e1,e2,e3,e4⟩:=Ynw hS j (n+1) q2 n' sk k c q g1.2.1 h;have gs:Seg S p q2 (Yi9 true):=g0.app g1;refine⟨d+1,by omega,by omega,fun hs=>?_,fun hs=>?_⟩
       ·obtain⟨k0,k1,k2,k3⟩:=e3 hs;rw[Ydd,List.append_assoc];exact⟨rfl,k1,k2,gs.app k3⟩
       ·obtain⟨k1,k2⟩:=e4 hs;rw[Ydd,List.append_assoc];exact⟨gs.app k1,k2⟩
      ·rw[if_neg ha] at h;simp only[Prod.mk.injEq] at h;obtain⟨rfl,rfl,rfl,rfl,rfl,_⟩:=h;exact⟨0,rfl,by omega,fun hs=>(by cases hs),fun _=>⟨g0.app g1,g2,g3,ha⟩⟩
     ·exfalso
      split at h
      ·exact Yq5 hf j (n+1) (by rw[h])
      ·simp only[Prod.mk.injEq] at h;exact hf h.2.2.2.2.2
   ·exfalso;have hv:v≠1:=by
     rw[Yfq] at hn;intro hv;cases hd:S.drop p with
     |nil=>rw[hd] at hn;simp[Yqe] at hn;omega
     |cons c0 l0=>rw[hd] at hn;simp[Yqe] at hn;omega
    have hk:Ymy true S (q1,f1)=(0,0,q1,f1):=Ytq hf1;rw[Yj5 hn hv hk,if_neg (by decide)] at h;simp only[Prod.mk.injEq] at h;exact hf1 h.2.2.2.2.2
theorem Qet {intra:Bool}{S:List UInt8}{p q:Nat}{v:Int}(hp:p≤S.length)(h:Ygf (ptk intra) S (p,0)=(v,q,0)):Seg S p q (Yf2 intra v).data.toList∧0≤v∧v<16:=by
 rw[Yfq] at h;obtain⟨⟨a,f,n⟩,hk⟩:∃x,ptk intra (S.drop p)=x:=⟨_,rfl⟩;rw[hk] at h;simp only[Prod.mk.injEq] at h;obtain⟨rfl,rfl,rfl⟩:=h;obtain⟨h1,h2,h3,h4,h5⟩:=Qey hk;exact⟨Seg.of hp h3 h1,h4,h5⟩
theorem Qfm {S:List UInt8}(hS:Yax S=true){p q:Nat}{k v:Int}(hp:p≤S.length)(h:Y2n S k (p,0)=(v,q,0)):Seg S p q (Yb8 v).data.toList∧Yqt k v=true:=by
 unfold Y2n at h;unfold Yqt;cases hk:Y5x k with
 |true=>
  rw[hk,if_pos rfl,Yfq] at h;obtain⟨⟨a,f,n⟩,ht⟩:∃x,stk (S.drop p)=x:=⟨_,rfl⟩;rw[ht] at h;simp only[Prod.mk.injEq] at h;obtain⟨rfl,rfl,rfl⟩:=h;obtain⟨h1,rfl,h3,h4⟩:=Qfl (Ybf _ _ hS) ht;exact⟨Seg.of hp h3 h1,by rw[if_pos rfl,Ymn.2 h4];rfl⟩
 |false=>
  rw[hk,if_neg (by decide)] at h;simp only[Prod.mk.injEq,and_true] at h;obtain⟨rfl,rfl⟩:=h;exact⟨Seg.nil hp,rfl⟩
theorem Yvv {S:List UInt8}{p q:Nat}{pr v:Int}(hp:p≤S.length)(h:Yi6 S pr (p,0)=(v,q,0)):Seg S p q (Ybz (Yca (v-Yca pr))).data.toList∧v=Yca v:=by
 unfold Yi6 at h;rw[Yfq] at h;obtain⟨⟨d,f,n⟩,ht⟩:∃x,dtk (S.drop p)=x:=⟨_,rfl⟩;rw[ht] at h;simp only[Prod.mk.injEq] at h;obtain⟨rfl,rfl,rfl⟩:=h;obtain⟨h1,h2,h3,h4,h5⟩:=Qdo ht;have e:Yca (Yca (Yca pr+d)-Yca pr)=d:=by unfold Yca;omega
 rw[e];exact⟨Seg.of hp h3 h1,by unfold Yca;omega⟩
theorem Qf3 {S:List UInt8}{p q:Nat}{k x y mx my:Int}(hp:p≤S.length)(h:Yyk S k x y (p,0)=(mx,my,q,0)):Seg S p q (Qf2 k x y mx my)∧Ym4 k mx my=true:=by
 unfold Yyk at h;unfold Qf2 Ym4;cases hk:Yas k with
 |true=>
  rw[hk,if_pos rfl] at h;simp only[Prod.mk.injEq,and_true] at h;obtain⟨rfl,rfl,rfl⟩:=h;exact⟨Seg.nil hp,rfl⟩
 |false=>
  rw[hk,if_neg (by decide)] at h;obtain⟨⟨a,q1,f1⟩,h1⟩:∃z,Yi6 S x (p,0)=z:=⟨_,rfl⟩;obtain⟨⟨b,q2,f2⟩,h2⟩:∃z,Yi6 S y (q1,f1)=z:=⟨_,rfl⟩;rw[h1] at h;simp only at h;rw[h2] at h;simp only[Prod.mk.injEq] at h;obtain⟨rfl,rfl,rfl,rfl⟩:=h;by_cases hf:f1=0
  ·subst hf;obtain⟨g1,g2⟩:=Yvv hp h1;obtain⟨k1,k2⟩:=Yvv g1.2.1 h2;rw[if_neg (by decide),if_neg (by decide),Bool.and_eq_true,beq_iff_eq,beq_iff_eq];exact⟨g1.app k1,g2,k2⟩
  ·exfalso;unfold Yi6 at h2;rw[Yfx (show ((q1,f1):Stt).2≠0 from hf)] at h2;simp only[Prod.mk.injEq] at h2;exact hf h2.2.2
theorem Y1c {S:List UInt8}(hS:Yax S=true){p q:Nat}{i c:Bool}{d:Int}{L:List Ev}(hp:p≤S.length)(h:Yiz i c S (p,0)=(d,L,q,0)):Seg S p q (Yhj i d L)∧Ytv i d L=true∧decide (0<L.length)=c:=by
 rw[Yyv] at h;obtain⟨⟨a,l,t,f⟩,hb⟩:∃x,btk S p i c=x:=⟨_,rfl⟩;rw[hb] at h;simp only[Prod.mk.injEq] at h;obtain⟨rfl,rfl,rfl,rfl⟩:=h;obtain⟨h1,h2,h3,h4,h5⟩:=Qc1 hS hp hb;exact⟨⟨h1,h2,h3⟩,h4,h5⟩
theorem Y49 {inter:Bool}{k c:Int}(h:(Yby inter k c).data.toList.isEmpty=false)(h2:k≠2)(h5:k≠5):Ykm inter k=true∧0≤c∧c≤3:=by
 have hb:¬ (k<0∨5<k∨c<0∨3<c∨(k=5∧0<c)):=by
  intro hn;rw[Ypg hn] at h;cases h
 refine⟨?_,by omega,by omega⟩;rcases (by omega:k=0∨k=1∨k=3∨k=4) with rfl|rfl|rfl|rfl
 ·cases inter with
  |true=>rfl
  |false=>
   exfalso;unfold Yby at h;rw[if_pos (by omega)] at h;rcases (by omega:c=0∨c=1∨c=2∨c=3) with rfl|rfl|rfl|rfl <;> cases h
 ·cases inter with
  |true=>rfl
  |false=>
   exfalso;unfold Yby at h;rw[if_pos (by omega)] at h;rcases (by omega:c=0∨c=1∨c=2∨c=3) with rfl|rfl|rfl|rfl <;> cases h
 ·rfl
 ·cases inter <;> rfl
theorem Qdc {pt ch:Nat}(hp:pt<16)(hc:ch<4){c:Cel}(h:∀i,i<6→decide (0<(c.ev i).length)=Yju (4*pt+ch) i):Yfw c 4=pt∧Ykd c=ch:=by
 have hh:∀i,i<6→Yqk c i=(4*pt+ch) / 2^(5-i)%2:=by
  intro i hi;unfold Yqk;rw[h i hi];unfold Yju;rcases Nat.mod_two_eq_zero_or_one ((4*pt+ch) / 2^(5-i)) with e|e <;> rw[e] <;> rfl
 have h0:=hh 0 (by omega);have h1:=hh 1 (by omega);have h2:=hh 2 (by omega);have h3:=hh 3 (by omega);have h4:=hh 4 (by omega);have h5:=hh 5 (by omega);simp only[Nat.reduceSub,Nat.reducePow,Nat.sub_zero] at h0 h1 h2 h3 h4 h5;rw[Ynb];unfold Ykd;omega
theorem Y1g {inter:Bool}{S:List UInt8}(hS:Yax S=true){x y:Int}{p q:Nat}{c:Cel}(hp:p≤S.length)(h:ctk inter S x y p=(c,q,0)):Seg S p q (Yc4 inter x y c)∧Ybp inter c=true:=by
 have h0:Yyh inter S x y (p,0)=(c,q,0):=by
  obtain⟨⟨c1,q1,f1⟩,hz⟩:∃z,Yyh inter S x y (p,0)=z:=⟨_,rfl⟩;unfold ctk at h;rw[hz] at h ⊢;simp only at h;by_cases e:f1=0
  ·subst e;rw[if_pos rfl] at h;exact h
  ·rw[if_neg e] at h;simp only[Prod.mk.injEq] at h;exact absurd h.2.2 e
 clear h;obtain⟨⟨n,sk,k,ch,q1,f1⟩,hb⟩:∃z,Yeh inter S 65 0 (p,0)=z:=⟨_,rfl⟩;by_cases hf1:f1=0
 ·subst hf1;obtain⟨d,e1,e2,e3,e4⟩:=Ynw hS 65 0 p n sk k ch q1 hp hb;rw[Nat.zero_add] at e1;subst e1;cases sk with
  |true=>
   obtain⟨g1,g2,g3,g4⟩:=e3 rfl;rw[Ys9 hb] at h0;simp only[Prod.mk.injEq,and_true] at h0;obtain⟨rfl,rfl⟩:=h0;refine⟨?_,?_⟩
   ·unfold Yc4
    simpa using g4
   ·unfold Ybp;rw[g1];simp only[if_true,Bool.true_and,Bool.and_eq_true,decide_eq_true_eq];exact⟨by omega,rfl⟩
  |false=>
   obtain⟨g1,g2,g3,g4⟩:=e4 rfl;obtain⟨hkin,c0,c3⟩:=Y49 g2 g3 g4;obtain⟨⟨pt,s2⟩,h2⟩:∃z,Ygf (ptk (Yas k)) S (q1,0)=z:=⟨_,rfl⟩;obtain⟨⟨sp,s3⟩,h3⟩:∃z,Y2n S k s2=z:=⟨_,rfl⟩;obtain⟨⟨mx,my,s4⟩,h4⟩:∃z,Yyk S k x y s3=z:=⟨_,rfl⟩;rw[Yy0 hb h2 h3 h4] at h0;simp only[Prod.mk.injEq] at h0;obtain⟨hc,hq⟩:=h0;have z6:(stB (Yas k) (4*pt.toNat+ch.toNat) S s4 6).2=0:=by rw[hq]
   have zi:∀i,i≤6→(stB (Yas k) (4*pt.toNat+ch.toNat) S s4 i).2=0:=by
    intro i hi;refine Decidable.byContradiction fun hne=>?_;have h1:=Y0i hne (6-i);rw[show i+(6-i)=6 by omega] at h1;rw[h1] at z6;exact hne z6
   have z4:s4.2=0:=zi 0 (by omega);have z3:s3.2=0:=by
    refine Decidable.byContradiction fun hne=>?_;have h1:=Y22 (kind:=k) (x:=x) (y:=y) (S:=S) hne;rw[h4] at h1;simp only at h1;rw[h1] at z4;exact hne z4
   have z2:s2.2=0:=by
    refine Decidable.byContradiction fun hne=>?_;have h1:=Y2o (kind:=k) (S:=S) hne;rw[h3] at h1;simp only[Prod.mk.injEq] at h1;rw[h1.2] at z3;exact hne z3
   obtain⟨q2,f2⟩:=s2;obtain⟨q3,f3⟩:=s3;obtain⟨q4,f4⟩:=s4;simp only at z2 z3 z4;subst z2 z3 z4;obtain⟨a1,a2,a3⟩:=Qet g1.2.1 h2;obtain⟨b1,b2⟩:=Qfm hS a1.2.1 h3;obtain⟨v1,v2⟩:=Qf3 b1.2.1 h4
   have hev:∀i,i<6→Seg S (stB (Yas k) (4*pt.toNat+ch.toNat) S (q4,0) i).1 (stB (Yas k) (4*pt.toNat+ch.toNat) S (q4,0) (i+1)).1 (Yhj (Yas k) (c.dc i) (c.ev i))∧Ytv (Yas k) (c.dc i) (c.ev i)=true∧decide (0<(c.ev i).length)=Yju (4*pt.toNat+ch.toNat) i:=by
    intro i
    induction i with
    |zero=>
     intro hi;have hz:=zi 1 (by omega);obtain⟨⟨d0,l0,t0,f0⟩,hb0⟩:∃z,Yiz (Yas k) (Yju (4*pt.toNat+ch.toNat) 0) S (q4,0)=z:=⟨_,rfl⟩;have hn:stB (Yas k) (4*pt.toNat+ch.toNat) S (q4,0) 1=(t0,f0):=by
      show (Yiz (Yas k) (Yju (4*pt.toNat+ch.toNat) 0) S (q4,0)).2.2=_;rw[hb0]
     rw[hn] at hz ⊢;simp only at hz;subst hz;have hd:c.dc 0=d0:=by rw[←hc];show (Yiz (Yas k) (Yju (4*pt.toNat+ch.toNat) 0) S (q4,0)).1=d0;rw[hb0]
     have hl:c.ev 0=l0:=by rw[←hc];show (Yiz (Yas k) (Yju (4*pt.toNat+ch.toNat) 0) S (q4,0)).2.1=l0;rw[hb0]
     rw[hd,hl];exact Y1c hS v1.2.1 hb0
    |succ i ih=>
     intro hi;obtain⟨k1,_,_⟩:=ih (by omega);have hz1:=zi (i+1) (by omega);have hz:=zi (i+1+1) (by omega);obtain⟨⟨t1,f1⟩,hst⟩:∃z,stB (Yas k) (4*pt.toNat+ch.toNat) S (q4,0) (i+1)=z:=⟨_,rfl⟩;rw[hst] at hz1 k1;simp only at hz1 k1;subst hz1;obtain⟨⟨d0,l0,t0,f0⟩,hb0⟩:∃z,Yiz (Yas k) (Yju (4*pt.toNat+ch.toNat) (i+1)) S (t1,0)=z:=⟨_,rfl⟩
     have hn:stB (Yas k) (4*pt.toNat+ch.toNat) S (q4,0) (i+1+1)=(t0,f0):=by
      show (Yiz (Yas k) (Yju (4*pt.toNat+ch.toNat) (i+1)) S (stB (Yas k) (4*pt.toNat+ch.toNat) S (q4,0) (i+1))).2.2=_;rw[hst,hb0]
     rw[hn] at hz ⊢;simp only at hz;subst hz;have hd:c.dc (i+1)=d0:=by rw[←hc];show (Yiz (Yas k) (Yju (4*pt.toNat+ch.toNat) (i+1)) S (stB (Yas k) (4*pt.toNat+ch.toNat) S (q4,0) (i+1))).1=d0;rw[hst,hb0]
     have hl:c.ev (i+1)=l0:=by rw[←hc];show (Yiz (Yas k) (Yju (4*pt.toNat+ch.toNat) (i+1)) S (stB (Yas k) (4*pt.toNat+ch.toNat) S (q4,0) (i+1))).2.1=l0;rw[hst,hb0]
     rw[hd,hl,hst];exact Y1c hS k1.2.1 hb0
   have hkd:c.kind=k:=by rw[←hc]
   have hsk:c.skip=false:=by rw[←hc]
   have hsu:c.stuff=(n:Int):=by rw[←hc]
   have hsp:c.step=sp:=by rw[←hc]
   have hmx:c.mx=mx:=by rw[←hc]
   have hmy:c.my=my:=by rw[←hc]
   have hseg:∀i,i≤6→Seg S q4 (stB (Yas k) (4*pt.toNat+ch.toNat) S (q4,0) i).1 (Yjf c i):=by
    intro i
    induction i with
    |zero=>intro _;exact Seg.nil v1.2.1
    |succ i ih=>
     intro hi;show Seg S q4 _ (Yjf c i++Yhj (Yas c.kind) (c.dc i) (c.ev i));rw[hkd];exact(ih (by omega)).app (hev i (by omega)).1
   have h6:=hseg 6 (Nat.le_refl _);rw[hq] at h6;simp only at h6;obtain⟨m1,m2⟩:=Qdc (pt:=pt.toNat) (ch:=ch.toNat) (c:=c) (by omega) (by omega) (fun i hi=>(hev i hi).2.2);refine⟨?_,?_⟩
   ·unfold Yc4;rw[hsk,if_neg (by decide),hkd,hsu,hsp,hmx,hmy,m1,m2,Int.toNat_of_nonneg a2,Int.toNat_of_nonneg c0,Int.toNat_natCast,←List.append_assoc,←List.append_assoc,←List.append_assoc,←List.append_assoc];exact(((g1.app a1).app b1).app v1).app h6
   ·unfold Ybp;rw[hsk,if_neg (by decide),hkd,hsu,hsp,hmx,hmy,hkin,b2,v2];simp only[Bool.true_and,Bool.and_eq_true,decide_eq_true_eq];refine⟨by omega,Yho.2 fun i hi=>?_⟩;rw[hkd];exact(hev i hi).2.1
 ·exfalso;have:=Qhe (x:=x) (y:=y) hb hf1;rw[h0] at this;exact hf1 this.symm
theorem Ywo {inter:Bool}{S:List UInt8}{p q:Nat}{a c:Int}(h:Seg S p q (Yby inter a c).data.toList)(hne:(Yby inter a c).data.toList.isEmpty=false)(h2:a≠2):Ymy inter S (p,0)=(a,c,q,0):=by
 have hl:=h.len;rw[Yzv,h.at,Qec inter a c _ rfl hne,if_neg h2];simp only[Prod.mk.injEq,and_true,true_and];exact hl.symm
theorem Yvh {S:List UInt8}{p q:Nat}{d:UInt8}(h:Seg S p q [d]):Ygf Yqe S (p,0)=(if d=49 then 1 else 0,q,0):=by
 have hl:=h.len;rw[Yfq,h.at];simp only[List.cons_append,Yqe,Prod.mk.injEq,and_true,true_and];exact hl.symm
theorem Ynu {inter:Bool}{S:List UInt8}{j m p q:Nat}{a c:Int}(h:Seg S p q (Qb4 inter++(Yby inter a c).data.toList))(hne:(Yby inter a c).data.toList.isEmpty=false)(h2:a≠2):
  Yeh inter S (j+1) m (p,0)=if a=5 then Yeh inter S j (m+1) (q,0) else (m,false,a,c,q,0):=by
 cases inter with
 |false=>exact Yj6 (Ywo h hne h2)
 |true=>
  obtain⟨g1,g2⟩:=h.split;exact Yj5 (Yvh g1) (by decide) (Ywo g2 hne h2)
theorem Ywa (inter:Bool):(Yby inter 5 0).data.toList.isEmpty=false:=by cases inter <;> rfl
theorem Y08 {S:List UInt8}:∀(n j m p q:Nat),n<j→Seg S p q (Yfz true n++[49])→Yeh true S j m (p,0)=(m+n,true,0,0,q,0)
 |0,j,m,p,q,hj,h=>by
  obtain⟨k,rfl⟩:∃k,j=k+1:=⟨j-1,by omega⟩;exact Ynx rfl (Yvh (show Seg S p q [49] from h)) (by decide)
 |n+1,j,m,p,q,hj,h=>by
  obtain⟨k,rfl⟩:∃k,j=k+1:=⟨j-1,by omega⟩;rw[Ydd,List.append_assoc] at h;obtain⟨g1,g2⟩:=h.split;rw[Ynu g1 (Ywa true) (by decide),if_pos rfl,Y08 n k (m+1) _ q (by omega) g2,Nat.add_assoc,Nat.add_comm 1 n]
theorem Y07 {inter:Bool}{S:List UInt8}{a c:Int}(hne:(Yby inter a c).data.toList.isEmpty=false)(h2:a≠2)(h5:a≠5):∀(n j m p q:Nat),n<j→Seg S p q (Yfz inter n++(Qb4 inter++(Yby inter a c).data.toList))→Yeh inter S j m (p,0)=(m+n,false,a,c,q,0)
 |0,j,m,p,q,hj,h=>by
  obtain⟨k,rfl⟩:∃k,j=k+1:=⟨j-1,by omega⟩;rw[Ynu (show Seg S p q (Qb4 inter++(Yby inter a c).data.toList) from h) hne h2,if_neg h5]
  rfl
 |n+1,j,m,p,q,hj,h=>by
  obtain⟨k,rfl⟩:∃k,j=k+1:=⟨j-1,by omega⟩;rw[Ydd,List.append_assoc] at h;obtain⟨g1,g2⟩:=h.split;rw[Ynu g1 (Ywa inter) (by decide),if_pos rfl,Y07 hne h2 h5 n k (m+1) _ q (by omega) g2,Nat.add_assoc,Nat.add_comm 1 n]
theorem Y82 {inter:Bool}{k:Int}{c:Nat}(h:Ykm inter k=true)(hc:c<4):(Yby inter k (c:Nat)).data.toList.isEmpty=false∧k≠2∧k≠5:=by
 have hk:k=3∨k=4∨(inter=true∧(k=0∨k=1)):=by
  unfold Ykm at h
  simpa [or_assoc] using h
 rcases hk with rfl|rfl|⟨rfl,rfl|rfl⟩
 all_goals
  refine⟨?_,by decide,by decide⟩
  match c,hc with
  |0,_=>first|rfl|(cases inter <;> rfl)
  |1,_=>first|rfl|(cases inter <;> rfl)
  |2,_=>first|rfl|(cases inter <;> rfl)
  |3,_=>first|rfl|(cases inter <;> rfl)
theorem Y91 {S:List UInt8}{p q:Nat}{i:Bool}{k:Nat}(h:Seg S p q (Yf2 i (k:Nat)).data.toList)(hk:k<16):Ygf (ptk i) S (p,0)=(((k:Nat):Int),(q,0)):=by
 have hl:=h.len;rw[Yfq,h.at,Qex i k hk _ rfl];simp only[Prod.mk.injEq,and_true,true_and];exact hl.symm
theorem Qa7 {S:List UInt8}{p q:Nat}{k s:Int}(h:Seg S p q (Yb8 s).data.toList)(hs:Yqt k s=true):Y2n S k (p,0)=(s,q,0):=by
 have hl:=h.len;unfold Y2n;unfold Yqt at hs;cases hk:Y5x k with
 |true=>
  rw[hk,if_pos rfl,Bool.not_eq_true'] at hs;have h4:=Ymn.1 hs;rw[if_pos rfl,Yfq,h.at,Qfk h4];simp only[Prod.mk.injEq,and_true,true_and];have:(Yb8 s).data.toList.length=2:=by rcases h4 with rfl|rfl|rfl|rfl <;> rfl
  omega
 |false=>
  rw[hk,if_neg (by decide),beq_iff_eq] at hs;subst hs;rw[if_neg (by decide)];simp only[Prod.mk.injEq,and_true,true_and];exact hl.symm
theorem Yw2 {S:List UInt8}{p q:Nat}{pr v:Int}(h:Seg S p q (Ybz (Yca (v-Yca pr))).data.toList)(hv:v=Yca v):Yi6 S pr (p,0)=(v,q,0):=by
 have hl:=h.len;unfold Yi6;rw[Yfq,h.at,Qdl (Y0x _) _ rfl];have e:Yca (Yca pr+Yca (v-Yca pr))=v:=by unfold Yca at hv ⊢;omega
 rw[e];simp only[Prod.mk.injEq,and_true,true_and];exact hl.symm
theorem Qbu {S:List UInt8}{p q:Nat}{k x y mx my:Int}(h:Seg S p q (Qf2 k x y mx my))(hv:Ym4 k mx my=true):Yyk S k x y (p,0)=(mx,my,q,0):=by
 unfold Qf2 at h;unfold Ym4 at hv;unfold Yyk;cases hk:Yas k with
 |true=>
  rw[hk,if_pos rfl] at h hv;rw[Bool.and_eq_true,beq_iff_eq,beq_iff_eq] at hv;obtain⟨rfl,rfl⟩:=hv;rw[if_pos rfl];simp only[Prod.mk.injEq,and_true,true_and];exact h.len.symm
 |false=>
  rw[hk,if_neg (by decide)] at h hv;rw[Bool.and_eq_true,beq_iff_eq,beq_iff_eq] at hv;obtain⟨g1,g2⟩:=h.split;have h1:=Yw2 g1 hv.1;have h2:=Yw2 g2 hv.2;rw[if_neg (by decide),h1];simp only;rw[h2]
theorem Yvi {S:List UInt8}{p q:Nat}{i:Bool}{d:Int}{l:List Ev}(h:Seg S p q (Yhj i d l))(hm:Ytv i d l=true):Yiz i (decide (0<l.length)) S (p,0)=(d,l,q,0):=by
 have hl:=h.len;have h1:=h.at;obtain⟨e1,e2,_⟩:=h;have hS:S=S.take p++Yhj i d l++S.drop q:=by rw[List.append_assoc,←h1,List.take_append_drop]
 have hA:(S.take p).length=p:=by rw[List.length_take];omega
 have hb:=Qcp hm (S.take p) (S.drop q);rw[←hS,hA,←hl] at hb;rw[Yyv,hb]
theorem Y09 {S:List UInt8}{a:Nat}{c:Cel}{i:Nat}:∀(k b:Nat),Seg S a b (Yjf c (i+k))→Seg S a (a+(Yjf c i).length) (Yjf c i)
 |0,b,h=>by
  have hl:=h.len;rw[Nat.add_zero] at hl h;rw[←hl];exact h
 |k+1,b,h=>by
  have h':Seg S a b (Yjf c (i+k)++Yhj (Yas c.kind) (c.dc (i+k)) (c.ev (i+k))):=h;exact Y09 k _ h'.split.1
theorem Y1f {c:Cel}:∀i,i<6→Yju (4*Yfw c 4+Ykd c) i=decide (0<(c.ev i).length):=by
 have hb:∀i,(Yqk c i==1)=decide (0<(c.ev i).length):=by
  intro i;unfold Yqk;cases decide (0<(c.ev i).length) <;> rfl
 have h:=fun i=>Yzl c i;have h0:=h 0;have h1:=h 1;have h2:=h 2;have h3:=h 3;have h4:=h 4;have h5:=h 5;intro i hi;rw[←hb];unfold Yju
 congr 1
 rw[Ynb];unfold Ykd
 match i,hi with
 |0,_=>simp only[Nat.sub_zero,Nat.reducePow];omega
 |1,_=>simp only[Nat.reduceSub,Nat.reducePow];omega
 |2,_=>simp only[Nat.reduceSub,Nat.reducePow];omega
 |3,_=>simp only[Nat.reduceSub,Nat.reducePow];omega
 |4,_=>simp only[Nat.reduceSub,Nat.reducePow];omega
 |5,_=>simp only[Nat.reduceSub,Nat.reducePow];omega
theorem Y7i {c d:Cel}(he:∀i,i<6→c.ev i=d.ev i)(hd:∀i,i<6→c.dc i=d.dc i)(h1:c.stuff=d.stuff)(h2:c.skip=d.skip)(h3:c.kind=d.kind)(h4:c.step=d.step)(h5:c.mx=d.mx)(h6:c.my=d.my):Qgi c d=true:=by
 unfold Qgi;rw[Qhn he,Bool.true_and];unfold Qj6;rw[h1,h2,h3,h4,h5,h6];simp only[beq_self_eq_true,Bool.and_self,Bool.true_and,List.all_eq_true];intro i hi;rw[hd i (List.mem_range.1 hi)];exact beq_self_eq_true _
theorem Y73 {inter:Bool}{S:List UInt8}{x y:Int}{p q:Nat}{c:Cel}(h:Seg S p q (Yc4 inter x y c))(hm:Ybp inter c=true):∃c',ctk inter S x y p=(c',q,0)∧Qgi c' c=true:=by
 unfold Ybp at hm;rw[Bool.and_eq_true,Bool.and_eq_true,decide_eq_true_iff,decide_eq_true_iff] at hm;obtain⟨⟨s0,s1⟩,hm⟩:=hm;obtain⟨n,hn⟩:∃n:Nat,c.stuff=n:=⟨c.stuff.toNat,by omega⟩;unfold Yc4 at h;rw[hn,Int.toNat_natCast] at h;cases hsk:c.skip with
 |true=>
  rw[hsk,if_pos rfl] at hm h;rw[Bool.and_eq_true] at hm;obtain⟨hi,hz⟩:=hm;subst hi;have hb:=Y08 n 65 0 p q (by omega) h;refine⟨_,Yn1 (Ys9 hb),?_⟩;unfold Yp7 at hz;simp only[Bool.and_eq_true,beq_iff_eq,List.all_eq_true,List.mem_range,decide_eq_true_eq] at hz;obtain⟨⟨⟨k0,k1⟩,k2,k3⟩,hd,he⟩:=hz
  exact Y7i (fun i hi=>(List.eq_nil_of_length_eq_zero (he i hi)).symm) (fun i hi=>(hd i hi).symm) (by rw[hn];simp) hsk.symm k0.symm k1.symm k2.symm k3.symm
 |false=>
  rw[hsk,if_neg (by decide)] at hm h;simp only[Bool.and_eq_true] at hm;obtain⟨⟨hk,hs⟩,hv,hbk⟩:=hm;rw[←List.append_assoc,←List.append_assoc,←List.append_assoc,←List.append_assoc] at h;obtain⟨q4,h,g5⟩:=h.cut;obtain⟨q3,h,g4⟩:=h.cut;obtain⟨q2,h,g3⟩:=h.cut;obtain⟨q1,g1,g2⟩:=h.cut;obtain⟨c1,c2,c3⟩:=Y7x c;obtain⟨r1,r2,r3⟩:=Y82 hk c2;have hb:=Y07 r1 r2 r3 n 65 0 p q1 (by omega) g1;rw[Nat.zero_add] at hb
  have hall:=Yy0 hb (Y91 g2 c1) (Qa7 g3 hs) (Qbu g4 hv);rw[Int.toNat_natCast,Int.toNat_natCast] at hall;have hseg:∀i,i<6→Seg S (q4+(Yjf c i).length) (q4+(Yjf c (i+1)).length) (Yhj (Yas c.kind) (c.dc i) (c.ev i)):=by
   intro i hi;have g6:Seg S q4 q (Yjf c (i+1+(5-i))):=by rw[show i+1+(5-i)=6 by omega];exact g5
   have g7:Seg S q4 (q4+(Yjf c (i+1)).length) (Yjf c i++Yhj (Yas c.kind) (c.dc i) (c.ev i)):=Y09 (5-i) q g6;exact g7.split.2
  have hmy:=Yho.1 hbk;have hst:∀i,i≤6→stB (Yas c.kind) (4*Yfw c 4+Ykd c) S (q4,0) i=(q4+(Yjf c i).length,0):=by
   intro i
   induction i with
   |zero=>intro _;rfl
   |succ i ih=>
    intro hi;show (Yiz (Yas c.kind) (Yju (4*Yfw c 4+Ykd c) i) S (stB (Yas c.kind) (4*Yfw c 4+Ykd c) S (q4,0) i)).2.2=_;rw[ih (by omega),Y1f i (by omega),Yvi (hseg i (by omega)) (hmy i (by omega))]
  have hbl:∀i,i<6→Yiz (Yas c.kind) (Yju (4*Yfw c 4+Ykd c) i) S (stB (Yas c.kind) (4*Yfw c 4+Ykd c) S (q4,0) i)=(c.dc i,c.ev i,q4+(Yjf c (i+1)).length,0):=by
   intro i hi;rw[hst i (by omega),Y1f i hi,Yvi (hseg i hi) (hmy i hi)]
  rw[hst 6 (Nat.le_refl _),←g5.len] at hall;refine⟨_,Yn1 hall,?_⟩;refine Y7i (fun i hi=>?_) (fun i hi=>?_) hn.symm hsk.symm rfl rfl rfl rfl
  ·show (Yiz (Yas c.kind) (Yju (4*Yfw c 4+Ykd c) i) S (stB (Yas c.kind) (4*Yfw c 4+Ykd c) S (q4,0) i)).2.1=_;rw[hbl i hi]
  ·show (Yiz (Yas c.kind) (Yju (4*Yfw c 4+Ykd c) i) S (stB (Yas c.kind) (4*Yfw c 4+Ykd c) S (q4,0) i)).1=_;rw[hbl i hi]
end Go.Proofs.YtjjmalchelniiaaGreatDoor