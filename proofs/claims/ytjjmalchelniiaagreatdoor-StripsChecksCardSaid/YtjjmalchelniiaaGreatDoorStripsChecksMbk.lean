/- StripsChecks, 37. No condition. -/
import Derived.Test.YtjjmalchelniiaaGreatDoorStripsChecksMb
import Derived.Test.YtjjmalchelniiaaGreatDoorStripsChecksMj
import Derived.Test.YtjjmalchelniiaaGreatDoorStripsChecksMo
import Derived.Test.YtjjmalchelniiaaGreatDoorStripsChecksMp
import Derived.Test.YtjjmalchelniiaaGreatDoorStripsChecksMt
import Derived.Test.YtjjmalchelniiaaGreatDoorStripsChecksMw
import Derived.Test.YtjjmalchelniiaaGreatDoorStripsChecksMx
import Derived.Test.YtjjmalchelniiaaGreatDoorStripsChecksMbg
import Derived.Test.YtjjmalchelniiaaGreatDoorStripsChecksMbi
import Derived.Test.YtjjmalchelniiaaGreatDoorStripsChecksMbj
open Go.Proofs.Tryz
open Go renaming World->A5,Value->A0,Ending->Ae,Calls->A9
set_option maxHeartbeats 4000000
namespace Go.Proofs.YtjjmalchelniiaaGreatDoor
section
abbrev Mo:=@wpList_load_row
abbrev Mp:=@underlying77
abbrev Mq:=@Decidable.byContradiction
abbrev Mr:=@List.getElem_append_left
abbrev Ms:=@Nat.mod_two_eq_zero_or_one
abbrev Mt:=@List.getElem_append_right
abbrev Mu:=@Prod.mk.inj
theorem yG (inter:Bool)(b:List UInt8):(mtk inter b=(0,0,(mtk inter b).2.2.1,0)/\(mtk inter b).2.2.1≠0)\/((mtk inter b).2.2.1=0/\0<=(mtk inter b).1/\(mtk inter b).1<=5/\(mtk inter b).1≠2/\0<=(mtk inter b).2.1/\(mtk inter b).2.1<=3/\(mtk inter b).2.2.2<=b.length):=by
 obtain⟨⟨f,n⟩,ht⟩:=Ai (tk ((DH inter).map AH) b 25 1);by_cases a:f=0
 ·subst a;have c:=Pa ht;unfold mtk;rw[ht,Bc rfl]
  split
  next x _=>
   split
   ·exact .inl ⟨rfl,(show (6:Int)≠0 by decide)⟩
   ·refine .inr ⟨rfl,?_,?_,by assumption,?_,?_,c.2.1⟩ <;> simp only[sA,sB] <;> omega
  ·exact .inr ⟨rfl,by decide,by decide,by decide,by decide,by decide,Dn _⟩
 ·rw[Qn inter ht a];exact .inl ⟨rfl,a⟩
theorem VT {all:List (ByteArray×Int)}{lo hi:Int}(c:lo<=0/\0<=hi)(a:∀x∈all,lo<=x.2/\x.2<=hi)(b:List UInt8):lo<=(gtk all b).1/\(gtk all b).1<=hi/\(gtk all b).2.2<=b.length:=by
 obtain⟨⟨f,n⟩,ht⟩:=Ai (tk (all.map AC) b 25 1);unfold gtk;by_cases d:f=0
 ·subst d;have e:=Pa ht;rw[ht,Bc rfl]
  split
  next x hx=>exact⟨(a x (Ks hx)).1,(a x (Ks hx)).2,e.2.1⟩
  ·exact⟨c.1,c.2,Dn _⟩
 ·rw[ht,Bb d];exact⟨c.1,c.2,Dn _⟩
theorem V6 (intra:Bool)(b:List UInt8):0<=(ptk intra b).1/\(ptk intra b).1<=15/\(ptk intra b).2.2<=b.length:=
 VT (all:=DF intra) (lo:=0) (hi:=15) ⟨by decide,by decide⟩ (by cases intra <;> decide +kernel) b
theorem Yt (b:List UInt8):-32<=(dtk b).1/\(dtk b).1<=31/\(dtk b).2.2<=b.length:=
 VT (all:=allD) (lo:=-32) (hi:=31) ⟨by decide,by decide⟩ (by decide +kernel) b
def ES (b:List UInt8):Int×Int×Nat:=match b with|[]=>(0,2,0)|c::_=>(if c=49 then 1 else 0,0,1)
abbrev Stt:=Nat×Int
def BP (k:List UInt8->Int×Int×Nat)(S:List UInt8)(st:Stt):Int×Stt:=
 if st.2=0 then ((k (S.drop st.1)).1,st.1+(k (S.drop st.1)).2.2,(k (S.drop st.1)).2.1) else (0,st)
def DS (inter:Bool)(S:List UInt8)(st:Stt):Int×Int×Stt:=
 if st.2=0 then ((mtk inter (S.drop st.1)).1,(mtk inter (S.drop st.1)).2.1,st.1+(mtk inter (S.drop st.1)).2.2.2,(mtk inter (S.drop st.1)).2.2.1) else (0,0,st)
def CF (intra a:Bool)(S:List UInt8)(st:Stt):Int×List Ev×Stt:=
 if st.2=0 then ((btk S st.1 intra a).1,(btk S st.1 intra a).2.1,(btk S st.1 intra a).2.2.1,(btk S st.1 intra a).2.2.2) else (0,[],st)
def B0 (inter:Bool)(S:List UInt8):Nat->Nat->Stt->Nat×Bool×Int×Int×Stt
 |0,_,st=>(0,false,0,0,st.1,13)
 |k+1,n,st=>
  if inter=true/\(BP ES S st).1=1 then (n,true,0,0,(BP ES S st).2) else
  if (DS inter S (if inter then (BP ES S st).2 else st)).1=5 then B0 inter S k (n+1) (DS inter S (if inter then (BP ES S st).2 else st)).2.2 else
  (n,false,DS inter S (if inter then (BP ES S st).2 else st))
def HH (S:List UInt8)(kind:Int)(st:Stt):Int×Stt:=if NQ kind then BP stk S st else (0,st)
def CK (S:List UInt8)(a:Int)(st:Stt):Int×Stt:=(AM (AM a+(BP dtk S st).1),(BP dtk S st).2)
def GL (S:List UInt8)(kind:Int)(x y:Int)(st:Stt):Int×Int×Stt:=
 if AE kind then (0,0,st) else ((CK S x st).1,(CK S y (CK S x st).2).1,(CK S y (CK S x st).2).2)
def D0 (c i:Nat):Bool:=c / 2^(5-i)%2==1
def stB (intra:Bool)(c:Nat)(S:List UInt8)(st:Stt):Nat->Stt
 |0=>st
 |i+1=>(CF intra (D0 c i) S (stB intra c S st i)).2.2
def MM (inter:Bool)(S:List UInt8)(st:Stt):Nat:=
 4*(BP (ptk (AE (B0 inter S 65 0 st).2.2.1)) S (B0 inter S 65 0 st).2.2.2.2).1.toNat+(B0 inter S 65 0 st).2.2.2.1.toNat
def st2 (inter:Bool)(S:List UInt8)(st:Stt):Stt:=(BP (ptk (AE (B0 inter S 65 0 st).2.2.1)) S (B0 inter S 65 0 st).2.2.2.2).2
def st3 (inter:Bool)(S:List UInt8)(st:Stt):Stt:=(HH S (B0 inter S 65 0 st).2.2.1 (st2 inter S st)).2
def st4 (inter:Bool)(S:List UInt8)(x y:Int)(st:Stt):Stt:=(GL S (B0 inter S 65 0 st).2.2.1 x y (st3 inter S st)).2.2
def GP (inter:Bool)(S:List UInt8)(x y:Int)(st:Stt):Cel×Stt:=
 if (B0 inter S 65 0 st).2.1 then ({DP with stuff:=(B0 inter S 65 0 st).1,skip:=true},(B0 inter S 65 0 st).2.2.2.2) else
 ({stuff:=(B0 inter S 65 0 st).1,skip:=false,kind:=(B0 inter S 65 0 st).2.2.1,step:=(HH S (B0 inter S 65 0 st).2.2.1 (st2 inter S st)).1,mx:=(GL S (B0 inter S 65 0 st).2.2.1 x y (st3 inter S st)).1,my:=(GL S (B0 inter S 65 0 st).2.2.1 x y (st3 inter S st)).2.1,dc:=fun i=>(CF (AE (B0 inter S 65 0 st).2.2.1) (D0 (MM inter S st) i) S (stB (AE (B0 inter S 65 0 st).2.2.1) (MM inter S st) S (st4 inter S x y st) i)).1,ev:=fun i=>(CF (AE (B0 inter S 65 0 st).2.2.1) (D0 (MM inter S st) i) S (stB (AE (B0 inter S 65 0 st).2.2.1) (MM inter S st) S (st4 inter S x y st) i)).2.1},
  stB (AE (B0 inter S 65 0 st).2.2.1) (MM inter S st) S (st4 inter S x y st) 6)
def ctk (inter:Bool)(S:List UInt8)(x y:Int)(p:Nat):Cel×Nat×Int:=
 if (GP inter S x y (p,0)).2.2=0 then ((GP inter S x y (p,0)).1,(GP inter S x y (p,0)).2.1,0) else (DP,p,(GP inter S x y (p,0)).2.2)
theorem IX {k:List UInt8->Int×Int×Nat}{S:List UInt8}{p:Nat}:BP k S (p,0)=((k (S.drop p)).1,p+(k (S.drop p)).2.2,(k (S.drop p)).2.1):=Bc rfl
theorem LM {k:List UInt8->Int×Int×Nat}{S:List UInt8}{st:Stt}(h:st.2≠0):BP k S st=(0,st):=Bb h
theorem SG {inter:Bool}{S:List UInt8}{p:Nat}:DS inter S (p,0)=((mtk inter (S.drop p)).1,(mtk inter (S.drop p)).2.1,p+(mtk inter (S.drop p)).2.2.2,(mtk inter (S.drop p)).2.2.1):=Bc rfl
theorem R8 {inter:Bool}{S:List UInt8}{st:Stt}(h:st.2≠0):DS inter S st=(0,0,st):=Bb h
theorem TQ {intra a:Bool}{S:List UInt8}{p:Nat}:CF intra a S (p,0)=((btk S p intra a).1,(btk S p intra a).2.1,(btk S p intra a).2.2.1,(btk S p intra a).2.2.2):=Bc rfl
theorem Y0 {intra a:Bool}{S:List UInt8}{st:Stt}(h:st.2≠0):CF intra a S st=(0,[],st):=Bb h
theorem TP {intra:Bool}{c:Nat}{S:List UInt8}{st:Stt}{i:Nat}(h:(stB intra c S st i).2≠0):∀k,stB intra c S st (i+k)=stB intra c S st i
 |0=>rfl
 |k+1=>by
  have a:=TP h k;show (CF intra (D0 c (i+k)) S (stB intra c S st (i+k))).2.2=_;rw[a,Y0 h]
theorem YN {S:List UInt8}{kind:Int}{st:Stt}(h:st.2≠0):HH S kind st=(0,st):=by
 unfold HH;rw[LM h]
 split <;> rfl
theorem UL {S:List UInt8}{kind x y:Int}{st:Stt}(h:st.2≠0):(GL S kind x y st).2.2=st:=by
 unfold GL CK;rw[LM h]
 split
 ·rfl
 ·simp only;rw[LM h]
theorem eW {inter:Bool}{S:List UInt8}{x y:Int}{p:Nat}{f:Int}(a:f≠0)(h:(GP inter S x y (p,0)).2.2=f):ctk inter S x y p=(DP,p,f):=by
 unfold ctk;rw[h,Bb a]
theorem RT {inter:Bool}{S:List UInt8}{x y:Int}{p q:Nat}{c:Cel}(h:GP inter S x y (p,0)=(c,q,0)):ctk inter S x y p=(c,q,0):=by
 unfold ctk;rw[h,Bc rfl]
theorem tR {inter:Bool}{S:List UInt8}{x y:Int}{st:Stt}{n:Nat}{k c:Int}{b:Bool}{q:Nat}{f:Int}(h:B0 inter S 65 0 st=(n,b,k,c,q,f))(a:f≠0):(GP inter S x y st).2.2=f:=by
 have d:st2 inter S st=(q,f):=by unfold st2;rw[h,LM a]
 have e:st3 inter S st=(q,f):=by unfold st3;rw[h,d,YN a]
 have g:st4 inter S x y st=(q,f):=by unfold st4;rw[e,UL a]
 unfold GP;rw[g,h];simp only
 split
 ·rfl
 ·have:=TP (intra:=AE k) (c:=MM inter S st) (S:=S) (st:=(q,f)) (i:=0) a 6;rw[As] at this;rw[this]
  rfl
theorem Ts {inter:Bool}{S:List UInt8}{x y:Int}{st a:Stt}{n:Nat}{k c:Int}(h:B0 inter S 65 0 st=(n,true,k,c,a)):GP inter S x y st=({DP with stuff:=n,skip:=true},a):=by
 unfold GP;rw[h]
 rfl
theorem Rj {inter:Bool}{S:List UInt8}{k n:Nat}{st a:Stt}{v:Int}(hi:inter=true)(h:BP ES S st=(v,a))(hv:v=1):B0 inter S (k+1) n st=(n,true,0,0,a):=by
 unfold B0;rw[h,Bc ⟨hi,hv⟩]
theorem Pe {S:List UInt8}{k n:Nat}{st b st2:Stt}{v a c:Int}(h:BP ES S st=(v,b))(hv:v≠1)(h2:DS true S b=(a,c,st2)):B0 true S (k+1) n st=if a=5 then B0 true S k (n+1) st2 else (n,false,a,c,st2):=by
 conv=>lhs;unfold B0
 rw[h,Bb (fun e=>hv e.2),Bc rfl,h2]
theorem QC {S:List UInt8}{k n:Nat}{st st2:Stt}{a c:Int}(h2:DS false S st=(a,c,st2)):B0 false S (k+1) n st=if a=5 then B0 false S k (n+1) st2 else (n,false,a,c,st2):=by
 conv=>lhs;unfold B0
 rw[Bb (fun e=>by cases e.1)];simp only[B5,Jb,h2]
theorem XP (inter:Bool)(S:List UInt8):∀(j n:Nat) (st:Stt) (b:Nat) (d:Bool) (k c:Int) (st':Stt),B0 inter S j n st=(b,d,k,c,st')->b<=n+j/\0<=k/\k<=4/\k≠2/\0<=c/\c<=3/\(d=true->k=0)
 |0,n,st,b,d,k,c,st',h=>by
  simp only[B0,Jf] at h;exact⟨by omega,by omega,by omega,by omega,by omega,by omega,fun _=>h.2.2.1.symm⟩
 |j+1,n,st,b,d,k,c,st',h=>by
  have g:∀a,(DS inter S a).1≠5->0<=(DS inter S a).1/\(DS inter S a).1<=4/\(DS inter S a).1≠2/\0<=(DS inter S a).2.1/\(DS inter S a).2.1<=3:=by
   intro a f;unfold DS at f ⊢
   split at f
   next hz=>
    rw[Bc hz];simp only at f ⊢;rcases yG inter (S.drop a.1) with ⟨h1,_⟩|⟨o,h1,h2,h3,h4,i,_⟩
    ·rw[h1];refine⟨?_,?_,?_,?_,?_⟩ <;> simp
    ·exact⟨h1,by omega,h3,h4,i⟩
   next hz=>
    rw[Bb hz];refine⟨?_,?_,?_,?_,?_⟩ <;> simp
  unfold B0 at h;generalize (if inter=true then (BP ES S st).2 else st)=p at h
  split at h
  ·simp only[Jf] at h;exact⟨by omega,by omega,by omega,by omega,by omega,by omega,fun _=>h.2.2.1.symm⟩
  ·split at h
   ·have:=XP inter S j (n+1) _ b d k c st' h;exact⟨by omega,this.2⟩
   next f=>
    have h1:=g _ f;simp only[Jf] at h;obtain⟨q,l,m⟩:=h;rw[m] at h1;simp only at h1;exact⟨by omega,h1.1,h1.2.1,h1.2.2.1,h1.2.2.2.1,h1.2.2.2.2,fun e=>by rw[<-l] at e;cases e⟩
theorem S6 {inter:Bool}{S:List UInt8}{x y:Int}{st a c d b:Stt}{n:Nat}{k ch pt e mx my:Int}(h:B0 inter S 65 0 st=(n,false,k,ch,a))(h2:BP (ptk (AE k)) S a=(pt,c))(h3:HH S k c=(e,d))(h4:GL S k x y d=(mx,my,b)):
  GP inter S x y st=({stuff:=n,skip:=false,kind:=k,step:=e,mx:=mx,my:=my,dc:=fun i=>(CF (AE k) (D0 (4*pt.toNat+ch.toNat) i) S (stB (AE k) (4*pt.toNat+ch.toNat) S b i)).1,ev:=fun i=>(CF (AE k) (D0 (4*pt.toNat+ch.toNat) i) S (stB (AE k) (4*pt.toNat+ch.toNat) S b i)).2.1},stB (AE k) (4*pt.toNat+ch.toNat) S b 6):=by
 simp only[GP,st4,st3,st2,MM,h,h2,h3,h4,B5,Jb]
theorem gV (intra:Bool)(S:List UInt8)(st:Stt):0<=(BP (ptk intra) S st).1/\(BP (ptk intra) S st).1<=15:=by
 unfold BP
 split
 ·exact⟨(V6 intra _).1,(V6 intra _).2.1⟩
 ·constructor <;> simp
theorem Yk (S:List UInt8)(st:Stt):-32<=(BP dtk S st).1/\(BP dtk S st).1<=31:=by
 unfold BP
 split
 ·exact⟨(Yt _).1,(Yt _).2.1⟩
 ·constructor <;> simp
end
section
open Go.RowKit Go.Lib
def CW (w:A5)(pb rb:Nat)(s:ByteArray)(st:Stt):Prop:=
 w.heap[pb]? =some (.cells [.pointer (some ⟨rb,0,none⟩),.int .i64 st.2].toArray 212 (0,0))/\AG w rb s st.1/\rb<pb
theorem CW.lt {w:A5}{pb rb:Nat}{s:ByteArray}{st:Stt}(h:CW w pb rb s st):pb<w.heap.size:=(An.1 h.1).1
theorem CW.under {w x:A5}{pb rb N:Nat}{s:ByteArray}{st:Stt}(h:CW w pb rb s st)(a:Below N w x)(b:pb<N):CW x pb rb s st:=
 ⟨(a.block pb b).trans h.1,h.2.1.under a (by have:=h.2.2;omega),h.2.2⟩
theorem CW.store {w x:A5}{pb rb:Nat}{s:ByteArray}{st:Stt}{q:Nat}{f:Int}(h:CW w pb rb s st)(hr:AG x rb s q)(b:w.grownBy x (some rb)):
  CW (x.setCell ⟨pb,1,none⟩ (.int .i64 f)) pb rb s (q,f)/\Ybu rb pb w (x.setCell ⟨pb,1,none⟩ (.int .i64 f)):=by
 have c:=(b.block pb h.lt (by have:=h.2.2;simp;omega)).trans h.1;have a:rb≠pb:=by have:=h.2.2;omega
 refine⟨⟨?_,⟨?_,hr.2⟩,h.2.2⟩,(Ybu.grown b (.inl rfl)).trans (Ybu.set _ (.inr rfl))⟩
 ·exact B3 (o:=1) (.int .i64 f) c
 ·rw[Ii _ _ _ _ a];exact hr.1
def DR (w:A5)(B:Nat)(v:A0)(L:List Ev):Prop:=∃(q:Option Addr) (cap:Nat),v=.slice q L.length cap/\CE w q L/\E3 B q
theorem DR.nil (w:A5)(B:Nat):DR w B (.slice none 0 0) []:=⟨none,0,rfl,.inl rfl,E3.none _⟩
theorem DR.one {w:A5}{B:Nat}{v:A0}{L:List Ev}(h:DR w B v L):v.oneCell'=true:=by
 obtain⟨q,cap,rfl,_⟩:=h
 rfl
theorem DR.from {w:A5}{A B:Nat}{v:A0}{L:List Ev}(h:DR w B v L)(a:A<=B):DR w A v L:=by
 obtain⟨q,cap,h1,h2,h3⟩:=h;exact⟨q,cap,h1,h2,h3.mono a⟩
theorem DR.moved {w x:A5}{a b B:Nat}{v:A0}{L:List Ev}(h:DR w B v L)(hm:Ybu a b w x)(j:a<B)(c:b<B):DR x B v L:=by
 obtain⟨q,cap,h1,h2,h3⟩:=h;refine⟨q,cap,h1,?_,h3⟩;rcases h2 with h|⟨k,o,rfl,h4,d⟩
 ·exact .inl h
 ·have l:B<=k:=h3 _ rfl;have c:=hm.block k h4 (by omega) (by omega);refine .inr ⟨k,o,rfl,Bg h4 hm.size,fun i hi=>?_⟩;obtain⟨e,f,g⟩:=d i hi;exact⟨(Fz (a:=⟨k,o+i*3,none⟩) c).trans e,(Fz (a:=⟨k,o+i*3+1,none⟩) c).trans f,(Fz (a:=⟨k,o+i*3+2,none⟩) c).trans g⟩
theorem DR.below {w x:A5}{B:Nat}{v:A0}{L:List Ev}(h:DR w B v L)(a:Below w.heap.size w x):DR x B v L:=by
 obtain⟨q,cap,h1,h2,h3⟩:=h;exact⟨q,cap,h1,h2.below a,h3⟩
def Q1 (k:List UInt8->Int×Int×Nat)(s:ByteArray)(rb p:Nat)(w:A5)(e:Ae)(a:A5):Prop:=
 e=.returned (.tuple #[.int .i64 (k ((AA s.data.toList).drop p)).1,.int .i64 (k ((AA s.data.toList).drop p)).2.1])/\AG a rb s (p+(k ((AA s.data.toList).drop p)).2.2)/\w.grownBy a (some rb)
def IN (k:List UInt8->Int×Int×Nat)(s:ByteArray)(pb rb:Nat)(st:Stt)(w:A5)(e:Ae)(a:A5):Prop:=
 e=.returned (.int .i64 (BP k (AA s.data.toList) st).1)/\CW a pb rb s (BP k (AA s.data.toList) st).2/\Ybu rb pb w a
theorem jE (s:ByteArray)(p:Nat)(h:p<=8*s.size):∃(v f:Int) (n:Nat),ES ((AA s.data.toList).drop p)=(v,f,n)/\ask s.data.toList p 1=(v,f)/\C1 s.data.toList p 1=p+n:=by
 have c:s.data.toList.length=s.size:=rfl;have d:((AA s.data.toList).drop p).length=8*s.size-p:=by rw[Bj,BB];rfl
 by_cases g:8*s.size<p+1
 ·have b:ask s.data.toList p 1=(0,2):=FG (by omega) (by rw[c];omega);refine⟨0,2,0,?_,b,by unfold C1;rw[b];rfl⟩;cases hd:(AA s.data.toList).drop p with
  |nil=>rfl
  |cons a l=>rw[hd] at d;simp at d;omega
 ·have b:ask s.data.toList p 1=(((AD s.data.toList p 1:Nat):Int),0):=E7 (by omega) (by rw[c];omega);obtain⟨t,ht,e,hd⟩:=Xt s p (by omega);rw[ht] at b;refine⟨t,0,1,?_,b,by unfold C1;rw[b];rfl⟩;cases hc:(AA s.data.toList).drop p with
  |nil=>rw[hc] at hd;cases hd
  |cons a l=>
   rw[hc] at hd;have:a=UInt8.ofNat (48+t):=by simpa using hd
   subst this;rcases e with rfl|rfl <;> rfl
theorem Z8 (w:A5)(rb:Nat)(s:ByteArray)(p:Nat)(hr:AG w rb s p):A9 prog 225 #[.pointer (some ⟨rb,0,none⟩)] w (Q1 ES s rb p w):=by
 have hc:=IL w rb s p 1 hr;obtain⟨v,f,n,c,d,ht⟩:=jE s p hr.2.1;unfold Q1;rw[c];rw[d,ht] at hc;clear d ht c hr
 go_enter func225,ntmps225
 go_wp2_with fail
 refine hc.mono ?_;rintro e g ⟨rfl,a,b⟩
 go_wp2
 go_ret2
 exact⟨rfl,a,b⟩
theorem Td {f : FuncId} {fn : Func} {c : Code} (hf : prog.funcs[f]? = some fn) (hname : (fn.name == "runtime.NumGoroutine") = false) (hb : fn.body = some c) (args : Array Value) (w : World) : (callFunc f args).run prog w = .ok (.enter f args) w := by
 have h1 : fn.name ≠ "runtime.NumGoroutine" := by simpa using hname
 simp[callFunc,hf,h1,hb]
theorem Tm (k:List UInt8->Int×Int×Nat)(d:FuncId)(w:A5)(pb rb:Nat)(s:ByteArray)(st:Stt)(hr:CW w pb rb s st)(l:∀args x,(callFunc d args).run prog x=.ok (.enter d args) x)
  (a:AG w rb s st.1->A9 prog d #[.pointer (some ⟨rb,0,none⟩)] w (Q1 k s rb st.1 w)):
  A9 prog 211 #[.pointer (some ⟨pb,0,none⟩),.func (.func d) #[] #[]] w (IN k s pb rb st w):=by
 obtain⟨p,f⟩:=st;have j:=A2 (o:=0) hr.1 rfl;have c1:=A2 (o:=1) hr.1 rfl;simp only at j c1;unfold IN;by_cases h:f=0
 ·subst h;have a:=a hr.2.1;unfold Q1 at a;rw[IX];simp only at a ⊢;generalize k ((AA s.data.toList).drop p)=z at a ⊢;obtain⟨v,f,n⟩:=z;simp only at a ⊢;have g:=Dl hr;clear hr
  go_enter func211,ntmps211
  go_wp2_with fail
  refine a.mono ?_;rintro e r ⟨rfl,c,b⟩;have i:=(b.block pb g.out.lt (by have:=g.out.2.2;simp;omega)).trans g.out.1;have m:=AW (o:=1) i;have q:=A2 (o:=1) i rfl;have ST:=Dl (g.out.store (f:=f) c b);clear c b i a j c1
  go_wp2
  go_ret
  exact⟨rfl,ST.out⟩
 ·rw[LM h];have t0:(f != 0)=true:=by simpa using h
  go_enter func211,ntmps211
  go_wp2
  go_ret
  exact⟨rfl,hr,Ybu.refl _ _ _⟩
section
variable {N:Nat}{w:A5}{pb rb:Nat}{s:ByteArray}{st:Stt}
theorem nR (hr:CW w pb rb s st):A9 prog 211 #[.pointer (some ⟨pb,0,none⟩),.func (.func 225) #[] #[]] w (IN ES s pb rb st w):=
 Tm ES _ w pb rb s st hr (Td func225 (by kernel_rfl) rfl) fun h=>Z8 w rb s st.1 h
theorem lC (ht:Ybq N w)(a:N<=rb)(hr:CW w pb rb s st):A9 prog 211 #[.pointer (some ⟨pb,0,none⟩),.func (.func 212) #[] #[]] w (IN stk s pb rb st w):=
 Tm stk _ w pb rb s st hr (Td func212 (by kernel_rfl) rfl) fun h=>(rU w rb s st.1 ht.steps (by have:=ht.lo.2.2.2.1;omega) h).mono fun _ _ h=>h
theorem Xp (ht:Ybq N w)(hr:CW w pb rb s st):A9 prog 211 #[.pointer (some ⟨pb,0,none⟩),.func (.func 213) #[] #[]] w (IN dtk s pb rb st w):=
 Tm dtk _ w pb rb s st hr (Td func213 (by kernel_rfl) rfl) fun h=>(iZ w rb s st.1 ht.mvd h).mono fun _ _ h=>h
end
theorem wT {N:Nat}{w:A5}{pb rb:Nat}{s:ByteArray}{st:Stt}(intra:Bool)(ht:Ybq N w)(hr:CW w pb rb s st):
  A9 prog 210 #[.pointer (some ⟨pb,0,none⟩),.bool intra] w (IN (ptk intra) s pb rb st w):=by
 obtain⟨p,f⟩:=st;have i:=A2 (o:=0) hr.1 rfl;have c1:=A2 (o:=1) hr.1 rfl;simp only at i c1;unfold IN;by_cases g:f=0
 ·subst g;have b:=eZ intra w rb s p ht.pats hr.2.1;unfold Qw at b;rw[IX];generalize ptk intra ((AA s.data.toList).drop p)=z at b ⊢;obtain⟨v,f,n⟩:=z;simp only at b ⊢;have d:=Dl hr;clear hr ht
  go_enter func210,ntmps210
  go_wp2_with fail
  refine b.mono ?_;rintro e l ⟨rfl,c,a⟩;have h:=(a.block pb d.out.lt (by have:=d.out.2.2;simp;omega)).trans d.out.1;have j:=AW (o:=1) h;have k:=A2 (o:=1) h rfl;have ST:=Dl (d.out.store (f:=f) c a);clear c a h b i c1
  go_wp2
  go_ret
  exact⟨rfl,ST.out⟩
 ·rw[LM g];have t0:(f != 0)=true:=by simpa using g
  clear ht
  go_enter func210,ntmps210
  go_wp2
  go_ret
  exact⟨rfl,hr,Ybu.refl _ _ _⟩
def PQ (inter:Bool)(s:ByteArray)(pb rb:Nat)(st:Stt)(w:A5)(e:Ae)(a:A5):Prop:=
 e=.returned (.tuple #[.int .i64 (DS inter (AA s.data.toList) st).1,.int .i64 (DS inter (AA s.data.toList) st).2.1])/\CW a pb rb s (DS inter (AA s.data.toList) st).2.2/\Ybu rb pb w a
theorem V1 {w:A5}{pb rb:Nat}{s:ByteArray}{st:Stt}(inter:Bool)(hr:CW w pb rb s st):
  A9 prog 226 #[.pointer (some ⟨pb,0,none⟩),.bool inter] w (PQ inter s pb rb st w):=by
 obtain⟨p,f⟩:=st;have i:=A2 (o:=0) hr.1 rfl;have c1:=A2 (o:=1) hr.1 rfl;simp only at i c1;unfold PQ;by_cases g:f=0
 ·subst g;have b:=jN inter w rb s p hr.2.1;unfold Q5 at b;rw[SG];generalize mtk inter ((AA s.data.toList).drop p)=z at b ⊢;obtain⟨v,l,f,n⟩:=z;simp only at b ⊢;have d:=Dl hr;clear hr
  go_enter func226,ntmps226
  go_wp2_with fail
  refine b.mono ?_;rintro e m ⟨rfl,c,a⟩;have h:=(a.block pb d.out.lt (by have:=d.out.2.2;simp;omega)).trans d.out.1;have j:=AW (o:=1) h;have k:=A2 (o:=1) h rfl;have ST:=Dl (d.out.store (f:=f) c a);clear c a h b i c1
  go_wp2
  go_ret2
  exact⟨rfl,ST.out⟩
 ·rw[R8 g];have t0:(f != 0)=true:=by simpa using g
  go_enter func226,ntmps226
  go_wp2
  go_ret2
  exact⟨rfl,hr,Ybu.refl _ _ _⟩
def Sd (intra a:Bool)(s:ByteArray)(pb rb:Nat)(st:Stt)(w:A5)(e:Ae)(b:A5):Prop:=
 ∃v,e=.returned (.tuple #[.int .i64 (CF intra a (AA s.data.toList) st).1,v])/\DR b w.heap.size v (CF intra a (AA s.data.toList) st).2.1/\CW b pb rb s (CF intra a (AA s.data.toList) st).2.2/\Ybu rb pb w b
theorem yV {N:Nat}{w:A5}{pb rb:Nat}{s:ByteArray}{st:Stt}(intra c:Bool)(ht:Ybq N w)(hr:CW w pb rb s st):
  A9 prog 214 #[.pointer (some ⟨pb,0,none⟩),.bool intra,.bool c] w (Sd intra c s pb rb st w):=by
 obtain⟨p,f⟩:=st;have u:=A2 (o:=0) hr.1 rfl;have c1:=A2 (o:=1) hr.1 rfl;simp only at u c1;unfold Sd;by_cases r:f=0
 ·subst r;have i:=eK w rb s p intra c ht.tcoef hr.2.1;unfold Sa at i;rw[TQ];generalize btk (AA s.data.toList) p intra c=z at i ⊢;obtain⟨d,L,q,f⟩:=z;simp only at i ⊢;have h:=Dl hr;clear hr ht
  go_enter func214,ntmps214
  go_wp2_with fail
  refine i.mono ?_;rintro e x ⟨d1,B,f1,t1,m,a,cap,j,rfl,hm,k,l,g,n⟩;simp only[Jf] at j;obtain⟨rfl,rfl,rfl,rfl⟩:=j;have t:=(g.block pb h.out.lt (by have:=h.out.2.2;simp;omega)).trans h.out.1;have y:=AW (o:=1) t;have A:=A2 (o:=1) t rfl;have ST:=Dl (h.out.store (f:=f) l g)
  have v:=Dl ((show DR x w.heap.size (.slice a L.length cap) L from⟨a,cap,rfl,k,n⟩).moved (Ybu.set (a:=pb) (b:=pb) (p:=⟨pb,1,none⟩) (.int .i64 f) (.inl rfl)) h.out.lt h.out.lt);rw[hm] at v;clear l g t i u c1 k n
  go_wp2
  go_ret2
  exact⟨_,rfl,v.out,ST.out⟩
 ·rw[Y0 r];have t0:(f != 0)=true:=by simpa using r
  clear ht
  go_enter func214,ntmps214
  go_wp2
  go_ret2
  exact⟨_,rfl,DR.nil _ _,hr,Ybu.refl _ _ _⟩
theorem Ybu.onto {a b N:Nat}{w x y:A5}(h:Ybu a b w x)(c:Below N x y)(e:w.heap.size<=N):Ybu a b w y:=
 ⟨c.os.trans h.os,c.tape.trans h.tape,c.output.trans h.output,Ea h.size c.size,fun k d h1 h2=>(c.block k (by omega)).trans (h.block k d h1 h2)⟩
theorem M2 {w x:A5}{R:Nat}(h:w.grownBy x (some R))(a:R<w.heap.size):Below R w x:=
 ⟨h.os,h.tape,h.output,h.size,fun k b=>h.block k (by omega) (by simp;omega)⟩
theorem CW.wrong {w:A5}{pb rb:Nat}{s:ByteArray}{st:Stt}(f:Int)(h:CW w pb rb s st):
  CW (w.setCell ⟨pb,1,none⟩ (.int .i64 f)) pb rb s (st.1,f)/\Ybu rb pb w (w.setCell ⟨pb,1,none⟩ (.int .i64 f)):=
 h.store h.2.1 ⟨rfl,rfl,rfl,Ba _,fun _ _ _=>rfl⟩
theorem OT (c:Cel)(sl:Nat->A0):(prog.info? 77).map (·.size)=some (AF c sl).toArray.size:=by kernel_rfl
theorem Po (c:Cel)(sl:Nat->A0)(h:∀i,i<6->(sl i).oneCell'=true):(AF c sl).toArray.all (·.oneCell')=true:=by
 rw[G6];intro v hv;have hm:v∈AF c sl:=by simpa using hv
 simp only[AF,Eb,Ed,Ek] at hm;rcases hm with rfl|rfl|rfl|rfl|rfl|rfl|rfl|rfl|rfl|rfl|rfl|rfl|rfl|rfl|rfl|rfl|rfl|rfl
 all_goals first|rfl|exact h _ (by omega)
def lK (inter:Bool)(s:ByteArray)(pb rb:Nat)(st:Stt)(w:A5)(e:Ae)(a:A5):Prop:=
 ∃(n:Nat) (b:Bool) (k c:Int) (st':Stt),B0 inter (AA s.data.toList) 65 0 st=(n,b,k,c,st')/\e=.returned (.tuple #[.agg (AF {DP with stuff:=n,skip:=b,kind:=k} nilS).toArray,.int .i64 c])/\CW a pb rb s st'/\Ybu rb pb w a
set_option maxRecDepth 100000 in
theorem qW {w:A5}{pb rb:Nat}{s:ByteArray}{st:Stt}(inter:Bool)(hr:CW w pb rb s st):
  A9 prog 209 #[.pointer (some ⟨pb,0,none⟩),.bool inter] w (lK inter s pb rb st w):=by
 obtain⟨R,Q⟩:=Ai w.heap.size;obtain⟨S,D⟩:=Ai (w.alloc (.cells #[.int .i64 0,.bool false,.int .i64 0,.int .i64 0,.int .i64 0,.int .i64 0,.int .i64 0,.int .i64 0,.int .i64 0,.int .i64 0,.int .i64 0,.int .i64 0,.slice none 0 0,.slice none 0 0,.slice none 0 0,.slice none 0 0,.slice none 0 0,.slice none 0 0] 77 (0,0)))
 have K:Below R w S:=by rw[<-D,<-Q];exact(Dm _ w).alloc (Ba _) _
 have aa:S.heap.size=R+1:=by rw[<-D,<-Q];simp
 have hA:S.heap[R]? =some (.cells #[.int .i64 0,.bool false,.int .i64 0,.int .i64 0,.int .i64 0,.int .i64 0,.int .i64 0,.int .i64 0,.int .i64 0,.int .i64 0,.int .i64 0,.int .i64 0,.slice none 0 0,.slice none 0 0,.slice none 0 0,.slice none 0 0,.slice none 0 0,.slice none 0 0] 77 (0,0)):=by rw[<-D,<-Q];exact heap_alloc_new w _
 obtain⟨Y,hY⟩:∃Y:Array A0,#[.int .i64 0,.bool false,.int .i64 0,.int .i64 0,.int .i64 0,.int .i64 0,.int .i64 0,.int .i64 0,.int .i64 0,.int .i64 0,.int .i64 0,.int .i64 0,.slice none 0 0,.slice none 0 0,.slice none 0 0,.slice none 0 0,.slice none 0 0,.slice none 0 0]=Y:=⟨_,rfl⟩;have T:Y.size=18:=by rw[<-hY];rfl
 rw[hY] at hA;clear hY;have ab:∀(n k:Int) (H:Bool),Y.size=((#[.int .i64 n,.bool H,.int .i64 k,.int .i64 0,.int .i64 0,.int .i64 0,.int .i64 0,.int .i64 0,.int .i64 0,.int .i64 0,.int .i64 0,.int .i64 0,.slice none 0 0,.slice none 0 0,.slice none 0 0,.slice none 0 0,.slice none 0 0,.slice none 0 0]:Array A0)).size:=fun _ _ _=>T
 have I:∀(n k:Int) (H:Bool),(prog.info? 77).map (·.size)=some ((#[.int .i64 n,.bool H,.int .i64 k,.int .i64 0,.int .i64 0,.int .i64 0,.int .i64 0,.int .i64 0,.int .i64 0,.int .i64 0,.int .i64 0,.int .i64 0,.slice none 0 0,.slice none 0 0,.slice none 0 0,.slice none 0 0,.slice none 0 0,.slice none 0 0]:Array A0)).size:=fun n k H=>OT {DP with stuff:=n,skip:=H,kind:=k} nilS
 have C:∀(n k:Int) (H:Bool),((#[.int .i64 n,.bool H,.int .i64 k,.int .i64 0,.int .i64 0,.int .i64 0,.int .i64 0,.int .i64 0,.int .i64 0,.int .i64 0,.int .i64 0,.int .i64 0,.slice none 0 0,.slice none 0 0,.slice none 0 0,.slice none 0 0,.slice none 0 0,.slice none 0 0]:Array A0)).all (·.oneCell')=true:=fun n k H=>Po {DP with stuff:=n,skip:=H,kind:=k} nilS fun _ _=>rfl
 have E:pb<R:=Q▸hr.lt;have af:rb<pb:=hr.2.2;have U:CW S pb rb s st:=hr.under K E;have V:Ybu rb pb w S:=(Ybu.refl rb pb w).onto K (by omega);have ac:=Dl D;have W:=Dl Q;have Z:=Dl ab;clear D Q T K hr
 go_enter func209,ntmps209
 go_wp2
 rw[ac.out,W.out]
 go_loopw [9] (fun z wr=>∃(i:Nat) (st':Stt),i<=65/\z=.int .i64 i/\CW wr pb rb s st'/\Hid (B0 inter (AA s.data.toList) 65 0 st=B0 inter (AA s.data.toList) (65-i) i st')/\Ybu rb pb w wr/\wr.heap[R]? =some (.cells Y 77 (0,0))/\R<wr.heap.size) (fun z _=>65-(intOf z).toNat)
 case atStart=>exact⟨0,st,by omega,rfl,U,Dl rfl,V,hA,by omega⟩
 case round=>
  clear U V hA aa;obtain⟨i,L,hi,rfl,p,hs,q,r,b⟩:=hrel;by_cases ag:i<65
  ·have t0:decide ((i:Int)<65)=true:=by simp;omega
   obtain⟨j,hj⟩:∃j,65-i=j+1:=⟨64-i,by omega⟩;have h:=hs.out;rw[hj] at h;have X:j=65-(i+1):=by omega
   have ad:=Dl X;clear hj X hs;cases inter with
   |true=>
    have cb:=nR p;unfold IN at cb;generalize J:BP ES (AA s.data.toList) L=z at cb;obtain⟨v,st2⟩:=z;simp only at cb;have G:=Dl J;clear J;by_cases hv:v=1
    ·have F:=Dl (show B0 true (AA s.data.toList) 65 0 st=(i,true,0,0,st2) by rw[h];exact Rj rfl G.out hv);subst hv;clear h
     go_wp2_with fail
     refine cb.mono ?_;rintro e w2 ⟨rfl,l,hm⟩;have f:=(hm.block R b (by omega) (by omega)).trans r;have d:=Bg b hm.size;have g:=q.trans hm;clear cb hm p q r b
     go_wp2_with (with_reducible refine B2 rfl 77 _ _ rfl R _ Y rfl rfl 77 f (I _ _ _) (Z.out _ _ _) (C _ _ _) ?_;intro w5 y A)
     have m:=M2 A d;refine Hi (BF rfl _ _ R 77 _ (0,0) _ rfl y Mp rfl (by kernel_rfl)) rfl ?_;exact⟨i,true,0,0,st2,F.out,rfl,l.under m E,g.onto m (Gb W.out)⟩
    ·have g1:(v==1)=false:=by simpa using hv
     have ae:=Dl hv;clear hv
     go_wp2_with fail
     refine cb.mono ?_;rintro e w3 ⟨rfl,l,hm⟩;have f:=(hm.block R b (by omega) (by omega)).trans r;have d:=Bg b hm.size;have g:=q.trans hm;clear cb hm p q r b;have B:=V1 true l;unfold PQ at B;generalize u:DS true (AA s.data.toList) st2=z at B;obtain⟨a,c,st3⟩:=z;simp only at B;have x:=Dl u;clear u;by_cases t:a=5
     ·subst t;have F:=Dl (show B0 true (AA s.data.toList) 65 0 st=B0 true (AA s.data.toList) j (i+1) st3 by rw[h];exact(Pe G.out ae.out x.out).trans (Bc rfl));clear h
      go_wp2_with fail
      refine B.mono ?_;rintro e w2 ⟨rfl,M,hm⟩;have N:=(hm.block R d (by omega) (by omega)).trans f;have O:=Bg d hm.size;have P:=g.trans hm;clear B hm l g f d
      go_wp2
      go_roundw
      case rel=>exact⟨i+1,st3,by omega,by go_num,M,Dl (by rw[F.out,ad.out]),P,N,O⟩
      case measure=>simp[intOf];omega
     ·have g5:(a != 5)=true:=by simpa using t
      have F:=Dl (show B0 true (AA s.data.toList) 65 0 st=(i,false,a,c,st3) by rw[h];exact(Pe G.out ae.out x.out).trans (Bb t));clear h t
      go_wp2_with fail
      refine B.mono ?_;rintro e w2 ⟨rfl,M,hm⟩;have N:=(hm.block R d (by omega) (by omega)).trans f;have O:=Bg d hm.size;have P:=g.trans hm;clear B hm l g f d
      go_wp2_with (with_reducible refine B2 rfl 77 _ _ rfl R _ Y rfl rfl 77 N (I _ _ _) (Z.out _ _ _) (C _ _ _) ?_;intro w5 y A)
      have m:=M2 A O;refine Hi (BF rfl _ _ R 77 _ (0,0) _ rfl y Mp rfl (by kernel_rfl)) rfl ?_;exact⟨i,false,a,c,st3,F.out,rfl,M.under m E,P.onto m (Gb W.out)⟩
   |false=>
    have B:=V1 false p;unfold PQ at B;generalize u:DS false (AA s.data.toList) L=z at B;obtain⟨a,c,st2⟩:=z;simp only at B;have x:=Dl u;clear u;by_cases t:a=5
    ·subst t;have F:=Dl (show B0 false (AA s.data.toList) 65 0 st=B0 false (AA s.data.toList) j (i+1) st2 by rw[h];exact(QC x.out).trans (Bc rfl));clear h
     go_wp2_with fail
     refine B.mono ?_;rintro e w2 ⟨rfl,l,hm⟩;have f:=(hm.block R b (by omega) (by omega)).trans r;have d:=Bg b hm.size;have g:=q.trans hm;clear B hm p q r b
     go_wp2
     go_roundw
     case rel=>exact⟨i+1,st2,by omega,by go_num,l,Dl (by rw[F.out,ad.out]),g,f,d⟩
     case measure=>simp[intOf];omega
    ·have g5:(a != 5)=true:=by simpa using t
     have F:=Dl (show B0 false (AA s.data.toList) 65 0 st=(i,false,a,c,st2) by rw[h];exact(QC x.out).trans (Bb t));clear h t
     go_wp2_with fail
     refine B.mono ?_;rintro e w2 ⟨rfl,l,hm⟩;have f:=(hm.block R b (by omega) (by omega)).trans r;have d:=Bg b hm.size;have g:=q.trans hm;clear B hm p q r b
     go_wp2_with (with_reducible refine B2 rfl 77 _ _ rfl R _ Y rfl rfl 77 f (I _ _ _) (Z.out _ _ _) (C _ _ _) ?_;intro w5 y A)
     have m:=M2 A d;refine Hi (BF rfl _ _ R 77 _ (0,0) _ rfl y Mp rfl (by kernel_rfl)) rfl ?_;exact⟨i,false,a,c,st2,F.out,rfl,l.under m E,g.onto m (Gb W.out)⟩
  ·obtain rfl:i=65:=by omega
   have t0:decide ((65:Int)<65)=false:=by simp
   have F:=Dl (show B0 inter (AA s.data.toList) 65 0 st=(0,false,0,0,L.1,13) by rw[hs.out];rfl);obtain⟨l,hm⟩:=p.wrong 13;have f:=(hm.block R b (by omega) (by omega)).trans r;have d:=Bg b hm.size;have g:=q.trans hm;have c1:=A2 (o:=1) p.1 rfl;have ah:=AW (o:=1) p.1;clear hs hm p q r b
   go_wp2_with (with_reducible refine B2 rfl 77 _ _ rfl R _ Y rfl rfl 77 f (I _ _ _) (Z.out _ _ _) (C _ _ _) ?_;intro w5 y A)
   have m:=M2 A d;refine Hi (BF rfl _ _ R 77 _ (0,0) _ rfl y Mp rfl (by kernel_rfl)) rfl ?_;exact⟨0,false,0,0,_,F.out,rfl,l.under m E,g.onto m (Gb W.out)⟩
def LC (D:Cel)(i:Nat):Cel:={D with dc:=fun j=>if j<i then D.dc j else 0}
theorem Z7 (D:Cel)(i:Nat):{LC D i with dc:=FZ (LC D i).dc i (D.dc i)}=LC D (i+1):=by
 have h:FZ (LC D i).dc i (D.dc i)=(LC D (i+1)).dc:=by
  funext j
  show (if j=i then D.dc i else if j<i then D.dc j else 0)=if j<i+1 then D.dc j else 0
  by_cases e:j=i
  ·rw[Bc e,Bc (by omega),e]
  ·rw[Bb e];by_cases h:j<i
   ·rw[Bc h,Bc (by omega)]
   ·rw[Bb h,Bb (by omega)]
 rw[h]
 rfl
theorem sR (c:Cel)(sl:Nat->A0)(v:Int):∀i,i<6->(AF c sl).set (6+i) (.int .i64 v)=AF {c with dc:=FZ c.dc i v} sl
 |0,_=>rfl
 |1,_=>rfl
 |2,_=>rfl
 |3,_=>rfl
 |4,_=>rfl
 |5,_=>rfl
def Qj (sl:Nat->A0)(i:Nat)(v:A0):Nat->A0:=fun j=>if j=i then v else sl j
theorem qV (c:Cel)(sl:Nat->A0)(v:A0):∀i,i<6->(AF c sl).set (12+i) v=AF c (Qj sl i v)
 |0,_=>rfl
 |1,_=>rfl
 |2,_=>rfl
 |3,_=>rfl
 |4,_=>rfl
 |5,_=>rfl
theorem ZO {c:Cel}{f:Nat->Int}{sl:Nat->A0}(h:∀i,i<6->c.dc i=f i):AF c sl=AF {c with dc:=f} sl:=by
 unfold AF;rw[h 0 (by omega),h 1 (by omega),h 2 (by omega),h 3 (by omega),h 4 (by omega),h 5 (by omega)]
theorem cN (D:Cel)(sl:Nat->A0):AF (LC D 6) sl=AF D sl:=ZO (c:=LC D 6) (f:=D.dc) fun _ hi=>Bc hi
theorem Wq (w:A5):(zeroValue 77).run prog w=.ok (.agg (AF DP nilS).toArray) w:=by
 have h:(prog.info? 77).map (fun i=>i.zero)=some (some (.agg (AF DP nilS).toArray)):=by kernel_rfl
 generalize (AF DP nilS).toArray=Z at h ⊢;cases hq:prog.info? 77 with
 |none=>simp[hq] at h
 |some i=>
  simp[hq] at h;simp[zeroValue,typeInfo,hq,h]
def KI (S:List UInt8)(x y:Int)(st:Stt):Nat->Int×Int×Stt
 |0=>(0,0,st)
 |1=>((CK S x st).1,0,(CK S x st).2)
 |_=>((CK S x st).1,(CK S y (CK S x st).2).1,(CK S y (CK S x st).2).2)
theorem kW {S:List UInt8}{k x y:Int}{st:Stt}(h:AE k=false):GL S k x y st=KI S x y st 2:=by
 unfold GL;rw[h]
 rfl
structure Ywa (w wr:A5) (pb rb A R C:Nat) (s:ByteArray) (x y:Int) (Y:Array A0) (st:Stt) (c:Cel) (sl:Nat->A0):Prop where
 rd:CW wr pb rb s st
 mv:Ybu rb pb w wr
 two:wr.heap[A]? =some (.cells #[.int .i64 x,.int .i64 y] 73 (0,0))
 res:wr.heap[R]? =some (.cells Y 77 (0,0))
 cel:wr.heap[C]? =some (.cells (AF c sl).toArray 77 (0,0))
 lt:rb<pb/\pb<A/\A<R/\R<C/\C<wr.heap.size/\w.heap.size<=A
section
variable {w wr z:A5}{pb rb A R C:Nat}{s:ByteArray}{x y:Int}{Y:Array A0}{st st':Stt}{c c':Cel}{sl sl':Nat->A0}
theorem Ywa.move (h:Ywa w wr pb rb A R C s x y Y st c sl)(hr:CW z pb rb s st')(hm:Ybu rb pb wr z):Ywa w z pb rb A R C s x y Y st' c sl:=by
 obtain⟨b,d,e,f,a,g⟩:=h.lt;exact⟨hr,h.mv.trans hm,(hm.block A (by omega) (by omega) (by omega)).trans h.two,(hm.block R (by omega) (by omega) (by omega)).trans h.res,(hm.block C a (by omega) (by omega)).trans h.cel,b,d,e,f,Bg a hm.size,g⟩
theorem Ywa.set (h:Ywa w wr pb rb A R C s x y Y st c sl)(o:Nat)(v:A0)(hs:(AF c sl).set o v=AF c' sl'):Ywa w (wr.setCell ⟨C,o,none⟩ v) pb rb A R C s x y Y st c' sl':=by
 obtain⟨d,e,f,b,g,i⟩:=h.lt;have a:Below C wr (wr.setCell ⟨C,o,none⟩ v):=⟨rfl,rfl,rfl,by simp[World.setCell],fun k j=>Ii _ _ _ _ (by simp;omega)⟩;refine⟨h.rd.under a (by omega),h.mv.onto a (by omega),(a.block A (by omega)).trans h.two,(a.block R b).trans h.res,?_,d,e,f,b,Bg g a.size,i⟩;rw[<-hs];exact B3 (o:=o) v h.cel
theorem Ywa.same (h:Ywa w wr pb rb A R C s x y Y st c sl)(a:AF c sl=AF c' sl'):Ywa w wr pb rb A R C s x y Y st c' sl':=
 ⟨h.rd,h.mv,h.two,h.res,a▸h.cel,h.lt⟩
end
theorem sT (c k:Nat):(bits .and .i64 ((c:Int) / 2^k) 1==1)=(c / 2^k%2==1):=by
 have h:=KE ((c:Int) / 2^k) 1 (by omega);have h2:((2:Int)^1-1)=1:=rfl;rw[h2] at h;rw[h];rw[Ju,Bm,Bm];have h3:((c:Int) / 2^k)=((c / 2^k:Nat):Int):=by simp
 rw[h3];omega
def bW (inter:Bool)(s:ByteArray)(pb rb:Nat)(x y:Int)(st:Stt)(w:A5)(e:Ae)(a:A5):Prop:=
 ∃(c:Cel) (st':Stt) (sl:Nat->A0),GP inter (AA s.data.toList) x y st=(c,st')/\e=.returned (.agg (AF c sl).toArray)/\(∀i,i<6->DR a w.heap.size (sl i) (c.ev i))/\CW a pb rb s st'/\Ybu rb pb w a
set_option maxRecDepth 100000 in
theorem bC {N:Nat}{w:A5}{pb rb:Nat}{s:ByteArray}{st:Stt}(inter:Bool)(x y:Int)(ht:Ybq N w)(hN:N<=rb)(hr:CW w pb rb s st):
  A9 prog 193 #[.pointer (some ⟨pb,0,none⟩),.bool inter,.agg #[.int .i64 x,.int .i64 y]] w (bW inter s pb rb x y st w):=by
 obtain⟨Y,hY⟩:∃Y:Array A0,(AF DP nilS).toArray=Y:=⟨_,rfl⟩;have c7:∀w,(zeroValue 77).run prog w=.ok (.agg Y) w:=by rw[<-hY];exact Wq
 obtain⟨A,wA,wB,hA,bd,bf,cf,cg,bg,bh,a0⟩:=JF w (.cells #[.int .i64 x,.int .i64 y] 73 (0,0)) (.cells Y 77 (0,0));have bi:pb<A:=hA▸hr.lt;have ci:rb<pb:=hr.2.2;have bj:CW wB pb rb s st:=hr.under a0 bi;have bk:Ybu rb pb w wB:=(Ybu.refl rb pb w).onto a0 (Gb hA);have bl:∀z,Ybu rb pb w z->Ybq N z:=fun z hz=>ht.below (hz.under (by have:=hr.lt;omega) hN (by omega))
 have cb:=qW inter bj;have cx:=Dl hY;have cj:=Dl hA;have ck:=Dl bd;have cl:=Dl bf;have bm:=Dl bl;clear hY hA bd bf bl ht hr
 go_enter func193,ntmps193
 go_wp2_with fail
 rw[ck.out,cj.out,cl.out];refine cb.mono ?_;rintro e w1 ⟨n,sk,k,ch,T,aq,rfl,bn,U⟩;obtain⟨Z,hZ⟩:∃Z,(AF {DP with stuff:=n,skip:=sk,kind:=k} nilS).toArray=Z:=⟨_,rfl⟩;rw[hZ];obtain⟨C,hC⟩:=Ai w1.heap.size;obtain⟨w2,W⟩:=Ai (w1.alloc (.cells Z 77 (0,0)));have cy:Ywa w w2 pb rb A (A+1) C s x y Y T {DP with stuff:=n,skip:=sk,kind:=k} nilS:=by
  have ag:Below C w1 w2:=by rw[<-W,<-hC];exact(Dm _ w1).alloc (Ba _) _
  have c8:=U.size;refine⟨bn.under ag (by omega),(bk.trans U).onto ag (by have:=cj.out;omega),?_,?_,?_,ci,bi,by omega,by omega,by rw[<-W,<-hC];simp,Gb cj.out⟩
  ·exact(ag.block A (by omega)).trans ((U.block A (by omega) (by omega) (by omega)).trans bg)
  ·exact(ag.block (A+1) (by omega)).trans ((U.block (A+1) (by omega) (by omega) (by omega)).trans bh)
  ·rw[hZ,<-W,<-hC];exact heap_alloc_new w1 _
 have Q:(prog.info? 77).map (·.size)=some Z.size:=hZ▸OT _ _;have ah:Y.size=Z.size:=by rw[<-hZ,<-cx.out];rfl
 have M:Z.all (·.oneCell')=true:=hZ▸Po _ _ fun _ _=>rfl;have cz:=Dl hZ;have c0:=Dl hC;have bo:=Dl W;have X:=Dl aq;have l:=Dl cy;clear hZ hC W aq cy bn U bj bk a0 bg bh cf cg cb;have aa:=l.out.cel;rw[cz.out] at aa;have ar:=l.out.res;have hC:=l.out.lt;have a1:=XP _ _ _ _ _ _ _ _ _ _ X.out;cases sk with
 |true=>
  have c1:w2.cell? ⟨C,1,none⟩=some (.bool true):=A2 (o:=1) l.out.cel rfl;obtain rfl:0=k:=(a1.2.2.2.2.2.2 rfl).symm;clear a1
  go_wp2_with (first|(with_reducible refine BZ rfl 77 _ _ rfl Z Y 77 rfl rfl Q ah M ?_;rw[bo.out,c0.out])|(with_reducible refine Mo rfl 77 _ rfl C rfl 77 Z (0,0) _ aa Mp rfl Q ?_)|(with_reducible refine B2 rfl 77 _ _ rfl (A+1) Z Y rfl rfl 77 ar Q ah M ?_;intro w5 a2 ai))
  have ab:=M2 ai (by omega);refine Hi (Hj rfl _ _ (A+1) 77 _ (0,0) _ rfl a2 Mp rfl Q) rfl ?_;exact⟨_,T,nilS,Ts X.out,by rw[<-cz.out];rfl,fun i hi=>DR.nil _ _,l.out.rd.under ab (by omega),l.out.mv.onto ab (by omega)⟩
 |false=>
  obtain⟨b0,b1,b2,b3,b4,b5,_⟩:=a1;obtain⟨a,rfl⟩:∃a:Nat,ch=(a:Int):=⟨ch.toNat,by omega⟩;have c1:w2.cell? ⟨C,1,none⟩=some (.bool false):=A2 (o:=1) l.out.cel rfl;have c2:w2.cell? ⟨C,2,none⟩=some (.int .i64 k):=A2 (o:=2) l.out.cel rfl;have bp:Hid (k=0\/k=1\/k=3\/k=4):=Dl (by omega);obtain⟨t,a3⟩:=Ai (AE k);have a4:=gV t (AA s.data.toList) T
  have cp:=wT t (bm.out _ l.out.mv) l.out.rd;unfold IN at cp;generalize bq:BP (ptk t) (AA s.data.toList) T=z at cp a4;obtain⟨pt,s2⟩:=z;simp only at cp a4;obtain⟨b,rfl⟩:∃b:Nat,pt=(b:Int):=⟨pt.toNat,by omega⟩;have cm:Hid (BP (ptk (AE k)) (AA s.data.toList) T=((b:Int),s2)):=Dl (by rw[a3];exact bq);obtain⟨E,a5⟩:=Ai (4*b+a);have c9:E<=63:=by omega
  have c3:(b:Int)<=15:=by omega
  have ho:bits .or .i64 ((b:Int)*4) (a:Int)=(E:Int):=(P4 b 4 a 2 rfl (by omega) (by omega)).trans (by rw[a5]);have cn:=Dl a5;have aj:=Dl a3;clear a5 bq a3 b1 b2 b3
  go_upto_region 4 with (with_reducible refine BZ rfl 77 _ _ rfl Z Y 77 rfl rfl Q ah M ?_;rw[bo.out,c0.out])
  go_cut [9] (fun v wx=>v=.bool t/\wx=w2)
  case first=>
   obtain rfl|rfl|rfl|rfl:=bp.out
   all_goals
    go_wp2
    go_meet
    case rel=>exact⟨by rw[<-aj.out];rfl,by trivial⟩
  case rest=>
   obtain⟨rfl,ac⟩:=hcut;rw[ac];clear ac
   go_wp2_with fail
   refine cp.mono ?_;rintro e w3 ⟨rfl,br,bs⟩;have a6:=l.out.move br bs;have d2:w3.cell? ⟨C,2,none⟩=some (.int .i64 k):=A2 (o:=2) a6.cel rfl;have H:=Dl a6;clear cp a4 br bs l aa ar c1 c2 Q ah M a6
   go_upto_region 6 with fail
   go_cut [43] (fun v wx=>v=.bool (NQ k)/\wx=w3)
   case first=>
    obtain rfl|rfl|rfl|rfl:=bp.out
    all_goals
     go_wp2
     go_meet
     case rel=>exact⟨by rfl,by trivial⟩
   case rest=>
   obtain⟨rfl,ac⟩:=hcut;rw[ac];clear ac d2;obtain⟨sk,a7⟩:=Ai (NQ k);have c4:=Dl a7;rw[a7];clear a7
   go_upto_if 43 with fail
   go_cut [45] (fun v wx=>∃(J:Int) (f:Stt),HH (AA s.data.toList) k s2=(J,f)/\Ywa w wx pb rb A (A+1) C s x y Y f {DP with stuff:=n,skip:=false,kind:=k,step:=J,mx:=0,my:=0} nilS)
   case first=>
    cases sk with
    |false=>
     go_wp2
     go_meet
     case rel=>exact⟨0,s2,by unfold HH;rw[c4.out];rfl,H.out⟩
    |true=>
     have cs:=lC (bm.out _ H.out.mv) hN H.out.rd;unfold IN at cs;generalize bt:BP stk (AA s.data.toList) s2=z at cs;obtain⟨J,f⟩:=z;simp only at cs;have co:Hid (HH (AA s.data.toList) k s2=(J,f)):=Dl (by unfold HH;rw[c4.out];exact bt);clear bt
     go_wp2_with fail
     refine cs.mono ?_;rintro e w4 ⟨rfl,bu,bv⟩;have ak:=H.out.move bu bv;have e3:=A2 (o:=3) ak.cel rfl;have f3:=AW (o:=3) ak.cel;have B:=Dl (ak.set 3 (.int .i64 J) (c':={DP with stuff:=n,skip:=false,kind:=k,step:=J,mx:=0,my:=0}) (sl':=nilS) rfl);clear cs bu bv ak
     go_wp2
     go_meet
     case rel=>exact⟨J,f,co.out,B.out⟩
   case rest=>
    obtain⟨J,f,au,bw⟩:=hcut;obtain⟨wk,rfl⟩:∃z,z=wc:=⟨_,rfl⟩;have bx:=Dl au;have B:=Dl bw;clear au bw H
    go_upto_if 48 with fail
    go_cut [49] (fun v wx=>∃(mx my:Int) (I:Stt),GL (AA s.data.toList) k x y f=(mx,my,I)/\Ywa w wx pb rb A (A+1) C s x y Y I {DP with stuff:=n,skip:=false,kind:=k,step:=J,mx:=mx,my:=my} nilS)
    case first=>
     cases t with
     |true=>
      go_wp2
      go_meet
      case rel=>exact⟨0,0,f,by unfold GL;rw[aj.out];rfl,B.out⟩
     |false=>
      go_wp2
      obtain⟨mx,I,al⟩:∃mx I,CK (AA s.data.toList) x f=(mx,I):=⟨_,_,rfl⟩;have bz:=Dl al;have a8:Hid (KI (AA s.data.toList) x y f 0=(0,0,f)):=Dl rfl;have a9:Hid (KI (AA s.data.toList) x y f 1=(mx,0,I)):=Dl (C8 (fun q=>(q.1,(0:Int),q.2)) al)
      have am:Hid (KI (AA s.data.toList) x y f 2=(mx,(CK (AA s.data.toList) y I).1,(CK (AA s.data.toList) y I).2)):=Dl (by show ((CK (AA s.data.toList) x f).1,(CK (AA s.data.toList) y (CK (AA s.data.toList) x f).2).1,(CK (AA s.data.toList) y (CK (AA s.data.toList) x f).2).2)=_;rw[al]);clear al
      go_loopw [49] (fun z wr=>∃i:Nat,i<=2/\z=.int .i64 i/\Hid (Ywa w wr pb rb A (A+1) C s x y Y (KI (AA s.data.toList) x y f i).2.2 {DP with stuff:=n,skip:=false,kind:=k,step:=J,mx:=(KI (AA s.data.toList) x y f i).1,my:=(KI (AA s.data.toList) x y f i).2.1} nilS)) (fun z _=>2-(intOf z).toNat)
      case atStart=>exact⟨0,by omega,rfl,Dl (by rw[a8.out];exact B.out)⟩
      case round=>
       clear B;obtain⟨i,da,rfl,c⟩:=hrel;obtain rfl|rfl|rfl:i=0\/i=1\/i=2:=by omega
       ·have g:Ywa w wr pb rb A (A+1) C s x y Y f {DP with stuff:=n,skip:=false,kind:=k,step:=J,mx:=0,my:=0} nilS:=by have h:=c.out;rw[a8.out] at h;exact h
        have p0:wr.cell? ⟨A,0,none⟩=some (.int .i64 x):=A2 (cs:=[.int .i64 x,.int .i64 y]) g.two rfl;have r:=Xp (bm.out _ g.mv) g.rd;unfold IN at r;have ad:=Yk (AA s.data.toList) f;have F:CK (AA s.data.toList) x f=(AM (AM x+(BP dtk (AA s.data.toList) f).1),(BP dtk (AA s.data.toList) f).2):=rfl;generalize BP dtk (AA s.data.toList) f=z at r ad F;obtain⟨dd,s6⟩:=z
        simp only at r ad F;have wl:=YZ x;have wh:=Vf x;have K:=Dl F;have sw:IntKind.i64.wrap (AM x+dd)=AM x+dd:=Kx _ (by omega);generalize ae:AM x=p1 at K sw wl wh;have cw:=OD x;rw[ae] at cw;have af:=OD (p1+dd);generalize AM (p1+dd)=p2 at af K;clear c F ae
        go_wp2_with fail
        refine(cw _).mono ?_;rintro e w6 ⟨rfl,rfl⟩
        go_wp2_with fail
        refine r.mono ?_;rintro e w6 ⟨rfl,u,G⟩;have d:=g.move u G;have e4:=A2 (o:=4) d.cel rfl;have f4:=AW (o:=4) d.cel;have cq:=Dl (d.set 4 (.int .i64 p2) (c':={DP with stuff:=n,skip:=false,kind:=k,step:=J,mx:=p2,my:=0}) (sl':=nilS) rfl);clear d u G r g
        go_wp2_with fail
        refine(af _).mono ?_;rintro e w8 ⟨rfl,rfl⟩
        go_wp2
        go_roundw
        case rel=>exact⟨1,by omega,by go_num,Dl (by rw[show KI (AA s.data.toList) x y f 1=(p2,0,s6) from by rw[a9.out];exact C8 (fun q=>(q.1,(0:Int),q.2)) (bz.out.symm.trans K.out)];exact cq.out)⟩
        case measure=>simp[intOf]
       ·have g:Ywa w wr pb rb A (A+1) C s x y Y I {DP with stuff:=n,skip:=false,kind:=k,step:=J,mx:=mx,my:=0} nilS:=by have h:=c.out;rw[a9.out] at h;exact h
        have p0:wr.cell? ⟨A,1,none⟩=some (.int .i64 y):=A2 (cs:=[.int .i64 x,.int .i64 y]) g.two rfl;have r:=Xp (bm.out _ g.mv) g.rd;unfold IN at r;have ad:=Yk (AA s.data.toList) I;have F:CK (AA s.data.toList) y I=(AM (AM y+(BP dtk (AA s.data.toList) I).1),(BP dtk (AA s.data.toList) I).2):=rfl;generalize BP dtk (AA s.data.toList) I=z at r ad F;obtain⟨dd,s6⟩:=z
        simp only at r ad F;have wl:=YZ y;have wh:=Vf y;have K:=Dl F;have sw:IntKind.i64.wrap (AM y+dd)=AM y+dd:=Kx _ (by omega);generalize ae:AM y=p1 at K sw wl wh;have cw:=OD y;rw[ae] at cw;have af:=OD (p1+dd);generalize AM (p1+dd)=p2 at af K;clear c F ae
        go_wp2_with fail
        refine(cw _).mono ?_;rintro e w6 ⟨rfl,rfl⟩
        go_wp2_with fail
        refine r.mono ?_;rintro e w6 ⟨rfl,u,G⟩;have d:=g.move u G;have e4:=A2 (o:=5) d.cel rfl;have f4:=AW (o:=5) d.cel;have cq:=Dl (d.set 5 (.int .i64 p2) (c':={DP with stuff:=n,skip:=false,kind:=k,step:=J,mx:=mx,my:=p2}) (sl':=nilS) rfl);clear d u G r g
        go_wp2_with fail
        refine(af _).mono ?_;rintro e w8 ⟨rfl,rfl⟩
        go_wp2
        go_roundw
        case rel=>exact⟨2,by omega,by go_num,Dl (by rw[show KI (AA s.data.toList) x y f 2=(mx,p2,s6) from am.out.trans (C8 (fun q=>(mx,q.1,q.2)) K.out)];exact cq.out)⟩
        case measure=>simp[intOf]
       ·have h:=c.out;rw[am.out] at h;have db:=Dl h;have b6:Hid (GL (AA s.data.toList) k x y f=(mx,(CK (AA s.data.toList) y I).1,(CK (AA s.data.toList) y I).2)):=Dl (by rw[kW (S:=(AA s.data.toList)) (k:=k) (x:=x) (y:=y) (st:=f) aj.out,am.out]);clear h c a8 a9 am bz;rw[show (Value.int .i64 ((2:Nat):Int))=.int .i64 2 from rfl]
        go_wp2
        go_meet
        case rel=>exact⟨_,_,_,b6.out,db.out⟩
    case rest=>
     obtain⟨mx,my,s5,av,g⟩:=hcut;obtain⟨wo,rfl⟩:∃z,z=wc:=⟨_,rfl⟩;have O:=S6 (inter:=inter) (x:=x) (y:=y) X.out cm.out bx.out av;rw[show ((b:Int)).toNat=b from rfl,show ((a:Int)).toNat=a from rfl,cn.out,aj.out] at O
     obtain⟨D,hD⟩:∃D:Cel,{stuff:=n,skip:=false,kind:=k,step:=J,mx:=mx,my:=my,dc:=fun i=>(CF t (D0 E i) (AA s.data.toList) (stB t E (AA s.data.toList) s5 i)).1,ev:=fun i=>(CF t (D0 E i) (AA s.data.toList) (stB t E (AA s.data.toList) s5 i)).2.1}=D:=⟨_,rfl⟩;rw[hD] at O
     have cr:=Dl (fun i=>(by rw[<-hD]:D.dc i=(CF t (D0 E i) (AA s.data.toList) (stB t E (AA s.data.toList) s5 i)).1));have ct:=Dl (fun i=>(by rw[<-hD]:D.ev i=(CF t (D0 E i) (AA s.data.toList) (stB t E (AA s.data.toList) s5 i)).2.1));have aw:Hid (Ywa w wo pb rb A (A+1) C s x y Y (stB t E (AA s.data.toList) s5 0) (LC D 0) nilS):=Dl (Ywa.same g (by rw[<-hD];rfl))
     have b7:=Dl O;clear O hD g av B
     go_wp2
     go_loopw [64] (fun z wr=>∃i:Nat,i<=6/\z=.int .i64 i/\∃sl,Hid (Ywa w wr pb rb A (A+1) C s x y Y (stB t E (AA s.data.toList) s5 i) (LC D i) sl/\(∀j,j<i->DR wr (C+1) (sl j) (D.ev j))/\∀j,i<=j->sl j=.slice none 0 0)) (fun z _=>6-(intOf z).toNat)
     case atStart=>exact⟨0,by omega,rfl,nilS,Dl ⟨aw.out,fun j h=>absurd h (Fc j),fun _ _=>rfl⟩⟩
     case round=>
      clear aw;obtain⟨i,de,rfl,sl,c⟩:=hrel;by_cases an:i<6
      ·have t0:decide ((i:Int)<6)=true:=by simp;omega
       have cb:=yV t (D0 E i) (bm.out _ c.out.1.mv) c.out.1.rd;unfold Sd at cb;have ba:(CF t (D0 E i) (AA s.data.toList) (stB t E (AA s.data.toList) s5 i)).2.2=stB t E (AA s.data.toList) s5 (i+1):=rfl;have ao:=cr.out i;have ap:=ct.out i;generalize CF t (D0 E i) (AA s.data.toList) (stB t E (AA s.data.toList) s5 i)=z at cb ba ao ap;obtain⟨dv,L,s5⟩:=z
       simp only at cb ba ao ap;subst ba;have b8:=Dl ao;have cu:=Dl ap;have q1:IntKind.i64.wrap (5-(i:Int))=((5-i:Nat):Int):=(Kx _ (by omega)).trans (by omega);have q2:=sT E (5-i);have q3:decide (((5-i:Nat):Int)<0)=false:=by simp
       clear ao ap
       go_wp2_with fail
       refine cb.mono ?_;rintro e w6 ⟨v,rfl,cv,u,G⟩;have d:=c.out.1.move u G;have c5:=d.lt;have df:=c.out.1.lt;obtain⟨q,cap,rfl,ax,b9⟩:=cv;have e6:=A2 (o:=6+i) d.cel (IY _ _ i an);have f6:=AW (o:=6+i) d.cel;have R:=d.set (6+i) (.int .i64 dv) (sR _ _ dv i an);rw[<-b8.out,Z7] at R;rw[b8.out] at R;have e7:=A2 (o:=12+i) R.cel (HM _ _ i an)
       have f7:=AW (o:=12+i) R.cel;have ca:=R.set (12+i) (.slice q L.length cap) (qV _ _ _ i an);have bb:Ybu C C w6 ((w6.setCell ⟨C,6+i,none⟩ (.int .i64 dv)).setCell ⟨C,12+i,none⟩ (.slice q L.length cap)):=(Ybu.set (a:=C) (b:=C) (p:=⟨C,6+i,none⟩) _ (.inl rfl)).trans (Ybu.set (a:=C) (b:=C) (p:=⟨C,12+i,none⟩) _ (.inl rfl))
       have cc:∀j,j<i+1->DR ((w6.setCell ⟨C,6+i,none⟩ (.int .i64 dv)).setCell ⟨C,12+i,none⟩ (.slice q L.length cap)) (C+1) (Qj sl i (.slice q L.length cap) j) (D.ev j):=by
        intro j hj;unfold Qj;by_cases e:j=i
        ·rw[Bc e,e,cu.out];exact(show DR w6 (C+1) _ _ from⟨q,cap,rfl,ax,b9.mono (by omega)⟩).moved bb (by omega) (by omega)
        ·rw[Bb e];exact((c.out.2.1 j (by omega)).moved G (by omega) (by omega)).moved bb (by omega) (by omega)
       have ce:∀j,i+1<=j->Qj sl i (.slice q L.length cap) j=.slice none 0 0:=fun j hj=>(Bb (by omega)).trans (c.out.2.2 j (by omega));have c6:=Dl (And.intro ca (And.intro cc ce));obtain⟨m,hm⟩:=Ai L.length;rw[c.out.2.2 i (Ba i)] at e7;rw[hm] at c6 ⊢;clear cb c u G d R ca bb cc ce ax b9 hm
       go_wp2
       go_roundw
       case rel=>exact⟨i+1,by omega,by go_num,_,c6⟩
       case measure=>simp[intOf];omega
      ·obtain rfl:i=6:=by omega
       have t0:decide ((6:Int)<6)=false:=by simp
       have bc:=c.out.1.cel;rw[cN] at bc;have dg:=c.out.1.lt;have u:=c.out.1.res;have ay:=Po D sl fun j hj=>(c.out.2.1 j hj).one;have P:=OT D sl;have az:Y.size=(AF D sl).toArray.size:=by rw[<-cx.out];rfl
       obtain⟨V,hV⟩:=Ai ((AF D sl).toArray);rw[hV] at bc ay P az;have dh:=Dl hV;clear hV
       go_wp2_with (first|(with_reducible refine Mo rfl 77 _ rfl C rfl 77 V (0,0) _ bc Mp rfl P ?_)|(with_reducible refine B2 rfl 77 _ _ rfl (A+1) V Y rfl rfl 77 u P az ay ?_;intro w5 a2 ai))
       have ab:=M2 ai (by omega);refine Hi (Hj rfl _ _ (A+1) 77 _ (0,0) _ rfl a2 Mp rfl P) rfl ?_;exact⟨D,_,sl,b7.out,by rw[dh.out],fun j hj=>((c.out.2.1 j hj).moved (Ybu.grown ai (.inl rfl):Ybu (A+1) (A+1) _ _) (by omega) (by omega)).from (by omega),c.out.1.rd.under ab (by omega),c.out.1.mv.onto ab (by omega)⟩
end
section
theorem Pq (r m:List UInt8):r.isPrefixOf (r++m)=true:=Jt.2 (Kb _ _)
theorem iW (inter:Bool)(a b:Int)(r:ByteArray)(hr:B1 inter a b=r)(e:r.data.toList.isEmpty=false)(m:List UInt8):
  mtk inter (r.data.toList++m)=if a=2 then (0,0,6,0) else (a,b,0,r.size):=by
 by_cases hn:a<0\/5<a\/b<0\/3<b\/(a=5/\0<b)
 ·rw[Tr hn] at hr;rw[<-hr] at e;cases e
 obtain⟨k,rfl⟩:∃k:Nat,a=k:=⟨a.toNat,by omega⟩;obtain⟨c,rfl⟩:∃c:Nat,b=c:=⟨b.toNat,by omega⟩;obtain⟨g,j,l⟩:=Wk inter k c (by omega) (by omega);rw[hr] at g;have d:AH (HN inter (4*k+c))=r.data.toList:=by unfold AH;rw[g]
 have f:HN inter (4*k+c)∈DH inter:=sV (by omega) (by rw[d,e];rfl);obtain⟨h1,h2,h3⟩:=GI (T1 inter _ f);rw[d] at h1 h2 h3;have h:r.data.toList.length=r.size:=rfl;have o:=Ky.2 h1;have ht:=QG (Ti inter) (b:=r.data.toList++m) (r:=r.data.toList) (by rw[<-d];exact Kq f) (Pq _ _) (k:=25) (n:=1) (by omega) (by omega)
 have i:=TF inter ht f (by rw[d];exact(F4.1 (Pq _ _)).symm);rw[j,l] at i;exact i
theorem gQ (intra:Bool)(k:Nat)(c:k<16)(r:ByteArray)(hr:F0 intra k=r)(m:List UInt8):ptk intra (r.data.toList++m)=((k:Int),0,r.size):=by
 have e:IG intra (ER intra k)=(r,((ER intra (ER intra k):Nat):Int)):=by rw[UT intra _ (PA c),<-Ue c rfl,hr]
 have d:IG intra (ER intra k)∈DF intra:=sL intra (PA c);have a:AC (IG intra (ER intra k))=r.data.toList:=by rw[e];rfl
 obtain⟨h1,h2,h3⟩:=GI (Ta intra _ d);rw[a] at h1 h2 h3;have f:r.data.toList.length=r.size:=rfl;have h:=Ky.2 h1;have ht:=QG (Ri intra) (b:=r.data.toList++m) (r:=r.data.toList) (by rw[<-a];exact Kq d) (Pq _ _) (k:=25) (n:=1) (by omega) (by omega);have g:=Zx intra ht d (by rw[a];exact(F4.1 (Pq _ _)).symm);rw[e,pZ c] at g;exact g
theorem qN {d:Int}(hd:-32<=d/\d<=31)(r:ByteArray)(hr:C2 d=r)(m:List UInt8):dtk (r.data.toList++m)=(d,0,r.size):=by
 obtain⟨j,hj⟩:∃j:Nat,d=(j:Int)-32:=⟨(d+32).toNat,by omega⟩;have c:j<64:=by omega
 have a:AC (ID j)=r.data.toList:=by
  show (C2 ((j:Int)-32)).data.toList=_;rw[<-hj,hr]
 have ht:=S0 c (b:=r.data.toList++m) (by rw[a];exact Pq _ _);rw[a,<-hj] at ht;exact ht
theorem tK {s:Int}(hs:s = -1\/s = -2\/s=1\/s=2)(m:List UInt8):stk ((CJ s).data.toList++m)=(s,0,2):=by
 rcases hs with rfl|rfl|rfl|rfl
 all_goals
  rw[RS (by simp[CJ])]
  rfl
theorem fI (inter:Bool):∀x∈DH inter,B1 inter (sA x.2) (sB x.2)=x.1:=by
 cases inter <;> decide +kernel
theorem ZD {inter:Bool}{B:List UInt8}{a b:Int}{n:Nat}(h:mtk inter B=(a,b,0,n)):
  B.take n=(B1 inter a b).data.toList/\n=(B1 inter a b).size/\n<=B.length/\(B1 inter a b).data.toList.isEmpty=false/\a≠2:=by
 obtain⟨⟨f,k⟩,ht⟩:=Ai (tk ((DH inter).map AH) B 25 1);by_cases d:f=0
 ·subst d;obtain⟨h1,h2,h3⟩:=Pa ht;obtain⟨x,g,c⟩:=Gf.1 h1;rw[TF inter ht g c] at h
  split at h
  ·simp at h
  next h5=>
   simp only[Jf,Jj] at h;obtain⟨rfl,rfl,rfl⟩:=h;rw[fI inter x g];have e:x.1.data.toList=B.take k:=c;have hl:x.1.data.toList.length=k:=by rw[e,Be];omega
   refine⟨e.symm,hl.symm,h2,?_,h5⟩;cases hq:x.1.data.toList with
   |nil=>rw[hq] at hl;simp at hl;omega
   |cons _ _=>rfl
 ·rw[Qn inter ht d] at h;simp only[Jf] at h;exact absurd h.2.2.1 d
theorem SU {all:List (ByteArray×Int)}{F:Int->ByteArray}(hF:∀x∈all,F x.2=x.1){B:List UInt8}{v:Int}{n:Nat}(h:gtk all B=(v,0,n)):
  B.take n=(F v).data.toList/\n=(F v).size/\n<=B.length/\∃x∈all,x.2=v:=by
 obtain⟨⟨f,k⟩,ht⟩:=Ai (tk (all.map AC) B 25 1);unfold gtk at h;rw[ht] at h;by_cases a:f=0
 ·subst a;obtain⟨h1,h2,h3⟩:=Pa ht;rw[Bc rfl] at h
  split at h
  next x hx=>
   simp only[Jf,Jj] at h;obtain⟨rfl,rfl⟩:=h;have hm:=Ks hx;have e:x.1.data.toList=B.take k:=by simpa [AC] using Kw hx
   rw[hF x hm];exact⟨e.symm,by have:=C8 List.length e;rw[Be] at this;have h2:x.1.data.toList.length=x.1.size:=rfl;omega,h2,x,hm,rfl⟩
  next hx=>
   obtain⟨y,c,b⟩:=Gf.1 h1;have:=Kt.1 hx y c;rw[b] at this;simp at this
 ·rw[Bb a] at h;simp only[Jf] at h;exact absurd h.2.1 a
theorem vN (intra:Bool):∀x∈DF intra,F0 intra x.2=x.1:=by
 cases intra <;> decide +kernel
theorem bH {intra:Bool}{B:List UInt8}{v:Int}{n:Nat}(h:ptk intra B=(v,0,n)):B.take n=(F0 intra v).data.toList/\n=(F0 intra v).size/\n<=B.length/\0<=v/\v<16:=by
 obtain⟨h1,h2,h3,x,a,hv⟩:=SU (vN intra) (show gtk (DF intra) B=(v,0,n) from h);have b:∀x∈DF intra,0<=x.2/\x.2<16:=by cases intra <;> decide +kernel
 exact⟨h1,h2,h3,hv▸(b x a).1,hv▸(b x a).2⟩
theorem xG:∀x∈allD,C2 x.2=x.1:=by decide +kernel
theorem uU {B:List UInt8}{d:Int}{n:Nat}(h:dtk B=(d,0,n)):B.take n=(C2 d).data.toList/\n=(C2 d).size/\n<=B.length∧-32<=d/\d<=31:=by
 obtain⟨h1,h2,h3,x,a,hv⟩:=SU xG (show gtk allD B=(d,0,n) from h);have b:∀x∈allD,-32<=x.2/\x.2<=31:=by decide +kernel
 exact⟨h1,h2,h3,hv▸(b x a).1,hv▸(b x a).2⟩
theorem lU {B:List UInt8}{s:Int}{n:Nat}(b:AK B=true)(h:stk B=(s,0,n)):B.take n=(CJ s).data.toList/\n=2/\2<=B.length/\(s = -1\/s = -2\/s=1\/s=2):=by
 by_cases hl:B.length<2
 ·rw[Vy hl] at h;simp at h
 ·rw[RS (by omega)] at h;simp only[Jf,Jj] at h;obtain⟨rfl,rfl⟩:=h;have hr:=L1 (B.take 2) (HZ _ _ b);have h4:=O3 B b 2 (by omega);have a:(B.take 2).length=2:=by rw[Be];omega
  rw[a] at hr;generalize num (B.take 2)=v at hr h4;rw[<-hr]
  match v,h4 with
  |0,_=>exact⟨rfl,rfl,by omega,.inl rfl⟩
  |1,_=>exact⟨rfl,rfl,by omega,.inr (.inl rfl)⟩
  |2,_=>exact⟨rfl,rfl,by omega,.inr (.inr (.inl rfl))⟩
  |3,_=>exact⟨rfl,rfl,by omega,.inr (.inr (.inr rfl))⟩
theorem iD:∀x∈allT,Pl x.2.toNat=x.1:=by
 intro x a;obtain⟨i,_,rfl⟩:=Gf.1 a;show Pl ((i:Int)).toNat=Pl i;rw[Do]
theorem RL {B:List UInt8}{n v:Nat}(a:AK B=true)(hl:n<=B.length)(hv:num (B.take n)=v):B.take n=AI v n:=by
 have h:=L1 (B.take n) (HZ _ _ a);rw[hv,Be,Bw hl] at h;exact h.symm
theorem Zn {B:List UInt8}{n m:Nat}(a:AK B=true)(hl:n+m<=B.length):∃r,r<2^m/\num (B.take (n+m))=num (B.take n)*2^m+r:=by
 refine⟨num ((B.drop n).take m),?_,?_⟩
 ·exact O3 (B.drop n) (FO _ _ a) m (by rw[Bj];omega)
 ·have e:B.take (n+m)=B.take n++(B.drop n).take m:=Cz;have hm:((B.drop n).take m).length=m:=by rw[Be,Bj];omega
  rw[e,MZ,hm]
theorem jL {B:List UInt8}(g:AK B=true){l:Bool}{r n:Nat}{v:Int}(h:etk B=((l,r,v),0,n)):DY r v=true/\B.take n=(FC l r v).data.toList/\n<=B.length/\0<n:=by
 obtain⟨⟨T,f,k⟩,a⟩:=Ai (gtk allT B);by_cases j:f=0
 ·subst j;obtain⟨h1,h2,h3,x,t,u⟩:=SU (F:=fun v=>Pl v.toNat) iD a;obtain⟨i,w,rfl⟩:=Gf.1 t;have hi:i<103:=Bq.1 w;have y:T=(i:Int):=u.symm;subst y;rw[Do] at h1 h2;obtain⟨c1,c2,c3,c4⟩:=JR i hi;have U:k=AS i:=h2.trans (by show (AI (D1 i) (AS i)).toArray.size=_;simp[BN]);subst U;have z:B.take (AS i)=AI (D1 i) (AS i):=h1
  have c:num (B.take (AS i))=D1 i:=by rw[z,IM,Bn c3]
  by_cases hl:B.length<if i=102 then 22 else AS i+1
  ·rw[Uv a hl] at h;simp at h
  by_cases b:i=102
  ·subst b;rw[Bc rfl] at hl;rw[T6 a (by omega)] at h
   split at h
   next hc=>
    rw[Am,L6] at hc;have W:AS 102=7:=by decide +kernel
    have X:D1 102=3:=by decide +kernel
    rw[W,X] at c;obtain⟨q,Y,hs⟩:=Zn (n:=7) (m:=15) g (by omega);rw[c] at hs;have hs:num (B.take 22)=3*2^15+q:=hs;generalize Z:num (B.take 22)=V at h hc hs;simp only[Jf,Jj] at h;obtain⟨o,rfl⟩:=h;rw[o] at hc;obtain⟨hr,d⟩:=hc;simp only at hr d;have A:(V / 16384%2==1)=l:=(Mu o).1;have C:V / 256%64=r:=(Mu (Mu o).2).1
    have D:(if 127<V%256 then ((V%256:Nat):Int)-256 else ((V%256:Nat):Int))=v:=(Mu (Mu o).2).2;have E:l.toNat=V / 16384%2:=by
     rw[<-A];rcases Ms (V / 16384) with e|e <;> simp[e]
    have G:(v%256).toNat=V%256:=by
     rw[<-D]
     split <;> omega
    have H:D6 l r v=V:=by
     unfold D6;rw[Bb (by simp[d]),E,G,<-C];omega
    have I:D4 l r v=22:=by
     unfold D4;rw[Bb (by simp[d])]
    refine⟨hr,?_,by omega,by omega⟩;rw[RL g (by omega) Z];unfold FC;rw[Bc hr,Do,H,I]
   ·simp at h
  ·rw[Bb b] at hl;rw[Sz a b (by omega)] at h;obtain⟨⟨p,s,N⟩,_,O,P⟩:=Yp i (by omega);obtain⟨x,t⟩:=Ai (evT i);rw[t] at p s N O P h;obtain⟨Q,J,am⟩:=x;simp only at p s N O P;simp only[NA,Jf,Jj] at h;obtain⟨⟨rfl,rfl,hv⟩,rfl⟩:=h;obtain⟨q,Y,hs⟩:=Zn (n:=AS i) (m:=1) g (by omega);rw[c] at hs;have hs:num (B.take (AS i+1))=D1 i*2+q:=hs
   have K:q=0\/q=1:=by omega
   have L:v.natAbs=am/\(if v<0 then 1 else 0)=q∧-12<=v/\v<=12/\v≠0:=by
    rcases K with rfl|rfl
    ·rw[Bb (by rw[hs];simp)] at hv;subst hv;exact⟨by simp,Bb (by omega),by omega,by omega,by omega⟩
    ·rw[Bc (by rw[hs];simp)] at hv;subst hv;exact⟨by simp,Bc (by omega),by omega,by omega,by omega⟩
   obtain⟨R,k2,k3,k4,k5⟩:=L;have hr:DY (J:Int) v=true:=KS.2 ⟨by omega,by omega,by omega,by omega,k5⟩;have H:D6 Q J v=D1 i*2+q:=by
    unfold D6;rw[R,Bc p,s,k2];omega
   have I:D4 Q J v=AS i+1:=by
    unfold D4;rw[R,Bc p,s]
   refine⟨hr,?_,by omega,by omega⟩;rw[RL g (by omega) hs];unfold FC;rw[Bc hr,Do,H,I]
 ·have M:gtk allT B=(0,f,0):=by
   obtain⟨⟨f',k'⟩,ht⟩:=Ai (tk (allT.map AC) B 25 1);by_cases S:f'=0
   ·subst S;unfold gtk at a;rw[ht,Bc rfl] at a
    split at a <;> (simp only[Jf] at a;exact absurd a.2.1.symm j)
   ·rw[MW ht S] at a ⊢;simp only[Jf] at a;rw[a.2.1]
  rw[UF M j] at h;simp only[Jf] at h;exact absurd h.2.1 j
theorem Ui (x:Ev)(l:List Ev):BK (x::l)=(DO x).data.toList++BK l:=rfl
theorem Vw {S:List UInt8}(q:AK S=true)(a:Nat):∀(k:Nat) (acc:List Ev) (p m:Nat) (L:List Ev) (t:Nat),p<=S.length->CN S k acc p m=(L,0,t)->(lvS a acc).1=m->
  (∀j,(hj:j<acc.length)->acc[j].1=false/\DY acc[j].2.1 acc[j].2.2=true/\(lvS a (acc.take j)).1+acc[j].2.1.toNat<64)->
  ∃e,L=acc++e/\0<e.length/\p<=t/\t<=S.length/\(S.drop p).take (t-p)=BK e/\D7 a L L.length=false
 |0,acc,p,m,L,t,hp,h,hm,hall=>by
  simp[CN] at h
 |k+1,acc,p,m,L,t,hp,h,hm,hall=>by
  obtain⟨⟨⟨l,r,v⟩,f,n⟩,g⟩:∃x,etk (S.drop p)=x:=⟨_,rfl⟩;by_cases i:f=0
  ·subst i;obtain⟨hr,c,hn,s⟩:=jL (FO _ _ q) g;rw[Bj] at hn;by_cases o:63<m+r
   ·rw[Yo g o] at h;simp at h
   have hfit:∀j,(hj:j<acc.length)->∀L',(u:acc.length<L'.length)->(∀(w:j<L'.length),L'[j]=acc[j])->L'.take j=acc.take j->E8 a L' j acc[j]=true:=by
    intro j hj L' u _ ht;obtain⟨y,z,A⟩:=hall j hj;unfold E8;rw[ht,y,z];simp only[Gw,Am,Bm,Av];exact⟨by rw[eq_comm,G3];omega,A⟩
   cases l with
   |true=>
    rw[S2 g (by omega)] at h;simp only[Jf,Jj] at h;obtain⟨rfl,rfl⟩:=h;refine⟨[(true,(r:Int),v)],rfl,by simp,by omega,by omega,?_,?_⟩
    ·rw[Bv,c,Ui];simp[DO,BK]
    ·refine Q8 _ (Ba _) fun j hj _=>?_;by_cases b:j<acc.length
     ·rw[Mr b];exact hfit j b _ (by simp) (fun _=>Mr b) (by rw[C9 (by omega)])
     ·have d:j=acc.length:=by simp at hj;omega
      subst d;rw[Mt (Ba _)];simp only[Cl,Jy];unfold E8;rw[C9 (Ba _),Jv,hm,hr];simp;omega
   |false=>
    rw[Rf g (by omega)] at h;obtain⟨e,B,F,G,C,D,E⟩:=Vw q a k (acc++[(false,(r:Int),v)]) (p+n) (m+r+1) L t (by omega) h (by rw[WD,hm];simp) (fun j hj=>by
     by_cases b:j<acc.length
     ·rw[Mr b,C9 (by omega)];exact hall j b
     ·have d:j=acc.length:=by simp at hj;omega
      subst d;rw[Mt (Ba _)];simp only[Cl,Jy];rw[C9 (Ba _),Jv,hm];exact⟨by simp,hr,by simp;omega⟩)
    refine⟨(false,(r:Int),v)::e,by rw[B,Bf];rfl,by simp,by omega,C,?_,E⟩;rw[show t-p=n+(t-(p+n)) by omega,Cz,c,Co,Ui,D]
    rfl
  ·rw[VJ g i] at h;simp only[Jf] at h;exact absurd h.2.1 i
theorem xP {B:List UInt8}(f:AK B=true){i:Bool}{d:Int}{n:Nat}(h:dcT B i=(d,0,n)):B.take n=dcB i d/\n<=B.length/\H6 i d=true/\n=8*AZ i:=by
 cases i with
 |false=>
  rw[zA] at h;simp only[Jf,Jj] at h;obtain⟨rfl,rfl⟩:=h;exact⟨rfl,Dn _,rfl,rfl⟩
 |true=>
  by_cases g:B.length<8
  ·rw[U8 g] at h;simp at h
  have j:=O3 B f 8 (by omega);have b:=fun v (hv:num (B.take 8)=v)=>RL f (by omega) hv;by_cases c:num (B.take 8)=0\/num (B.take 8)=128
  ·rw[TB (by omega) c] at h;simp at h
  by_cases a:num (B.take 8)=255
  ·rw[RH (by omega) a] at h;simp only[Jf,Jj] at h;obtain⟨rfl,rfl⟩:=h;exact⟨b 255 a,by omega,rfl,rfl⟩
  ·rw[SR (by omega) rfl (fun e=>c (.inl e)) (fun e=>c (.inr e)) a] at h;simp only[Jf,Jj] at h;obtain⟨rfl,rfl⟩:=h;refine⟨?_,by omega,?_,rfl⟩
   ·refine(b _ rfl).trans ?_;unfold dcB;rw[Bc rfl,Bb (by omega),Do]
   ·rw[VF,Am,Fb,Fb];omega
theorem kK {S:List UInt8}(g:AK S=true){p t:Nat}{i c:Bool}{d:Int}{L:List Ev}(w:p<=S.length)(h:btk S p i c=(d,L,t,0)):
  p<=t/\t<=S.length/\(S.drop p).take (t-p)=C4 i d L/\CI i d L=true/\decide (0<L.length)=c:=by
 obtain⟨⟨x,f,n⟩,hd⟩:=Ai (dcT (S.drop p) i);by_cases b:f=0
 ·subst b;obtain⟨k,q,m,y⟩:=xP (FO _ _ g) hd;rw[Bj] at q;cases c with
  |false=>
   rw[RD hd] at h;simp only[Jf,Jl] at h;obtain⟨rfl,rfl,rfl⟩:=h;refine⟨by omega,by omega,?_,?_,rfl⟩
   ·rw[Bv,k];simp[C4,BK]
   ·unfold CI;rw[m]
    rfl
  |true=>
   obtain⟨⟨l,f2,e⟩,hl⟩:=Ai (CN S (65-AZ i) [] (p+n) (AZ i));by_cases a:f2=0
   ·subst a;rw[T9 hd hl] at h;simp only[Jf,Jl] at h;obtain⟨rfl,rfl,rfl⟩:=h;obtain⟨z,o,r,A,s,u,v⟩:=Vw g (AZ i) _ [] (p+n) (AZ i) l e (by omega) hl rfl (fun j hj=>absurd hj (Fc j));rw[Ce] at o;subst o;refine⟨by omega,s,?_,?_,by simpa using r⟩
    ·rw[show e-p=n+(e-(p+n)) by omega,Cz,k,Co,u]
     rfl
    ·unfold CI;rw[m,v]
     rfl
   ·rw[YR hd hl a] at h;simp only[Jf] at h;exact absurd h.2.2.2 a
 ·rw[XO hd b] at h;simp only[Jf] at h;exact absurd h.2.2.2 b
theorem gP {k:List UInt8->Int×Int×Nat}{S:List UInt8}{p:Nat}{f:Int}(a:f≠0):BP k S (p,f)=(0,p,f):=LM a
theorem YV {inter:Bool}{S:List UInt8}{p:Nat}{f:Int}(a:f≠0):∀j n,(B0 inter S j n (p,f)).2.2.2.2.2≠0
 |0,_=>by simp[B0]
 |j+1,n=>by
  unfold B0;rw[gP a];have h1:DS inter S (if inter then (p,f) else (p,f))=(0,0,p,f):=by
   rw[ite_self];exact R8 a
  simp only at h1 ⊢;rw[h1]
  simpa using a
theorem cO {S:List UInt8}(b:AK S=true){p q:Nat}{v:Int}(a:p<=S.length)(h:BP ES S (p,0)=(v,q,0)):(v=1/\Seg S p q [49])\/(v=0/\Seg S p q [48]):=by
 rw[IX] at h;have hr:=FO S p b;cases hd:S.drop p with
 |nil=>
  rw[hd] at h;simp[ES] at h
 |cons c l=>
  rw[hd] at h;simp only[ES,Jf,Jl] at h;obtain⟨rfl,rfl⟩:=h;have hc:c=48\/c=49:=by
   rw[hd] at hr;unfold AK at hr;simp at hr;exact hr.1
  rcases hc with rfl|rfl
  ·exact .inr ⟨rfl,Seg.of a (by rw[hd];simp) (by rw[hd];rfl)⟩
  ·exact .inl ⟨rfl,Seg.of a (by rw[hd];simp) (by rw[hd];rfl)⟩
theorem Ux {inter:Bool}{b:Int}(h:(B1 inter 5 b).data.toList.isEmpty=false):b=0:=by
 by_cases a:b<0\/0<b
 ·rw[Tr (by omega)] at h;cases h
 ·omega
theorem Yx {inter:Bool}{S:List UInt8}{p q:Nat}{a c:Int}(d:p<=S.length)(h:DS inter S (p,0)=(a,c,q,0)):Seg S p q (B1 inter a c).data.toList/\(B1 inter a c).data.toList.isEmpty=false/\a≠2:=by
 rw[SG] at h;obtain⟨⟨g,c',f,n⟩,b⟩:=Ai (mtk inter (S.drop p));rw[b] at h;simp only[Jf] at h;obtain⟨rfl,rfl,rfl,rfl⟩:=h;obtain⟨h1,h2,h3,h4,e⟩:=ZD b;exact⟨Seg.of d h3 h1,h4,e⟩
theorem RZ {inter:Bool}{S:List UInt8}(y:AK S=true):∀(j n p o:Nat) (b:Bool) (k c:Int) (q:Nat),p<=S.length->B0 inter S j n (p,0)=(o,b,k,c,q,0)->∃d,o=n+d/\d<j/\
  (b=true->inter=true/\k=0/\c=0/\Seg S p q (HK inter d++[49]))/\
  (b=false->Seg S p q (HK inter d++(JT inter++(B1 inter k c).data.toList))/\(B1 inter k c).data.toList.isEmpty=false/\k≠2/\k≠5)
 |0,n,p,o,b,k,c,q,hp,h=>by
  simp[B0] at h
 |j+1,n,p,o,b,k,c,q,hp,h=>by
  cases inter with
  |false=>
   obtain⟨⟨a,C,r,f⟩,e⟩:=Ai (DS false S (p,0));rw[QC e] at h;by_cases g:f=0
   ·subst g;obtain⟨i,s,z⟩:=Yx hp e;by_cases l:a=5
    ·subst l;rw[Bc rfl] at h;obtain rfl:=Ux s;obtain⟨d,E,F,A,B⟩:=RZ y j (n+1) r o b k c q i.2.1 h;have x:Seg S p r (KB false):=i;refine⟨d+1,by omega,by omega,fun hs=>absurd (A hs).1 (by decide),fun hs=>?_⟩;obtain⟨t,u⟩:=B hs;rw[MD,Bf];exact⟨x.app t,u⟩
    ·rw[Bb l] at h;simp only[Jf] at h;obtain⟨rfl,rfl,rfl,rfl,rfl,_⟩:=h;exact⟨0,rfl,by omega,fun hs=>(by cases hs),fun _=>⟨i,s,z,l⟩⟩
   ·exfalso
    split at h
    ·exact YV g j (n+1) (by rw[h])
    ·simp only[Jf] at h;exact g h.2.2.2.2.2
  |true=>
   obtain⟨⟨v,r,f1⟩,hn⟩:=Ai (BP ES S (p,0));by_cases m:f1=0
   ·subst m;rcases cO y hp hn with ⟨rfl,w⟩|⟨rfl,w⟩
    ·rw[Rj rfl hn rfl] at h;simp only[Jf] at h;obtain⟨rfl,rfl,rfl,rfl,rfl,_⟩:=h;exact⟨0,rfl,by omega,fun _=>⟨rfl,rfl,rfl,w⟩,fun hs=>(by cases hs)⟩
    ·obtain⟨⟨a,C,D,f⟩,e⟩:=Ai (DS true S (r,0));rw[Pe hn (by decide) e] at h;by_cases g:f=0
     ·subst g;obtain⟨i,s,z⟩:=Yx w.2.1 e;by_cases l:a=5
      ·subst l;rw[Bc rfl] at h;obtain rfl:=Ux s;obtain⟨d,E,F,A,B⟩:=RZ y j (n+1) D o b k c q i.2.1 h;have x:Seg S p D (KB true):=w.app i;refine⟨d+1,by omega,by omega,fun hs=>?_,fun hs=>?_⟩
       ·obtain⟨H,t,u,G⟩:=A hs;rw[MD,Bf];exact⟨rfl,t,u,x.app G⟩
       ·obtain⟨t,u⟩:=B hs;rw[MD,Bf];exact⟨x.app t,u⟩
      ·rw[Bb l] at h;simp only[Jf] at h;obtain⟨rfl,rfl,rfl,rfl,rfl,_⟩:=h;exact⟨0,rfl,by omega,fun hs=>(by cases hs),fun _=>⟨w.app i,s,z,l⟩⟩
     ·exfalso
      split at h
      ·exact YV g j (n+1) (by rw[h])
      ·simp only[Jf] at h;exact g h.2.2.2.2.2
   ·exfalso;have hv:v≠1:=by
     rw[IX] at hn;intro hv;cases hd:S.drop p with
     |nil=>rw[hd] at hn;simp[ES] at hn;omega
     |cons C I=>rw[hd] at hn;simp[ES] at hn;omega
    have e:DS true S (r,f1)=(0,0,r,f1):=R8 m;rw[Pe hn hv e,Bb (by decide)] at h;simp only[Jf] at h;exact m h.2.2.2.2.2
theorem mY {intra:Bool}{S:List UInt8}{p q:Nat}{v:Int}(c:p<=S.length)(h:BP (ptk intra) S (p,0)=(v,q,0)):Seg S p q (F0 intra v).data.toList/\0<=v/\v<16:=by
 rw[IX] at h;obtain⟨⟨a,f,n⟩,b⟩:=Ai (ptk intra (S.drop p));rw[b] at h;simp only[Jf] at h;obtain⟨rfl,rfl,rfl⟩:=h;obtain⟨h1,h2,h3,h4,d⟩:=bH b;exact⟨Seg.of c h3 h1,h4,d⟩
theorem tW {S:List UInt8}(c:AK S=true){p q:Nat}{k v:Int}(b:p<=S.length)(h:HH S k (p,0)=(v,q,0)):Seg S p q (CJ v).data.toList/\EV k v=true:=by
 unfold HH at h;unfold EV;cases hk:NQ k with
 |true=>
  rw[hk,Bc rfl,IX] at h;obtain⟨⟨a,f,n⟩,ht⟩:=Ai (stk (S.drop p));rw[ht] at h;simp only[Jf] at h;obtain⟨rfl,rfl,rfl⟩:=h;obtain⟨h1,rfl,h3,h4⟩:=lU (FO _ _ c) ht;exact⟨Seg.of b h3 h1,by rw[Bc rfl,PL.2 h4];rfl⟩
 |false=>
  rw[hk,Bb (by decide)] at h;simp only[Jf,Jl] at h;obtain⟨rfl,rfl⟩:=h;exact⟨Seg.nil b,rfl⟩
theorem W3 {S:List UInt8}{p q:Nat}{a v:Int}(b:p<=S.length)(h:CK S a (p,0)=(v,q,0)):Seg S p q (C2 (AM (v-AM a))).data.toList/\v=AM v:=by
 unfold CK at h;rw[IX] at h;obtain⟨⟨d,f,n⟩,ht⟩:=Ai (dtk (S.drop p));rw[ht] at h;simp only[Jf] at h;obtain⟨rfl,rfl,rfl⟩:=h;obtain⟨h1,h2,h3,h4,c⟩:=uU ht;have e:AM (AM (AM a+d)-AM a)=d:=by unfold AM;omega
 rw[e];exact⟨Seg.of b h3 h1,by unfold AM;omega⟩
theorem wM {S:List UInt8}{p q:Nat}{k x y mx my:Int}(d:p<=S.length)(h:GL S k x y (p,0)=(mx,my,q,0)):Seg S p q (LD k x y mx my)/\H4 k mx my=true:=by
 unfold GL at h;unfold LD H4;cases hk:AE k with
 |true=>
  rw[hk,Bc rfl] at h;simp only[Jf,Jl] at h;obtain⟨rfl,rfl,rfl⟩:=h;exact⟨Seg.nil d,rfl⟩
 |false=>
  rw[hk,Bb (by decide)] at h;obtain⟨⟨a,e,f1⟩,h1⟩:=Ai (CK S x (p,0));obtain⟨⟨b,l,f2⟩,h2⟩:=Ai (CK S y (e,f1));rw[h1] at h;simp only at h;rw[h2] at h;simp only[Jf] at h;obtain⟨rfl,rfl,rfl,rfl⟩:=h;by_cases c:f1=0
  ·subst c;obtain⟨f,g⟩:=W3 d h1;obtain⟨i,j⟩:=W3 f.2.1 h2;rw[Bb (by decide),Bb (by decide),Am,Bm,Bm];exact⟨f.app i,g,j⟩
  ·exfalso;unfold CK at h2;rw[LM (show ((e,f1):Stt).2≠0 from c)] at h2;simp only[Jf] at h2;exact c h2.2.2
theorem U2 {S:List UInt8}(e:AK S=true){p q:Nat}{i c:Bool}{d:Int}{L:List Ev}(g:p<=S.length)(h:CF i c S (p,0)=(d,L,q,0)):Seg S p q (C4 i d L)/\CI i d L=true/\decide (0<L.length)=c:=by
 rw[TQ] at h;obtain⟨⟨a,l,t,f⟩,b⟩:=Ai (btk S p i c);rw[b] at h;simp only[Jf] at h;obtain⟨rfl,rfl,rfl,rfl⟩:=h;obtain⟨h1,h2,h3,h4,j⟩:=kK e g b;exact⟨⟨h1,h2,h3⟩,h4,j⟩
theorem gR {inter:Bool}{k c:Int}(h:(B1 inter k c).data.toList.isEmpty=false)(h2:k≠2)(a:k≠5):EI inter k=true/\0<=c/\c<=3:=by
 have b:¬ (k<0\/5<k\/c<0\/3<c\/(k=5/\0<c)):=by
  intro hn;rw[Tr hn] at h;cases h
 refine⟨?_,by omega,by omega⟩;rcases (by omega:k=0\/k=1\/k=3\/k=4) with rfl|rfl|rfl|rfl
 ·cases inter with
  |true=>rfl
  |false=>
   exfalso;unfold B1 at h;rw[Bc (by omega)] at h;rcases (by omega:c=0\/c=1\/c=2\/c=3) with rfl|rfl|rfl|rfl <;> cases h
 ·cases inter with
  |true=>rfl
  |false=>
   exfalso;unfold B1 at h;rw[Bc (by omega)] at h;rcases (by omega:c=0\/c=1\/c=2\/c=3) with rfl|rfl|rfl|rfl <;> cases h
 ·rfl
 ·cases inter <;> rfl
theorem cG {pt ch:Nat}(f:pt<16)(hc:ch<4){c:Cel}(h:∀i,i<6->decide (0<(c.ev i).length)=D0 (4*pt+ch) i):BJ c 4=pt/\D3 c=ch:=by
 have a:∀i,i<6->EQ c i=(4*pt+ch) / 2^(5-i)%2:=by
  intro i hi;unfold EQ;rw[h i hi];unfold D0;rcases Ms ((4*pt+ch) / 2^(5-i)) with e|e <;> rw[e] <;> rfl
 have b:=a 0 (by omega);have h1:=a 1 (by omega);have h2:=a 2 (by omega);have h3:=a 3 (by omega);have h4:=a 4 (by omega);have d:=a 5 (by omega);simp only[Nat.reduceSub,Nat.reducePow,Nat.sub_zero] at b h1 h2 h3 h4 d;rw[Qt];unfold D3;omega
theorem Ug {inter:Bool}{S:List UInt8}(D:AK S=true){x y:Int}{p q:Nat}{c:Cel}(hp:p<=S.length)(h:ctk inter S x y p=(c,q,0)):Seg S p q (DZ inter x y c)/\BE inter c=true:=by
 have m:GP inter S x y (p,0)=(c,q,0):=by
  obtain⟨⟨c1,K,f1⟩,j⟩:=Ai (GP inter S x y (p,0));unfold ctk at h;rw[j] at h ⊢;simp only at h;by_cases e:f1=0
  ·subst e;rw[Bc rfl] at h;exact h
  ·rw[Bb e] at h;simp only[Jf] at h;exact absurd h.2.2 e
 clear h;obtain⟨⟨n,T,k,ch,K,f1⟩,E⟩:=Ai (B0 inter S 65 0 (p,0));by_cases o:f1=0
 ·subst o;obtain⟨d,U,e2,e3,e4⟩:=RZ D 65 0 p n T k ch K hp E;rw[As] at U;subst U;cases T with
  |true=>
   obtain⟨F,V,W,L⟩:=e3 rfl;rw[Ts E] at m;simp only[Jf,Jl] at m;obtain⟨rfl,rfl⟩:=m;refine⟨?_,?_⟩
   ·unfold DZ
    simpa using L
   ·unfold BE;rw[F];simp only[Kl,Gw,Am,Av];exact⟨by omega,rfl⟩
  |false=>
   obtain⟨F,V,W,L⟩:=e4 rfl;obtain⟨t,c0,c3⟩:=gR V W L;obtain⟨⟨pt,M⟩,h2⟩:=Ai (BP (ptk (AE k)) S (K,0));obtain⟨⟨sp,N⟩,h3⟩:=Ai (HH S k M);obtain⟨⟨mx,my,G⟩,h4⟩:=Ai (GL S k x y N);rw[S6 E h2 h3 h4] at m;simp only[Jf] at m;obtain⟨hc,X⟩:=m;have Y:(stB (AE k) (4*pt.toNat+ch.toNat) S G 6).2=0:=by rw[X]
   have H:∀i,i<=6->(stB (AE k) (4*pt.toNat+ch.toNat) S G i).2=0:=by
    intro i hi;refine Mq fun b=>?_;have h1:=TP b (6-i);rw[show i+(6-i)=6 by omega] at h1;rw[h1] at Y;exact b Y
   have I:G.2=0:=H 0 (by omega);have J:N.2=0:=by
    refine Mq fun b=>?_;have h1:=UL (kind:=k) (x:=x) (y:=y) (S:=S) b;rw[h4] at h1;simp only at h1;rw[h1] at I;exact b I
   have Z:M.2=0:=by
    refine Mq fun b=>?_;have h1:=YN (kind:=k) (S:=S) b;rw[h3] at h1;simp only[Jf] at h1;rw[h1.2] at J;exact b J
   obtain⟨q2,f2⟩:=M;obtain⟨q3,f3⟩:=N;obtain⟨f,f4⟩:=G;simp only at Z J I;subst Z J I;obtain⟨a1,a2,a3⟩:=mY F.2.1 h2;obtain⟨b1,b2⟩:=tW D a1.2.1 h3;obtain⟨O,v2⟩:=wM b1.2.1 h4
   have r:∀i,i<6->Seg S (stB (AE k) (4*pt.toNat+ch.toNat) S (f,0) i).1 (stB (AE k) (4*pt.toNat+ch.toNat) S (f,0) (i+1)).1 (C4 (AE k) (c.dc i) (c.ev i))/\CI (AE k) (c.dc i) (c.ev i)=true/\decide (0<(c.ev i).length)=D0 (4*pt.toNat+ch.toNat) i:=by
    intro i
    induction i with
    |zero=>
     intro hi;have j:=H 1 (by omega);obtain⟨⟨d0,u,t0,f0⟩,a⟩:=Ai (CF (AE k) (D0 (4*pt.toNat+ch.toNat) 0) S (f,0));have hn:stB (AE k) (4*pt.toNat+ch.toNat) S (f,0) 1=(t0,f0):=by
      show (CF (AE k) (D0 (4*pt.toNat+ch.toNat) 0) S (f,0)).2.2=_;rw[a]
     rw[hn] at j ⊢;simp only at j;subst j;have hd:c.dc 0=d0:=by rw[<-hc];show (CF (AE k) (D0 (4*pt.toNat+ch.toNat) 0) S (f,0)).1=d0;rw[a]
     have hl:c.ev 0=u:=by rw[<-hc];show (CF (AE k) (D0 (4*pt.toNat+ch.toNat) 0) S (f,0)).2.1=u;rw[a]
     rw[hd,hl];exact U2 D O.2.1 a
    |succ i P=>
     intro hi;obtain⟨Q,_,_⟩:=P (by omega);have s:=H (i+1) (by omega);have j:=H (i+1+1) (by omega);obtain⟨⟨t1,f1⟩,g⟩:=Ai (stB (AE k) (4*pt.toNat+ch.toNat) S (f,0) (i+1));rw[g] at s Q;simp only at s Q;subst s;obtain⟨⟨d0,u,t0,f0⟩,a⟩:=Ai (CF (AE k) (D0 (4*pt.toNat+ch.toNat) (i+1)) S (t1,0))
     have hn:stB (AE k) (4*pt.toNat+ch.toNat) S (f,0) (i+1+1)=(t0,f0):=by
      show (CF (AE k) (D0 (4*pt.toNat+ch.toNat) (i+1)) S (stB (AE k) (4*pt.toNat+ch.toNat) S (f,0) (i+1))).2.2=_;rw[g,a]
     rw[hn] at j ⊢;simp only at j;subst j;have hd:c.dc (i+1)=d0:=by rw[<-hc];show (CF (AE k) (D0 (4*pt.toNat+ch.toNat) (i+1)) S (stB (AE k) (4*pt.toNat+ch.toNat) S (f,0) (i+1))).1=d0;rw[g,a]
     have hl:c.ev (i+1)=u:=by rw[<-hc];show (CF (AE k) (D0 (4*pt.toNat+ch.toNat) (i+1)) S (stB (AE k) (4*pt.toNat+ch.toNat) S (f,0) (i+1))).2.1=u;rw[g,a]
     rw[hd,hl,g];exact U2 D Q.2.1 a
   have l:c.kind=k:=by rw[<-hc]
   have v:c.skip=false:=by rw[<-hc]
   have w:c.stuff=(n:Int):=by rw[<-hc]
   have z:c.step=sp:=by rw[<-hc]
   have A:c.mx=mx:=by rw[<-hc]
   have B:c.my=my:=by rw[<-hc]
   have C:∀i,i<=6->Seg S f (stB (AE k) (4*pt.toNat+ch.toNat) S (f,0) i).1 (CU c i):=by
    intro i
    induction i with
    |zero=>intro _;exact Seg.nil O.2.1
    |succ i P=>
     intro hi;show Seg S f _ (CU c i++C4 (AE c.kind) (c.dc i) (c.ev i));rw[l];exact(P (by omega)).app (r i (by omega)).1
   have R:=C 6 (Ba _);rw[X] at R;simp only at R;obtain⟨m1,m2⟩:=cG (pt:=pt.toNat) (ch:=ch.toNat) (c:=c) (by omega) (by omega) (fun i hi=>(r i hi).2.2);refine⟨?_,?_⟩
   ·unfold DZ;rw[v,Bb (by decide),l,w,z,A,B,m1,m2,Cb a2,Cb c0,Do,<-Bf,<-Bf,<-Bf,<-Bf];exact(((F.app a1).app b1).app O).app R
   ·unfold BE;rw[v,Bb (by decide),l,w,z,A,B,t,b2,v2];simp only[Gw,Am,Av];refine⟨by omega,O2.2 fun i hi=>?_⟩;rw[l];exact(r i hi).2.1
 ·exfalso;have:=tR (x:=x) (y:=y) E o;rw[m] at this;exact o this.symm
theorem Wi {inter:Bool}{S:List UInt8}{p q:Nat}{a c:Int}(h:Seg S p q (B1 inter a c).data.toList)(b:(B1 inter a c).data.toList.isEmpty=false)(h2:a≠2):DS inter S (p,0)=(a,c,q,0):=by
 have hl:=h.len;rw[SG,h.at,iW inter a c _ rfl b,Bb h2];simp only[Jf,Jl,Jj];exact hl.symm
theorem YG {S:List UInt8}{p q:Nat}{d:UInt8}(h:Seg S p q [d]):BP ES S (p,0)=(if d=49 then 1 else 0,q,0):=by
 have hl:=h.len;rw[IX,h.at];simp only[Ma,ES,Jf,Jl,Jj];exact hl.symm
theorem Sx {inter:Bool}{S:List UInt8}{j m p q:Nat}{a c:Int}(h:Seg S p q (JT inter++(B1 inter a c).data.toList))(b:(B1 inter a c).data.toList.isEmpty=false)(h2:a≠2):
  B0 inter S (j+1) m (p,0)=if a=5 then B0 inter S j (m+1) (q,0) else (m,false,a,c,q,0):=by
 cases inter with
 |false=>exact QC (Wi h b h2)
 |true=>
  obtain⟨d,e⟩:=h.split;exact Pe (YG d) (by decide) (Wi e b h2)
theorem VO (inter:Bool):(B1 inter 5 0).data.toList.isEmpty=false:=by cases inter <;> rfl
theorem Ut {S:List UInt8}:∀(n j m p q:Nat),n<j->Seg S p q (HK true n++[49])->B0 true S j m (p,0)=(m+n,true,0,0,q,0)
 |0,j,m,p,q,hj,h=>by
  obtain⟨k,rfl⟩:∃k,j=k+1:=⟨j-1,by omega⟩;exact Rj rfl (YG (show Seg S p q [49] from h)) (by decide)
 |n+1,j,m,p,q,hj,h=>by
  obtain⟨k,rfl⟩:∃k,j=k+1:=⟨j-1,by omega⟩;rw[MD,Bf] at h;obtain⟨a,b⟩:=h.split;rw[Sx a (VO true) (by decide),Bc rfl,Ut n k (m+1) _ q (by omega) b,Ay,Cd 1 n]
theorem Xg {inter:Bool}{S:List UInt8}{a c:Int}(b:(B1 inter a c).data.toList.isEmpty=false)(h2:a≠2)(d:a≠5):∀(n j m p q:Nat),n<j->Seg S p q (HK inter n++(JT inter++(B1 inter a c).data.toList))->B0 inter S j m (p,0)=(m+n,false,a,c,q,0)
 |0,j,m,p,q,hj,h=>by
  obtain⟨k,rfl⟩:∃k,j=k+1:=⟨j-1,by omega⟩;rw[Sx (show Seg S p q (JT inter++(B1 inter a c).data.toList) from h) b h2,Bb d]
  rfl
 |n+1,j,m,p,q,hj,h=>by
  obtain⟨k,rfl⟩:∃k,j=k+1:=⟨j-1,by omega⟩;rw[MD,Bf] at h;obtain⟨e,f⟩:=h.split;rw[Sx e (VO inter) (by decide),Bc rfl,Xg b h2 d n k (m+1) _ q (by omega) f,Ay,Cd 1 n]
theorem xB {inter:Bool}{k:Int}{c:Nat}(h:EI inter k=true)(hc:c<4):(B1 inter k (c:Nat)).data.toList.isEmpty=false/\k≠2/\k≠5:=by
 have a:k=3\/k=4\/(inter=true/\(k=0\/k=1)):=by
  unfold EI at h
  simpa [or_assoc] using h
 rcases a with rfl|rfl|⟨rfl,rfl|rfl⟩
 all_goals
  refine⟨?_,by decide,by decide⟩
  match c,hc with
  |0,_=>first|rfl|(cases inter <;> rfl)
  |1,_=>first|rfl|(cases inter <;> rfl)
  |2,_=>first|rfl|(cases inter <;> rfl)
  |3,_=>first|rfl|(cases inter <;> rfl)
theorem eD {S:List UInt8}{p q:Nat}{i:Bool}{k:Nat}(h:Seg S p q (F0 i (k:Nat)).data.toList)(a:k<16):BP (ptk i) S (p,0)=(((k:Nat):Int),(q,0)):=by
 have hl:=h.len;rw[IX,h.at,gQ i k a _ rfl];simp only[Jf,Jl,Jj];exact hl.symm
theorem zF {S:List UInt8}{p q:Nat}{k s:Int}(h:Seg S p q (CJ s).data.toList)(hs:EV k s=true):HH S k (p,0)=(s,q,0):=by
 have hl:=h.len;unfold HH;unfold EV at hs;cases hk:NQ k with
 |true=>
  rw[hk,Bc rfl,L6] at hs;have h4:=PL.1 hs;rw[Bc rfl,IX,h.at,tK h4];simp only[Jf,Jl,Jj];have:(CJ s).data.toList.length=2:=by rcases h4 with rfl|rfl|rfl|rfl <;> rfl
  omega
 |false=>
  rw[hk,Bb (by decide),Bm] at hs;subst hs;rw[Bb (by decide)];simp only[Jf,Jl,Jj];exact hl.symm
theorem Vc {S:List UInt8}{p q:Nat}{a v:Int}(h:Seg S p q (C2 (AM (v-AM a))).data.toList)(hv:v=AM v):CK S a (p,0)=(v,q,0):=by
 have hl:=h.len;unfold CK;rw[IX,h.at,qN (JL _) _ rfl];have e:AM (AM a+AM (v-AM a))=v:=by unfold AM at hv ⊢;omega
 rw[e];simp only[Jf,Jl,Jj];exact hl.symm
theorem lL {S:List UInt8}{p q:Nat}{k x y mx my:Int}(h:Seg S p q (LD k x y mx my))(hv:H4 k mx my=true):GL S k x y (p,0)=(mx,my,q,0):=by
 unfold LD at h;unfold H4 at hv;unfold GL;cases hk:AE k with
 |true=>
  rw[hk,Bc rfl] at h hv;rw[Am,Bm,Bm] at hv;obtain⟨rfl,rfl⟩:=hv;rw[Bc rfl];simp only[Jf,Jl,Jj];exact h.len.symm
 |false=>
  rw[hk,Bb (by decide)] at h hv;rw[Am,Bm,Bm] at hv;obtain⟨a,b⟩:=h.split;have h1:=Vc a hv.1;have h2:=Vc b hv.2;rw[Bb (by decide),h1];simp only;rw[h2]
theorem Yb {S:List UInt8}{p q:Nat}{i:Bool}{d:Int}{l:List Ev}(h:Seg S p q (C4 i d l))(hm:CI i d l=true):CF i (decide (0<l.length)) S (p,0)=(d,l,q,0):=by
 have hl:=h.len;have h1:=h.at;obtain⟨e,f,_⟩:=h;have b:S=S.take p++C4 i d l++S.drop q:=by rw[Bf,<-h1,Bs]
 have c:(S.take p).length=p:=by rw[Be];omega
 have a:=oH hm (S.take p) (S.drop q);rw[<-b,c,<-hl] at a;rw[TQ,a]
theorem VP {S:List UInt8}{a:Nat}{c:Cel}{i:Nat}:∀(k b:Nat),Seg S a b (CU c (i+k))->Seg S a (a+(CU c i).length) (CU c i)
 |0,b,h=>by
  have hl:=h.len;rw[Cw] at hl h;rw[<-hl];exact h
 |k+1,b,h=>by
  have d:Seg S a b (CU c (i+k)++C4 (AE c.kind) (c.dc (i+k)) (c.ev (i+k))):=h;exact VP k _ d.split.1
theorem VK {c:Cel}:∀i,i<6->D0 (4*BJ c 4+D3 c) i=decide (0<(c.ev i).length):=by
 have a:∀i,(EQ c i==1)=decide (0<(c.ev i).length):=by
  intro i;unfold EQ;cases decide (0<(c.ev i).length) <;> rfl
 have h:=fun i=>Sh c i;have b:=h 0;have h1:=h 1;have h2:=h 2;have h3:=h 3;have h4:=h 4;have d:=h 5;intro i hi;rw[<-a];unfold D0
 congr 1
 rw[Qt];unfold D3
 match i,hi with
 |0,_=>simp only[Nat.sub_zero,Nat.reducePow];omega
 |1,_=>simp only[Nat.reduceSub,Nat.reducePow];omega
 |2,_=>simp only[Nat.reduceSub,Nat.reducePow];omega
 |3,_=>simp only[Nat.reduceSub,Nat.reducePow];omega
 |4,_=>simp only[Nat.reduceSub,Nat.reducePow];omega
 |5,_=>simp only[Nat.reduceSub,Nat.reducePow];omega
theorem Zt {c d:Cel}(a:∀i,i<6->c.ev i=d.ev i)(hd:∀i,i<6->c.dc i=d.dc i)(h1:c.stuff=d.stuff)(h2:c.skip=d.skip)(h3:c.kind=d.kind)(h4:c.step=d.step)(b:c.mx=d.mx)(e:c.my=d.my):CG c d=true:=by
 unfold CG;rw[TC a,Gw];unfold GO;rw[h1,h2,h3,h4,b,e];simp only[Jk,Bool.and_self,Gw,Bu];intro i hi;rw[hd i (Bq.1 hi)];exact Jk _
theorem vG {inter:Bool}{S:List UInt8}{x y:Int}{p q:Nat}{c:Cel}(h:Seg S p q (DZ inter x y c))(hm:BE inter c=true):∃c',ctk inter S x y p=(c',q,0)/\CG c' c=true:=by
 unfold BE at hm;rw[Am,Am,Fb,Fb] at hm;obtain⟨⟨G,H⟩,hm⟩:=hm;obtain⟨n,hn⟩:∃n:Nat,c.stuff=n:=⟨c.stuff.toNat,by omega⟩;unfold DZ at h;rw[hn,Do] at h;cases hsk:c.skip with
 |true=>
  rw[hsk,Bc rfl] at hm h;rw[Am] at hm;obtain⟨hi,k⟩:=hm;subst hi;have j:=Ut n 65 0 p q (by omega) h;refine⟨_,RT (Ts j),?_⟩;unfold FY at k;simp only[Am,Bm,Bu,Bq,Av] at k;obtain⟨⟨⟨o,r⟩,s,t⟩,hd,u⟩:=k
  exact Zt (fun i hi=>(Dh (u i hi)).symm) (fun i hi=>(hd i hi).symm) (by rw[hn];simp) hsk.symm o.symm r.symm s.symm t.symm
 |false=>
  rw[hsk,Bb (by decide)] at hm h;simp only[Am] at hm;obtain⟨⟨v,hs⟩,hv,l⟩:=hm;rw[<-Bf,<-Bf,<-Bf,<-Bf] at h;obtain⟨a,h,m⟩:=h.cut;obtain⟨I,h,w⟩:=h.cut;obtain⟨J,h,z⟩:=h.cut;obtain⟨A,B,C⟩:=h.cut;obtain⟨c1,c2,c3⟩:=Tl c;obtain⟨r1,r2,r3⟩:=xB v c2;have j:=Xg r1 r2 r3 n 65 0 p A (by omega) B;rw[As] at j
  have b:=S6 j (eD C c1) (zF z hs) (lL w hv);rw[Do,Do] at b;have d:∀i,i<6->Seg S (a+(CU c i).length) (a+(CU c (i+1)).length) (C4 (AE c.kind) (c.dc i) (c.ev i)):=by
   intro i hi;have D:Seg S a q (CU c (i+1+(5-i))):=by rw[show i+1+(5-i)=6 by omega];exact m
   have E:Seg S a (a+(CU c (i+1)).length) (CU c i++C4 (AE c.kind) (c.dc i) (c.ev i)):=VP (5-i) q D;exact E.split.2
  have e:=O2.1 l;have f:∀i,i<=6->stB (AE c.kind) (4*BJ c 4+D3 c) S (a,0) i=(a+(CU c i).length,0):=by
   intro i
   induction i with
   |zero=>intro _;rfl
   |succ i F=>
    intro hi;show (CF (AE c.kind) (D0 (4*BJ c 4+D3 c) i) S (stB (AE c.kind) (4*BJ c 4+D3 c) S (a,0) i)).2.2=_;rw[F (by omega),VK i (by omega),Yb (d i (by omega)) (e i (by omega))]
  have g:∀i,i<6->CF (AE c.kind) (D0 (4*BJ c 4+D3 c) i) S (stB (AE c.kind) (4*BJ c 4+D3 c) S (a,0) i)=(c.dc i,c.ev i,a+(CU c (i+1)).length,0):=by
   intro i hi;rw[f i (by omega),VK i hi,Yb (d i hi) (e i hi)]
  rw[f 6 (Ba _),<-m.len] at b;refine⟨_,RT b,?_⟩;refine Zt (fun i hi=>?_) (fun i hi=>?_) hn.symm hsk.symm rfl rfl rfl rfl
  ·show (CF (AE c.kind) (D0 (4*BJ c 4+D3 c) i) S (stB (AE c.kind) (4*BJ c 4+D3 c) S (a,0) i)).2.1=_;rw[g i hi]
  ·show (CF (AE c.kind) (D0 (4*BJ c 4+D3 c) i) S (stB (AE c.kind) (4*BJ c 4+D3 c) S (a,0) i)).1=_;rw[g i hi]
end
end Go.Proofs.YtjjmalchelniiaaGreatDoor
