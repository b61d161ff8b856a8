/- StripsWrites, 36. No condition. -/
import Derived.Test.YtjjmalchelniiaaGreatDoorStripsWritesMb
import Derived.Test.YtjjmalchelniiaaGreatDoorStripsWritesMi
import Derived.Test.YtjjmalchelniiaaGreatDoorStripsWritesMj
import Derived.Test.YtjjmalchelniiaaGreatDoorStripsWritesMm
import Derived.Test.YtjjmalchelniiaaGreatDoorStripsWritesMr
import Derived.Test.YtjjmalchelniiaaGreatDoorStripsWritesMu
import Derived.Test.YtjjmalchelniiaaGreatDoorStripsWritesMv
import Derived.Test.YtjjmalchelniiaaGreatDoorStripsWritesMw
import Derived.Test.YtjjmalchelniiaaGreatDoorStripsWritesMbf
import Derived.Test.YtjjmalchelniiaaGreatDoorStripsWritesMbh
import Derived.Test.YtjjmalchelniiaaGreatDoorStripsWritesMbi
open Go.Proofs.Tryz
open Go renaming World->A5,Value->A0,Ending->Ad,Calls->A9
set_option maxHeartbeats 4000000
namespace Go.Proofs.YtjjmalchelniiaaGreatDoor
section
abbrev Mt:=@wpList_load_row
abbrev Mu:=@underlying77
abbrev Mv:=@Decidable.byContradiction
abbrev Mw:=@List.getElem_append_left
abbrev Mx:=@Nat.mod_two_eq_zero_or_one
abbrev My:=@List.getElem_append_right
abbrev Mz:=@Prod.mk.inj
theorem dT (inter:Bool)(b:List UInt8):(mtk inter b=(0,0,(mtk inter b).2.2.1,0)/\(mtk inter b).2.2.1≠0)\/((mtk inter b).2.2.1=0/\0<=(mtk inter b).1/\(mtk inter b).1<=5/\(mtk inter b).1≠2/\0<=(mtk inter b).2.1/\(mtk inter b).2.1<=3/\(mtk inter b).2.2.2<=b.length):=by
 obtain⟨⟨f,n⟩,ht⟩:=Ah (tk ((DX inter).map AK) b 25 1);by_cases a:f=0
 ·subst a;have c:=Qs ht;unfold mtk;rw[ht,Bc rfl]
  split
  next x _=>
   split
   ·exact .inl ⟨rfl,(show (6:Int)≠0 by decide)⟩
   ·refine .inr ⟨rfl,?_,?_,by assumption,?_,?_,c.2.1⟩ <;> simp only[sA,sB] <;> omega
  ·exact .inr ⟨rfl,by decide,by decide,by decide,by decide,by decide,Ds _⟩
 ·rw[QH inter ht a];exact .inl ⟨rfl,a⟩
theorem YF {all:List (ByteArray×Int)}{lo hi:Int}(c:lo<=0/\0<=hi)(a:∀x∈all,lo<=x.2/\x.2<=hi)(b:List UInt8):lo<=(gtk all b).1/\(gtk all b).1<=hi/\(gtk all b).2.2<=b.length:=by
 obtain⟨⟨f,n⟩,ht⟩:=Ah (tk (all.map AC) b 25 1);unfold gtk;by_cases d:f=0
 ·subst d;have e:=Qs ht;rw[ht,Bc rfl]
  split
  next x hx=>exact⟨(a x (Ks hx)).1,(a x (Ks hx)).2,e.2.1⟩
  ·exact⟨c.1,c.2,Ds _⟩
 ·rw[ht,Bb d];exact⟨c.1,c.2,Ds _⟩
theorem WY (intra:Bool)(b:List UInt8):0<=(ptk intra b).1/\(ptk intra b).1<=15/\(ptk intra b).2.2<=b.length:=
 YF (all:=DO intra) (lo:=0) (hi:=15) ⟨by decide,by decide⟩ (by cases intra <;> decide +kernel) b
theorem Y4 (b:List UInt8):-32<=(dtk b).1/\(dtk b).1<=31/\(dtk b).2.2<=b.length:=
 YF (all:=allD) (lo:=-32) (hi:=31) ⟨by decide,by decide⟩ (by decide +kernel) b
def F9 (b:List UInt8):Int×Int×Nat:=match b with|[]=>(0,2,0)|c::_=>(if c=49 then 1 else 0,0,1)
abbrev Stt:=Nat×Int
def C1 (k:List UInt8->Int×Int×Nat)(S:List UInt8)(st:Stt):Int×Stt:=
 if st.2=0 then ((k (S.drop st.1)).1,st.1+(k (S.drop st.1)).2.2,(k (S.drop st.1)).2.1) else (0,st)
def E6 (inter:Bool)(S:List UInt8)(st:Stt):Int×Int×Stt:=
 if st.2=0 then ((mtk inter (S.drop st.1)).1,(mtk inter (S.drop st.1)).2.1,st.1+(mtk inter (S.drop st.1)).2.2.2,(mtk inter (S.drop st.1)).2.2.1) else (0,0,st)
def CT (intra a:Bool)(S:List UInt8)(st:Stt):Int×List Ev×Stt:=
 if st.2=0 then ((btk S st.1 intra a).1,(btk S st.1 intra a).2.1,(btk S st.1 intra a).2.2.1,(btk S st.1 intra a).2.2.2) else (0,[],st)
def BD (inter:Bool)(S:List UInt8):Nat->Nat->Stt->Nat×Bool×Int×Int×Stt
 |0,_,st=>(0,false,0,0,st.1,13)
 |k+1,n,st=>
  if inter=true/\(C1 F9 S st).1=1 then (n,true,0,0,(C1 F9 S st).2) else
  if (E6 inter S (if inter then (C1 F9 S st).2 else st)).1=5 then BD inter S k (n+1) (E6 inter S (if inter then (C1 F9 S st).2 else st)).2.2 else
  (n,false,E6 inter S (if inter then (C1 F9 S st).2 else st))
def IA (S:List UInt8)(kind:Int)(st:Stt):Int×Stt:=if OC kind then C1 stk S st else (0,st)
def D1 (S:List UInt8)(a:Int)(st:Stt):Int×Stt:=(AF (AF a+(C1 dtk S st).1),(C1 dtk S st).2)
def H1 (S:List UInt8)(kind:Int)(x y:Int)(st:Stt):Int×Int×Stt:=
 if AD kind then (0,0,st) else ((D1 S x st).1,(D1 S y (D1 S x st).2).1,(D1 S y (D1 S x st).2).2)
def DE (c i:Nat):Bool:=c / 2^(5-i)%2==1
def stB (intra:Bool)(c:Nat)(S:List UInt8)(st:Stt):Nat->Stt
 |0=>st
 |i+1=>(CT intra (DE c i) S (stB intra c S st i)).2.2
def NZ (inter:Bool)(S:List UInt8)(st:Stt):Nat:=
 4*(C1 (ptk (AD (BD inter S 65 0 st).2.2.1)) S (BD inter S 65 0 st).2.2.2.2).1.toNat+(BD inter S 65 0 st).2.2.2.1.toNat
def st2 (inter:Bool)(S:List UInt8)(st:Stt):Stt:=(C1 (ptk (AD (BD inter S 65 0 st).2.2.1)) S (BD inter S 65 0 st).2.2.2.2).2
def st3 (inter:Bool)(S:List UInt8)(st:Stt):Stt:=(IA S (BD inter S 65 0 st).2.2.1 (st2 inter S st)).2
def st4 (inter:Bool)(S:List UInt8)(x y:Int)(st:Stt):Stt:=(H1 S (BD inter S 65 0 st).2.2.1 x y (st3 inter S st)).2.2
def H2 (inter:Bool)(S:List UInt8)(x y:Int)(st:Stt):Cel×Stt:=
 if (BD inter S 65 0 st).2.1 then ({Ec with stuff:=(BD inter S 65 0 st).1,skip:=true},(BD inter S 65 0 st).2.2.2.2) else
 ({stuff:=(BD inter S 65 0 st).1,skip:=false,kind:=(BD inter S 65 0 st).2.2.1,step:=(IA S (BD inter S 65 0 st).2.2.1 (st2 inter S st)).1,mx:=(H1 S (BD inter S 65 0 st).2.2.1 x y (st3 inter S st)).1,my:=(H1 S (BD inter S 65 0 st).2.2.1 x y (st3 inter S st)).2.1,dc:=fun i=>(CT (AD (BD inter S 65 0 st).2.2.1) (DE (NZ inter S st) i) S (stB (AD (BD inter S 65 0 st).2.2.1) (NZ inter S st) S (st4 inter S x y st) i)).1,ev:=fun i=>(CT (AD (BD inter S 65 0 st).2.2.1) (DE (NZ inter S st) i) S (stB (AD (BD inter S 65 0 st).2.2.1) (NZ inter S st) S (st4 inter S x y st) i)).2.1},
  stB (AD (BD inter S 65 0 st).2.2.1) (NZ inter S st) S (st4 inter S x y st) 6)
def ctk (inter:Bool)(S:List UInt8)(x y:Int)(p:Nat):Cel×Nat×Int:=
 if (H2 inter S x y (p,0)).2.2=0 then ((H2 inter S x y (p,0)).1,(H2 inter S x y (p,0)).2.1,0) else (Ec,p,(H2 inter S x y (p,0)).2.2)
theorem KI {k:List UInt8->Int×Int×Nat}{S:List UInt8}{p:Nat}:C1 k S (p,0)=((k (S.drop p)).1,p+(k (S.drop p)).2.2,(k (S.drop p)).2.1):=Bc rfl
theorem MF {k:List UInt8->Int×Int×Nat}{S:List UInt8}{st:Stt}(h:st.2≠0):C1 k S st=(0,st):=Bb h
theorem Tb {inter:Bool}{S:List UInt8}{p:Nat}:E6 inter S (p,0)=((mtk inter (S.drop p)).1,(mtk inter (S.drop p)).2.1,p+(mtk inter (S.drop p)).2.2.2,(mtk inter (S.drop p)).2.2.1):=Bc rfl
theorem UK {inter:Bool}{S:List UInt8}{st:Stt}(h:st.2≠0):E6 inter S st=(0,0,st):=Bb h
theorem TL {intra a:Bool}{S:List UInt8}{p:Nat}:CT intra a S (p,0)=((btk S p intra a).1,(btk S p intra a).2.1,(btk S p intra a).2.2.1,(btk S p intra a).2.2.2):=Bc rfl
theorem XK {intra a:Bool}{S:List UInt8}{st:Stt}(h:st.2≠0):CT intra a S st=(0,[],st):=Bb h
theorem SS {intra:Bool}{c:Nat}{S:List UInt8}{st:Stt}{i:Nat}(h:(stB intra c S st i).2≠0):∀k,stB intra c S st (i+k)=stB intra c S st i
 |0=>rfl
 |k+1=>by
  have a:=SS h k;show (CT intra (DE c (i+k)) S (stB intra c S st (i+k))).2.2=_;rw[a,XK h]
theorem Zp {S:List UInt8}{kind:Int}{st:Stt}(h:st.2≠0):IA S kind st=(0,st):=by
 unfold IA;rw[MF h]
 split <;> rfl
theorem Yo {S:List UInt8}{kind x y:Int}{st:Stt}(h:st.2≠0):(H1 S kind x y st).2.2=st:=by
 unfold H1 D1;rw[MF h]
 split
 ·rfl
 ·simp only;rw[MF h]
theorem kS {inter:Bool}{S:List UInt8}{x y:Int}{p:Nat}{f:Int}(a:f≠0)(h:(H2 inter S x y (p,0)).2.2=f):ctk inter S x y p=(Ec,p,f):=by
 unfold ctk;rw[h,Bb a]
theorem Sz {inter:Bool}{S:List UInt8}{x y:Int}{p q:Nat}{c:Cel}(h:H2 inter S x y (p,0)=(c,q,0)):ctk inter S x y p=(c,q,0):=by
 unfold ctk;rw[h,Bc rfl]
theorem cA {inter:Bool}{S:List UInt8}{x y:Int}{st:Stt}{n:Nat}{k c:Int}{b:Bool}{q:Nat}{f:Int}(h:BD inter S 65 0 st=(n,b,k,c,q,f))(a:f≠0):(H2 inter S x y st).2.2=f:=by
 have d:st2 inter S st=(q,f):=by unfold st2;rw[h,MF a]
 have e:st3 inter S st=(q,f):=by unfold st3;rw[h,d,Zp a]
 have g:st4 inter S x y st=(q,f):=by unfold st4;rw[e,Yo a]
 unfold H2;rw[g,h];simp only
 split
 ·rfl
 ·have:=SS (intra:=AD k) (c:=NZ inter S st) (S:=S) (st:=(q,f)) (i:=0) a 6;rw[Ar] at this;rw[this]
  rfl
theorem S5 {inter:Bool}{S:List UInt8}{x y:Int}{st a:Stt}{n:Nat}{k c:Int}(h:BD inter S 65 0 st=(n,true,k,c,a)):H2 inter S x y st=({Ec with stuff:=n,skip:=true},a):=by
 unfold H2;rw[h]
 rfl
theorem Sd {inter:Bool}{S:List UInt8}{k n:Nat}{st a:Stt}{v:Int}(hi:inter=true)(h:C1 F9 S st=(v,a))(hv:v=1):BD inter S (k+1) n st=(n,true,0,0,a):=by
 unfold BD;rw[h,Bc ⟨hi,hv⟩]
theorem PX {S:List UInt8}{k n:Nat}{st b st2:Stt}{v a c:Int}(h:C1 F9 S st=(v,b))(hv:v≠1)(h2:E6 true S b=(a,c,st2)):BD true S (k+1) n st=if a=5 then BD true S k (n+1) st2 else (n,false,a,c,st2):=by
 conv=>lhs;unfold BD
 rw[h,Bb (fun e=>hv e.2),Bc rfl,h2]
theorem R3 {S:List UInt8}{k n:Nat}{st st2:Stt}{a c:Int}(h2:E6 false S st=(a,c,st2)):BD false S (k+1) n st=if a=5 then BD false S k (n+1) st2 else (n,false,a,c,st2):=by
 conv=>lhs;unfold BD
 rw[Bb (fun e=>by cases e.1)];simp only[Aw,B8,h2]
theorem V9 (inter:Bool)(S:List UInt8):∀(j n:Nat) (st:Stt) (b:Nat) (d:Bool) (k c:Int) (st':Stt),BD inter S j n st=(b,d,k,c,st')->b<=n+j/\0<=k/\k<=4/\k≠2/\0<=c/\c<=3/\(d=true->k=0)
 |0,n,st,b,d,k,c,st',h=>by
  simp only[BD,Jd] at h;exact⟨by omega,by omega,by omega,by omega,by omega,by omega,fun _=>h.2.2.1.symm⟩
 |j+1,n,st,b,d,k,c,st',h=>by
  have g:∀a,(E6 inter S a).1≠5->0<=(E6 inter S a).1/\(E6 inter S a).1<=4/\(E6 inter S a).1≠2/\0<=(E6 inter S a).2.1/\(E6 inter S a).2.1<=3:=by
   intro a f;unfold E6 at f ⊢
   split at f
   next hz=>
    rw[Bc hz];simp only at f ⊢;rcases dT inter (S.drop a.1) with ⟨h1,_⟩|⟨o,h1,h2,h3,h4,i,_⟩
    ·rw[h1];refine⟨?_,?_,?_,?_,?_⟩ <;> simp
    ·exact⟨h1,by omega,h3,h4,i⟩
   next hz=>
    rw[Bb hz];refine⟨?_,?_,?_,?_,?_⟩ <;> simp
  unfold BD at h;generalize (if inter=true then (C1 F9 S st).2 else st)=p at h
  split at h
  ·simp only[Jd] at h;exact⟨by omega,by omega,by omega,by omega,by omega,by omega,fun _=>h.2.2.1.symm⟩
  ·split at h
   ·have:=V9 inter S j (n+1) _ b d k c st' h;exact⟨by omega,this.2⟩
   next f=>
    have h1:=g _ f;simp only[Jd] at h;obtain⟨q,l,m⟩:=h;rw[m] at h1;simp only at h1;exact⟨by omega,h1.1,h1.2.1,h1.2.2.1,h1.2.2.2.1,h1.2.2.2.2,fun e=>by rw[<-l] at e;cases e⟩
theorem Ux {inter:Bool}{S:List UInt8}{x y:Int}{st a c d b:Stt}{n:Nat}{k ch pt e mx my:Int}(h:BD inter S 65 0 st=(n,false,k,ch,a))(h2:C1 (ptk (AD k)) S a=(pt,c))(h3:IA S k c=(e,d))(h4:H1 S k x y d=(mx,my,b)):
  H2 inter S x y st=({stuff:=n,skip:=false,kind:=k,step:=e,mx:=mx,my:=my,dc:=fun i=>(CT (AD k) (DE (4*pt.toNat+ch.toNat) i) S (stB (AD k) (4*pt.toNat+ch.toNat) S b i)).1,ev:=fun i=>(CT (AD k) (DE (4*pt.toNat+ch.toNat) i) S (stB (AD k) (4*pt.toNat+ch.toNat) S b i)).2.1},stB (AD k) (4*pt.toNat+ch.toNat) S b 6):=by
 simp only[H2,st4,st3,st2,NZ,h,h2,h3,h4,Aw,B8]
theorem Qov (intra:Bool)(S:List UInt8)(st:Stt):0<=(C1 (ptk intra) S st).1/\(C1 (ptk intra) S st).1<=15:=by
 unfold C1
 split
 ·exact⟨(WY intra _).1,(WY intra _).2.1⟩
 ·constructor <;> simp
theorem XS (S:List UInt8)(st:Stt):-32<=(C1 dtk S st).1/\(C1 dtk S st).1<=31:=by
 unfold C1
 split
 ·exact⟨(Y4 _).1,(Y4 _).2.1⟩
 ·constructor <;> simp
end
section
open Go.RowKit Go.Lib
def D6 (w:A5)(pb rb:Nat)(s:ByteArray)(st:Stt):Prop:=
 w.heap[pb]? =some (.cells [.pointer (some ⟨rb,0,none⟩),.int .i64 st.2].toArray 212 (0,0))/\AI w rb s st.1/\rb<pb
theorem D6.lt {w:A5}{pb rb:Nat}{s:ByteArray}{st:Stt}(h:D6 w pb rb s st):pb<w.heap.size:=(Am.1 h.1).1
theorem D6.under {w x:A5}{pb rb N:Nat}{s:ByteArray}{st:Stt}(h:D6 w pb rb s st)(a:Below N w x)(b:pb<N):D6 x pb rb s st:=
 ⟨(a.block pb b).trans h.1,h.2.1.under a (by have:=h.2.2;omega),h.2.2⟩
theorem D6.store {w x:A5}{pb rb:Nat}{s:ByteArray}{st:Stt}{q:Nat}{f:Int}(h:D6 w pb rb s st)(hr:AI x rb s q)(b:w.grownBy x (some rb)):
  D6 (x.setCell ⟨pb,1,none⟩ (.int .i64 f)) pb rb s (q,f)/\Yb1 rb pb w (x.setCell ⟨pb,1,none⟩ (.int .i64 f)):=by
 have c:=(b.block pb h.lt (by have:=h.2.2;simp;omega)).trans h.1;have a:rb≠pb:=by have:=h.2.2;omega
 refine⟨⟨?_,⟨?_,hr.2⟩,h.2.2⟩,(Yb1.grown b (.inl rfl)).trans (Yb1.set _ (.inr rfl))⟩
 ·exact BF (o:=1) (.int .i64 f) c
 ·rw[Ib _ _ _ _ a];exact hr.1
def E4 (w:A5)(B:Nat)(v:A0)(L:List Ev):Prop:=∃(q:Option Addr) (cap:Nat),v=.slice q L.length cap/\D3 w q L/\EK B q
theorem E4.nil (w:A5)(B:Nat):E4 w B (.slice none 0 0) []:=⟨none,0,rfl,.inl rfl,EK.none _⟩
theorem E4.one {w:A5}{B:Nat}{v:A0}{L:List Ev}(h:E4 w B v L):v.oneCell'=true:=by
 obtain⟨q,cap,rfl,_⟩:=h
 rfl
theorem E4.from {w:A5}{A B:Nat}{v:A0}{L:List Ev}(h:E4 w B v L)(a:A<=B):E4 w A v L:=by
 obtain⟨q,cap,h1,h2,h3⟩:=h;exact⟨q,cap,h1,h2,h3.mono a⟩
theorem E4.moved {w x:A5}{a b B:Nat}{v:A0}{L:List Ev}(h:E4 w B v L)(hm:Yb1 a b w x)(j:a<B)(c:b<B):E4 x B v L:=by
 obtain⟨q,cap,h1,h2,h3⟩:=h;refine⟨q,cap,h1,?_,h3⟩;rcases h2 with h|⟨k,o,rfl,h4,d⟩
 ·exact .inl h
 ·have l:B<=k:=h3 _ rfl;have c:=hm.block k h4 (by omega) (by omega);refine .inr ⟨k,o,rfl,Bg h4 hm.size,fun i hi=>?_⟩;obtain⟨e,f,g⟩:=d i hi;exact⟨(G3 (a:=⟨k,o+i*3,none⟩) c).trans e,(G3 (a:=⟨k,o+i*3+1,none⟩) c).trans f,(G3 (a:=⟨k,o+i*3+2,none⟩) c).trans g⟩
theorem E4.below {w x:A5}{B:Nat}{v:A0}{L:List Ev}(h:E4 w B v L)(a:Below w.heap.size w x):E4 x B v L:=by
 obtain⟨q,cap,h1,h2,h3⟩:=h;exact⟨q,cap,h1,h2.below a,h3⟩
def RN (k:List UInt8->Int×Int×Nat)(s:ByteArray)(rb p:Nat)(w:A5)(e:Ad)(a:A5):Prop:=
 e=.returned (.tuple #[.int .i64 (k ((A2 s.data.toList).drop p)).1,.int .i64 (k ((A2 s.data.toList).drop p)).2.1])/\AI a rb s (p+(k ((A2 s.data.toList).drop p)).2.2)/\w.grownBy a (some rb)
def JT (k:List UInt8->Int×Int×Nat)(s:ByteArray)(pb rb:Nat)(st:Stt)(w:A5)(e:Ad)(a:A5):Prop:=
 e=.returned (.int .i64 (C1 k (A2 s.data.toList) st).1)/\D6 a pb rb s (C1 k (A2 s.data.toList) st).2/\Yb1 rb pb w a
theorem zW (s:ByteArray)(p:Nat)(h:p<=8*s.size):∃(v f:Int) (n:Nat),F9 ((A2 s.data.toList).drop p)=(v,f,n)/\ask s.data.toList p 1=(v,f)/\CF s.data.toList p 1=p+n:=by
 have c:s.data.toList.length=s.size:=rfl;have d:((A2 s.data.toList).drop p).length=8*s.size-p:=by rw[Bj,BO];rfl
 by_cases g:8*s.size<p+1
 ·have b:ask s.data.toList p 1=(0,2):=FM (by omega) (by rw[c];omega);refine⟨0,2,0,?_,b,by unfold CF;rw[b];rfl⟩;cases hd:(A2 s.data.toList).drop p with
  |nil=>rfl
  |cons a l=>rw[hd] at d;simp at d;omega
 ·have b:ask s.data.toList p 1=(((AE s.data.toList p 1:Nat):Int),0):=EL (by omega) (by rw[c];omega);obtain⟨t,ht,e,hd⟩:=Wj s p (by omega);rw[ht] at b;refine⟨t,0,1,?_,b,by unfold CF;rw[b];rfl⟩;cases hc:(A2 s.data.toList).drop p with
  |nil=>rw[hc] at hd;cases hd
  |cons a l=>
   rw[hc] at hd;have:a=UInt8.ofNat (48+t):=by simpa using hd
   subst this;rcases e with rfl|rfl <;> rfl
theorem mU (w:A5)(rb:Nat)(s:ByteArray)(p:Nat)(hr:AI w rb s p):A9 prog 225 #[.pointer (some ⟨rb,0,none⟩)] w (RN F9 s rb p w):=by
 have hc:=JF w rb s p 1 hr;obtain⟨v,f,n,c,d,ht⟩:=zW s p hr.2.1;unfold RN;rw[c];rw[d,ht] at hc;clear d ht c hr
 go_enter func225,ntmps225
 go_wp2_with fail
 refine hc.mono ?_;rintro e g ⟨rfl,a,b⟩
 go_wp2
 go_ret2
 exact⟨rfl,a,b⟩
theorem Uj {f : FuncId} {fn : Func} {c : Code} (hf : prog.funcs[f]? = some fn) (hname : (fn.name == "runtime.NumGoroutine") = false) (hb : fn.body = some c) (args : Array Value) (w : World) : (callFunc f args).run prog w = .ok (.enter f args) w := by
 have h1 : fn.name ≠ "runtime.NumGoroutine" := by simpa using hname
 simp[callFunc,hf,h1,hb]
theorem Tj (k:List UInt8->Int×Int×Nat)(d:FuncId)(w:A5)(pb rb:Nat)(s:ByteArray)(st:Stt)(hr:D6 w pb rb s st)(l:∀args x,(callFunc d args).run prog x=.ok (.enter d args) x)
  (a:AI w rb s st.1->A9 prog d #[.pointer (some ⟨rb,0,none⟩)] w (RN k s rb st.1 w)):
  A9 prog 211 #[.pointer (some ⟨pb,0,none⟩),.func (.func d) #[] #[]] w (JT k s pb rb st w):=by
 obtain⟨p,f⟩:=st;have j:=AA (o:=0) hr.1 rfl;have c1:=AA (o:=1) hr.1 rfl;simp only at j c1;unfold JT;by_cases h:f=0
 ·subst h;have a:=a hr.2.1;unfold RN at a;rw[KI];simp only at a ⊢;generalize k ((A2 s.data.toList).drop p)=z at a ⊢;obtain⟨v,f,n⟩:=z;simp only at a ⊢;have g:=Dp hr;clear hr
  go_enter func211,ntmps211
  go_wp2_with fail
  refine a.mono ?_;rintro e r ⟨rfl,c,b⟩;have i:=(b.block pb g.out.lt (by have:=g.out.2.2;simp;omega)).trans g.out.1;have m:=AZ (o:=1) i;have q:=AA (o:=1) i rfl;have ST:=Dp (g.out.store (f:=f) c b);clear c b i a j c1
  go_wp2
  go_ret
  exact⟨rfl,ST.out⟩
 ·rw[MF h];have t0:(f != 0)=true:=by simpa using h
  go_enter func211,ntmps211
  go_wp2
  go_ret
  exact⟨rfl,hr,Yb1.refl _ _ _⟩
section
variable {N:Nat}{w:A5}{pb rb:Nat}{s:ByteArray}{st:Stt}
theorem fK (hr:D6 w pb rb s st):A9 prog 211 #[.pointer (some ⟨pb,0,none⟩),.func (.func 225) #[] #[]] w (JT F9 s pb rb st w):=
 Tj F9 _ w pb rb s st hr (Uj func225 (by kernel_rfl) rfl) fun h=>mU w rb s st.1 h
theorem lE (ht:Ybw N w)(a:N<=rb)(hr:D6 w pb rb s st):A9 prog 211 #[.pointer (some ⟨pb,0,none⟩),.func (.func 212) #[] #[]] w (JT stk s pb rb st w):=
 Tj stk _ w pb rb s st hr (Uj func212 (by kernel_rfl) rfl) fun h=>(vT w rb s st.1 ht.steps (by have:=ht.lo.2.2.2.1;omega) h).mono fun _ _ h=>h
theorem WD (ht:Ybw N w)(hr:D6 w pb rb s st):A9 prog 211 #[.pointer (some ⟨pb,0,none⟩),.func (.func 213) #[] #[]] w (JT dtk s pb rb st w):=
 Tj dtk _ w pb rb s st hr (Uj func213 (by kernel_rfl) rfl) fun h=>(iW w rb s st.1 ht.mvd h).mono fun _ _ h=>h
end
theorem gZ {N:Nat}{w:A5}{pb rb:Nat}{s:ByteArray}{st:Stt}(intra:Bool)(ht:Ybw N w)(hr:D6 w pb rb s st):
  A9 prog 210 #[.pointer (some ⟨pb,0,none⟩),.bool intra] w (JT (ptk intra) s pb rb st w):=by
 obtain⟨p,f⟩:=st;have i:=AA (o:=0) hr.1 rfl;have c1:=AA (o:=1) hr.1 rfl;simp only at i c1;unfold JT;by_cases g:f=0
 ·subst g;have b:=lK intra w rb s p ht.pats hr.2.1;unfold Q4 at b;rw[KI];generalize ptk intra ((A2 s.data.toList).drop p)=z at b ⊢;obtain⟨v,f,n⟩:=z;simp only at b ⊢;have d:=Dp hr;clear hr ht
  go_enter func210,ntmps210
  go_wp2_with fail
  refine b.mono ?_;rintro e l ⟨rfl,c,a⟩;have h:=(a.block pb d.out.lt (by have:=d.out.2.2;simp;omega)).trans d.out.1;have j:=AZ (o:=1) h;have k:=AA (o:=1) h rfl;have ST:=Dp (d.out.store (f:=f) c a);clear c a h b i c1
  go_wp2
  go_ret
  exact⟨rfl,ST.out⟩
 ·rw[MF g];have t0:(f != 0)=true:=by simpa using g
  clear ht
  go_enter func210,ntmps210
  go_wp2
  go_ret
  exact⟨rfl,hr,Yb1.refl _ _ _⟩
def RM (inter:Bool)(s:ByteArray)(pb rb:Nat)(st:Stt)(w:A5)(e:Ad)(a:A5):Prop:=
 e=.returned (.tuple #[.int .i64 (E6 inter (A2 s.data.toList) st).1,.int .i64 (E6 inter (A2 s.data.toList) st).2.1])/\D6 a pb rb s (E6 inter (A2 s.data.toList) st).2.2/\Yb1 rb pb w a
theorem ZS {w:A5}{pb rb:Nat}{s:ByteArray}{st:Stt}(inter:Bool)(hr:D6 w pb rb s st):
  A9 prog 226 #[.pointer (some ⟨pb,0,none⟩),.bool inter] w (RM inter s pb rb st w):=by
 obtain⟨p,f⟩:=st;have i:=AA (o:=0) hr.1 rfl;have c1:=AA (o:=1) hr.1 rfl;simp only at i c1;unfold RM;by_cases g:f=0
 ·subst g;have b:=tB inter w rb s p hr.2.1;unfold Rx at b;rw[Tb];generalize mtk inter ((A2 s.data.toList).drop p)=z at b ⊢;obtain⟨v,l,f,n⟩:=z;simp only at b ⊢;have d:=Dp hr;clear hr
  go_enter func226,ntmps226
  go_wp2_with fail
  refine b.mono ?_;rintro e m ⟨rfl,c,a⟩;have h:=(a.block pb d.out.lt (by have:=d.out.2.2;simp;omega)).trans d.out.1;have j:=AZ (o:=1) h;have k:=AA (o:=1) h rfl;have ST:=Dp (d.out.store (f:=f) c a);clear c a h b i c1
  go_wp2
  go_ret2
  exact⟨rfl,ST.out⟩
 ·rw[UK g];have t0:(f != 0)=true:=by simpa using g
  go_enter func226,ntmps226
  go_wp2
  go_ret2
  exact⟨rfl,hr,Yb1.refl _ _ _⟩
def Uw (intra a:Bool)(s:ByteArray)(pb rb:Nat)(st:Stt)(w:A5)(e:Ad)(b:A5):Prop:=
 ∃v,e=.returned (.tuple #[.int .i64 (CT intra a (A2 s.data.toList) st).1,v])/\E4 b w.heap.size v (CT intra a (A2 s.data.toList) st).2.1/\D6 b pb rb s (CT intra a (A2 s.data.toList) st).2.2/\Yb1 rb pb w b
theorem kT {N:Nat}{w:A5}{pb rb:Nat}{s:ByteArray}{st:Stt}(intra c:Bool)(ht:Ybw N w)(hr:D6 w pb rb s st):
  A9 prog 214 #[.pointer (some ⟨pb,0,none⟩),.bool intra,.bool c] w (Uw intra c s pb rb st w):=by
 obtain⟨p,f⟩:=st;have u:=AA (o:=0) hr.1 rfl;have c1:=AA (o:=1) hr.1 rfl;simp only at u c1;unfold Uw;by_cases r:f=0
 ·subst r;have i:=vZ w rb s p intra c ht.tcoef hr.2.1;unfold Ss at i;rw[TL];generalize btk (A2 s.data.toList) p intra c=z at i ⊢;obtain⟨d,L,q,f⟩:=z;simp only at i ⊢;have h:=Dp hr;clear hr ht
  go_enter func214,ntmps214
  go_wp2_with fail
  refine i.mono ?_;rintro e x ⟨d1,B,f1,t1,m,a,cap,j,rfl,hm,k,l,g,n⟩;simp only[Jd] at j;obtain⟨rfl,rfl,rfl,rfl⟩:=j;have t:=(g.block pb h.out.lt (by have:=h.out.2.2;simp;omega)).trans h.out.1;have y:=AZ (o:=1) t;have A:=AA (o:=1) t rfl;have ST:=Dp (h.out.store (f:=f) l g)
  have v:=Dp ((show E4 x w.heap.size (.slice a L.length cap) L from⟨a,cap,rfl,k,n⟩).moved (Yb1.set (a:=pb) (b:=pb) (p:=⟨pb,1,none⟩) (.int .i64 f) (.inl rfl)) h.out.lt h.out.lt);rw[hm] at v;clear l g t i u c1 k n
  go_wp2
  go_ret2
  exact⟨_,rfl,v.out,ST.out⟩
 ·rw[XK r];have t0:(f != 0)=true:=by simpa using r
  clear ht
  go_enter func214,ntmps214
  go_wp2
  go_ret2
  exact⟨_,rfl,E4.nil _ _,hr,Yb1.refl _ _ _⟩
theorem Yb1.onto {a b N:Nat}{w x y:A5}(h:Yb1 a b w x)(c:Below N x y)(e:w.heap.size<=N):Yb1 a b w y:=
 ⟨c.os.trans h.os,c.tape.trans h.tape,c.output.trans h.output,Eg h.size c.size,fun k d h1 h2=>(c.block k (by omega)).trans (h.block k d h1 h2)⟩
theorem MQ {w x:A5}{R:Nat}(h:w.grownBy x (some R))(a:R<w.heap.size):Below R w x:=
 ⟨h.os,h.tape,h.output,h.size,fun k b=>h.block k (by omega) (by simp;omega)⟩
theorem D6.wrong {w:A5}{pb rb:Nat}{s:ByteArray}{st:Stt}(f:Int)(h:D6 w pb rb s st):
  D6 (w.setCell ⟨pb,1,none⟩ (.int .i64 f)) pb rb s (st.1,f)/\Yb1 rb pb w (w.setCell ⟨pb,1,none⟩ (.int .i64 f)):=
 h.store h.2.1 ⟨rfl,rfl,rfl,Ba _,fun _ _ _=>rfl⟩
theorem Qj (c:Cel)(sl:Nat->A0):(prog.info? 77).map (·.size)=some (AJ c sl).toArray.size:=by kernel_rfl
theorem PA (c:Cel)(sl:Nat->A0)(h:∀i,i<6->(sl i).oneCell'=true):(AJ c sl).toArray.all (·.oneCell')=true:=by
 rw[G7];intro v hv;have hm:v∈AJ c sl:=by simpa using hv
 simp only[AJ,Ei,Ej,Eo] at hm;rcases hm with rfl|rfl|rfl|rfl|rfl|rfl|rfl|rfl|rfl|rfl|rfl|rfl|rfl|rfl|rfl|rfl|rfl|rfl
 all_goals first|rfl|exact h _ (by omega)
def dV (inter:Bool)(s:ByteArray)(pb rb:Nat)(st:Stt)(w:A5)(e:Ad)(a:A5):Prop:=
 ∃(n:Nat) (b:Bool) (k c:Int) (st':Stt),BD inter (A2 s.data.toList) 65 0 st=(n,b,k,c,st')/\e=.returned (.tuple #[.agg (AJ {Ec with stuff:=n,skip:=b,kind:=k} nilS).toArray,.int .i64 c])/\D6 a pb rb s st'/\Yb1 rb pb w a
set_option maxRecDepth 100000 in
theorem kH {w:A5}{pb rb:Nat}{s:ByteArray}{st:Stt}(inter:Bool)(hr:D6 w pb rb s st):
  A9 prog 209 #[.pointer (some ⟨pb,0,none⟩),.bool inter] w (dV inter s pb rb st w):=by
 obtain⟨R,Q⟩:=Ah w.heap.size;obtain⟨S,D⟩:=Ah (w.alloc (.cells #[.int .i64 0,.bool false,.int .i64 0,.int .i64 0,.int .i64 0,.int .i64 0,.int .i64 0,.int .i64 0,.int .i64 0,.int .i64 0,.int .i64 0,.int .i64 0,.slice none 0 0,.slice none 0 0,.slice none 0 0,.slice none 0 0,.slice none 0 0,.slice none 0 0] 77 (0,0)))
 have K:Below R w S:=by rw[<-D,<-Q];exact(Dq _ w).alloc (Ba _) _
 have aa:S.heap.size=R+1:=by rw[<-D,<-Q];simp
 have hA:S.heap[R]? =some (.cells #[.int .i64 0,.bool false,.int .i64 0,.int .i64 0,.int .i64 0,.int .i64 0,.int .i64 0,.int .i64 0,.int .i64 0,.int .i64 0,.int .i64 0,.int .i64 0,.slice none 0 0,.slice none 0 0,.slice none 0 0,.slice none 0 0,.slice none 0 0,.slice none 0 0] 77 (0,0)):=by rw[<-D,<-Q];exact heap_alloc_new w _
 obtain⟨Y,hY⟩:∃Y:Array A0,#[.int .i64 0,.bool false,.int .i64 0,.int .i64 0,.int .i64 0,.int .i64 0,.int .i64 0,.int .i64 0,.int .i64 0,.int .i64 0,.int .i64 0,.int .i64 0,.slice none 0 0,.slice none 0 0,.slice none 0 0,.slice none 0 0,.slice none 0 0,.slice none 0 0]=Y:=⟨_,rfl⟩;have T:Y.size=18:=by rw[<-hY];rfl
 rw[hY] at hA;clear hY;have ab:∀(n k:Int) (H:Bool),Y.size=((#[.int .i64 n,.bool H,.int .i64 k,.int .i64 0,.int .i64 0,.int .i64 0,.int .i64 0,.int .i64 0,.int .i64 0,.int .i64 0,.int .i64 0,.int .i64 0,.slice none 0 0,.slice none 0 0,.slice none 0 0,.slice none 0 0,.slice none 0 0,.slice none 0 0]:Array A0)).size:=fun _ _ _=>T
 have I:∀(n k:Int) (H:Bool),(prog.info? 77).map (·.size)=some ((#[.int .i64 n,.bool H,.int .i64 k,.int .i64 0,.int .i64 0,.int .i64 0,.int .i64 0,.int .i64 0,.int .i64 0,.int .i64 0,.int .i64 0,.int .i64 0,.slice none 0 0,.slice none 0 0,.slice none 0 0,.slice none 0 0,.slice none 0 0,.slice none 0 0]:Array A0)).size:=fun n k H=>Qj {Ec with stuff:=n,skip:=H,kind:=k} nilS
 have C:∀(n k:Int) (H:Bool),((#[.int .i64 n,.bool H,.int .i64 k,.int .i64 0,.int .i64 0,.int .i64 0,.int .i64 0,.int .i64 0,.int .i64 0,.int .i64 0,.int .i64 0,.int .i64 0,.slice none 0 0,.slice none 0 0,.slice none 0 0,.slice none 0 0,.slice none 0 0,.slice none 0 0]:Array A0)).all (·.oneCell')=true:=fun n k H=>PA {Ec with stuff:=n,skip:=H,kind:=k} nilS fun _ _=>rfl
 have E:pb<R:=Q▸hr.lt;have af:rb<pb:=hr.2.2;have U:D6 S pb rb s st:=hr.under K E;have V:Yb1 rb pb w S:=(Yb1.refl rb pb w).onto K (by omega);have ac:=Dp D;have W:=Dp Q;have Z:=Dp ab;clear D Q T K hr
 go_enter func209,ntmps209
 go_wp2
 rw[ac.out,W.out]
 go_loopw [9] (fun z wr=>∃(i:Nat) (st':Stt),i<=65/\z=.int .i64 i/\D6 wr pb rb s st'/\Hid (BD inter (A2 s.data.toList) 65 0 st=BD inter (A2 s.data.toList) (65-i) i st')/\Yb1 rb pb w wr/\wr.heap[R]? =some (.cells Y 77 (0,0))/\R<wr.heap.size) (fun z _=>65-(intOf z).toNat)
 case atStart=>exact⟨0,st,by omega,rfl,U,Dp rfl,V,hA,by omega⟩
 case round=>
  clear U V hA aa;obtain⟨i,L,hi,rfl,p,hs,q,r,b⟩:=hrel;by_cases ag:i<65
  ·have t0:decide ((i:Int)<65)=true:=by simp;omega
   obtain⟨j,hj⟩:∃j,65-i=j+1:=⟨64-i,by omega⟩;have h:=hs.out;rw[hj] at h;have X:j=65-(i+1):=by omega
   have ad:=Dp X;clear hj X hs;cases inter with
   |true=>
    have cb:=fK p;unfold JT at cb;generalize J:C1 F9 (A2 s.data.toList) L=z at cb;obtain⟨v,st2⟩:=z;simp only at cb;have G:=Dp J;clear J;by_cases hv:v=1
    ·have F:=Dp (show BD true (A2 s.data.toList) 65 0 st=(i,true,0,0,st2) by rw[h];exact Sd rfl G.out hv);subst hv;clear h
     go_wp2_with fail
     refine cb.mono ?_;rintro e w2 ⟨rfl,l,hm⟩;have f:=(hm.block R b (by omega) (by omega)).trans r;have d:=Bg b hm.size;have g:=q.trans hm;clear cb hm p q r b
     go_wp2_with (with_reducible refine B4 rfl 77 _ _ rfl R _ Y rfl rfl 77 f (I _ _ _) (Z.out _ _ _) (C _ _ _) ?_;intro w5 y A)
     have m:=MQ A d;refine H5 (BQ rfl _ _ R 77 _ (0,0) _ rfl y Mu rfl (by kernel_rfl)) rfl ?_;exact⟨i,true,0,0,st2,F.out,rfl,l.under m E,g.onto m (M1 W.out)⟩
    ·have g1:(v==1)=false:=by simpa using hv
     have ae:=Dp hv;clear hv
     go_wp2_with fail
     refine cb.mono ?_;rintro e w3 ⟨rfl,l,hm⟩;have f:=(hm.block R b (by omega) (by omega)).trans r;have d:=Bg b hm.size;have g:=q.trans hm;clear cb hm p q r b;have B:=ZS true l;unfold RM at B;generalize u:E6 true (A2 s.data.toList) st2=z at B;obtain⟨a,c,st3⟩:=z;simp only at B;have x:=Dp u;clear u;by_cases t:a=5
     ·subst t;have F:=Dp (show BD true (A2 s.data.toList) 65 0 st=BD true (A2 s.data.toList) j (i+1) st3 by rw[h];exact(PX G.out ae.out x.out).trans (Bc rfl));clear h
      go_wp2_with fail
      refine B.mono ?_;rintro e w2 ⟨rfl,M,hm⟩;have N:=(hm.block R d (by omega) (by omega)).trans f;have O:=Bg d hm.size;have P:=g.trans hm;clear B hm l g f d
      go_wp2
      go_roundw
      case rel=>exact⟨i+1,st3,by omega,by go_num,M,Dp (by rw[F.out,ad.out]),P,N,O⟩
      case measure=>simp[intOf];omega
     ·have g5:(a != 5)=true:=by simpa using t
      have F:=Dp (show BD true (A2 s.data.toList) 65 0 st=(i,false,a,c,st3) by rw[h];exact(PX G.out ae.out x.out).trans (Bb t));clear h t
      go_wp2_with fail
      refine B.mono ?_;rintro e w2 ⟨rfl,M,hm⟩;have N:=(hm.block R d (by omega) (by omega)).trans f;have O:=Bg d hm.size;have P:=g.trans hm;clear B hm l g f d
      go_wp2_with (with_reducible refine B4 rfl 77 _ _ rfl R _ Y rfl rfl 77 N (I _ _ _) (Z.out _ _ _) (C _ _ _) ?_;intro w5 y A)
      have m:=MQ A O;refine H5 (BQ rfl _ _ R 77 _ (0,0) _ rfl y Mu rfl (by kernel_rfl)) rfl ?_;exact⟨i,false,a,c,st3,F.out,rfl,M.under m E,P.onto m (M1 W.out)⟩
   |false=>
    have B:=ZS false p;unfold RM at B;generalize u:E6 false (A2 s.data.toList) L=z at B;obtain⟨a,c,st2⟩:=z;simp only at B;have x:=Dp u;clear u;by_cases t:a=5
    ·subst t;have F:=Dp (show BD false (A2 s.data.toList) 65 0 st=BD false (A2 s.data.toList) j (i+1) st2 by rw[h];exact(R3 x.out).trans (Bc rfl));clear h
     go_wp2_with fail
     refine B.mono ?_;rintro e w2 ⟨rfl,l,hm⟩;have f:=(hm.block R b (by omega) (by omega)).trans r;have d:=Bg b hm.size;have g:=q.trans hm;clear B hm p q r b
     go_wp2
     go_roundw
     case rel=>exact⟨i+1,st2,by omega,by go_num,l,Dp (by rw[F.out,ad.out]),g,f,d⟩
     case measure=>simp[intOf];omega
    ·have g5:(a != 5)=true:=by simpa using t
     have F:=Dp (show BD false (A2 s.data.toList) 65 0 st=(i,false,a,c,st2) by rw[h];exact(R3 x.out).trans (Bb t));clear h t
     go_wp2_with fail
     refine B.mono ?_;rintro e w2 ⟨rfl,l,hm⟩;have f:=(hm.block R b (by omega) (by omega)).trans r;have d:=Bg b hm.size;have g:=q.trans hm;clear B hm p q r b
     go_wp2_with (with_reducible refine B4 rfl 77 _ _ rfl R _ Y rfl rfl 77 f (I _ _ _) (Z.out _ _ _) (C _ _ _) ?_;intro w5 y A)
     have m:=MQ A d;refine H5 (BQ rfl _ _ R 77 _ (0,0) _ rfl y Mu rfl (by kernel_rfl)) rfl ?_;exact⟨i,false,a,c,st2,F.out,rfl,l.under m E,g.onto m (M1 W.out)⟩
  ·obtain rfl:i=65:=by omega
   have t0:decide ((65:Int)<65)=false:=by simp
   have F:=Dp (show BD inter (A2 s.data.toList) 65 0 st=(0,false,0,0,L.1,13) by rw[hs.out];rfl);obtain⟨l,hm⟩:=p.wrong 13;have f:=(hm.block R b (by omega) (by omega)).trans r;have d:=Bg b hm.size;have g:=q.trans hm;have c1:=AA (o:=1) p.1 rfl;have ah:=AZ (o:=1) p.1;clear hs hm p q r b
   go_wp2_with (with_reducible refine B4 rfl 77 _ _ rfl R _ Y rfl rfl 77 f (I _ _ _) (Z.out _ _ _) (C _ _ _) ?_;intro w5 y A)
   have m:=MQ A d;refine H5 (BQ rfl _ _ R 77 _ (0,0) _ rfl y Mu rfl (by kernel_rfl)) rfl ?_;exact⟨0,false,0,0,_,F.out,rfl,l.under m E,g.onto m (M1 W.out)⟩
def LB (D:Cel)(i:Nat):Cel:={D with dc:=fun j=>if j<i then D.dc j else 0}
theorem cG (D:Cel)(i:Nat):{LB D i with dc:=GQ (LB D i).dc i (D.dc i)}=LB D (i+1):=by
 have h:GQ (LB D i).dc i (D.dc i)=(LB D (i+1)).dc:=by
  funext j
  show (if j=i then D.dc i else if j<i then D.dc j else 0)=if j<i+1 then D.dc j else 0
  by_cases e:j=i
  ·rw[Bc e,Bc (by omega),e]
  ·rw[Bb e];by_cases h:j<i
   ·rw[Bc h,Bc (by omega)]
   ·rw[Bb h,Bb (by omega)]
 rw[h]
 rfl
theorem oR (c:Cel)(sl:Nat->A0)(v:Int):∀i,i<6->(AJ c sl).set (6+i) (.int .i64 v)=AJ {c with dc:=GQ c.dc i v} sl
 |0,_=>rfl
 |1,_=>rfl
 |2,_=>rfl
 |3,_=>rfl
 |4,_=>rfl
 |5,_=>rfl
def Rg (sl:Nat->A0)(i:Nat)(v:A0):Nat->A0:=fun j=>if j=i then v else sl j
theorem kA (c:Cel)(sl:Nat->A0)(v:A0):∀i,i<6->(AJ c sl).set (12+i) v=AJ c (Rg sl i v)
 |0,_=>rfl
 |1,_=>rfl
 |2,_=>rfl
 |3,_=>rfl
 |4,_=>rfl
 |5,_=>rfl
theorem tF {c:Cel}{f:Nat->Int}{sl:Nat->A0}(h:∀i,i<6->c.dc i=f i):AJ c sl=AJ {c with dc:=f} sl:=by
 unfold AJ;rw[h 0 (by omega),h 1 (by omega),h 2 (by omega),h 3 (by omega),h 4 (by omega),h 5 (by omega)]
theorem nJ (D:Cel)(sl:Nat->A0):AJ (LB D 6) sl=AJ D sl:=tF (c:=LB D 6) (f:=D.dc) fun _ hi=>Bc hi
theorem VR (w:A5):(zeroValue 77).run prog w=.ok (.agg (AJ Ec nilS).toArray) w:=by
 have h:(prog.info? 77).map (fun i=>i.zero)=some (some (.agg (AJ Ec nilS).toArray)):=by kernel_rfl
 generalize (AJ Ec nilS).toArray=Z at h ⊢;cases hq:prog.info? 77 with
 |none=>simp[hq] at h
 |some i=>
  simp[hq] at h;simp[zeroValue,typeInfo,hq,h]
def LO (S:List UInt8)(x y:Int)(st:Stt):Nat->Int×Int×Stt
 |0=>(0,0,st)
 |1=>((D1 S x st).1,0,(D1 S x st).2)
 |_=>((D1 S x st).1,(D1 S y (D1 S x st).2).1,(D1 S y (D1 S x st).2).2)
theorem Qn8 {S:List UInt8}{k x y:Int}{st:Stt}(h:AD k=false):H1 S k x y st=LO S x y st 2:=by
 unfold H1;rw[h]
 rfl
structure Yx3 (w wr:A5) (pb rb A R C:Nat) (s:ByteArray) (x y:Int) (Y:Array A0) (st:Stt) (c:Cel) (sl:Nat->A0):Prop where
 rd:D6 wr pb rb s st
 mv:Yb1 rb pb w wr
 two:wr.heap[A]? =some (.cells #[.int .i64 x,.int .i64 y] 73 (0,0))
 res:wr.heap[R]? =some (.cells Y 77 (0,0))
 cel:wr.heap[C]? =some (.cells (AJ c sl).toArray 77 (0,0))
 lt:rb<pb/\pb<A/\A<R/\R<C/\C<wr.heap.size/\w.heap.size<=A
section
variable {w wr z:A5}{pb rb A R C:Nat}{s:ByteArray}{x y:Int}{Y:Array A0}{st st':Stt}{c c':Cel}{sl sl':Nat->A0}
theorem Yx3.move (h:Yx3 w wr pb rb A R C s x y Y st c sl)(hr:D6 z pb rb s st')(hm:Yb1 rb pb wr z):Yx3 w z pb rb A R C s x y Y st' c sl:=by
 obtain⟨b,d,e,f,a,g⟩:=h.lt;exact⟨hr,h.mv.trans hm,(hm.block A (by omega) (by omega) (by omega)).trans h.two,(hm.block R (by omega) (by omega) (by omega)).trans h.res,(hm.block C a (by omega) (by omega)).trans h.cel,b,d,e,f,Bg a hm.size,g⟩
theorem Yx3.set (h:Yx3 w wr pb rb A R C s x y Y st c sl)(o:Nat)(v:A0)(hs:(AJ c sl).set o v=AJ c' sl'):Yx3 w (wr.setCell ⟨C,o,none⟩ v) pb rb A R C s x y Y st c' sl':=by
 obtain⟨d,e,f,b,g,i⟩:=h.lt;have a:Below C wr (wr.setCell ⟨C,o,none⟩ v):=⟨rfl,rfl,rfl,by simp[World.setCell],fun k j=>Ib _ _ _ _ (by simp;omega)⟩;refine⟨h.rd.under a (by omega),h.mv.onto a (by omega),(a.block A (by omega)).trans h.two,(a.block R b).trans h.res,?_,d,e,f,b,Bg g a.size,i⟩;rw[<-hs];exact BF (o:=o) v h.cel
theorem Yx3.same (h:Yx3 w wr pb rb A R C s x y Y st c sl)(a:AJ c sl=AJ c' sl'):Yx3 w wr pb rb A R C s x y Y st c' sl':=
 ⟨h.rd,h.mv,h.two,h.res,a▸h.cel,h.lt⟩
end
theorem pT (c k:Nat):(bits .and .i64 ((c:Int) / 2^k) 1==1)=(c / 2^k%2==1):=by
 have h:=LR ((c:Int) / 2^k) 1 (by omega);have h2:((2:Int)^1-1)=1:=rfl;rw[h2] at h;rw[h];rw[Jr,Bm,Bm];have h3:((c:Int) / 2^k)=((c / 2^k:Nat):Int):=by simp
 rw[h3];omega
def dY (inter:Bool)(s:ByteArray)(pb rb:Nat)(x y:Int)(st:Stt)(w:A5)(e:Ad)(a:A5):Prop:=
 ∃(c:Cel) (st':Stt) (sl:Nat->A0),H2 inter (A2 s.data.toList) x y st=(c,st')/\e=.returned (.agg (AJ c sl).toArray)/\(∀i,i<6->E4 a w.heap.size (sl i) (c.ev i))/\D6 a pb rb s st'/\Yb1 rb pb w a
set_option maxRecDepth 100000 in
theorem gD {N:Nat}{w:A5}{pb rb:Nat}{s:ByteArray}{st:Stt}(inter:Bool)(x y:Int)(ht:Ybw N w)(hN:N<=rb)(hr:D6 w pb rb s st):
  A9 prog 193 #[.pointer (some ⟨pb,0,none⟩),.bool inter,.agg #[.int .i64 x,.int .i64 y]] w (dY inter s pb rb x y st w):=by
 obtain⟨Y,hY⟩:∃Y:Array A0,(AJ Ec nilS).toArray=Y:=⟨_,rfl⟩;have c7:∀w,(zeroValue 77).run prog w=.ok (.agg Y) w:=by rw[<-hY];exact VR
 obtain⟨A,wA,wB,hA,bd,bf,cf,cg,bg,bh,a0⟩:=NC w (.cells #[.int .i64 x,.int .i64 y] 73 (0,0)) (.cells Y 77 (0,0));have bi:pb<A:=hA▸hr.lt;have ci:rb<pb:=hr.2.2;have bj:D6 wB pb rb s st:=hr.under a0 bi;have bk:Yb1 rb pb w wB:=(Yb1.refl rb pb w).onto a0 (M1 hA);have bl:∀z,Yb1 rb pb w z->Ybw N z:=fun z hz=>ht.below (hz.under (by have:=hr.lt;omega) hN (by omega))
 have cb:=kH inter bj;have cx:=Dp hY;have cj:=Dp hA;have ck:=Dp bd;have cl:=Dp bf;have bm:=Dp bl;clear hY hA bd bf bl ht hr
 go_enter func193,ntmps193
 go_wp2_with fail
 rw[ck.out,cj.out,cl.out];refine cb.mono ?_;rintro e w1 ⟨n,sk,k,ch,T,aq,rfl,bn,U⟩;obtain⟨Z,hZ⟩:∃Z,(AJ {Ec with stuff:=n,skip:=sk,kind:=k} nilS).toArray=Z:=⟨_,rfl⟩;rw[hZ];obtain⟨C,hC⟩:=Ah w1.heap.size;obtain⟨w2,W⟩:=Ah (w1.alloc (.cells Z 77 (0,0)));have cy:Yx3 w w2 pb rb A (A+1) C s x y Y T {Ec with stuff:=n,skip:=sk,kind:=k} nilS:=by
  have ag:Below C w1 w2:=by rw[<-W,<-hC];exact(Dq _ w1).alloc (Ba _) _
  have c8:=U.size;refine⟨bn.under ag (by omega),(bk.trans U).onto ag (by have:=cj.out;omega),?_,?_,?_,ci,bi,by omega,by omega,by rw[<-W,<-hC];simp,M1 cj.out⟩
  ·exact(ag.block A (by omega)).trans ((U.block A (by omega) (by omega) (by omega)).trans bg)
  ·exact(ag.block (A+1) (by omega)).trans ((U.block (A+1) (by omega) (by omega) (by omega)).trans bh)
  ·rw[hZ,<-W,<-hC];exact heap_alloc_new w1 _
 have Q:(prog.info? 77).map (·.size)=some Z.size:=hZ▸Qj _ _;have ah:Y.size=Z.size:=by rw[<-hZ,<-cx.out];rfl
 have M:Z.all (·.oneCell')=true:=hZ▸PA _ _ fun _ _=>rfl;have cz:=Dp hZ;have c0:=Dp hC;have bo:=Dp W;have X:=Dp aq;have l:=Dp cy;clear hZ hC W aq cy bn U bj bk a0 bg bh cf cg cb;have aa:=l.out.cel;rw[cz.out] at aa;have ar:=l.out.res;have hC:=l.out.lt;have a1:=V9 _ _ _ _ _ _ _ _ _ _ X.out;cases sk with
 |true=>
  have c1:w2.cell? ⟨C,1,none⟩=some (.bool true):=AA (o:=1) l.out.cel rfl;obtain rfl:0=k:=(a1.2.2.2.2.2.2 rfl).symm;clear a1
  go_wp2_with (first|(with_reducible refine DA rfl 77 _ _ rfl Z Y 77 rfl rfl Q ah M ?_;rw[bo.out,c0.out])|(with_reducible refine Mt rfl 77 _ rfl C rfl 77 Z (0,0) _ aa Mu rfl Q ?_)|(with_reducible refine B4 rfl 77 _ _ rfl (A+1) Z Y rfl rfl 77 ar Q ah M ?_;intro w5 a2 ai))
  have ab:=MQ ai (by omega);refine H5 (H6 rfl _ _ (A+1) 77 _ (0,0) _ rfl a2 Mu rfl Q) rfl ?_;exact⟨_,T,nilS,S5 X.out,by rw[<-cz.out];rfl,fun i hi=>E4.nil _ _,l.out.rd.under ab (by omega),l.out.mv.onto ab (by omega)⟩
 |false=>
  obtain⟨b0,b1,b2,b3,b4,b5,_⟩:=a1;obtain⟨a,rfl⟩:∃a:Nat,ch=(a:Int):=⟨ch.toNat,by omega⟩;have c1:w2.cell? ⟨C,1,none⟩=some (.bool false):=AA (o:=1) l.out.cel rfl;have c2:w2.cell? ⟨C,2,none⟩=some (.int .i64 k):=AA (o:=2) l.out.cel rfl;have bp:Hid (k=0\/k=1\/k=3\/k=4):=Dp (by omega);obtain⟨t,a3⟩:=Ah (AD k);have a4:=Qov t (A2 s.data.toList) T
  have cp:=gZ t (bm.out _ l.out.mv) l.out.rd;unfold JT at cp;generalize bq:C1 (ptk t) (A2 s.data.toList) T=z at cp a4;obtain⟨pt,s2⟩:=z;simp only at cp a4;obtain⟨b,rfl⟩:∃b:Nat,pt=(b:Int):=⟨pt.toNat,by omega⟩;have cm:Hid (C1 (ptk (AD k)) (A2 s.data.toList) T=((b:Int),s2)):=Dp (by rw[a3];exact bq);obtain⟨E,a5⟩:=Ah (4*b+a);have c9:E<=63:=by omega
  have c3:(b:Int)<=15:=by omega
  have ho:bits .or .i64 ((b:Int)*4) (a:Int)=(E:Int):=(PG b 4 a 2 rfl (by omega) (by omega)).trans (by rw[a5]);have cn:=Dp a5;have aj:=Dp a3;clear a5 bq a3 b1 b2 b3
  go_upto_region 4 with (with_reducible refine DA rfl 77 _ _ rfl Z Y 77 rfl rfl Q ah M ?_;rw[bo.out,c0.out])
  go_cut [9] (fun v wx=>v=.bool t/\wx=w2)
  case first=>
   obtain rfl|rfl|rfl|rfl:=bp.out
   all_goals
    go_wp2
    go_meet
    case rel=>exact⟨by rw[<-aj.out];rfl,by trivial⟩
  case rest=>
   obtain⟨rfl,ac⟩:=hcut;rw[ac];clear ac
   go_wp2_with fail
   refine cp.mono ?_;rintro e w3 ⟨rfl,br,bs⟩;have a6:=l.out.move br bs;have d2:w3.cell? ⟨C,2,none⟩=some (.int .i64 k):=AA (o:=2) a6.cel rfl;have H:=Dp a6;clear cp a4 br bs l aa ar c1 c2 Q ah M a6
   go_upto_region 6 with fail
   go_cut [43] (fun v wx=>v=.bool (OC k)/\wx=w3)
   case first=>
    obtain rfl|rfl|rfl|rfl:=bp.out
    all_goals
     go_wp2
     go_meet
     case rel=>exact⟨by rfl,by trivial⟩
   case rest=>
   obtain⟨rfl,ac⟩:=hcut;rw[ac];clear ac d2;obtain⟨sk,a7⟩:=Ah (OC k);have c4:=Dp a7;rw[a7];clear a7
   go_upto_if 43 with fail
   go_cut [45] (fun v wx=>∃(J:Int) (f:Stt),IA (A2 s.data.toList) k s2=(J,f)/\Yx3 w wx pb rb A (A+1) C s x y Y f {Ec with stuff:=n,skip:=false,kind:=k,step:=J,mx:=0,my:=0} nilS)
   case first=>
    cases sk with
    |false=>
     go_wp2
     go_meet
     case rel=>exact⟨0,s2,by unfold IA;rw[c4.out];rfl,H.out⟩
    |true=>
     have cs:=lE (bm.out _ H.out.mv) hN H.out.rd;unfold JT at cs;generalize bt:C1 stk (A2 s.data.toList) s2=z at cs;obtain⟨J,f⟩:=z;simp only at cs;have co:Hid (IA (A2 s.data.toList) k s2=(J,f)):=Dp (by unfold IA;rw[c4.out];exact bt);clear bt
     go_wp2_with fail
     refine cs.mono ?_;rintro e w4 ⟨rfl,bu,bv⟩;have ak:=H.out.move bu bv;have e3:=AA (o:=3) ak.cel rfl;have f3:=AZ (o:=3) ak.cel;have B:=Dp (ak.set 3 (.int .i64 J) (c':={Ec with stuff:=n,skip:=false,kind:=k,step:=J,mx:=0,my:=0}) (sl':=nilS) rfl);clear cs bu bv ak
     go_wp2
     go_meet
     case rel=>exact⟨J,f,co.out,B.out⟩
   case rest=>
    obtain⟨J,f,au,bw⟩:=hcut;obtain⟨wk,rfl⟩:∃z,z=wc:=⟨_,rfl⟩;have bx:=Dp au;have B:=Dp bw;clear au bw H
    go_upto_if 48 with fail
    go_cut [49] (fun v wx=>∃(mx my:Int) (I:Stt),H1 (A2 s.data.toList) k x y f=(mx,my,I)/\Yx3 w wx pb rb A (A+1) C s x y Y I {Ec with stuff:=n,skip:=false,kind:=k,step:=J,mx:=mx,my:=my} nilS)
    case first=>
     cases t with
     |true=>
      go_wp2
      go_meet
      case rel=>exact⟨0,0,f,by unfold H1;rw[aj.out];rfl,B.out⟩
     |false=>
      go_wp2
      obtain⟨mx,I,al⟩:∃mx I,D1 (A2 s.data.toList) x f=(mx,I):=⟨_,_,rfl⟩;have bz:=Dp al;have a8:Hid (LO (A2 s.data.toList) x y f 0=(0,0,f)):=Dp rfl;have a9:Hid (LO (A2 s.data.toList) x y f 1=(mx,0,I)):=Dp (C6 (fun q=>(q.1,(0:Int),q.2)) al)
      have am:Hid (LO (A2 s.data.toList) x y f 2=(mx,(D1 (A2 s.data.toList) y I).1,(D1 (A2 s.data.toList) y I).2)):=Dp (by show ((D1 (A2 s.data.toList) x f).1,(D1 (A2 s.data.toList) y (D1 (A2 s.data.toList) x f).2).1,(D1 (A2 s.data.toList) y (D1 (A2 s.data.toList) x f).2).2)=_;rw[al]);clear al
      go_loopw [49] (fun z wr=>∃i:Nat,i<=2/\z=.int .i64 i/\Hid (Yx3 w wr pb rb A (A+1) C s x y Y (LO (A2 s.data.toList) x y f i).2.2 {Ec with stuff:=n,skip:=false,kind:=k,step:=J,mx:=(LO (A2 s.data.toList) x y f i).1,my:=(LO (A2 s.data.toList) x y f i).2.1} nilS)) (fun z _=>2-(intOf z).toNat)
      case atStart=>exact⟨0,by omega,rfl,Dp (by rw[a8.out];exact B.out)⟩
      case round=>
       clear B;obtain⟨i,da,rfl,c⟩:=hrel;obtain rfl|rfl|rfl:i=0\/i=1\/i=2:=by omega
       ·have g:Yx3 w wr pb rb A (A+1) C s x y Y f {Ec with stuff:=n,skip:=false,kind:=k,step:=J,mx:=0,my:=0} nilS:=by have h:=c.out;rw[a8.out] at h;exact h
        have p0:wr.cell? ⟨A,0,none⟩=some (.int .i64 x):=AA (cs:=[.int .i64 x,.int .i64 y]) g.two rfl;have r:=WD (bm.out _ g.mv) g.rd;unfold JT at r;have ad:=XS (A2 s.data.toList) f;have F:D1 (A2 s.data.toList) x f=(AF (AF x+(C1 dtk (A2 s.data.toList) f).1),(C1 dtk (A2 s.data.toList) f).2):=rfl;generalize C1 dtk (A2 s.data.toList) f=z at r ad F;obtain⟨dd,s6⟩:=z
        simp only at r ad F;have wl:=VM x;have wh:=Yl x;have K:=Dp F;have sw:IntKind.i64.wrap (AF x+dd)=AF x+dd:=Kp _ (by omega);generalize ae:AF x=p1 at K sw wl wh;have cw:=OB x;rw[ae] at cw;have af:=OB (p1+dd);generalize AF (p1+dd)=p2 at af K;clear c F ae
        go_wp2_with fail
        refine(cw _).mono ?_;rintro e w6 ⟨rfl,rfl⟩
        go_wp2_with fail
        refine r.mono ?_;rintro e w6 ⟨rfl,u,G⟩;have d:=g.move u G;have e4:=AA (o:=4) d.cel rfl;have f4:=AZ (o:=4) d.cel;have cq:=Dp (d.set 4 (.int .i64 p2) (c':={Ec with stuff:=n,skip:=false,kind:=k,step:=J,mx:=p2,my:=0}) (sl':=nilS) rfl);clear d u G r g
        go_wp2_with fail
        refine(af _).mono ?_;rintro e w8 ⟨rfl,rfl⟩
        go_wp2
        go_roundw
        case rel=>exact⟨1,by omega,by go_num,Dp (by rw[show LO (A2 s.data.toList) x y f 1=(p2,0,s6) from by rw[a9.out];exact C6 (fun q=>(q.1,(0:Int),q.2)) (bz.out.symm.trans K.out)];exact cq.out)⟩
        case measure=>simp[intOf]
       ·have g:Yx3 w wr pb rb A (A+1) C s x y Y I {Ec with stuff:=n,skip:=false,kind:=k,step:=J,mx:=mx,my:=0} nilS:=by have h:=c.out;rw[a9.out] at h;exact h
        have p0:wr.cell? ⟨A,1,none⟩=some (.int .i64 y):=AA (cs:=[.int .i64 x,.int .i64 y]) g.two rfl;have r:=WD (bm.out _ g.mv) g.rd;unfold JT at r;have ad:=XS (A2 s.data.toList) I;have F:D1 (A2 s.data.toList) y I=(AF (AF y+(C1 dtk (A2 s.data.toList) I).1),(C1 dtk (A2 s.data.toList) I).2):=rfl;generalize C1 dtk (A2 s.data.toList) I=z at r ad F;obtain⟨dd,s6⟩:=z
        simp only at r ad F;have wl:=VM y;have wh:=Yl y;have K:=Dp F;have sw:IntKind.i64.wrap (AF y+dd)=AF y+dd:=Kp _ (by omega);generalize ae:AF y=p1 at K sw wl wh;have cw:=OB y;rw[ae] at cw;have af:=OB (p1+dd);generalize AF (p1+dd)=p2 at af K;clear c F ae
        go_wp2_with fail
        refine(cw _).mono ?_;rintro e w6 ⟨rfl,rfl⟩
        go_wp2_with fail
        refine r.mono ?_;rintro e w6 ⟨rfl,u,G⟩;have d:=g.move u G;have e4:=AA (o:=5) d.cel rfl;have f4:=AZ (o:=5) d.cel;have cq:=Dp (d.set 5 (.int .i64 p2) (c':={Ec with stuff:=n,skip:=false,kind:=k,step:=J,mx:=mx,my:=p2}) (sl':=nilS) rfl);clear d u G r g
        go_wp2_with fail
        refine(af _).mono ?_;rintro e w8 ⟨rfl,rfl⟩
        go_wp2
        go_roundw
        case rel=>exact⟨2,by omega,by go_num,Dp (by rw[show LO (A2 s.data.toList) x y f 2=(mx,p2,s6) from am.out.trans (C6 (fun q=>(mx,q.1,q.2)) K.out)];exact cq.out)⟩
        case measure=>simp[intOf]
       ·have h:=c.out;rw[am.out] at h;have db:=Dp h;have b6:Hid (H1 (A2 s.data.toList) k x y f=(mx,(D1 (A2 s.data.toList) y I).1,(D1 (A2 s.data.toList) y I).2)):=Dp (by rw[Qn8 (S:=(A2 s.data.toList)) (k:=k) (x:=x) (y:=y) (st:=f) aj.out,am.out]);clear h c a8 a9 am bz;rw[show (Value.int .i64 ((2:Nat):Int))=.int .i64 2 from rfl]
        go_wp2
        go_meet
        case rel=>exact⟨_,_,_,b6.out,db.out⟩
    case rest=>
     obtain⟨mx,my,s5,av,g⟩:=hcut;obtain⟨wo,rfl⟩:∃z,z=wc:=⟨_,rfl⟩;have O:=Ux (inter:=inter) (x:=x) (y:=y) X.out cm.out bx.out av;rw[show ((b:Int)).toNat=b from rfl,show ((a:Int)).toNat=a from rfl,cn.out,aj.out] at O
     obtain⟨D,hD⟩:∃D:Cel,{stuff:=n,skip:=false,kind:=k,step:=J,mx:=mx,my:=my,dc:=fun i=>(CT t (DE E i) (A2 s.data.toList) (stB t E (A2 s.data.toList) s5 i)).1,ev:=fun i=>(CT t (DE E i) (A2 s.data.toList) (stB t E (A2 s.data.toList) s5 i)).2.1}=D:=⟨_,rfl⟩;rw[hD] at O
     have cr:=Dp (fun i=>(by rw[<-hD]:D.dc i=(CT t (DE E i) (A2 s.data.toList) (stB t E (A2 s.data.toList) s5 i)).1));have ct:=Dp (fun i=>(by rw[<-hD]:D.ev i=(CT t (DE E i) (A2 s.data.toList) (stB t E (A2 s.data.toList) s5 i)).2.1));have aw:Hid (Yx3 w wo pb rb A (A+1) C s x y Y (stB t E (A2 s.data.toList) s5 0) (LB D 0) nilS):=Dp (Yx3.same g (by rw[<-hD];rfl))
     have b7:=Dp O;clear O hD g av B
     go_wp2
     go_loopw [64] (fun z wr=>∃i:Nat,i<=6/\z=.int .i64 i/\∃sl,Hid (Yx3 w wr pb rb A (A+1) C s x y Y (stB t E (A2 s.data.toList) s5 i) (LB D i) sl/\(∀j,j<i->E4 wr (C+1) (sl j) (D.ev j))/\∀j,i<=j->sl j=.slice none 0 0)) (fun z _=>6-(intOf z).toNat)
     case atStart=>exact⟨0,by omega,rfl,nilS,Dp ⟨aw.out,fun j h=>absurd h (Fk j),fun _ _=>rfl⟩⟩
     case round=>
      clear aw;obtain⟨i,de,rfl,sl,c⟩:=hrel;by_cases an:i<6
      ·have t0:decide ((i:Int)<6)=true:=by simp;omega
       have cb:=kT t (DE E i) (bm.out _ c.out.1.mv) c.out.1.rd;unfold Uw at cb;have ba:(CT t (DE E i) (A2 s.data.toList) (stB t E (A2 s.data.toList) s5 i)).2.2=stB t E (A2 s.data.toList) s5 (i+1):=rfl;have ao:=cr.out i;have ap:=ct.out i;generalize CT t (DE E i) (A2 s.data.toList) (stB t E (A2 s.data.toList) s5 i)=z at cb ba ao ap;obtain⟨dv,L,s5⟩:=z
       simp only at cb ba ao ap;subst ba;have b8:=Dp ao;have cu:=Dp ap;have q1:IntKind.i64.wrap (5-(i:Int))=((5-i:Nat):Int):=(Kp _ (by omega)).trans (by omega);have q2:=pT E (5-i);have q3:decide (((5-i:Nat):Int)<0)=false:=by simp
       clear ao ap
       go_wp2_with fail
       refine cb.mono ?_;rintro e w6 ⟨v,rfl,cv,u,G⟩;have d:=c.out.1.move u G;have c5:=d.lt;have df:=c.out.1.lt;obtain⟨q,cap,rfl,ax,b9⟩:=cv;have e6:=AA (o:=6+i) d.cel (JM _ _ i an);have f6:=AZ (o:=6+i) d.cel;have R:=d.set (6+i) (.int .i64 dv) (oR _ _ dv i an);rw[<-b8.out,cG] at R;rw[b8.out] at R;have e7:=AA (o:=12+i) R.cel (JZ _ _ i an)
       have f7:=AZ (o:=12+i) R.cel;have ca:=R.set (12+i) (.slice q L.length cap) (kA _ _ _ i an);have bb:Yb1 C C w6 ((w6.setCell ⟨C,6+i,none⟩ (.int .i64 dv)).setCell ⟨C,12+i,none⟩ (.slice q L.length cap)):=(Yb1.set (a:=C) (b:=C) (p:=⟨C,6+i,none⟩) _ (.inl rfl)).trans (Yb1.set (a:=C) (b:=C) (p:=⟨C,12+i,none⟩) _ (.inl rfl))
       have cc:∀j,j<i+1->E4 ((w6.setCell ⟨C,6+i,none⟩ (.int .i64 dv)).setCell ⟨C,12+i,none⟩ (.slice q L.length cap)) (C+1) (Rg sl i (.slice q L.length cap) j) (D.ev j):=by
        intro j hj;unfold Rg;by_cases e:j=i
        ·rw[Bc e,e,cu.out];exact(show E4 w6 (C+1) _ _ from⟨q,cap,rfl,ax,b9.mono (by omega)⟩).moved bb (by omega) (by omega)
        ·rw[Bb e];exact((c.out.2.1 j (by omega)).moved G (by omega) (by omega)).moved bb (by omega) (by omega)
       have ce:∀j,i+1<=j->Rg sl i (.slice q L.length cap) j=.slice none 0 0:=fun j hj=>(Bb (by omega)).trans (c.out.2.2 j (by omega));have c6:=Dp (And.intro ca (And.intro cc ce));obtain⟨m,hm⟩:=Ah L.length;rw[c.out.2.2 i (Ba i)] at e7;rw[hm] at c6 ⊢;clear cb c u G d R ca bb cc ce ax b9 hm
       go_wp2
       go_roundw
       case rel=>exact⟨i+1,by omega,by go_num,_,c6⟩
       case measure=>simp[intOf];omega
      ·obtain rfl:i=6:=by omega
       have t0:decide ((6:Int)<6)=false:=by simp
       have bc:=c.out.1.cel;rw[nJ] at bc;have dg:=c.out.1.lt;have u:=c.out.1.res;have ay:=PA D sl fun j hj=>(c.out.2.1 j hj).one;have P:=Qj D sl;have az:Y.size=(AJ D sl).toArray.size:=by rw[<-cx.out];rfl
       obtain⟨V,hV⟩:=Ah ((AJ D sl).toArray);rw[hV] at bc ay P az;have dh:=Dp hV;clear hV
       go_wp2_with (first|(with_reducible refine Mt rfl 77 _ rfl C rfl 77 V (0,0) _ bc Mu rfl P ?_)|(with_reducible refine B4 rfl 77 _ _ rfl (A+1) V Y rfl rfl 77 u P az ay ?_;intro w5 a2 ai))
       have ab:=MQ ai (by omega);refine H5 (H6 rfl _ _ (A+1) 77 _ (0,0) _ rfl a2 Mu rfl P) rfl ?_;exact⟨D,_,sl,b7.out,by rw[dh.out],fun j hj=>((c.out.2.1 j hj).moved (Yb1.grown ai (.inl rfl):Yb1 (A+1) (A+1) _ _) (by omega) (by omega)).from (by omega),c.out.1.rd.under ab (by omega),c.out.1.mv.onto ab (by omega)⟩
end
section
theorem Qf (r m:List UInt8):r.isPrefixOf (r++m)=true:=Jq.2 (Ka _ _)
theorem gH (inter:Bool)(a b:Int)(r:ByteArray)(hr:AY inter a b=r)(e:r.data.toList.isEmpty=false)(m:List UInt8):
  mtk inter (r.data.toList++m)=if a=2 then (0,0,6,0) else (a,b,0,r.size):=by
 by_cases hn:a<0\/5<a\/b<0\/3<b\/(a=5/\0<b)
 ·rw[MJ hn] at hr;rw[<-hr] at e;cases e
 obtain⟨k,rfl⟩:∃k:Nat,a=k:=⟨a.toNat,by omega⟩;obtain⟨c,rfl⟩:∃c:Nat,b=c:=⟨b.toNat,by omega⟩;obtain⟨g,j,l⟩:=aR inter k c (by omega) (by omega);rw[hr] at g;have d:AK (HU inter (4*k+c))=r.data.toList:=by unfold AK;rw[g]
 have f:HU inter (4*k+c)∈DX inter:=pX (by omega) (by rw[d,e];rfl);obtain⟨h1,h2,h3⟩:=GK (SY inter _ f);rw[d] at h1 h2 h3;have h:r.data.toList.length=r.size:=rfl;have o:=L0.2 h1;have ht:=R4 (Sx inter) (b:=r.data.toList++m) (r:=r.data.toList) (by rw[<-d];exact Ko f) (Qf _ _) (k:=25) (n:=1) (by omega) (by omega)
 have i:=Tr inter ht f (by rw[d];exact(FJ.1 (Qf _ _)).symm);rw[j,l] at i;exact i
theorem pY (intra:Bool)(k:Nat)(c:k<16)(r:ByteArray)(hr:DF intra k=r)(m:List UInt8):ptk intra (r.data.toList++m)=((k:Int),0,r.size):=by
 have e:JN intra (EM intra k)=(r,((EM intra (EM intra k):Nat):Int)):=by rw[aC intra _ (Qr c),<-Ub c rfl,hr]
 have d:JN intra (EM intra k)∈DO intra:=rW intra (Qr c);have a:AC (JN intra (EM intra k))=r.data.toList:=by rw[e];rfl
 obtain⟨h1,h2,h3⟩:=GK (RU intra _ d);rw[a] at h1 h2 h3;have f:r.data.toList.length=r.size:=rfl;have h:=L0.2 h1;have ht:=R4 (UD intra) (b:=r.data.toList++m) (r:=r.data.toList) (by rw[<-a];exact Ko d) (Qf _ _) (k:=25) (n:=1) (by omega) (by omega);have g:=XQ intra ht d (by rw[a];exact(FJ.1 (Qf _ _)).symm);rw[e,nV c] at g;exact g
theorem lP {d:Int}(hd:-32<=d/\d<=31)(r:ByteArray)(hr:B3 d=r)(m:List UInt8):dtk (r.data.toList++m)=(d,0,r.size):=by
 obtain⟨j,hj⟩:∃j:Nat,d=(j:Int)-32:=⟨(d+32).toNat,by omega⟩;have c:j<64:=by omega
 have a:AC (JG j)=r.data.toList:=by
  show (B3 ((j:Int)-32)).data.toList=_;rw[<-hj,hr]
 have ht:=Ui c (b:=r.data.toList++m) (by rw[a];exact Qf _ _);rw[a,<-hj] at ht;exact ht
theorem pH {s:Int}(hs:s = -1\/s = -2\/s=1\/s=2)(m:List UInt8):stk ((C0 s).data.toList++m)=(s,0,2):=by
 rcases hs with rfl|rfl|rfl|rfl
 all_goals
  rw[Tx (by simp[C0])]
  rfl
theorem vW (inter:Bool):∀x∈DX inter,AY inter (sA x.2) (sB x.2)=x.1:=by
 cases inter <;> decide +kernel
theorem nR {inter:Bool}{B:List UInt8}{a b:Int}{n:Nat}(h:mtk inter B=(a,b,0,n)):
  B.take n=(AY inter a b).data.toList/\n=(AY inter a b).size/\n<=B.length/\(AY inter a b).data.toList.isEmpty=false/\a≠2:=by
 obtain⟨⟨f,k⟩,ht⟩:=Ah (tk ((DX inter).map AK) B 25 1);by_cases d:f=0
 ·subst d;obtain⟨h1,h2,h3⟩:=Qs ht;obtain⟨x,g,c⟩:=Gf.1 h1;rw[Tr inter ht g c] at h
  split at h
  ·simp at h
  next h5=>
   simp only[Jd,Jf] at h;obtain⟨rfl,rfl,rfl⟩:=h;rw[vW inter x g];have e:x.1.data.toList=B.take k:=c;have hl:x.1.data.toList.length=k:=by rw[e,Bf];omega
   refine⟨e.symm,hl.symm,h2,?_,h5⟩;cases hq:x.1.data.toList with
   |nil=>rw[hq] at hl;simp at hl;omega
   |cons _ _=>rfl
 ·rw[QH inter ht d] at h;simp only[Jd] at h;exact absurd h.2.2.1 d
theorem RX {all:List (ByteArray×Int)}{F:Int->ByteArray}(hF:∀x∈all,F x.2=x.1){B:List UInt8}{v:Int}{n:Nat}(h:gtk all B=(v,0,n)):
  B.take n=(F v).data.toList/\n=(F v).size/\n<=B.length/\∃x∈all,x.2=v:=by
 obtain⟨⟨f,k⟩,ht⟩:=Ah (tk (all.map AC) B 25 1);unfold gtk at h;rw[ht] at h;by_cases a:f=0
 ·subst a;obtain⟨h1,h2,h3⟩:=Qs ht;rw[Bc rfl] at h
  split at h
  next x hx=>
   simp only[Jd,Jf] at h;obtain⟨rfl,rfl⟩:=h;have hm:=Ks hx;have e:x.1.data.toList=B.take k:=by simpa [AC] using Kx hx
   rw[hF x hm];exact⟨e.symm,by have:=C6 List.length e;rw[Bf] at this;have h2:x.1.data.toList.length=x.1.size:=rfl;omega,h2,x,hm,rfl⟩
  next hx=>
   obtain⟨y,c,b⟩:=Gf.1 h1;have:=Ku.1 hx y c;rw[b] at this;simp at this
 ·rw[Bb a] at h;simp only[Jd] at h;exact absurd h.2.1 a
theorem fX (intra:Bool):∀x∈DO intra,DF intra x.2=x.1:=by
 cases intra <;> decide +kernel
theorem cW {intra:Bool}{B:List UInt8}{v:Int}{n:Nat}(h:ptk intra B=(v,0,n)):B.take n=(DF intra v).data.toList/\n=(DF intra v).size/\n<=B.length/\0<=v/\v<16:=by
 obtain⟨h1,h2,h3,x,a,hv⟩:=RX (fX intra) (show gtk (DO intra) B=(v,0,n) from h);have b:∀x∈DO intra,0<=x.2/\x.2<16:=by cases intra <;> decide +kernel
 exact⟨h1,h2,h3,hv▸(b x a).1,hv▸(b x a).2⟩
theorem oB:∀x∈allD,B3 x.2=x.1:=by decide +kernel
theorem zJ {B:List UInt8}{d:Int}{n:Nat}(h:dtk B=(d,0,n)):B.take n=(B3 d).data.toList/\n=(B3 d).size/\n<=B.length∧-32<=d/\d<=31:=by
 obtain⟨h1,h2,h3,x,a,hv⟩:=RX oB (show gtk allD B=(d,0,n) from h);have b:∀x∈allD,-32<=x.2/\x.2<=31:=by decide +kernel
 exact⟨h1,h2,h3,hv▸(b x a).1,hv▸(b x a).2⟩
theorem qN {B:List UInt8}{s:Int}{n:Nat}(b:AL B=true)(h:stk B=(s,0,n)):B.take n=(C0 s).data.toList/\n=2/\2<=B.length/\(s = -1\/s = -2\/s=1\/s=2):=by
 by_cases hl:B.length<2
 ·rw[bT hl] at h;simp at h
 ·rw[Tx (by omega)] at h;simp only[Jd,Jf] at h;obtain⟨rfl,rfl⟩:=h;have hr:=KR (B.take 2) (I1 _ _ b);have h4:=M2 B b 2 (by omega);have a:(B.take 2).length=2:=by rw[Bf];omega
  rw[a] at hr;generalize num (B.take 2)=v at hr h4;rw[<-hr]
  match v,h4 with
  |0,_=>exact⟨rfl,rfl,by omega,.inl rfl⟩
  |1,_=>exact⟨rfl,rfl,by omega,.inr (.inl rfl)⟩
  |2,_=>exact⟨rfl,rfl,by omega,.inr (.inr (.inl rfl))⟩
  |3,_=>exact⟨rfl,rfl,by omega,.inr (.inr (.inr rfl))⟩
theorem cZ:∀x∈allT,IM x.2.toNat=x.1:=by
 intro x a;obtain⟨i,_,rfl⟩:=Gf.1 a;show IM ((i:Int)).toNat=IM i;rw[Dr]
theorem UF {B:List UInt8}{n v:Nat}(a:AL B=true)(hl:n<=B.length)(hv:num (B.take n)=v):B.take n=AB v n:=by
 have h:=KR (B.take n) (I1 _ _ a);rw[hv,Bf,Bw hl] at h;exact h.symm
theorem WJ {B:List UInt8}{n m:Nat}(a:AL B=true)(hl:n+m<=B.length):∃r,r<2^m/\num (B.take (n+m))=num (B.take n)*2^m+r:=by
 refine⟨num ((B.drop n).take m),?_,?_⟩
 ·exact M2 (B.drop n) (FR _ _ a) m (by rw[Bj];omega)
 ·have e:B.take (n+m)=B.take n++(B.drop n).take m:=D9;have hm:((B.drop n).take m).length=m:=by rw[Bf,Bj];omega
  rw[e,MI,hm]
theorem kO {B:List UInt8}(g:AL B=true){l:Bool}{r n:Nat}{v:Int}(h:etk B=((l,r,v),0,n)):DY r v=true/\B.take n=(DL l r v).data.toList/\n<=B.length/\0<n:=by
 obtain⟨⟨T,f,k⟩,a⟩:=Ah (gtk allT B);by_cases j:f=0
 ·subst j;obtain⟨h1,h2,h3,x,t,u⟩:=RX (F:=fun v=>IM v.toNat) cZ a;obtain⟨i,w,rfl⟩:=Gf.1 t;have hi:i<103:=Bt.1 w;have y:T=(i:Int):=u.symm;subst y;rw[Dr] at h1 h2;obtain⟨c1,c2,c3,c4⟩:=IY i hi;have U:k=AU i:=h2.trans (by show (AB (DK i) (AU i)).toArray.size=_;simp[BB]);subst U;have z:B.take (AU i)=AB (DK i) (AU i):=h1
  have c:num (B.take (AU i))=DK i:=by rw[z,IF,Bp c3]
  by_cases hl:B.length<if i=102 then 22 else AU i+1
  ·rw[XV a hl] at h;simp at h
  by_cases b:i=102
  ·subst b;rw[Bc rfl] at hl;rw[UU a (by omega)] at h
   split at h
   next hc=>
    rw[Al,Lc] at hc;have W:AU 102=7:=by decide +kernel
    have X:DK 102=3:=by decide +kernel
    rw[W,X] at c;obtain⟨q,Y,hs⟩:=WJ (n:=7) (m:=15) g (by omega);rw[c] at hs;have hs:num (B.take 22)=3*2^15+q:=hs;generalize Z:num (B.take 22)=V at h hc hs;simp only[Jd,Jf] at h;obtain⟨o,rfl⟩:=h;rw[o] at hc;obtain⟨hr,d⟩:=hc;simp only at hr d;have A:(V / 16384%2==1)=l:=(Mz o).1;have C:V / 256%64=r:=(Mz (Mz o).2).1
    have D:(if 127<V%256 then ((V%256:Nat):Int)-256 else ((V%256:Nat):Int))=v:=(Mz (Mz o).2).2;have E:l.toNat=V / 16384%2:=by
     rw[<-A];rcases Mx (V / 16384) with e|e <;> simp[e]
    have G:(v%256).toNat=V%256:=by
     rw[<-D]
     split <;> omega
    have H:DD l r v=V:=by
     unfold DD;rw[Bb (by simp[d]),E,G,<-C];omega
    have I:DC l r v=22:=by
     unfold DC;rw[Bb (by simp[d])]
    refine⟨hr,?_,by omega,by omega⟩;rw[UF g (by omega) Z];unfold DL;rw[Bc hr,Dr,H,I]
   ·simp at h
  ·rw[Bb b] at hl;rw[Uf a b (by omega)] at h;obtain⟨⟨p,s,N⟩,_,O,P⟩:=aZ i (by omega);obtain⟨x,t⟩:=Ah (evT i);rw[t] at p s N O P h;obtain⟨Q,J,am⟩:=x;simp only at p s N O P;simp only[NE,Jd,Jf] at h;obtain⟨⟨rfl,rfl,hv⟩,rfl⟩:=h;obtain⟨q,Y,hs⟩:=WJ (n:=AU i) (m:=1) g (by omega);rw[c] at hs;have hs:num (B.take (AU i+1))=DK i*2+q:=hs
   have K:q=0\/q=1:=by omega
   have L:v.natAbs=am/\(if v<0 then 1 else 0)=q∧-12<=v/\v<=12/\v≠0:=by
    rcases K with rfl|rfl
    ·rw[Bb (by rw[hs];simp)] at hv;subst hv;exact⟨by simp,Bb (by omega),by omega,by omega,by omega⟩
    ·rw[Bc (by rw[hs];simp)] at hv;subst hv;exact⟨by simp,Bc (by omega),by omega,by omega,by omega⟩
   obtain⟨R,k2,k3,k4,k5⟩:=L;have hr:DY (J:Int) v=true:=JK.2 ⟨by omega,by omega,by omega,by omega,k5⟩;have H:DD Q J v=DK i*2+q:=by
    unfold DD;rw[R,Bc p,s,k2];omega
   have I:DC Q J v=AU i+1:=by
    unfold DC;rw[R,Bc p,s]
   refine⟨hr,?_,by omega,by omega⟩;rw[UF g (by omega) hs];unfold DL;rw[Bc hr,Dr,H,I]
 ·have M:gtk allT B=(0,f,0):=by
   obtain⟨⟨f',k'⟩,ht⟩:=Ah (tk (allT.map AC) B 25 1);by_cases S:f'=0
   ·subst S;unfold gtk at a;rw[ht,Bc rfl] at a
    split at a <;> (simp only[Jd] at a;exact absurd a.2.1.symm j)
   ·rw[NK ht S] at a ⊢;simp only[Jd] at a;rw[a.2.1]
  rw[WF M j] at h;simp only[Jd] at h;exact absurd h.2.1 j
theorem Yt (x:Ev)(l:List Ev):BS (x::l)=(CW x).data.toList++BS l:=rfl
theorem bA {S:List UInt8}(q:AL S=true)(a:Nat):∀(k:Nat) (acc:List Ev) (p m:Nat) (L:List Ev) (t:Nat),p<=S.length->CX S k acc p m=(L,0,t)->(lvS a acc).1=m->
  (∀j,(hj:j<acc.length)->acc[j].1=false/\DY acc[j].2.1 acc[j].2.2=true/\(lvS a (acc.take j)).1+acc[j].2.1.toNat<64)->
  ∃e,L=acc++e/\0<e.length/\p<=t/\t<=S.length/\(S.drop p).take (t-p)=BS e/\DQ a L L.length=false
 |0,acc,p,m,L,t,hp,h,hm,hall=>by
  simp[CX] at h
 |k+1,acc,p,m,L,t,hp,h,hm,hall=>by
  obtain⟨⟨⟨l,r,v⟩,f,n⟩,g⟩:∃x,etk (S.drop p)=x:=⟨_,rfl⟩;by_cases i:f=0
  ·subst i;obtain⟨hr,c,hn,s⟩:=kO (FR _ _ q) g;rw[Bj] at hn;by_cases o:63<m+r
   ·rw[Za g o] at h;simp at h
   have hfit:∀j,(hj:j<acc.length)->∀L',(u:acc.length<L'.length)->(∀(w:j<L'.length),L'[j]=acc[j])->L'.take j=acc.take j->EN a L' j acc[j]=true:=by
    intro j hj L' u _ ht;obtain⟨y,z,A⟩:=hall j hj;unfold EN;rw[ht,y,z];simp only[Gr,Al,Bm,Au];exact⟨by rw[eq_comm,Lb];omega,A⟩
   cases l with
   |true=>
    rw[Tq g (by omega)] at h;simp only[Jd,Jf] at h;obtain⟨rfl,rfl⟩:=h;refine⟨[(true,(r:Int),v)],rfl,by simp,by omega,by omega,?_,?_⟩
    ·rw[Bv,c,Yt];simp[CW,BS]
    ·refine Q3 _ (Ba _) fun j hj _=>?_;by_cases b:j<acc.length
     ·rw[Mw b];exact hfit j b _ (by simp) (fun _=>Mw b) (by rw[Cb (by omega)])
     ·have d:j=acc.length:=by simp at hj;omega
      subst d;rw[My (Ba _)];simp only[Ci,Ju];unfold EN;rw[Cb (Ba _),Js,hm,hr];simp;omega
   |false=>
    rw[Uc g (by omega)] at h;obtain⟨e,B,F,G,C,D,E⟩:=bA q a k (acc++[(false,(r:Int),v)]) (p+n) (m+r+1) L t (by omega) h (by rw[WR,hm];simp) (fun j hj=>by
     by_cases b:j<acc.length
     ·rw[Mw b,Cb (by omega)];exact hall j b
     ·have d:j=acc.length:=by simp at hj;omega
      subst d;rw[My (Ba _)];simp only[Ci,Ju];rw[Cb (Ba _),Js,hm];exact⟨by simp,hr,by simp;omega⟩)
    refine⟨(false,(r:Int),v)::e,by rw[B,Bd];rfl,by simp,by omega,C,?_,E⟩;rw[show t-p=n+(t-(p+n)) by omega,D9,c,Cr,Yt,D]
    rfl
  ·rw[YB g i] at h;simp only[Jd] at h;exact absurd h.2.1 i
theorem xQ {B:List UInt8}(f:AL B=true){i:Bool}{d:Int}{n:Nat}(h:dcT B i=(d,0,n)):B.take n=dcB i d/\n<=B.length/\HL i d=true/\n=8*BA i:=by
 cases i with
 |false=>
  rw[dA] at h;simp only[Jd,Jf] at h;obtain⟨rfl,rfl⟩:=h;exact⟨rfl,Ds _,rfl,rfl⟩
 |true=>
  by_cases g:B.length<8
  ·rw[Vg g] at h;simp at h
  have j:=M2 B f 8 (by omega);have b:=fun v (hv:num (B.take 8)=v)=>UF f (by omega) hv;by_cases c:num (B.take 8)=0\/num (B.take 8)=128
  ·rw[UG (by omega) c] at h;simp at h
  by_cases a:num (B.take 8)=255
  ·rw[U0 (by omega) a] at h;simp only[Jd,Jf] at h;obtain⟨rfl,rfl⟩:=h;exact⟨b 255 a,by omega,rfl,rfl⟩
  ·rw[TJ (by omega) rfl (fun e=>c (.inl e)) (fun e=>c (.inr e)) a] at h;simp only[Jd,Jf] at h;obtain⟨rfl,rfl⟩:=h;refine⟨?_,by omega,?_,rfl⟩
   ·refine(b _ rfl).trans ?_;unfold dcB;rw[Bc rfl,Bb (by omega),Dr]
   ·rw[Wc,Al,Fi,Fi];omega
theorem eO {S:List UInt8}(g:AL S=true){p t:Nat}{i c:Bool}{d:Int}{L:List Ev}(w:p<=S.length)(h:btk S p i c=(d,L,t,0)):
  p<=t/\t<=S.length/\(S.drop p).take (t-p)=BE i d L/\CS i d L=true/\decide (0<L.length)=c:=by
 obtain⟨⟨x,f,n⟩,hd⟩:=Ah (dcT (S.drop p) i);by_cases b:f=0
 ·subst b;obtain⟨k,q,m,y⟩:=xQ (FR _ _ g) hd;rw[Bj] at q;cases c with
  |false=>
   rw[Ti hd] at h;simp only[Jd,Jh] at h;obtain⟨rfl,rfl,rfl⟩:=h;refine⟨by omega,by omega,?_,?_,rfl⟩
   ·rw[Bv,k];simp[BE,BS]
   ·unfold CS;rw[m]
    rfl
  |true=>
   obtain⟨⟨l,f2,e⟩,hl⟩:=Ah (CX S (65-BA i) [] (p+n) (BA i));by_cases a:f2=0
   ·subst a;rw[Sv hd hl] at h;simp only[Jd,Jh] at h;obtain⟨rfl,rfl,rfl⟩:=h;obtain⟨z,o,r,A,s,u,v⟩:=bA g (BA i) _ [] (p+n) (BA i) l e (by omega) hl rfl (fun j hj=>absurd hj (Fk j));rw[Cc] at o;subst o;refine⟨by omega,s,?_,?_,by simpa using r⟩
    ·rw[show e-p=n+(e-(p+n)) by omega,D9,k,Cr,u]
     rfl
    ·unfold CS;rw[m,v]
     rfl
   ·rw[Wu hd hl a] at h;simp only[Jd] at h;exact absurd h.2.2.2 a
 ·rw[XI hd b] at h;simp only[Jd] at h;exact absurd h.2.2.2 b
theorem gN {k:List UInt8->Int×Int×Nat}{S:List UInt8}{p:Nat}{f:Int}(a:f≠0):C1 k S (p,f)=(0,p,f):=MF a
theorem Vl {inter:Bool}{S:List UInt8}{p:Nat}{f:Int}(a:f≠0):∀j n,(BD inter S j n (p,f)).2.2.2.2.2≠0
 |0,_=>by simp[BD]
 |j+1,n=>by
  unfold BD;rw[gN a];have h1:E6 inter S (if inter then (p,f) else (p,f))=(0,0,p,f):=by
   rw[ite_self];exact UK a
  simp only at h1 ⊢;rw[h1]
  simpa using a
theorem tZ {S:List UInt8}(b:AL S=true){p q:Nat}{v:Int}(a:p<=S.length)(h:C1 F9 S (p,0)=(v,q,0)):(v=1/\Seg S p q [49])\/(v=0/\Seg S p q [48]):=by
 rw[KI] at h;have hr:=FR S p b;cases hd:S.drop p with
 |nil=>
  rw[hd] at h;simp[F9] at h
 |cons c l=>
  rw[hd] at h;simp only[F9,Jd,Jh] at h;obtain⟨rfl,rfl⟩:=h;have hc:c=48\/c=49:=by
   rw[hd] at hr;unfold AL at hr;simp at hr;exact hr.1
  rcases hc with rfl|rfl
  ·exact .inr ⟨rfl,Seg.of a (by rw[hd];simp) (by rw[hd];rfl)⟩
  ·exact .inl ⟨rfl,Seg.of a (by rw[hd];simp) (by rw[hd];rfl)⟩
theorem ZX {inter:Bool}{b:Int}(h:(AY inter 5 b).data.toList.isEmpty=false):b=0:=by
 by_cases a:b<0\/0<b
 ·rw[MJ (by omega)] at h;cases h
 ·omega
theorem Zn {inter:Bool}{S:List UInt8}{p q:Nat}{a c:Int}(d:p<=S.length)(h:E6 inter S (p,0)=(a,c,q,0)):Seg S p q (AY inter a c).data.toList/\(AY inter a c).data.toList.isEmpty=false/\a≠2:=by
 rw[Tb] at h;obtain⟨⟨g,c',f,n⟩,b⟩:=Ah (mtk inter (S.drop p));rw[b] at h;simp only[Jd] at h;obtain⟨rfl,rfl,rfl,rfl⟩:=h;obtain⟨h1,h2,h3,h4,e⟩:=nR b;exact⟨Seg.of d h3 h1,h4,e⟩
theorem S6 {inter:Bool}{S:List UInt8}(y:AL S=true):∀(j n p o:Nat) (b:Bool) (k c:Int) (q:Nat),p<=S.length->BD inter S j n (p,0)=(o,b,k,c,q,0)->∃d,o=n+d/\d<j/\
  (b=true->inter=true/\k=0/\c=0/\Seg S p q (D5 inter d++[49]))/\
  (b=false->Seg S p q (D5 inter d++(H3 inter++(AY inter k c).data.toList))/\(AY inter k c).data.toList.isEmpty=false/\k≠2/\k≠5)
 |0,n,p,o,b,k,c,q,hp,h=>by
  simp[BD] at h
 |j+1,n,p,o,b,k,c,q,hp,h=>by
  cases inter with
  |false=>
   obtain⟨⟨a,C,r,f⟩,e⟩:=Ah (E6 false S (p,0));rw[R3 e] at h;by_cases g:f=0
   ·subst g;obtain⟨i,s,z⟩:=Zn hp e;by_cases l:a=5
    ·subst l;rw[Bc rfl] at h;obtain rfl:=ZX s;obtain⟨d,E,F,A,B⟩:=S6 y j (n+1) r o b k c q i.2.1 h;have x:Seg S p r (K7 false):=i;refine⟨d+1,by omega,by omega,fun hs=>absurd (A hs).1 (by decide),fun hs=>?_⟩;obtain⟨t,u⟩:=B hs;rw[MP,Bd];exact⟨x.app t,u⟩
    ·rw[Bb l] at h;simp only[Jd] at h;obtain⟨rfl,rfl,rfl,rfl,rfl,_⟩:=h;exact⟨0,rfl,by omega,fun hs=>(by cases hs),fun _=>⟨i,s,z,l⟩⟩
   ·exfalso
    split at h
    ·exact Vl g j (n+1) (by rw[h])
    ·simp only[Jd] at h;exact g h.2.2.2.2.2
  |true=>
   obtain⟨⟨v,r,f1⟩,hn⟩:=Ah (C1 F9 S (p,0));by_cases m:f1=0
   ·subst m;rcases tZ y hp hn with ⟨rfl,w⟩|⟨rfl,w⟩
    ·rw[Sd rfl hn rfl] at h;simp only[Jd] at h;obtain⟨rfl,rfl,rfl,rfl,rfl,_⟩:=h;exact⟨0,rfl,by omega,fun _=>⟨rfl,rfl,rfl,w⟩,fun hs=>(by cases hs)⟩
    ·obtain⟨⟨a,C,D,f⟩,e⟩:=Ah (E6 true S (r,0));rw[PX hn (by decide) e] at h;by_cases g:f=0
     ·subst g;obtain⟨i,s,z⟩:=Zn w.2.1 e;by_cases l:a=5
      ·subst l;rw[Bc rfl] at h;obtain rfl:=ZX s;obtain⟨d,E,F,A,B⟩:=S6 y j (n+1) D o b k c q i.2.1 h;have x:Seg S p D (K7 true):=w.app i;refine⟨d+1,by omega,by omega,fun hs=>?_,fun hs=>?_⟩
       ·obtain⟨H,t,u,G⟩:=A hs;rw[MP,Bd];exact⟨rfl,t,u,x.app G⟩
       ·obtain⟨t,u⟩:=B hs;rw[MP,Bd];exact⟨x.app t,u⟩
      ·rw[Bb l] at h;simp only[Jd] at h;obtain⟨rfl,rfl,rfl,rfl,rfl,_⟩:=h;exact⟨0,rfl,by omega,fun hs=>(by cases hs),fun _=>⟨w.app i,s,z,l⟩⟩
     ·exfalso
      split at h
      ·exact Vl g j (n+1) (by rw[h])
      ·simp only[Jd] at h;exact g h.2.2.2.2.2
   ·exfalso;have hv:v≠1:=by
     rw[KI] at hn;intro hv;cases hd:S.drop p with
     |nil=>rw[hd] at hn;simp[F9] at hn;omega
     |cons C I=>rw[hd] at hn;simp[F9] at hn;omega
    have e:E6 true S (r,f1)=(0,0,r,f1):=UK m;rw[PX hn hv e,Bb (by decide)] at h;simp only[Jd] at h;exact m h.2.2.2.2.2
theorem mI {intra:Bool}{S:List UInt8}{p q:Nat}{v:Int}(c:p<=S.length)(h:C1 (ptk intra) S (p,0)=(v,q,0)):Seg S p q (DF intra v).data.toList/\0<=v/\v<16:=by
 rw[KI] at h;obtain⟨⟨a,f,n⟩,b⟩:=Ah (ptk intra (S.drop p));rw[b] at h;simp only[Jd] at h;obtain⟨rfl,rfl,rfl⟩:=h;obtain⟨h1,h2,h3,h4,d⟩:=cW b;exact⟨Seg.of c h3 h1,h4,d⟩
theorem tI {S:List UInt8}(c:AL S=true){p q:Nat}{k v:Int}(b:p<=S.length)(h:IA S k (p,0)=(v,q,0)):Seg S p q (C0 v).data.toList/\FA k v=true:=by
 unfold IA at h;unfold FA;cases hk:OC k with
 |true=>
  rw[hk,Bc rfl,KI] at h;obtain⟨⟨a,f,n⟩,ht⟩:=Ah (stk (S.drop p));rw[ht] at h;simp only[Jd] at h;obtain⟨rfl,rfl,rfl⟩:=h;obtain⟨h1,rfl,h3,h4⟩:=qN (FR _ _ c) ht;exact⟨Seg.of b h3 h1,by rw[Bc rfl,QL.2 h4];rfl⟩
 |false=>
  rw[hk,Bb (by decide)] at h;simp only[Jd,Jh] at h;obtain⟨rfl,rfl⟩:=h;exact⟨Seg.nil b,rfl⟩
theorem W3 {S:List UInt8}{p q:Nat}{a v:Int}(b:p<=S.length)(h:D1 S a (p,0)=(v,q,0)):Seg S p q (B3 (AF (v-AF a))).data.toList/\v=AF v:=by
 unfold D1 at h;rw[KI] at h;obtain⟨⟨d,f,n⟩,ht⟩:=Ah (dtk (S.drop p));rw[ht] at h;simp only[Jd] at h;obtain⟨rfl,rfl,rfl⟩:=h;obtain⟨h1,h2,h3,h4,c⟩:=zJ ht;have e:AF (AF (AF a+d)-AF a)=d:=by unfold AF;omega
 rw[e];exact⟨Seg.of b h3 h1,by unfold AF;omega⟩
theorem vL {S:List UInt8}{p q:Nat}{k x y mx my:Int}(d:p<=S.length)(h:H1 S k x y (p,0)=(mx,my,q,0)):Seg S p q (IR k x y mx my)/\HJ k mx my=true:=by
 unfold H1 at h;unfold IR HJ;cases hk:AD k with
 |true=>
  rw[hk,Bc rfl] at h;simp only[Jd,Jh] at h;obtain⟨rfl,rfl,rfl⟩:=h;exact⟨Seg.nil d,rfl⟩
 |false=>
  rw[hk,Bb (by decide)] at h;obtain⟨⟨a,e,f1⟩,h1⟩:=Ah (D1 S x (p,0));obtain⟨⟨b,l,f2⟩,h2⟩:=Ah (D1 S y (e,f1));rw[h1] at h;simp only at h;rw[h2] at h;simp only[Jd] at h;obtain⟨rfl,rfl,rfl,rfl⟩:=h;by_cases c:f1=0
  ·subst c;obtain⟨f,g⟩:=W3 d h1;obtain⟨i,j⟩:=W3 f.2.1 h2;rw[Bb (by decide),Bb (by decide),Al,Bm,Bm];exact⟨f.app i,g,j⟩
  ·exfalso;unfold D1 at h2;rw[MF (show ((e,f1):Stt).2≠0 from c)] at h2;simp only[Jd] at h2;exact c h2.2.2
theorem Xk {S:List UInt8}(e:AL S=true){p q:Nat}{i c:Bool}{d:Int}{L:List Ev}(g:p<=S.length)(h:CT i c S (p,0)=(d,L,q,0)):Seg S p q (BE i d L)/\CS i d L=true/\decide (0<L.length)=c:=by
 rw[TL] at h;obtain⟨⟨a,l,t,f⟩,b⟩:=Ah (btk S p i c);rw[b] at h;simp only[Jd] at h;obtain⟨rfl,rfl,rfl,rfl⟩:=h;obtain⟨h1,h2,h3,h4,j⟩:=eO e g b;exact⟨⟨h1,h2,h3⟩,h4,j⟩
theorem xN {inter:Bool}{k c:Int}(h:(AY inter k c).data.toList.isEmpty=false)(h2:k≠2)(a:k≠5):EJ inter k=true/\0<=c/\c<=3:=by
 have b:¬ (k<0\/5<k\/c<0\/3<c\/(k=5/\0<c)):=by
  intro hn;rw[MJ hn] at h;cases h
 refine⟨?_,by omega,by omega⟩;rcases (by omega:k=0\/k=1\/k=3\/k=4) with rfl|rfl|rfl|rfl
 ·cases inter with
  |true=>rfl
  |false=>
   exfalso;unfold AY at h;rw[Bc (by omega)] at h;rcases (by omega:c=0\/c=1\/c=2\/c=3) with rfl|rfl|rfl|rfl <;> cases h
 ·cases inter with
  |true=>rfl
  |false=>
   exfalso;unfold AY at h;rw[Bc (by omega)] at h;rcases (by omega:c=0\/c=1\/c=2\/c=3) with rfl|rfl|rfl|rfl <;> cases h
 ·rfl
 ·cases inter <;> rfl
theorem nZ {pt ch:Nat}(f:pt<16)(hc:ch<4){c:Cel}(h:∀i,i<6->decide (0<(c.ev i).length)=DE (4*pt+ch) i):B2 c 4=pt/\BU c=ch:=by
 have a:∀i,i<6->CG c i=(4*pt+ch) / 2^(5-i)%2:=by
  intro i hi;unfold CG;rw[h i hi];unfold DE;rcases Mx ((4*pt+ch) / 2^(5-i)) with e|e <;> rw[e] <;> rfl
 have b:=a 0 (by omega);have h1:=a 1 (by omega);have h2:=a 2 (by omega);have h3:=a 3 (by omega);have h4:=a 4 (by omega);have d:=a 5 (by omega);simp only[Nat.reduceSub,Nat.reducePow,Nat.sub_zero] at b h1 h2 h3 h4 d;rw[QJ];unfold BU;omega
theorem ZG {inter:Bool}{S:List UInt8}(D:AL S=true){x y:Int}{p q:Nat}{c:Cel}(hp:p<=S.length)(h:ctk inter S x y p=(c,q,0)):Seg S p q (CQ inter x y c)/\BL inter c=true:=by
 have m:H2 inter S x y (p,0)=(c,q,0):=by
  obtain⟨⟨c1,K,f1⟩,j⟩:=Ah (H2 inter S x y (p,0));unfold ctk at h;rw[j] at h ⊢;simp only at h;by_cases e:f1=0
  ·subst e;rw[Bc rfl] at h;exact h
  ·rw[Bb e] at h;simp only[Jd] at h;exact absurd h.2.2 e
 clear h;obtain⟨⟨n,T,k,ch,K,f1⟩,E⟩:=Ah (BD inter S 65 0 (p,0));by_cases o:f1=0
 ·subst o;obtain⟨d,U,e2,e3,e4⟩:=S6 D 65 0 p n T k ch K hp E;rw[Ar] at U;subst U;cases T with
  |true=>
   obtain⟨F,V,W,L⟩:=e3 rfl;rw[S5 E] at m;simp only[Jd,Jh] at m;obtain⟨rfl,rfl⟩:=m;refine⟨?_,?_⟩
   ·unfold CQ
    simpa using L
   ·unfold BL;rw[F];simp only[Kg,Gr,Al,Au];exact⟨by omega,rfl⟩
  |false=>
   obtain⟨F,V,W,L⟩:=e4 rfl;obtain⟨t,c0,c3⟩:=xN V W L;obtain⟨⟨pt,M⟩,h2⟩:=Ah (C1 (ptk (AD k)) S (K,0));obtain⟨⟨sp,N⟩,h3⟩:=Ah (IA S k M);obtain⟨⟨mx,my,G⟩,h4⟩:=Ah (H1 S k x y N);rw[Ux E h2 h3 h4] at m;simp only[Jd] at m;obtain⟨hc,X⟩:=m;have Y:(stB (AD k) (4*pt.toNat+ch.toNat) S G 6).2=0:=by rw[X]
   have H:∀i,i<=6->(stB (AD k) (4*pt.toNat+ch.toNat) S G i).2=0:=by
    intro i hi;refine Mv fun b=>?_;have h1:=SS b (6-i);rw[show i+(6-i)=6 by omega] at h1;rw[h1] at Y;exact b Y
   have I:G.2=0:=H 0 (by omega);have J:N.2=0:=by
    refine Mv fun b=>?_;have h1:=Yo (kind:=k) (x:=x) (y:=y) (S:=S) b;rw[h4] at h1;simp only at h1;rw[h1] at I;exact b I
   have Z:M.2=0:=by
    refine Mv fun b=>?_;have h1:=Zp (kind:=k) (S:=S) b;rw[h3] at h1;simp only[Jd] at h1;rw[h1.2] at J;exact b J
   obtain⟨q2,f2⟩:=M;obtain⟨q3,f3⟩:=N;obtain⟨f,f4⟩:=G;simp only at Z J I;subst Z J I;obtain⟨a1,a2,a3⟩:=mI F.2.1 h2;obtain⟨b1,b2⟩:=tI D a1.2.1 h3;obtain⟨O,v2⟩:=vL b1.2.1 h4
   have r:∀i,i<6->Seg S (stB (AD k) (4*pt.toNat+ch.toNat) S (f,0) i).1 (stB (AD k) (4*pt.toNat+ch.toNat) S (f,0) (i+1)).1 (BE (AD k) (c.dc i) (c.ev i))/\CS (AD k) (c.dc i) (c.ev i)=true/\decide (0<(c.ev i).length)=DE (4*pt.toNat+ch.toNat) i:=by
    intro i
    induction i with
    |zero=>
     intro hi;have j:=H 1 (by omega);obtain⟨⟨d0,u,t0,f0⟩,a⟩:=Ah (CT (AD k) (DE (4*pt.toNat+ch.toNat) 0) S (f,0));have hn:stB (AD k) (4*pt.toNat+ch.toNat) S (f,0) 1=(t0,f0):=by
      show (CT (AD k) (DE (4*pt.toNat+ch.toNat) 0) S (f,0)).2.2=_;rw[a]
     rw[hn] at j ⊢;simp only at j;subst j;have hd:c.dc 0=d0:=by rw[<-hc];show (CT (AD k) (DE (4*pt.toNat+ch.toNat) 0) S (f,0)).1=d0;rw[a]
     have hl:c.ev 0=u:=by rw[<-hc];show (CT (AD k) (DE (4*pt.toNat+ch.toNat) 0) S (f,0)).2.1=u;rw[a]
     rw[hd,hl];exact Xk D O.2.1 a
    |succ i P=>
     intro hi;obtain⟨Q,_,_⟩:=P (by omega);have s:=H (i+1) (by omega);have j:=H (i+1+1) (by omega);obtain⟨⟨t1,f1⟩,g⟩:=Ah (stB (AD k) (4*pt.toNat+ch.toNat) S (f,0) (i+1));rw[g] at s Q;simp only at s Q;subst s;obtain⟨⟨d0,u,t0,f0⟩,a⟩:=Ah (CT (AD k) (DE (4*pt.toNat+ch.toNat) (i+1)) S (t1,0))
     have hn:stB (AD k) (4*pt.toNat+ch.toNat) S (f,0) (i+1+1)=(t0,f0):=by
      show (CT (AD k) (DE (4*pt.toNat+ch.toNat) (i+1)) S (stB (AD k) (4*pt.toNat+ch.toNat) S (f,0) (i+1))).2.2=_;rw[g,a]
     rw[hn] at j ⊢;simp only at j;subst j;have hd:c.dc (i+1)=d0:=by rw[<-hc];show (CT (AD k) (DE (4*pt.toNat+ch.toNat) (i+1)) S (stB (AD k) (4*pt.toNat+ch.toNat) S (f,0) (i+1))).1=d0;rw[g,a]
     have hl:c.ev (i+1)=u:=by rw[<-hc];show (CT (AD k) (DE (4*pt.toNat+ch.toNat) (i+1)) S (stB (AD k) (4*pt.toNat+ch.toNat) S (f,0) (i+1))).2.1=u;rw[g,a]
     rw[hd,hl,g];exact Xk D Q.2.1 a
   have l:c.kind=k:=by rw[<-hc]
   have v:c.skip=false:=by rw[<-hc]
   have w:c.stuff=(n:Int):=by rw[<-hc]
   have z:c.step=sp:=by rw[<-hc]
   have A:c.mx=mx:=by rw[<-hc]
   have B:c.my=my:=by rw[<-hc]
   have C:∀i,i<=6->Seg S f (stB (AD k) (4*pt.toNat+ch.toNat) S (f,0) i).1 (BC c i):=by
    intro i
    induction i with
    |zero=>intro _;exact Seg.nil O.2.1
    |succ i P=>
     intro hi;show Seg S f _ (BC c i++BE (AD c.kind) (c.dc i) (c.ev i));rw[l];exact(P (by omega)).app (r i (by omega)).1
   have R:=C 6 (Ba _);rw[X] at R;simp only at R;obtain⟨m1,m2⟩:=nZ (pt:=pt.toNat) (ch:=ch.toNat) (c:=c) (by omega) (by omega) (fun i hi=>(r i hi).2.2);refine⟨?_,?_⟩
   ·unfold CQ;rw[v,Bb (by decide),l,w,z,A,B,m1,m2,Ce a2,Ce c0,Dr,<-Bd,<-Bd,<-Bd,<-Bd];exact(((F.app a1).app b1).app O).app R
   ·unfold BL;rw[v,Bb (by decide),l,w,z,A,B,t,b2,v2];simp only[Gr,Al,Au];refine⟨by omega,NV.2 fun i hi=>?_⟩;rw[l];exact(r i hi).2.1
 ·exfalso;have:=cA (x:=x) (y:=y) E o;rw[m] at this;exact o this.symm
theorem V5 {inter:Bool}{S:List UInt8}{p q:Nat}{a c:Int}(h:Seg S p q (AY inter a c).data.toList)(b:(AY inter a c).data.toList.isEmpty=false)(h2:a≠2):E6 inter S (p,0)=(a,c,q,0):=by
 have hl:=h.len;rw[Tb,h.at,gH inter a c _ rfl b,Bb h2];simp only[Jd,Jh,Jf];exact hl.symm
theorem Yn {S:List UInt8}{p q:Nat}{d:UInt8}(h:Seg S p q [d]):C1 F9 S (p,0)=(if d=49 then 1 else 0,q,0):=by
 have hl:=h.len;rw[KI,h.at];simp only[Mf,F9,Jd,Jh,Jf];exact hl.symm
theorem RY {inter:Bool}{S:List UInt8}{j m p q:Nat}{a c:Int}(h:Seg S p q (H3 inter++(AY inter a c).data.toList))(b:(AY inter a c).data.toList.isEmpty=false)(h2:a≠2):
  BD inter S (j+1) m (p,0)=if a=5 then BD inter S j (m+1) (q,0) else (m,false,a,c,q,0):=by
 cases inter with
 |false=>exact R3 (V5 h b h2)
 |true=>
  obtain⟨d,e⟩:=h.split;exact PX (Yn d) (by decide) (V5 e b h2)
theorem YH (inter:Bool):(AY inter 5 0).data.toList.isEmpty=false:=by cases inter <;> rfl
theorem Xz {S:List UInt8}:∀(n j m p q:Nat),n<j->Seg S p q (D5 true n++[49])->BD true S j m (p,0)=(m+n,true,0,0,q,0)
 |0,j,m,p,q,hj,h=>by
  obtain⟨k,rfl⟩:∃k,j=k+1:=⟨j-1,by omega⟩;exact Sd rfl (Yn (show Seg S p q [49] from h)) (by decide)
 |n+1,j,m,p,q,hj,h=>by
  obtain⟨k,rfl⟩:∃k,j=k+1:=⟨j-1,by omega⟩;rw[MP,Bd] at h;obtain⟨a,b⟩:=h.split;rw[RY a (YH true) (by decide),Bc rfl,Xz n k (m+1) _ q (by omega) b,Ay,Cg 1 n]
theorem Vy {inter:Bool}{S:List UInt8}{a c:Int}(b:(AY inter a c).data.toList.isEmpty=false)(h2:a≠2)(d:a≠5):∀(n j m p q:Nat),n<j->Seg S p q (D5 inter n++(H3 inter++(AY inter a c).data.toList))->BD inter S j m (p,0)=(m+n,false,a,c,q,0)
 |0,j,m,p,q,hj,h=>by
  obtain⟨k,rfl⟩:∃k,j=k+1:=⟨j-1,by omega⟩;rw[RY (show Seg S p q (H3 inter++(AY inter a c).data.toList) from h) b h2,Bb d]
  rfl
 |n+1,j,m,p,q,hj,h=>by
  obtain⟨k,rfl⟩:∃k,j=k+1:=⟨j-1,by omega⟩;rw[MP,Bd] at h;obtain⟨e,f⟩:=h.split;rw[RY e (YH inter) (by decide),Bc rfl,Vy b h2 d n k (m+1) _ q (by omega) f,Ay,Cg 1 n]
theorem gF {inter:Bool}{k:Int}{c:Nat}(h:EJ inter k=true)(hc:c<4):(AY inter k (c:Nat)).data.toList.isEmpty=false/\k≠2/\k≠5:=by
 have a:k=3\/k=4\/(inter=true/\(k=0\/k=1)):=by
  unfold EJ at h
  simpa [or_assoc] using h
 rcases a with rfl|rfl|⟨rfl,rfl|rfl⟩
 all_goals
  refine⟨?_,by decide,by decide⟩
  match c,hc with
  |0,_=>first|rfl|(cases inter <;> rfl)
  |1,_=>first|rfl|(cases inter <;> rfl)
  |2,_=>first|rfl|(cases inter <;> rfl)
  |3,_=>first|rfl|(cases inter <;> rfl)
theorem qP {S:List UInt8}{p q:Nat}{i:Bool}{k:Nat}(h:Seg S p q (DF i (k:Nat)).data.toList)(a:k<16):C1 (ptk i) S (p,0)=(((k:Nat):Int),(q,0)):=by
 have hl:=h.len;rw[KI,h.at,pY i k a _ rfl];simp only[Jd,Jh,Jf];exact hl.symm
theorem rZ {S:List UInt8}{p q:Nat}{k s:Int}(h:Seg S p q (C0 s).data.toList)(hs:FA k s=true):IA S k (p,0)=(s,q,0):=by
 have hl:=h.len;unfold IA;unfold FA at hs;cases hk:OC k with
 |true=>
  rw[hk,Bc rfl,Lc] at hs;have h4:=QL.1 hs;rw[Bc rfl,KI,h.at,pH h4];simp only[Jd,Jh,Jf];have:(C0 s).data.toList.length=2:=by rcases h4 with rfl|rfl|rfl|rfl <;> rfl
  omega
 |false=>
  rw[hk,Bb (by decide),Bm] at hs;subst hs;rw[Bb (by decide)];simp only[Jd,Jh,Jf];exact hl.symm
theorem Ys {S:List UInt8}{p q:Nat}{a v:Int}(h:Seg S p q (B3 (AF (v-AF a))).data.toList)(hv:v=AF v):D1 S a (p,0)=(v,q,0):=by
 have hl:=h.len;unfold D1;rw[KI,h.at,lP (IK _) _ rfl];have e:AF (AF a+AF (v-AF a))=v:=by unfold AF at hv ⊢;omega
 rw[e];simp only[Jd,Jh,Jf];exact hl.symm
theorem uS {S:List UInt8}{p q:Nat}{k x y mx my:Int}(h:Seg S p q (IR k x y mx my))(hv:HJ k mx my=true):H1 S k x y (p,0)=(mx,my,q,0):=by
 unfold IR at h;unfold HJ at hv;unfold H1;cases hk:AD k with
 |true=>
  rw[hk,Bc rfl] at h hv;rw[Al,Bm,Bm] at hv;obtain⟨rfl,rfl⟩:=hv;rw[Bc rfl];simp only[Jd,Jh,Jf];exact h.len.symm
 |false=>
  rw[hk,Bb (by decide)] at h hv;rw[Al,Bm,Bm] at hv;obtain⟨a,b⟩:=h.split;have h1:=Ys a hv.1;have h2:=Ys b hv.2;rw[Bb (by decide),h1];simp only;rw[h2]
theorem Vb {S:List UInt8}{p q:Nat}{i:Bool}{d:Int}{l:List Ev}(h:Seg S p q (BE i d l))(hm:CS i d l=true):CT i (decide (0<l.length)) S (p,0)=(d,l,q,0):=by
 have hl:=h.len;have h1:=h.at;obtain⟨e,f,_⟩:=h;have b:S=S.take p++BE i d l++S.drop q:=by rw[Bd,<-h1,Bs]
 have c:(S.take p).length=p:=by rw[Bf];omega
 have a:=fG hm (S.take p) (S.drop q);rw[<-b,c,<-hl] at a;rw[TL,a]
theorem bK {S:List UInt8}{a:Nat}{c:Cel}{i:Nat}:∀(k b:Nat),Seg S a b (BC c (i+k))->Seg S a (a+(BC c i).length) (BC c i)
 |0,b,h=>by
  have hl:=h.len;rw[Cy] at hl h;rw[<-hl];exact h
 |k+1,b,h=>by
  have d:Seg S a b (BC c (i+k)++BE (AD c.kind) (c.dc (i+k)) (c.ev (i+k))):=h;exact bK k _ d.split.1
theorem WN {c:Cel}:∀i,i<6->DE (4*B2 c 4+BU c) i=decide (0<(c.ev i).length):=by
 have a:∀i,(CG c i==1)=decide (0<(c.ev i).length):=by
  intro i;unfold CG;cases decide (0<(c.ev i).length) <;> rfl
 have h:=fun i=>Rk c i;have b:=h 0;have h1:=h 1;have h2:=h 2;have h3:=h 3;have h4:=h 4;have d:=h 5;intro i hi;rw[<-a];unfold DE
 congr 1
 rw[QJ];unfold BU
 match i,hi with
 |0,_=>simp only[Nat.sub_zero,Nat.reducePow];omega
 |1,_=>simp only[Nat.reduceSub,Nat.reducePow];omega
 |2,_=>simp only[Nat.reduceSub,Nat.reducePow];omega
 |3,_=>simp only[Nat.reduceSub,Nat.reducePow];omega
 |4,_=>simp only[Nat.reduceSub,Nat.reducePow];omega
 |5,_=>simp only[Nat.reduceSub,Nat.reducePow];omega
theorem Zc {c d:Cel}(a:∀i,i<6->c.ev i=d.ev i)(hd:∀i,i<6->c.dc i=d.dc i)(h1:c.stuff=d.stuff)(h2:c.skip=d.skip)(h3:c.kind=d.kind)(h4:c.step=d.step)(b:c.mx=d.mx)(e:c.my=d.my):MO c d=true:=by
 unfold MO;rw[rP a,Gr];unfold Tv;rw[h1,h2,h3,h4,b,e];simp only[Jg,Bool.and_self,Gr,Bu];intro i hi;rw[hd i (Bt.1 hi)];exact Jg _
theorem wZ {inter:Bool}{S:List UInt8}{x y:Int}{p q:Nat}{c:Cel}(h:Seg S p q (CQ inter x y c))(hm:BL inter c=true):∃c',ctk inter S x y p=(c',q,0)/\MO c' c=true:=by
 unfold BL at hm;rw[Al,Al,Fi,Fi] at hm;obtain⟨⟨G,H⟩,hm⟩:=hm;obtain⟨n,hn⟩:∃n:Nat,c.stuff=n:=⟨c.stuff.toNat,by omega⟩;unfold CQ at h;rw[hn,Dr] at h;cases hsk:c.skip with
 |true=>
  rw[hsk,Bc rfl] at hm h;rw[Al] at hm;obtain⟨hi,k⟩:=hm;subst hi;have j:=Xz n 65 0 p q (by omega) h;refine⟨_,Sz (S5 j),?_⟩;unfold FY at k;simp only[Al,Bm,Bu,Bt,Au] at k;obtain⟨⟨⟨o,r⟩,s,t⟩,hd,u⟩:=k
  exact Zc (fun i hi=>(Dl (u i hi)).symm) (fun i hi=>(hd i hi).symm) (by rw[hn];simp) hsk.symm o.symm r.symm s.symm t.symm
 |false=>
  rw[hsk,Bb (by decide)] at hm h;simp only[Al] at hm;obtain⟨⟨v,hs⟩,hv,l⟩:=hm;rw[<-Bd,<-Bd,<-Bd,<-Bd] at h;obtain⟨a,h,m⟩:=h.cut;obtain⟨I,h,w⟩:=h.cut;obtain⟨J,h,z⟩:=h.cut;obtain⟨A,B,C⟩:=h.cut;obtain⟨c1,c2,c3⟩:=Rr c;obtain⟨r1,r2,r3⟩:=gF v c2;have j:=Vy r1 r2 r3 n 65 0 p A (by omega) B;rw[Ar] at j
  have b:=Ux j (qP C c1) (rZ z hs) (uS w hv);rw[Dr,Dr] at b;have d:∀i,i<6->Seg S (a+(BC c i).length) (a+(BC c (i+1)).length) (BE (AD c.kind) (c.dc i) (c.ev i)):=by
   intro i hi;have D:Seg S a q (BC c (i+1+(5-i))):=by rw[show i+1+(5-i)=6 by omega];exact m
   have E:Seg S a (a+(BC c (i+1)).length) (BC c i++BE (AD c.kind) (c.dc i) (c.ev i)):=bK (5-i) q D;exact E.split.2
  have e:=NV.1 l;have f:∀i,i<=6->stB (AD c.kind) (4*B2 c 4+BU c) S (a,0) i=(a+(BC c i).length,0):=by
   intro i
   induction i with
   |zero=>intro _;rfl
   |succ i F=>
    intro hi;show (CT (AD c.kind) (DE (4*B2 c 4+BU c) i) S (stB (AD c.kind) (4*B2 c 4+BU c) S (a,0) i)).2.2=_;rw[F (by omega),WN i (by omega),Vb (d i (by omega)) (e i (by omega))]
  have g:∀i,i<6->CT (AD c.kind) (DE (4*B2 c 4+BU c) i) S (stB (AD c.kind) (4*B2 c 4+BU c) S (a,0) i)=(c.dc i,c.ev i,a+(BC c (i+1)).length,0):=by
   intro i hi;rw[f i (by omega),WN i hi,Vb (d i hi) (e i hi)]
  rw[f 6 (Ba _),<-m.len] at b;refine⟨_,Sz b,?_⟩;refine Zc (fun i hi=>?_) (fun i hi=>?_) hn.symm hsk.symm rfl rfl rfl rfl
  ·show (CT (AD c.kind) (DE (4*B2 c 4+BU c) i) S (stB (AD c.kind) (4*B2 c 4+BU c) S (a,0) i)).2.1=_;rw[g i hi]
  ·show (CT (AD c.kind) (DE (4*B2 c 4+BU c) i) S (stB (AD c.kind) (4*B2 c 4+BU c) S (a,0) i)).1=_;rw[g i hi]
end
end Go.Proofs.YtjjmalchelniiaaGreatDoor
