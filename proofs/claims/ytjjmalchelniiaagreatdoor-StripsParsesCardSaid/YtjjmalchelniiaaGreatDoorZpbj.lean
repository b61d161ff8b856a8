/- No condition. -/
import Derived.Test.YtjjmalchelniiaaGreatDoorZpb
import Derived.Test.YtjjmalchelniiaaGreatDoorZpi
import Derived.Test.YtjjmalchelniiaaGreatDoorZpj
import Derived.Test.YtjjmalchelniiaaGreatDoorZpm
import Derived.Test.YtjjmalchelniiaaGreatDoorZpq
import Derived.Test.YtjjmalchelniiaaGreatDoorZpt
import Derived.Test.YtjjmalchelniiaaGreatDoorZpu
import Derived.Test.YtjjmalchelniiaaGreatDoorZpw
import Derived.Test.YtjjmalchelniiaaGreatDoorZpbg
import Derived.Test.YtjjmalchelniiaaGreatDoorZpbi
open Go.Proofs.Tryz
open Go renaming World->A5,Value->A0,Ending->Ae,Calls->A9
set_option maxHeartbeats 4000000
namespace Go.Proofs.YtjjmalchelniiaaGreatDoor
section
theorem Wes{p:Prop}(h:p:=by
 simp only[J1,J6,J4];exact hl.symm):p:=h
theorem Wer{p:Prop}(h:p:=by
 exfalso
 split at h
 ·exact Z1 e j (n+1) tE
 ·simp only[J1] at h;exact e h.2.2.2.2.2):p:=h
theorem Weq{p:Prop}(h:p:=by
 rcases m with ⟨h,_⟩|h
 ·simp only[J1] at h;exact⟨h.1,h.2.1⟩
 ·exact absurd h.1 H):p:=h
theorem Wep{p:Prop}(h:p:=by
 cases inter with
 |true=>rfl
 |false=>
  exfalso;unfold BC at h;rw[Bb sX] at h;rcases (by omega:c=0\/c=1\/c=2\/c=3) with rfl|rfl|rfl|rfl <;> cases h):p:=h
theorem Weo{p:Prop}(h:p:=by
 have t64:decide (64<(i:Int)+1)=false:=sU
 go_wp2
 go_roundw
 case rel=>exact⟨i+1,q,sX,ae,rfl,Dm (by rw[F.out,ar.out]),Dm (X.out.same (by rw[show (((i+1:Nat)):Int)=(i:Int)+1 from rfl]))⟩
 case measure=>rw[V3 (n:=i+1) (by exact d0),ap.out];omega):p:=h
theorem Wen{p:Prop}(h:p:=by
 clear Q;have d:=X.out.res;have I:=X.out.lt
 go_wp2_with (with_reducible refine AK rfl 77 _ _ rfl R Y Y rfl rfl 77 d D rfl M ?_;intro w5 r v)
 refine Hb (NJ rfl _ _ R 77 _ (0,0) _ rfl r Nc rfl D) rfl ?_;exact L.out _ _ _ _ _ 13 _ _ a1.out sY X.out.below (CO v sX)):p:=h
theorem Wem{p:Prop}(h:p:=by
 clear m O H
 go_wp2_with fail
 refine C.mono ?_;rintro e P ⟨rfl,p⟩;have b:=l.out.move p;clear C p l;have d:=b.res;have I:=b.lt
 go_wp2_with (with_reducible refine AK rfl 77 _ _ rfl R Y Y rfl rfl 77 d D rfl M ?_;intro w5 r v)
 refine Hb (NJ rfl _ _ R 77 _ (0,0) _ rfl r Nc rfl D) rfl ?_;exact L.out _ _ _ _ _ f _ _ F.out (by exact a2.out) b.below (CO v sX)):p:=h
theorem Wel{p:Prop}(h:p:=by
 clear J
 go_wp2_with fail
 refine C.mono ?_;rintro e P ⟨rfl,p⟩;have b:=l.out.move p;have c2:P.cell? ⟨R+1,2,none⟩=some (.int .i64 0):=AA (o:=2) b.cel rfl;have f2:=AL (o:=2) b.cel;have g:=b.set 2 (.int .i64 a) (c':={Bx with stuff:=(i:Int),kind:=a}) (sl':=nilS) rfl;clear C p b l;have E:=g.cel;have d:=g.res;have I:=g.lt;have x:=HT {Bx with stuff:=(i:Int),kind:=a} nilS;have B:=HS {Bx with stuff:=(i:Int),kind:=a} nilS fun _ _=>rfl;have G:Y.size=(AD {Bx with stuff:=(i:Int),kind:=a} nilS).toArray.size:=by rw[<-ay.out];rfl
 obtain⟨V,K⟩:∃V,(AD {Bx with stuff:=(i:Int),kind:=a} nilS).toArray=V:=⟨_,rfl⟩;rw[K] at E x B G;have aq:=Dm K;clear K
 go_wp2_with (first|(with_reducible refine Nb rfl 77 _ rfl (R+1) rfl 77 V (0,0) _ E Nc rfl x ?_)|(with_reducible refine AK rfl 77 _ _ rfl R V Y rfl rfl 77 d x G B ?_;intro w5 r v))
 refine Hb (NJ rfl _ _ R 77 _ (0,0) _ rfl r Nc rfl x) rfl ?_;exact T.out _ false a c q 0 _ _ _ F.out sX rfl (by rw[<-aq.out];rfl) g.below (CO v sX)):p:=h
theorem yQ{p:Prop}(h:p:=by rw[<-hD];rfl):p:=h
theorem yR{p:Prop}(h:p:=by have:=h.lt;omega):p:=h
abbrev Nb:=@wpList_load_row
abbrev Nc:=@underlying77
abbrev Nd:=@Prod.mk.inj
abbrev Nf:=@Decidable.byContradiction
abbrev Ng:=@List.getElem_append_left
abbrev Nh:=@Nat.mod_two_eq_zero_or_one
abbrev Ni:=@List.getElem_append_right
abbrev Nj:=@Nat.sub_zero
theorem Ww (inter:Bool)(b:List UInt8):(mtk inter b=(0,0,(mtk inter b).2.2.1,0)/\(mtk inter b).2.2.1≠0)\/((mtk inter b).2.2.1=0/\0<=(mtk inter b).1/\(mtk inter b).1<=5/\(mtk inter b).1≠2/\0<=(mtk inter b).2.1/\(mtk inter b).2.1<=3/\(mtk inter b).2.2.2<=b.length):=by
 obtain⟨⟨f,n⟩,ht⟩:=Ah (tk ((D4 inter).map rowCY) b 25 1);by_cases a:f=0
 ·subst a;have c:=OV ht;unfold mtk;rw[ht,Bb rfl]
  split
  next x _=>
   split
   ·exact .inl ⟨rfl,(show (6:Int)≠0 by decide)⟩
   ·refine .inr ⟨rfl,?_,?_,wY,?_,?_,c.2.1⟩ <;> simp only[sA,sB] <;> omega
  ·exact .inr ⟨rfl,sY,sY,sY,sY,sY,Do _⟩
 ·rw[QM inter ht a];exact .inl ⟨rfl,a⟩
theorem fM {all:List (ByteArray×Int)}{lo hi:Int}(c:lo<=0/\0<=hi)(a:∀x∈all,lo<=x.2/\x.2<=hi)(b:List UInt8):lo<=(gtk all b).1/\(gtk all b).1<=hi/\(gtk all b).2.2<=b.length:=by
 obtain⟨⟨f,n⟩,ht⟩:=Ah (tk (all.map rowC) b 25 1);unfold gtk;by_cases d:f=0
 ·subst d;have e:=OV ht;rw[ht,Bb rfl]
  split
  next x hx=>exact⟨(a x (Kj hx)).1,(a x (Kj hx)).2,e.2.1⟩
  ·exact⟨c.1,c.2,Do _⟩
 ·rw[ht,Ba d];exact⟨c.1,c.2,Do _⟩
theorem PN (intra:Bool)(b:List UInt8):0<=(ptk intra b).1/\(ptk intra b).1<=15/\(ptk intra b).2.2<=b.length:=
 fM (all:=CW intra) (lo:=0) (hi:=15) ⟨sY,sY⟩ (by cases intra <;> decide +kernel) b
theorem OY (b:List UInt8):-32<=(dtk b).1/\(dtk b).1<=31/\(dtk b).2.2<=b.length:=
 fM (all:=allD) (lo:=-32) (hi:=31) ⟨sY,sY⟩ uB b
theorem fC (b:List UInt8):(stk b).2.2<=b.length:=by
 unfold stk
 split
 ·exact Do _
 ·simp only;omega
theorem Qon (b:List UInt8)(i:Bool):(dcT b i).2.2<=b.length:=by
 unfold dcT
 split
 ·split
  ·exact Do _
  ·split
   ·exact Do _
   ·simp only;omega
 ·exact Do _
theorem Y9 (B:List UInt8):∀(k:Nat) (acc:List Ev) (p m:Nat),p<=B.length->(C4 B k acc p m).2.2<=B.length/\((C4 B k acc p m).2.1=0->∃l x,(C4 B k acc p m).1=l++[x]/\x.1=true)
 |0,_,_,_,_=>⟨Do _,fun h=>by simp[C4] at h⟩
 |k+1,acc,p,m,hp=>by
  obtain⟨⟨⟨l,r,v⟩,f,n⟩,a⟩:∃x,etk (B.drop p)=x:=⟨_,rfl⟩;have hm:=UJ a;rw[Bf] at hm;unfold C4;rw[a];simp only
  split
  next hf=>exact⟨Do _,fun h=>absurd h hf⟩
  ·split
   ·exact⟨Do _,fun h=>absurd h sY⟩
   ·split
    next hl=>exact⟨vY,fun _=>⟨acc,_,rfl,hl⟩⟩
    ·exact Y9 B k _ _ _ sX
theorem Sc (B:List UInt8)(p:Nat)(i c:Bool)(a:p<=B.length):(btk B p i c).2.2.1<=B.length/\((btk B p i c).2.1=[]\/∃l x,(btk B p i c).2.1=l++[x]/\x.1=true):=by
 obtain⟨⟨d,f,n⟩,hd⟩:=Ah (dcT (B.drop p) i);have hn:=Qon (B.drop p) i;rw[hd,Bf] at hn;simp only at hn;have b:=Y9 B (65-BI i) [] (p+n) (BI i) sX;unfold btk;rw[hd];simp only
 split
 ·exact⟨a,.inl rfl⟩
 ·split
  ·exact⟨vY,.inl rfl⟩
  ·split
   ·exact⟨a,.inl rfl⟩
   next h=>exact⟨b.1,.inr (b.2 uQ)⟩
def DZ (b:List UInt8):Int×Int×Nat:=match b with|[]=>(0,2,0)|c::_=>(if c=49 then 1 else 0,0,1)
abbrev Stt:=Nat×Int
def AT (k:List UInt8->Int×Int×Nat)(S:List UInt8)(st:Stt):Int×Stt:=
 if st.2=0 then ((k (S.drop st.1)).1,st.1+(k (S.drop st.1)).2.2,(k (S.drop st.1)).2.1) else (0,st)
def DU (inter:Bool)(S:List UInt8)(st:Stt):Int×Int×Stt:=
 if st.2=0 then ((mtk inter (S.drop st.1)).1,(mtk inter (S.drop st.1)).2.1,st.1+(mtk inter (S.drop st.1)).2.2.2,(mtk inter (S.drop st.1)).2.2.1) else (0,0,st)
def BB (intra a:Bool)(S:List UInt8)(st:Stt):Int×List Ev×Stt:=
 if st.2=0 then ((btk S st.1 intra a).1,(btk S st.1 intra a).2.1,(btk S st.1 intra a).2.2.1,(btk S st.1 intra a).2.2.2) else (0,[],st)
def AR (inter:Bool)(S:List UInt8):Nat->Nat->Stt->Nat×Bool×Int×Int×Stt
 |0,_,st=>(0,false,0,0,st.1,13)
 |k+1,n,st=>
  if inter=true/\(AT DZ S st).1=1 then (n,true,0,0,(AT DZ S st).2) else
  if (DU inter S (if inter then (AT DZ S st).2 else st)).1=5 then AR inter S k (n+1) (DU inter S (if inter then (AT DZ S st).2 else st)).2.2 else
  (n,false,DU inter S (if inter then (AT DZ S st).2 else st))
def FM (S:List UInt8)(kind:Int)(st:Stt):Int×Stt:=if P0 kind then AT stk S st else (0,st)
def BG (S:List UInt8)(a:Int)(st:Stt):Int×Stt:=(AI (AI a+(AT dtk S st).1),(AT dtk S st).2)
def EO (S:List UInt8)(kind:Int)(x y:Int)(st:Stt):Int×Int×Stt:=
 if AG kind then (0,0,st) else ((BG S x st).1,(BG S y (BG S x st).2).1,(BG S y (BG S x st).2).2)
def AX (c i:Nat):Bool:=c / 2^(5-i)%2==1
def stB (intra:Bool)(c:Nat)(S:List UInt8)(st:Stt):Nat->Stt
 |0=>st
 |i+1=>(BB intra (AX c i) S (stB intra c S st i)).2.2
def JS (inter:Bool)(S:List UInt8)(st:Stt):Nat:=
 4*(AT (ptk (AG (AR inter S 65 0 st).2.2.1)) S (AR inter S 65 0 st).2.2.2.2).1.toNat+(AR inter S 65 0 st).2.2.2.1.toNat
def st2 (inter:Bool)(S:List UInt8)(st:Stt):Stt:=(AT (ptk (AG (AR inter S 65 0 st).2.2.1)) S (AR inter S 65 0 st).2.2.2.2).2
def st3 (inter:Bool)(S:List UInt8)(st:Stt):Stt:=(FM S (AR inter S 65 0 st).2.2.1 (st2 inter S st)).2
def st4 (inter:Bool)(S:List UInt8)(x y:Int)(st:Stt):Stt:=(EO S (AR inter S 65 0 st).2.2.1 x y (st3 inter S st)).2.2
def EL (inter:Bool)(S:List UInt8)(x y:Int)(st:Stt):Cel×Stt:=
 if (AR inter S 65 0 st).2.1 then ({Bx with stuff:=(AR inter S 65 0 st).1,skip:=true},(AR inter S 65 0 st).2.2.2.2) else
 ({stuff:=(AR inter S 65 0 st).1,skip:=false,kind:=(AR inter S 65 0 st).2.2.1,step:=(FM S (AR inter S 65 0 st).2.2.1 (st2 inter S st)).1,mx:=(EO S (AR inter S 65 0 st).2.2.1 x y (st3 inter S st)).1,my:=(EO S (AR inter S 65 0 st).2.2.1 x y (st3 inter S st)).2.1,dc:=fun i=>(BB (AG (AR inter S 65 0 st).2.2.1) (AX (JS inter S st) i) S (stB (AG (AR inter S 65 0 st).2.2.1) (JS inter S st) S (st4 inter S x y st) i)).1,ev:=fun i=>(BB (AG (AR inter S 65 0 st).2.2.1) (AX (JS inter S st) i) S (stB (AG (AR inter S 65 0 st).2.2.1) (JS inter S st) S (st4 inter S x y st) i)).2.1},
  stB (AG (AR inter S 65 0 st).2.2.1) (JS inter S st) S (st4 inter S x y st) 6)
def ctk (inter:Bool)(S:List UInt8)(x y:Int)(p:Nat):Cel×Nat×Int:=
 if (EL inter S x y (p,0)).2.2=0 then ((EL inter S x y (p,0)).1,(EL inter S x y (p,0)).2.1,0) else (Bx,p,(EL inter S x y (p,0)).2.2)
theorem ED {k:List UInt8->Int×Int×Nat}{S:List UInt8}{p:Nat}:AT k S (p,0)=((k (S.drop p)).1,p+(k (S.drop p)).2.2,(k (S.drop p)).2.1):=Bb rfl
theorem MC {k:List UInt8->Int×Int×Nat}{S:List UInt8}{st:Stt}(h:st.2≠0):AT k S st=(0,st):=Ba h
theorem QE {inter:Bool}{S:List UInt8}{p:Nat}:DU inter S (p,0)=((mtk inter (S.drop p)).1,(mtk inter (S.drop p)).2.1,p+(mtk inter (S.drop p)).2.2.2,(mtk inter (S.drop p)).2.2.1):=Bb rfl
theorem Td {inter:Bool}{S:List UInt8}{st:Stt}(h:st.2≠0):DU inter S st=(0,0,st):=Ba h
theorem NZ {intra a:Bool}{S:List UInt8}{p:Nat}:BB intra a S (p,0)=((btk S p intra a).1,(btk S p intra a).2.1,(btk S p intra a).2.2.1,(btk S p intra a).2.2.2):=Bb rfl
theorem fW {intra a:Bool}{S:List UInt8}{st:Stt}(h:st.2≠0):BB intra a S st=(0,[],st):=Ba h
theorem Sk {intra:Bool}{c:Nat}{S:List UInt8}{st:Stt}{i:Nat}(h:(stB intra c S st i).2≠0):∀k,stB intra c S st (i+k)=stB intra c S st i
 |0=>rfl
 |k+1=>by
  have a:=Sk h k;show (BB intra (AX c (i+k)) S (stB intra c S st (i+k))).2.2=_;rw[a,fW h]
theorem OS {S:List UInt8}{kind:Int}{st:Stt}(h:st.2≠0):FM S kind st=(0,st):=by
 unfold FM;rw[MC h]
 split <;> rfl
theorem MQ {S:List UInt8}{kind x y:Int}{st:Stt}(h:st.2≠0):(EO S kind x y st).2.2=st:=by
 unfold EO BG;rw[MC h]
 split
 ·rfl
 ·simp only;rw[MC h]
theorem U3 {inter:Bool}{S:List UInt8}{x y:Int}{p:Nat}{f:Int}(a:f≠0)(h:(EL inter S x y (p,0)).2.2=f):ctk inter S x y p=(Bx,p,f):=by
 unfold ctk;rw[h,Ba a]
theorem MN {inter:Bool}{S:List UInt8}{x y:Int}{p q:Nat}{c:Cel}(h:EL inter S x y (p,0)=(c,q,0)):ctk inter S x y p=(c,q,0):=by
 unfold ctk;rw[h,Bb rfl]
theorem dF {inter:Bool}{S:List UInt8}{x y:Int}{st:Stt}{n:Nat}{k c:Int}{b:Bool}{q:Nat}{f:Int}(h:AR inter S 65 0 st=(n,b,k,c,q,f))(a:f≠0):(EL inter S x y st).2.2=f:=by
 have e2:st2 inter S st=(q,f):=by unfold st2;rw[h,MC a]
 have d:st3 inter S st=(q,f):=by unfold st3;rw[h,e2,OS a]
 have e:st4 inter S x y st=(q,f):=by unfold st4;rw[d,MQ a]
 unfold EL;rw[e,h];simp only
 split
 ·rfl
 ·have:=Sk (intra:=AG k) (c:=JS inter S st) (S:=S) (st:=(q,f)) (i:=0) a 6;rw[Ar] at this;rw[this]
  rfl
theorem R9 {inter:Bool}{S:List UInt8}{x y:Int}{st a:Stt}{n:Nat}{k c:Int}(h:AR inter S 65 0 st=(n,true,k,c,a)):EL inter S x y st=({Bx with stuff:=n,skip:=true},a):=by
 unfold EL;rw[h]
 rfl
theorem qT {inter:Bool}{S:List UInt8}{x y:Int}{st:Stt}{n:Nat}{k c:Int}{a:Stt}(h:AR inter S 65 0 st=(n,false,k,c,a)):(EL inter S x y st).2=stB (AG k) (JS inter S st) S (st4 inter S x y st) 6:=by
 unfold EL;rw[h]
 rfl
theorem RM {inter:Bool}{S:List UInt8}{k n:Nat}{st a:Stt}{v:Int}(hi:inter=true)(h:AT DZ S st=(v,a))(hv:v=1):AR inter S (k+1) n st=(n,true,0,0,a):=by
 unfold AR;rw[h,Bb ⟨hi,hv⟩]
theorem LP {S:List UInt8}{k n:Nat}{st b st2:Stt}{v a c:Int}(h:AT DZ S st=(v,b))(hv:v≠1)(h2:DU true S b=(a,c,st2)):AR true S (k+1) n st=if a=5 then AR true S k (n+1) st2 else (n,false,a,c,st2):=by
 conv=>lhs;unfold AR
 rw[h,Ba (fun e=>hv e.2),Bb rfl,h2]
theorem OA {S:List UInt8}{k n:Nat}{st st2:Stt}{a c:Int}(h2:DU false S st=(a,c,st2)):AR false S (k+1) n st=if a=5 then AR false S k (n+1) st2 else (n,false,a,c,st2):=by
 conv=>lhs;unfold AR
 rw[Ba (fun e=>by cases e.1)];simp only[Ay,Iw,h2]
theorem Wm (inter:Bool)(S:List UInt8):∀(j n:Nat) (st:Stt) (b:Nat) (d:Bool) (k c:Int) (st':Stt),AR inter S j n st=(b,d,k,c,st')->b<=n+j/\0<=k/\k<=4/\k≠2/\0<=c/\c<=3/\(d=true->k=0)
 |0,n,st,b,d,k,c,st',h=>by
  simp only[AR,J1] at h;exact⟨sX,sX,sX,sX,sX,sX,fun _=>h.2.2.1.symm⟩
 |j+1,n,st,b,d,k,c,st',h=>by
  have hk:∀a,(DU inter S a).1≠5->0<=(DU inter S a).1/\(DU inter S a).1<=4/\(DU inter S a).1≠2/\0<=(DU inter S a).2.1/\(DU inter S a).2.1<=3:=by
   intro a f;unfold DU at f ⊢
   split at f
   next hz=>
    rw[Bb hz];simp only at f ⊢;rcases Ww inter (S.drop a.1) with ⟨h1,_⟩|⟨l,h1,h2,h3,h4,g,_⟩
    ·rw[h1];refine⟨?_,?_,?_,?_,?_⟩ <;> simp
    ·exact⟨h1,sX,h3,h4,g⟩
   next hz=>
    rw[Ba hz];refine⟨?_,?_,?_,?_,?_⟩ <;> simp
  unfold AR at h;generalize (if inter=true then (AT DZ S st).2 else st)=m at h
  split at h
  ·simp only[J1] at h;exact⟨sX,sX,sX,sX,sX,sX,fun _=>h.2.2.1.symm⟩
  ·split at h
   ·have:=Wm inter S j (n+1) _ b d k c st' h;exact⟨sX,this.2⟩
   next f=>
    have h1:=hk _ f;simp only[J1] at h;obtain⟨e1,e2,i⟩:=h;rw[i] at h1;simp only at h1;exact⟨sX,h1.1,h1.2.1,h1.2.2.1,h1.2.2.2.1,h1.2.2.2.2,fun e=>by rw[<-e2] at e;cases e⟩
theorem OL {inter:Bool}{S:List UInt8}{x y:Int}{st a c d b:Stt}{n:Nat}{k ch pt e mx my:Int}(h:AR inter S 65 0 st=(n,false,k,ch,a))(h2:AT (ptk (AG k)) S a=(pt,c))(h3:FM S k c=(e,d))(h4:EO S k x y d=(mx,my,b)):
  EL inter S x y st=({stuff:=n,skip:=false,kind:=k,step:=e,mx:=mx,my:=my,dc:=fun i=>(BB (AG k) (AX (4*pt.toNat+ch.toNat) i) S (stB (AG k) (4*pt.toNat+ch.toNat) S b i)).1,ev:=fun i=>(BB (AG k) (AX (4*pt.toNat+ch.toNat) i) S (stB (AG k) (4*pt.toNat+ch.toNat) S b i)).2.1},stB (AG k) (4*pt.toNat+ch.toNat) S b 6):=by
 simp only[EL,st4,st3,st2,JS,h,h2,h3,h4,Ay,Iw]
theorem Qqw (intra:Bool)(S:List UInt8)(st:Stt):0<=(AT (ptk intra) S st).1/\(AT (ptk intra) S st).1<=15:=by
 unfold AT
 split
 ·exact⟨(PN intra _).1,(PN intra _).2.1⟩
 ·constructor <;> simp
theorem PB (S:List UInt8)(st:Stt):-32<=(AT dtk S st).1/\(AT dtk S st).1<=31:=by
 unfold AT
 split
 ·exact⟨(OY _).1,(OY _).2.1⟩
 ·constructor <;> simp
end
section
open Go.RowKit Go.Lib
def DC (w:A5)(pb rb:Nat)(s:ByteArray)(st:Stt):Prop:=
 w.heap[pb]? =some (.cells [.pointer (some ⟨rb,0,none⟩),.int .i64 st.2].toArray 212 (0,0))/\AE w rb s st.1/\rb<pb
theorem DC.lt {w:A5}{pb rb:Nat}{s:ByteArray}{st:Stt}(h:DC w pb rb s st):pb<w.heap.size:=(Am.1 h.1).1
theorem DC.under {w x:A5}{pb rb N:Nat}{s:ByteArray}{st:Stt}(h:DC w pb rb s st)(a:Below N w x)(b:pb<N):DC x pb rb s st:=
 ⟨(a.block pb b).trans h.1,h.2.1.under a (by have:=h.2.2;omega),h.2.2⟩
theorem DC.store {w x:A5}{pb rb:Nat}{s:ByteArray}{st:Stt}{q:Nat}{f:Int}(h:DC w pb rb s st)(hr:AE x rb s q)(hg:w.grownBy x (some rb)):
  DC (x.setCell ⟨pb,1,none⟩ (.int .i64 f)) pb rb s (q,f)/\Ybe rb pb w (x.setCell ⟨pb,1,none⟩ (.int .i64 f)):=by
 have b:=(hg.block pb h.lt (by have:=h.2.2;simp;omega)).trans h.1;have a:rb≠pb:=by have:=h.2.2;omega
 refine⟨⟨?_,⟨?_,hr.2⟩,h.2.2⟩,(Ybe.grown hg (.inl rfl)).trans (Ybe.set _ (.inr rfl))⟩
 ·exact B3 (o:=1) (.int .i64 f) b
 ·rw[Ib _ _ _ _ a];exact hr.1
def C3 (w:A5)(B:Nat)(v:A0)(L:List Ev):Prop:=∃(q:Option Addr) (cap:Nat),v=.slice q L.length cap/\CX w q L/\CV B q
theorem C3.nil (w:A5)(B:Nat):C3 w B (.slice none 0 0) []:=⟨none,0,rfl,.inl rfl,CV.none _⟩
theorem C3.one {w:A5}{B:Nat}{v:A0}{L:List Ev}(h:C3 w B v L):v.oneCell'=true:=by
 obtain⟨q,cap,rfl,_⟩:=h
 rfl
theorem C3.from {w:A5}{A B:Nat}{v:A0}{L:List Ev}(h:C3 w B v L)(a:A<=B):C3 w A v L:=by
 obtain⟨q,cap,h1,h2,h3⟩:=h;exact⟨q,cap,h1,h2,h3.mono a⟩
theorem C3.moved {w x:A5}{a b B:Nat}{v:A0}{L:List Ev}(h:C3 w B v L)(hm:Ybe a b w x)(j:a<B)(c:b<B):C3 x B v L:=by
 obtain⟨q,cap,h1,h2,h3⟩:=h;refine⟨q,cap,h1,?_,h3⟩;rcases h2 with h|⟨k,o,rfl,h4,d⟩
 ·exact .inl h
 ·have hk:B<=k:=h3 _ rfl;have c:=hm.block k h4 sX sX;refine .inr ⟨k,o,rfl,Bc h4 hm.size,fun i hi=>?_⟩;obtain⟨e,f,g⟩:=d i hi;exact⟨(G4 (a:=⟨k,o+i*3,none⟩) c).trans e,(G4 (a:=⟨k,o+i*3+1,none⟩) c).trans f,(G4 (a:=⟨k,o+i*3+2,none⟩) c).trans g⟩
theorem C3.below {w x:A5}{B:Nat}{v:A0}{L:List Ev}(h:C3 w B v L)(a:Below w.heap.size w x):C3 x B v L:=by
 obtain⟨q,cap,h1,h2,h3⟩:=h;exact⟨q,cap,h1,h2.below a,h3⟩
def S3 (k:List UInt8->Int×Int×Nat)(s:ByteArray)(rb p:Nat)(w:A5)(e:Ae)(a:A5):Prop:=
 e=.returned (.tuple #[.int .i64 (k ((A2 s.data.toList).drop p)).1,.int .i64 (k ((A2 s.data.toList).drop p)).2.1])/\AE a rb s (p+(k ((A2 s.data.toList).drop p)).2.2)/\w.grownBy a (some rb)
def JB (k:List UInt8->Int×Int×Nat)(s:ByteArray)(pb rb:Nat)(st:Stt)(w:A5)(e:Ae)(a:A5):Prop:=
 e=.returned (.int .i64 (AT k (A2 s.data.toList) st).1)/\DC a pb rb s (AT k (A2 s.data.toList) st).2/\Ybe rb pb w a
theorem Qob (s:ByteArray)(p:Nat)(h:p<=8*s.size):∃(v f:Int) (n:Nat),DZ ((A2 s.data.toList).drop p)=(v,f,n)/\ask s.data.toList p 1=(v,f)/\CM s.data.toList p 1=p+n:=by
 have c:s.data.toList.length=s.size:=rfl;have d:((A2 s.data.toList).drop p).length=8*s.size-p:=by rw[Bf,AZ];rfl
 by_cases g:8*s.size<p+1
 ·have b:ask s.data.toList p 1=(0,2):=FS sX tZ;refine⟨0,2,0,?_,b,by unfold CM;rw[b];rfl⟩;cases hd:(A2 s.data.toList).drop p with
  |nil=>rfl
  |cons a l=>rw[hd] at d;simp at d;omega
 ·have b:ask s.data.toList p 1=(((AB s.data.toList p 1:Nat):Int),0):=EK sX tZ;obtain⟨t,ht,e,hd⟩:=Yn s p sX;rw[ht] at b;refine⟨t,0,1,?_,b,by unfold CM;rw[b];rfl⟩;cases hc:(A2 s.data.toList).drop p with
  |nil=>rw[hc] at hd;cases hd
  |cons a l=>
   rw[hc] at hd;have:a=UInt8.ofNat (48+t):=by simpa using hd
   subst this;rcases e with rfl|rfl <;> rfl
theorem rQ (w:A5)(rb:Nat)(s:ByteArray)(p:Nat)(hr:AE w rb s p):A9 prog 225 #[.pointer (some ⟨rb,0,none⟩)] w (S3 DZ s rb p w):=by
 have hc:=JH w rb s p 1 hr;obtain⟨v,f,n,c,d,ht⟩:=Qob s p hr.2.1;unfold S3;rw[c];rw[d,ht] at hc;clear d ht c hr
 go_enter func225,ntmps225
 go_wp2_with fail
 refine hc.mono ?_;rintro e g ⟨rfl,a,b⟩
 go_wp2
 go_ret2
 exact⟨rfl,a,b⟩
theorem V0 {f : FuncId} {fn : Func} {c : Code} (hf : prog.funcs[f]? = some fn) (hname : (fn.name == "runtime.NumGoroutine") = false) (hb : fn.body = some c) (args : Array Value) (w : World) : (callFunc f args).run prog w = .ok (.enter f args) w := by
 have h1 : fn.name ≠ "runtime.NumGoroutine" := by simpa using hname
 simp[callFunc,hf,h1,hb]
theorem W4 (k:List UInt8->Int×Int×Nat)(c:FuncId)(w:A5)(pb rb:Nat)(s:ByteArray)(st:Stt)(hr:DC w pb rb s st)(i:∀args x,(callFunc c args).run prog x=.ok (.enter c args) x)
  (hk:AE w rb s st.1->A9 prog c #[.pointer (some ⟨rb,0,none⟩)] w (S3 k s rb st.1 w)):
  A9 prog 211 #[.pointer (some ⟨pb,0,none⟩),.func (.func c) #[] #[]] w (JB k s pb rb st w):=by
 obtain⟨p,f⟩:=st;have c0:=AA (o:=0) hr.1 rfl;have c1:=AA (o:=1) hr.1 rfl;simp only at c0 c1;unfold JB;by_cases g:f=0
 ·subst g;have hk:=hk hr.2.1;unfold S3 at hk;rw[ED];simp only at hk ⊢;generalize k ((A2 s.data.toList).drop p)=z at hk ⊢;obtain⟨v,f,n⟩:=z;simp only at hk ⊢;have d:=Dm hr;clear hr
  go_enter func211,ntmps211
  go_wp2_with fail
  refine hk.mono ?_;rintro e m ⟨rfl,b,a⟩;have h:=(a.block pb d.out.lt (by have:=d.out.2.2;simp;omega)).trans d.out.1;have j:=AL (o:=1) h;have l:=AA (o:=1) h rfl;have ST:=Dm (d.out.store (f:=f) b a);clear b a h hk c0 c1
  go_wp2
  go_ret
  exact⟨rfl,ST.out⟩
 ·rw[MC g];have t0:(f != 0)=true:=vU
  go_enter func211,ntmps211
  go_wp2
  go_ret
  exact⟨rfl,hr,Ybe.refl _ _ _⟩
section
variable {N:Nat}{w:A5}{pb rb:Nat}{s:ByteArray}{st:Stt}
theorem Qkm (hr:DC w pb rb s st):A9 prog 211 #[.pointer (some ⟨pb,0,none⟩),.func (.func 225) #[] #[]] w (JB DZ s pb rb st w):=
 W4 DZ _ w pb rb s st hr (V0 func225 tN rfl) fun h=>rQ w rb s st.1 h
theorem Qet (ht:Ybt N w)(a:N<=rb)(hr:DC w pb rb s st):A9 prog 211 #[.pointer (some ⟨pb,0,none⟩),.func (.func 212) #[] #[]] w (JB stk s pb rb st w):=
 W4 stk _ w pb rb s st hr (V0 func212 tN rfl) fun h=>(mC w rb s st.1 ht.steps (by have:=ht.lo.2.2.2.1;omega) h).mono fun _ _ h=>h
theorem XF (ht:Ybt N w)(hr:DC w pb rb s st):A9 prog 211 #[.pointer (some ⟨pb,0,none⟩),.func (.func 213) #[] #[]] w (JB dtk s pb rb st w):=
 W4 dtk _ w pb rb s st hr (V0 func213 tN rfl) fun h=>(Qe6 w rb s st.1 ht.mvd h).mono fun _ _ h=>h
end
theorem Qez {N:Nat}{w:A5}{pb rb:Nat}{s:ByteArray}{st:Stt}(intra:Bool)(ht:Ybt N w)(hr:DC w pb rb s st):
  A9 prog 210 #[.pointer (some ⟨pb,0,none⟩),.bool intra] w (JB (ptk intra) s pb rb st w):=by
 obtain⟨p,f⟩:=st;have c0:=AA (o:=0) hr.1 rfl;have c1:=AA (o:=1) hr.1 rfl;simp only at c0 c1;unfold JB;by_cases d:f=0
 ·subst d;have hk:=Qbw intra w rb s p ht.pats hr.2.1;unfold SO at hk;rw[ED];generalize ptk intra ((A2 s.data.toList).drop p)=z at hk ⊢;obtain⟨v,f,n⟩:=z;simp only at hk ⊢;have c:=Dm hr;clear hr ht
  go_enter func210,ntmps210
  go_wp2_with fail
  refine hk.mono ?_;rintro e j ⟨rfl,b,a⟩;have g:=(a.block pb c.out.lt (by have:=c.out.2.2;simp;omega)).trans c.out.1;have h:=AL (o:=1) g;have i:=AA (o:=1) g rfl;have ST:=Dm (c.out.store (f:=f) b a);clear b a g hk c0 c1
  go_wp2
  go_ret
  exact⟨rfl,ST.out⟩
 ·rw[MC d];have t0:(f != 0)=true:=tS;clear ht
  go_enter func210,ntmps210
  go_wp2
  go_ret
  exact⟨rfl,hr,Ybe.refl _ _ _⟩
def Tw (inter:Bool)(s:ByteArray)(pb rb:Nat)(st:Stt)(w:A5)(e:Ae)(a:A5):Prop:=
 e=.returned (.tuple #[.int .i64 (DU inter (A2 s.data.toList) st).1,.int .i64 (DU inter (A2 s.data.toList) st).2.1])/\DC a pb rb s (DU inter (A2 s.data.toList) st).2.2/\Ybe rb pb w a
theorem Zx {w:A5}{pb rb:Nat}{s:ByteArray}{st:Stt}(inter:Bool)(hr:DC w pb rb s st):
  A9 prog 226 #[.pointer (some ⟨pb,0,none⟩),.bool inter] w (Tw inter s pb rb st w):=by
 obtain⟨p,f⟩:=st;have c0:=AA (o:=0) hr.1 rfl;have c1:=AA (o:=1) hr.1 rfl;simp only at c0 c1;unfold Tw;by_cases d:f=0
 ·subst d;have hk:=lJ inter w rb s p hr.2.1;unfold RZ at hk;rw[QE];generalize mtk inter ((A2 s.data.toList).drop p)=z at hk ⊢;obtain⟨v,j,f,n⟩:=z;simp only at hk ⊢;have c:=Dm hr;clear hr
  go_enter func226,ntmps226
  go_wp2_with fail
  refine hk.mono ?_;rintro e k ⟨rfl,b,a⟩;have g:=(a.block pb c.out.lt (by have:=c.out.2.2;simp;omega)).trans c.out.1;have h:=AL (o:=1) g;have i:=AA (o:=1) g rfl;have ST:=Dm (c.out.store (f:=f) b a);clear b a g hk c0 c1
  go_wp2
  go_ret2
  exact⟨rfl,ST.out⟩
 ·rw[Td d];have t0:(f != 0)=true:=tS
  go_enter func226,ntmps226
  go_wp2
  go_ret2
  exact⟨rfl,hr,Ybe.refl _ _ _⟩
def Vr (intra a:Bool)(s:ByteArray)(pb rb:Nat)(st:Stt)(w:A5)(e:Ae)(b:A5):Prop:=
 ∃v,e=.returned (.tuple #[.int .i64 (BB intra a (A2 s.data.toList) st).1,v])/\C3 b w.heap.size v (BB intra a (A2 s.data.toList) st).2.1/\DC b pb rb s (BB intra a (A2 s.data.toList) st).2.2/\Ybe rb pb w b
theorem rR {N:Nat}{w:A5}{pb rb:Nat}{s:ByteArray}{st:Stt}(intra c:Bool)(ht:Ybt N w)(hr:DC w pb rb s st):
  A9 prog 214 #[.pointer (some ⟨pb,0,none⟩),.bool intra,.bool c] w (Vr intra c s pb rb st w):=by
 obtain⟨p,f⟩:=st;have c0:=AA (o:=0) hr.1 rfl;have c1:=AA (o:=1) hr.1 rfl;simp only at c0 c1;unfold Vr;by_cases n:f=0
 ·subst n;have hk:=Qed w rb s p intra c ht.tcoef hr.2.1;unfold TN at hk;rw[NZ];generalize btk (A2 s.data.toList) p intra c=z at hk ⊢;obtain⟨d,L,q,f⟩:=z;simp only at hk ⊢;have h:=Dm hr;clear hr ht
  go_enter func214,ntmps214
  go_wp2_with fail
  refine hk.mono ?_;rintro e u ⟨d1,L1,f1,t1,m,a,cap,i,rfl,hm,j,k,g,l⟩;simp only[J1] at i;obtain⟨rfl,rfl,rfl,rfl⟩:=i;have r:=(g.block pb h.out.lt (by have:=h.out.2.2;simp;omega)).trans h.out.1;have v:=AL (o:=1) r;have x:=AA (o:=1) r rfl;have ST:=Dm (h.out.store (f:=f) k g);have t:=Dm ((show C3 u w.heap.size (.slice a L.length cap) L from⟨a,cap,rfl,j,l⟩).moved (Ybe.set (a:=pb) (b:=pb) (p:=⟨pb,1,none⟩) (.int .i64 f) (.inl rfl)) h.out.lt h.out.lt);rw[hm] at t;clear k g r hk c0 c1 j l
  go_wp2
  go_ret2
  exact⟨_,rfl,t.out,ST.out⟩
 ·rw[fW n];have t0:(f != 0)=true:=by simpa using n
  clear ht
  go_enter func214,ntmps214
  go_wp2
  go_ret2
  exact⟨_,rfl,C3.nil _ _,hr,Ybe.refl _ _ _⟩
theorem Ybe.onto {a b N:Nat}{w x y:A5}(h:Ybe a b w x)(c:Below N x y)(d:w.heap.size<=N):Ybe a b w y:=
 ⟨c.os.trans h.os,c.tape.trans h.tape,c.output.trans h.output,Ef h.size c.size,fun k hk h1 h2=>(c.block k sX).trans (h.block k hk h1 h2)⟩
theorem CO {w x:A5}{R:Nat}(h:w.grownBy x (some R))(a:R<w.heap.size):Below R w x:=
 ⟨h.os,h.tape,h.output,h.size,fun k hk=>h.block k sX sU⟩
theorem DC.wrong {w:A5}{pb rb:Nat}{s:ByteArray}{st:Stt}(f:Int)(h:DC w pb rb s st):
  DC (w.setCell ⟨pb,1,none⟩ (.int .i64 f)) pb rb s (st.1,f)/\Ybe rb pb w (w.setCell ⟨pb,1,none⟩ (.int .i64 f)):=
 h.store h.2.1 ⟨rfl,rfl,rfl,B9 _,fun _ _ _=>rfl⟩
theorem HT (c:Cel)(sl:Nat->A0):(prog.info? 77).map (·.size)=some (AD c sl).toArray.size:=tN
theorem HS (c:Cel)(sl:Nat->A0)(h:∀i,i<6->(sl i).oneCell'=true):(AD c sl).toArray.all (·.oneCell')=true:=by
 rw[Gb];intro v hv;have hm:v∈AD c sl:=by simpa using hv
 simp only[AD,Ee,Eg,Ep] at hm;rcases hm with rfl|rfl|rfl|rfl|rfl|rfl|rfl|rfl|rfl|rfl|rfl|rfl|rfl|rfl|rfl|rfl|rfl|rfl
 all_goals first|rfl|exact h _ sX
def Qdm (inter:Bool)(s:ByteArray)(pb rb:Nat)(st:Stt)(w:A5)(e:Ae)(a:A5):Prop:=
 ∃(n:Nat) (b:Bool) (k c:Int) (st':Stt),AR inter (A2 s.data.toList) 65 0 st=(n,b,k,c,st')/\e=.returned (.tuple #[.agg (AD {Bx with stuff:=n,skip:=b,kind:=k} nilS).toArray,.int .i64 c])/\DC a pb rb s st'/\Ybe rb pb w a
set_option maxRecDepth 100000 in
theorem Y90 {w:A5}{pb rb:Nat}{s:ByteArray}{st:Stt}(inter:Bool)(hr:DC w pb rb s st):
  A9 prog 209 #[.pointer (some ⟨pb,0,none⟩),.bool inter] w (Qdm inter s pb rb st w):=by
 obtain⟨R,Q⟩:=Ah w.heap.size;obtain⟨S,D⟩:=Ah (w.alloc (.cells #[.int .i64 0,.bool false,.int .i64 0,.int .i64 0,.int .i64 0,.int .i64 0,.int .i64 0,.int .i64 0,.int .i64 0,.int .i64 0,.int .i64 0,.int .i64 0,.slice none 0 0,.slice none 0 0,.slice none 0 0,.slice none 0 0,.slice none 0 0,.slice none 0 0] 77 (0,0)));have K:Below R w S:=by rw[<-D,<-Q];exact(Dn _ w).alloc (B9 _) _
 have aa:S.heap.size=R+1:=by rw[<-D,<-Q];simp
 have hA:S.heap[R]? =some (.cells #[.int .i64 0,.bool false,.int .i64 0,.int .i64 0,.int .i64 0,.int .i64 0,.int .i64 0,.int .i64 0,.int .i64 0,.int .i64 0,.int .i64 0,.int .i64 0,.slice none 0 0,.slice none 0 0,.slice none 0 0,.slice none 0 0,.slice none 0 0,.slice none 0 0] 77 (0,0)):=by rw[<-D,<-Q];exact heap_alloc_new w _
 obtain⟨Y,hY⟩:∃Y:Array A0,#[.int .i64 0,.bool false,.int .i64 0,.int .i64 0,.int .i64 0,.int .i64 0,.int .i64 0,.int .i64 0,.int .i64 0,.int .i64 0,.int .i64 0,.int .i64 0,.slice none 0 0,.slice none 0 0,.slice none 0 0,.slice none 0 0,.slice none 0 0,.slice none 0 0]=Y:=⟨_,rfl⟩;have T:Y.size=18:=by rw[<-hY];rfl
 rw[hY] at hA;clear hY;have ab:∀(n k:Int) (H:Bool),Y.size=((#[.int .i64 n,.bool H,.int .i64 k,.int .i64 0,.int .i64 0,.int .i64 0,.int .i64 0,.int .i64 0,.int .i64 0,.int .i64 0,.int .i64 0,.int .i64 0,.slice none 0 0,.slice none 0 0,.slice none 0 0,.slice none 0 0,.slice none 0 0,.slice none 0 0]:Array A0)).size:=fun _ _ _=>T;have I:∀(n k:Int) (H:Bool),(prog.info? 77).map (·.size)=some ((#[.int .i64 n,.bool H,.int .i64 k,.int .i64 0,.int .i64 0,.int .i64 0,.int .i64 0,.int .i64 0,.int .i64 0,.int .i64 0,.int .i64 0,.int .i64 0,.slice none 0 0,.slice none 0 0,.slice none 0 0,.slice none 0 0,.slice none 0 0,.slice none 0 0]:Array A0)).size:=fun n k H=>HT {Bx with stuff:=n,skip:=H,kind:=k} nilS;have C:∀(n k:Int) (H:Bool),((#[.int .i64 n,.bool H,.int .i64 k,.int .i64 0,.int .i64 0,.int .i64 0,.int .i64 0,.int .i64 0,.int .i64 0,.int .i64 0,.int .i64 0,.int .i64 0,.slice none 0 0,.slice none 0 0,.slice none 0 0,.slice none 0 0,.slice none 0 0,.slice none 0 0]:Array A0)).all (·.oneCell')=true:=fun n k H=>HS {Bx with stuff:=n,skip:=H,kind:=k} nilS fun _ _=>rfl;have E:pb<R:=Q▸hr.lt;have af:rb<pb:=hr.2.2;have U:DC S pb rb s st:=hr.under K E;have V:Ybe rb pb w S:=(Ybe.refl rb pb w).onto K sX;have ac:=Dm D;have W:=Dm Q;have Z:=Dm ab;clear D Q T K hr
 go_enter func209,ntmps209
 go_wp2
 rw[ac.out,W.out]
 go_loopw [9] (fun z wr=>∃(i:Nat) (st':Stt),i<=65/\z=.int .i64 i/\DC wr pb rb s st'/\Hid (AR inter (A2 s.data.toList) 65 0 st=AR inter (A2 s.data.toList) (65-i) i st')/\Ybe rb pb w wr/\wr.heap[R]? =some (.cells Y 77 (0,0))/\R<wr.heap.size) (fun z _=>65-(intOf z).toNat)
 case atStart=>exact⟨0,st,sX,rfl,U,Dm rfl,V,hA,sX⟩
 case round=>
  clear U V hA aa;obtain⟨i,L,hi,rfl,p,hs,q,r,b⟩:=hrel;by_cases ag:i<65
  ·have t0:decide ((i:Int)<65)=true:=sU;obtain⟨j,hj⟩:∃j,65-i=j+1:=⟨64-i,sX⟩;have h:=hs.out;rw[hj] at h;have X:j=65-(i+1):=sX;have ad:=Dm X;clear hj X hs;cases inter with
   |true=>
    have cb:=Qkm p;unfold JB at cb;generalize J:AT DZ (A2 s.data.toList) L=z at cb;obtain⟨v,st2⟩:=z;simp only at cb;have G:=Dm J;clear J;by_cases hv:v=1
    ·have F:=Dm (show AR true (A2 s.data.toList) 65 0 st=(i,true,0,0,st2) by rw[h];exact RM rfl G.out hv);subst hv;clear h
     go_wp2_with fail
     refine cb.mono ?_;rintro e w2 ⟨rfl,l,hm⟩;have f:=(hm.block R b sX sX).trans r;have d:=Bc b hm.size;have g:=q.trans hm;clear cb hm p q r b
     go_wp2_with (with_reducible refine AK rfl 77 _ _ rfl R _ Y rfl rfl 77 f (I _ _ _) (Z.out _ _ _) (C _ _ _) ?_;intro w5 y A)
     have m:=CO A d;refine Hb (C0 rfl _ _ R 77 _ (0,0) _ rfl y Nc rfl tN) rfl ?_;exact⟨i,true,0,0,st2,F.out,rfl,l.under m E,g.onto m (Ge W.out)⟩
    ·have g1:(v==1)=false:=by simpa using hv
     have ae:=Dm hv;clear hv
     go_wp2_with fail
     refine cb.mono ?_;rintro e w3 ⟨rfl,l,hm⟩;have f:=(hm.block R b sX sX).trans r;have d:=Bc b hm.size;have g:=q.trans hm;clear cb hm p q r b;have B:=Zx true l;unfold Tw at B;generalize u:DU true (A2 s.data.toList) st2=z at B;obtain⟨a,c,st3⟩:=z;simp only at B;have x:=Dm u;clear u;by_cases t:a=5
     ·subst t;have F:=Dm (show AR true (A2 s.data.toList) 65 0 st=AR true (A2 s.data.toList) j (i+1) st3 by rw[h];exact(LP G.out ae.out x.out).trans (Bb rfl));clear h
      go_wp2_with fail
      refine B.mono ?_;rintro e w2 ⟨rfl,M,hm⟩;have N:=(hm.block R d sX sX).trans f;have O:=Bc d hm.size;have P:=g.trans hm;clear B hm l g f d
      go_wp2
      go_roundw
      case rel=>exact⟨i+1,st3,sX,tP,M,Dm (by rw[F.out,ad.out]),P,N,O⟩
      case measure=>simp[intOf];omega
     ·have g5:(a != 5)=true:=by simpa using t
      have F:=Dm (show AR true (A2 s.data.toList) 65 0 st=(i,false,a,c,st3) by rw[h];exact(LP G.out ae.out x.out).trans (Ba t));clear h t
      go_wp2_with fail
      refine B.mono ?_;rintro e w2 ⟨rfl,M,hm⟩;have N:=(hm.block R d sX sX).trans f;have O:=Bc d hm.size;have P:=g.trans hm;clear B hm l g f d
      go_wp2_with (with_reducible refine AK rfl 77 _ _ rfl R _ Y rfl rfl 77 N (I _ _ _) (Z.out _ _ _) (C _ _ _) ?_;intro w5 y A)
      have m:=CO A O;refine Hb (C0 rfl _ _ R 77 _ (0,0) _ rfl y Nc rfl tN) rfl ?_;exact⟨i,false,a,c,st3,F.out,rfl,M.under m E,P.onto m (Ge W.out)⟩
   |false=>
    have B:=Zx false p;unfold Tw at B;generalize u:DU false (A2 s.data.toList) L=z at B;obtain⟨a,c,st2⟩:=z;simp only at B;have x:=Dm u;clear u;by_cases t:a=5
    ·subst t;have F:=Dm (show AR false (A2 s.data.toList) 65 0 st=AR false (A2 s.data.toList) j (i+1) st2 by rw[h];exact(OA x.out).trans (Bb rfl));clear h
     go_wp2_with fail
     refine B.mono ?_;rintro e w2 ⟨rfl,l,hm⟩;have f:=(hm.block R b sX sX).trans r;have d:=Bc b hm.size;have g:=q.trans hm;clear B hm p q r b
     go_wp2
     go_roundw
     case rel=>exact⟨i+1,st2,sX,tP,l,Dm (by rw[F.out,ad.out]),g,f,d⟩
     case measure=>simp[intOf];omega
    ·have g5:(a != 5)=true:=by simpa using t
     have F:=Dm (show AR false (A2 s.data.toList) 65 0 st=(i,false,a,c,st2) by rw[h];exact(OA x.out).trans (Ba t));clear h t
     go_wp2_with fail
     refine B.mono ?_;rintro e w2 ⟨rfl,l,hm⟩;have f:=(hm.block R b sX sX).trans r;have d:=Bc b hm.size;have g:=q.trans hm;clear B hm p q r b
     go_wp2_with (with_reducible refine AK rfl 77 _ _ rfl R _ Y rfl rfl 77 f (I _ _ _) (Z.out _ _ _) (C _ _ _) ?_;intro w5 y A)
     have m:=CO A d;refine Hb (C0 rfl _ _ R 77 _ (0,0) _ rfl y Nc rfl tN) rfl ?_;exact⟨i,false,a,c,st2,F.out,rfl,l.under m E,g.onto m (Ge W.out)⟩
  ·obtain rfl:i=65:=sX;have t0:decide ((65:Int)<65)=false:=sV;have F:=Dm (show AR inter (A2 s.data.toList) 65 0 st=(0,false,0,0,L.1,13) by rw[hs.out];rfl);obtain⟨l,hm⟩:=p.wrong 13;have f:=(hm.block R b sX sX).trans r;have d:=Bc b hm.size;have g:=q.trans hm;have c1:=AA (o:=1) p.1 rfl;have ah:=AL (o:=1) p.1;clear hs hm p q r b
   go_wp2_with (with_reducible refine AK rfl 77 _ _ rfl R _ Y rfl rfl 77 f (I _ _ _) (Z.out _ _ _) (C _ _ _) ?_;intro w5 y A)
   have m:=CO A d;refine Hb (C0 rfl _ _ R 77 _ (0,0) _ rfl y Nc rfl tN) rfl ?_;exact⟨0,false,0,0,_,F.out,rfl,l.under m E,g.onto m (Ge W.out)⟩
def F0 (D:Cel)(i:Nat):Cel:={D with dc:=fun j=>if j<i then D.dc j else 0}
theorem QT (D:Cel)(i:Nat):{F0 D i with dc:=IH (F0 D i).dc i (D.dc i)}=F0 D (i+1):=by
 have h:IH (F0 D i).dc i (D.dc i)=(F0 D (i+1)).dc:=by
  funext j
  show (if j=i then D.dc i else if j<i then D.dc j else 0)=if j<i+1 then D.dc j else 0
  by_cases e:j=i
  ·rw[Bb e,Bb sX,e]
  ·rw[Ba e];by_cases h:j<i
   ·rw[Bb h,Bb sX]
   ·rw[Ba h,Ba sX]
 rw[h]
 rfl
theorem Rb (c:Cel)(sl:Nat->A0)(v:Int):∀i,i<6->(AD c sl).set (6+i) (.int .i64 v)=AD {c with dc:=IH c.dc i v} sl
 |0,_=>rfl
 |1,_=>rfl
 |2,_=>rfl
 |3,_=>rfl
 |4,_=>rfl
 |5,_=>rfl
def HC (sl:Nat->A0)(i:Nat)(v:A0):Nat->A0:=fun j=>if j=i then v else sl j
theorem Rk (c:Cel)(sl:Nat->A0)(v:A0):∀i,i<6->(AD c sl).set (12+i) v=AD c (HC sl i v)
 |0,_=>rfl
 |1,_=>rfl
 |2,_=>rfl
 |3,_=>rfl
 |4,_=>rfl
 |5,_=>rfl
theorem lL {c:Cel}{f:Nat->Int}{sl:Nat->A0}(h:∀i,i<6->c.dc i=f i):AD c sl=AD {c with dc:=f} sl:=by
 unfold AD;rw[h 0 sX,h 1 sX,h 2 sX,h 3 sX,h 4 sX,h 5 sX]
theorem QB (D:Cel)(sl:Nat->A0):AD (F0 D 6) sl=AD D sl:=lL (c:=F0 D 6) (f:=D.dc) fun _ hi=>Bb hi
theorem T0 (w:A5):(zeroValue 77).run prog w=.ok (.agg (AD Bx nilS).toArray) w:=by
 have h:(prog.info? 77).map (fun i=>i.zero)=some (some (.agg (AD Bx nilS).toArray)):=tN;generalize (AD Bx nilS).toArray=Z at h ⊢;cases hq:prog.info? 77 with
 |none=>simp[hq] at h
 |some i=>
  simp[hq] at h;simp[zeroValue,typeInfo,hq,h]
def GP (S:List UInt8)(x y:Int)(st:Stt):Nat->Int×Int×Stt
 |0=>(0,0,st)
 |1=>((BG S x st).1,0,(BG S x st).2)
 |_=>((BG S x st).1,(BG S y (BG S x st).2).1,(BG S y (BG S x st).2).2)
theorem Rw {S:List UInt8}{k x y:Int}{st:Stt}(h:AG k=false):EO S k x y st=GP S x y st 2:=by
 unfold EO;rw[h]
 rfl
structure Yzz (w wr:A5) (pb rb A R C:Nat) (s:ByteArray) (x y:Int) (Y:Array A0) (st:Stt) (c:Cel) (sl:Nat->A0):Prop where
 rd:DC wr pb rb s st
 mv:Ybe rb pb w wr
 two:wr.heap[A]? =some (.cells #[.int .i64 x,.int .i64 y] 73 (0,0))
 res:wr.heap[R]? =some (.cells Y 77 (0,0))
 cel:wr.heap[C]? =some (.cells (AD c sl).toArray 77 (0,0))
 lt:rb<pb/\pb<A/\A<R/\R<C/\C<wr.heap.size/\w.heap.size<=A
section
variable {w wr z:A5}{pb rb A R C:Nat}{s:ByteArray}{x y:Int}{Y:Array A0}{st st':Stt}{c c':Cel}{sl sl':Nat->A0}
theorem Yzz.move (h:Yzz w wr pb rb A R C s x y Y st c sl)(hr:DC z pb rb s st')(hm:Ybe rb pb wr z):Yzz w z pb rb A R C s x y Y st' c sl:=by
 obtain⟨b,d,e,f,a,g⟩:=h.lt;exact⟨hr,h.mv.trans hm,(hm.block A sX sX sX).trans h.two,(hm.block R sX sX sX).trans h.res,(hm.block C a sX sX).trans h.cel,b,d,e,f,Bc a hm.size,g⟩
theorem Yzz.set (h:Yzz w wr pb rb A R C s x y Y st c sl)(o:Nat)(v:A0)(hs:(AD c sl).set o v=AD c' sl'):Yzz w (wr.setCell ⟨C,o,none⟩ v) pb rb A R C s x y Y st c' sl':=by
 obtain⟨d,e,f,b,g,i⟩:=h.lt;have a:Below C wr (wr.setCell ⟨C,o,none⟩ v):=⟨rfl,rfl,rfl,tY,fun k hk=>Ib _ _ _ _ sU⟩;refine⟨h.rd.under a sX,h.mv.onto a sX,(a.block A sX).trans h.two,(a.block R b).trans h.res,?_,d,e,f,b,Bc g a.size,i⟩;rw[<-hs];exact B3 (o:=o) v h.cel
theorem Yzz.same (h:Yzz w wr pb rb A R C s x y Y st c sl)(a:AD c sl=AD c' sl'):Yzz w wr pb rb A R C s x y Y st c' sl':=
 ⟨h.rd,h.mv,h.two,h.res,a▸h.cel,h.lt⟩
end
theorem lG (c k:Nat):(bits .and .i64 ((c:Int) / 2^k) 1==1)=(c / 2^k%2==1):=by
 have h:=LQ ((c:Int) / 2^k) 1 sX;have h2:((2:Int)^1-1)=1:=rfl;rw[h2] at h;rw[h];rw[Jc,Bj,Bj];have h3:((c:Int) / 2^k)=((c / 2^k:Nat):Int):=sV;rw[h3];omega
def Y9s (inter:Bool)(s:ByteArray)(pb rb:Nat)(x y:Int)(st:Stt)(w:A5)(e:Ae)(a:A5):Prop:=
 ∃(c:Cel) (st':Stt) (sl:Nat->A0),EL inter (A2 s.data.toList) x y st=(c,st')/\e=.returned (.agg (AD c sl).toArray)/\(∀i,i<6->C3 a w.heap.size (sl i) (c.ev i))/\DC a pb rb s st'/\Ybe rb pb w a
set_option maxRecDepth 100000 in
theorem Qen {N:Nat}{w:A5}{pb rb:Nat}{s:ByteArray}{st:Stt}(inter:Bool)(x y:Int)(ht:Ybt N w)(hN:N<=rb)(hr:DC w pb rb s st):
  A9 prog 193 #[.pointer (some ⟨pb,0,none⟩),.bool inter,.agg #[.int .i64 x,.int .i64 y]] w (Y9s inter s pb rb x y st w):=by
 obtain⟨Y,hY⟩:∃Y:Array A0,(AD Bx nilS).toArray=Y:=⟨_,rfl⟩;have c7:∀w,(zeroValue 77).run prog w=.ok (.agg Y) w:=by rw[<-hY];exact T0
 obtain⟨A,wA,wB,hA,bd,bf,cf,cg,bg,bh,a0⟩:=JT w (.cells #[.int .i64 x,.int .i64 y] 73 (0,0)) (.cells Y 77 (0,0));have bi:pb<A:=hA▸hr.lt;have ci:rb<pb:=hr.2.2;have bj:DC wB pb rb s st:=hr.under a0 bi;have bk:Ybe rb pb w wB:=(Ybe.refl rb pb w).onto a0 (Ge hA);have bl:∀z,Ybe rb pb w z->Ybt N z:=fun z hz=>ht.below (hz.under (by have:=hr.lt;omega) hN sX);have cb:=Y90 inter bj;have cx:=Dm hY;have cj:=Dm hA;have ck:=Dm bd;have cl:=Dm bf;have bm:=Dm bl;clear hY hA bd bf bl ht hr
 go_enter func193,ntmps193
 go_wp2_with fail
 rw[ck.out,cj.out,cl.out];refine cb.mono ?_;rintro e w1 ⟨n,sk,k,ch,T,aq,rfl,bn,U⟩;obtain⟨Z,hZ⟩:∃Z,(AD {Bx with stuff:=n,skip:=sk,kind:=k} nilS).toArray=Z:=⟨_,rfl⟩;rw[hZ];obtain⟨C,hC⟩:=Ah w1.heap.size;obtain⟨w2,W⟩:=Ah (w1.alloc (.cells Z 77 (0,0)));have cy:Yzz w w2 pb rb A (A+1) C s x y Y T {Bx with stuff:=n,skip:=sk,kind:=k} nilS:=by
  have ag:Below C w1 w2:=by rw[<-W,<-hC];exact(Dn _ w1).alloc (B9 _) _
  have c8:=U.size;refine⟨bn.under ag sX,(bk.trans U).onto ag (by have:=cj.out;omega),?_,?_,?_,ci,bi,sX,sX,by rw[<-W,<-hC];simp,Ge cj.out⟩
  ·exact(ag.block A sX).trans ((U.block A sX sX sX).trans bg)
  ·exact(ag.block (A+1) sX).trans ((U.block (A+1) sX sX sX).trans bh)
  ·rw[hZ,<-W,<-hC];exact heap_alloc_new w1 _
 have Q:(prog.info? 77).map (·.size)=some Z.size:=hZ▸HT _ _;have ah:Y.size=Z.size:=by rw[<-hZ,<-cx.out];rfl
 have M:Z.all (·.oneCell')=true:=hZ▸HS _ _ fun _ _=>rfl;have cz:=Dm hZ;have c0:=Dm hC;have bo:=Dm W;have X:=Dm aq;have l:=Dm cy;clear hZ hC W aq cy bn U bj bk a0 bg bh cf cg cb;have aa:=l.out.cel;rw[cz.out] at aa;have ar:=l.out.res;have hC:=l.out.lt;have a1:=Wm _ _ _ _ _ _ _ _ _ _ X.out;cases sk with
 |true=>
  have c1:w2.cell? ⟨C,1,none⟩=some (.bool true):=AA (o:=1) l.out.cel rfl;obtain rfl:0=k:=(a1.2.2.2.2.2.2 rfl).symm;clear a1
  go_wp2_with (first|(with_reducible refine BL rfl 77 _ _ rfl Z Y 77 rfl rfl Q ah M ?_;rw[bo.out,c0.out])|(with_reducible refine Nb rfl 77 _ rfl C rfl 77 Z (0,0) _ aa Nc rfl Q ?_)|(with_reducible refine AK rfl 77 _ _ rfl (A+1) Z Y rfl rfl 77 ar Q ah M ?_;intro w5 a2 ai))
  have ab:=CO ai sX;refine Hb (Hc rfl _ _ (A+1) 77 _ (0,0) _ rfl a2 Nc rfl Q) rfl ?_;exact⟨_,T,nilS,R9 X.out,by rw[<-cz.out];rfl,fun i hi=>C3.nil _ _,l.out.rd.under ab sX,l.out.mv.onto ab sX⟩
 |false=>
  obtain⟨b0,b1,b2,b3,b4,b5,_⟩:=a1;obtain⟨a,rfl⟩:∃a:Nat,ch=(a:Int):=⟨ch.toNat,sX⟩;have c1:w2.cell? ⟨C,1,none⟩=some (.bool false):=AA (o:=1) l.out.cel rfl;have c2:w2.cell? ⟨C,2,none⟩=some (.int .i64 k):=AA (o:=2) l.out.cel rfl;have bp:Hid (k=0\/k=1\/k=3\/k=4):=Dm sX;obtain⟨t,a3⟩:=Ah (AG k);have a4:=Qqw t (A2 s.data.toList) T;have cp:=Qez t (bm.out _ l.out.mv) l.out.rd;unfold JB at cp;generalize bq:AT (ptk t) (A2 s.data.toList) T=z at cp a4;obtain⟨pt,s2⟩:=z;simp only at cp a4;obtain⟨b,rfl⟩:∃b:Nat,pt=(b:Int):=⟨pt.toNat,sX⟩;have cm:Hid (AT (ptk (AG k)) (A2 s.data.toList) T=((b:Int),s2)):=Dm (by rw[a3];exact bq);obtain⟨E,a5⟩:=Ah (4*b+a);have c9:E<=63:=sX;have c3:(b:Int)<=15:=sX;have ho:bits .or .i64 ((b:Int)*4) (a:Int)=(E:Int):=(QY b 4 a 2 rfl sX sX).trans (by rw[a5]);have cn:=Dm a5;have aj:=Dm a3;clear a5 bq a3 b1 b2 b3
  go_upto_region 4 with (with_reducible refine BL rfl 77 _ _ rfl Z Y 77 rfl rfl Q ah M ?_;rw[bo.out,c0.out])
  go_cut [9] (fun v wx=>v=.bool t/\wx=w2)
  case first=>
   obtain rfl|rfl|rfl|rfl:=bp.out
   all_goals
    go_wp2
    go_meet
    case rel=>exact⟨by rw[<-aj.out];rfl,by trivial⟩
  case rest=>
   obtain⟨rfl,ac⟩:=hcut;rw[ac];clear ac
   go_wp2_with fail
   refine cp.mono ?_;rintro e w3 ⟨rfl,br,bs⟩;have a6:=l.out.move br bs;have d2:w3.cell? ⟨C,2,none⟩=some (.int .i64 k):=AA (o:=2) a6.cel rfl;have H:=Dm a6;clear cp a4 br bs l aa ar c1 c2 Q ah M a6
   go_upto_region 6 with fail
   go_cut [43] (fun v wx=>v=.bool (P0 k)/\wx=w3)
   case first=>
    obtain rfl|rfl|rfl|rfl:=bp.out
    all_goals
     go_wp2
     go_meet
     case rel=>exact⟨by rfl,by trivial⟩
   case rest=>
   obtain⟨rfl,ac⟩:=hcut;rw[ac];clear ac d2;obtain⟨sk,a7⟩:=Ah (P0 k);have c4:=Dm a7;rw[a7];clear a7
   go_upto_if 43 with fail
   go_cut [45] (fun v wx=>∃(J:Int) (f:Stt),FM (A2 s.data.toList) k s2=(J,f)/\Yzz w wx pb rb A (A+1) C s x y Y f {Bx with stuff:=n,skip:=false,kind:=k,step:=J,mx:=0,my:=0} nilS)
   case first=>
    cases sk with
    |false=>
     go_wp2
     go_meet
     case rel=>exact⟨0,s2,by unfold FM;rw[c4.out];rfl,H.out⟩
    |true=>
     have cs:=Qet (bm.out _ H.out.mv) hN H.out.rd;unfold JB at cs;generalize bt:AT stk (A2 s.data.toList) s2=z at cs;obtain⟨J,f⟩:=z;simp only at cs;have co:Hid (FM (A2 s.data.toList) k s2=(J,f)):=Dm (by unfold FM;rw[c4.out];exact bt);clear bt
     go_wp2_with fail
     refine cs.mono ?_;rintro e w4 ⟨rfl,bu,bv⟩;have ak:=H.out.move bu bv;have e3:=AA (o:=3) ak.cel rfl;have f3:=AL (o:=3) ak.cel;have B:=Dm (ak.set 3 (.int .i64 J) (c':={Bx with stuff:=n,skip:=false,kind:=k,step:=J,mx:=0,my:=0}) (sl':=nilS) rfl);clear cs bu bv ak
     go_wp2
     go_meet
     case rel=>exact⟨J,f,co.out,B.out⟩
   case rest=>
    obtain⟨J,f,au,bw⟩:=hcut;obtain⟨wk,rfl⟩:∃z,z=wc:=⟨_,rfl⟩;have bx:=Dm au;have B:=Dm bw;clear au bw H
    go_upto_if 48 with fail
    go_cut [49] (fun v wx=>∃(mx my:Int) (I:Stt),EO (A2 s.data.toList) k x y f=(mx,my,I)/\Yzz w wx pb rb A (A+1) C s x y Y I {Bx with stuff:=n,skip:=false,kind:=k,step:=J,mx:=mx,my:=my} nilS)
    case first=>
     cases t with
     |true=>
      go_wp2
      go_meet
      case rel=>exact⟨0,0,f,by unfold EO;rw[aj.out];rfl,B.out⟩
     |false=>
      go_wp2
      obtain⟨mx,I,al⟩:∃mx I,BG (A2 s.data.toList) x f=(mx,I):=⟨_,_,rfl⟩;have bz:=Dm al;have a8:Hid (GP (A2 s.data.toList) x y f 0=(0,0,f)):=Dm rfl;have a9:Hid (GP (A2 s.data.toList) x y f 1=(mx,0,I)):=Dm (Bz (fun q=>(q.1,(0:Int),q.2)) al);have am:Hid (GP (A2 s.data.toList) x y f 2=(mx,(BG (A2 s.data.toList) y I).1,(BG (A2 s.data.toList) y I).2)):=Dm (by show ((BG (A2 s.data.toList) x f).1,(BG (A2 s.data.toList) y (BG (A2 s.data.toList) x f).2).1,(BG (A2 s.data.toList) y (BG (A2 s.data.toList) x f).2).2)=_;rw[al]);clear al
      go_loopw [49] (fun z wr=>∃i:Nat,i<=2/\z=.int .i64 i/\Hid (Yzz w wr pb rb A (A+1) C s x y Y (GP (A2 s.data.toList) x y f i).2.2 {Bx with stuff:=n,skip:=false,kind:=k,step:=J,mx:=(GP (A2 s.data.toList) x y f i).1,my:=(GP (A2 s.data.toList) x y f i).2.1} nilS)) (fun z _=>2-(intOf z).toNat)
      case atStart=>exact⟨0,sX,rfl,Dm (by rw[a8.out];exact B.out)⟩
      case round=>
       clear B;obtain⟨i,da,rfl,c⟩:=hrel;obtain rfl|rfl|rfl:i=0\/i=1\/i=2:=sX
       ·have g:Yzz w wr pb rb A (A+1) C s x y Y f {Bx with stuff:=n,skip:=false,kind:=k,step:=J,mx:=0,my:=0} nilS:=by have h:=c.out;rw[a8.out] at h;exact h
        have p0:wr.cell? ⟨A,0,none⟩=some (.int .i64 x):=AA (cs:=[.int .i64 x,.int .i64 y]) g.two rfl;have r:=XF (bm.out _ g.mv) g.rd;unfold JB at r;have ad:=PB (A2 s.data.toList) f;have F:BG (A2 s.data.toList) x f=(AI (AI x+(AT dtk (A2 s.data.toList) f).1),(AT dtk (A2 s.data.toList) f).2):=rfl;generalize AT dtk (A2 s.data.toList) f=z at r ad F;obtain⟨dd,s6⟩:=z;simp only at r ad F;have wl:=PV x;have wh:=PU x;have K:=Dm F;have sw:IntKind.i64.wrap (AI x+dd)=AI x+dd:=Kd _ sX;generalize ae:AI x=p1 at K sw wl wh;have cw:=P9 x;rw[ae] at cw;have af:=P9 (p1+dd);generalize AI (p1+dd)=p2 at af K;clear c F ae
        go_wp2_with fail
        refine(cw _).mono ?_;rintro e w6 ⟨rfl,rfl⟩
        go_wp2_with fail
        refine r.mono ?_;rintro e w6 ⟨rfl,u,G⟩;have d:=g.move u G;have e4:=AA (o:=4) d.cel rfl;have f4:=AL (o:=4) d.cel;have cq:=Dm (d.set 4 (.int .i64 p2) (c':={Bx with stuff:=n,skip:=false,kind:=k,step:=J,mx:=p2,my:=0}) (sl':=nilS) rfl);clear d u G r g
        go_wp2_with fail
        refine(af _).mono ?_;rintro e w8 ⟨rfl,rfl⟩
        go_wp2
        go_roundw
        case rel=>exact⟨1,sX,tP,Dm (by rw[show GP (A2 s.data.toList) x y f 1=(p2,0,s6) from by rw[a9.out];exact Bz (fun q=>(q.1,(0:Int),q.2)) (bz.out.symm.trans K.out)];exact cq.out)⟩
        case measure=>simp[intOf]
       ·have g:Yzz w wr pb rb A (A+1) C s x y Y I {Bx with stuff:=n,skip:=false,kind:=k,step:=J,mx:=mx,my:=0} nilS:=by have h:=c.out;rw[a9.out] at h;exact h
        have p0:wr.cell? ⟨A,1,none⟩=some (.int .i64 y):=AA (cs:=[.int .i64 x,.int .i64 y]) g.two rfl;have r:=XF (bm.out _ g.mv) g.rd;unfold JB at r;have ad:=PB (A2 s.data.toList) I;have F:BG (A2 s.data.toList) y I=(AI (AI y+(AT dtk (A2 s.data.toList) I).1),(AT dtk (A2 s.data.toList) I).2):=rfl;generalize AT dtk (A2 s.data.toList) I=z at r ad F;obtain⟨dd,s6⟩:=z;simp only at r ad F;have wl:=PV y;have wh:=PU y;have K:=Dm F;have sw:IntKind.i64.wrap (AI y+dd)=AI y+dd:=Kd _ sX;generalize ae:AI y=p1 at K sw wl wh;have cw:=P9 y;rw[ae] at cw;have af:=P9 (p1+dd);generalize AI (p1+dd)=p2 at af K;clear c F ae
        go_wp2_with fail
        refine(cw _).mono ?_;rintro e w6 ⟨rfl,rfl⟩
        go_wp2_with fail
        refine r.mono ?_;rintro e w6 ⟨rfl,u,G⟩;have d:=g.move u G;have e4:=AA (o:=5) d.cel rfl;have f4:=AL (o:=5) d.cel;have cq:=Dm (d.set 5 (.int .i64 p2) (c':={Bx with stuff:=n,skip:=false,kind:=k,step:=J,mx:=mx,my:=p2}) (sl':=nilS) rfl);clear d u G r g
        go_wp2_with fail
        refine(af _).mono ?_;rintro e w8 ⟨rfl,rfl⟩
        go_wp2
        go_roundw
        case rel=>exact⟨2,sX,tP,Dm (by rw[show GP (A2 s.data.toList) x y f 2=(mx,p2,s6) from am.out.trans (Bz (fun q=>(mx,q.1,q.2)) K.out)];exact cq.out)⟩
        case measure=>simp[intOf]
       ·have h:=c.out;rw[am.out] at h;have db:=Dm h;have b6:Hid (EO (A2 s.data.toList) k x y f=(mx,(BG (A2 s.data.toList) y I).1,(BG (A2 s.data.toList) y I).2)):=Dm (by rw[Rw (S:=(A2 s.data.toList)) (k:=k) (x:=x) (y:=y) (st:=f) aj.out,am.out]);clear h c a8 a9 am bz;rw[show (Value.int .i64 ((2:Nat):Int))=.int .i64 2 from rfl]
        go_wp2
        go_meet
        case rel=>exact⟨_,_,_,b6.out,db.out⟩
    case rest=>
     obtain⟨mx,my,s5,av,g⟩:=hcut;obtain⟨wo,rfl⟩:∃z,z=wc:=⟨_,rfl⟩;have O:=OL (inter:=inter) (x:=x) (y:=y) X.out cm.out bx.out av;rw[show ((b:Int)).toNat=b from rfl,show ((a:Int)).toNat=a from rfl,cn.out,aj.out] at O;obtain⟨D,hD⟩:∃D:Cel,{stuff:=n,skip:=false,kind:=k,step:=J,mx:=mx,my:=my,dc:=fun i=>(BB t (AX E i) (A2 s.data.toList) (stB t E (A2 s.data.toList) s5 i)).1,ev:=fun i=>(BB t (AX E i) (A2 s.data.toList) (stB t E (A2 s.data.toList) s5 i)).2.1}=D:=⟨_,rfl⟩;rw[hD] at O;have cr:=Dm (fun i=>(by rw[<-hD]:D.dc i=(BB t (AX E i) (A2 s.data.toList) (stB t E (A2 s.data.toList) s5 i)).1));have ct:=Dm (fun i=>(by rw[<-hD]:D.ev i=(BB t (AX E i) (A2 s.data.toList) (stB t E (A2 s.data.toList) s5 i)).2.1));have aw:Hid (Yzz w wo pb rb A (A+1) C s x y Y (stB t E (A2 s.data.toList) s5 0) (F0 D 0) nilS):=Dm (Yzz.same g yQ);have b7:=Dm O;clear O hD g av B
     go_wp2
     go_loopw [64] (fun z wr=>∃i:Nat,i<=6/\z=.int .i64 i/\∃sl,Hid (Yzz w wr pb rb A (A+1) C s x y Y (stB t E (A2 s.data.toList) s5 i) (F0 D i) sl/\(∀j,j<i->C3 wr (C+1) (sl j) (D.ev j))/\∀j,i<=j->sl j=.slice none 0 0)) (fun z _=>6-(intOf z).toNat)
     case atStart=>exact⟨0,sX,rfl,nilS,Dm ⟨aw.out,fun j h=>absurd h (Fi j),fun _ _=>rfl⟩⟩
     case round=>
      clear aw;obtain⟨i,de,rfl,sl,c⟩:=hrel;by_cases an:i<6
      ·have t0:decide ((i:Int)<6)=true:=sU;have cb:=rR t (AX E i) (bm.out _ c.out.1.mv) c.out.1.rd;unfold Vr at cb;have ba:(BB t (AX E i) (A2 s.data.toList) (stB t E (A2 s.data.toList) s5 i)).2.2=stB t E (A2 s.data.toList) s5 (i+1):=rfl;have ao:=cr.out i;have ap:=ct.out i;generalize BB t (AX E i) (A2 s.data.toList) (stB t E (A2 s.data.toList) s5 i)=z at cb ba ao ap;obtain⟨dv,L,s5⟩:=z;simp only at cb ba ao ap;subst ba;have b8:=Dm ao;have cu:=Dm ap;have q1:IntKind.i64.wrap (5-(i:Int))=((5-i:Nat):Int):=(Kd _ sX).trans sX;have q2:=lG E (5-i);have q3:decide (((5-i:Nat):Int)<0)=false:=sV;clear ao ap
       go_wp2_with fail
       refine cb.mono ?_;rintro e w6 ⟨v,rfl,cv,u,G⟩;have d:=c.out.1.move u G;have c5:=d.lt;have df:=c.out.1.lt;obtain⟨q,cap,rfl,ax,b9⟩:=cv;have e6:=AA (o:=6+i) d.cel (PM _ _ i an);have f6:=AL (o:=6+i) d.cel;have R:=d.set (6+i) (.int .i64 dv) (Rb _ _ dv i an);rw[<-b8.out,QT] at R;rw[b8.out] at R;have e7:=AA (o:=12+i) R.cel (OF _ _ i an);have f7:=AL (o:=12+i) R.cel;have ca:=R.set (12+i) (.slice q L.length cap) (Rk _ _ _ i an);have bb:Ybe C C w6 ((w6.setCell ⟨C,6+i,none⟩ (.int .i64 dv)).setCell ⟨C,12+i,none⟩ (.slice q L.length cap)):=(Ybe.set (a:=C) (b:=C) (p:=⟨C,6+i,none⟩) _ (.inl rfl)).trans (Ybe.set (a:=C) (b:=C) (p:=⟨C,12+i,none⟩) _ (.inl rfl));have cc:∀j,j<i+1->C3 ((w6.setCell ⟨C,6+i,none⟩ (.int .i64 dv)).setCell ⟨C,12+i,none⟩ (.slice q L.length cap)) (C+1) (HC sl i (.slice q L.length cap) j) (D.ev j):=by
        intro j hj;unfold HC;by_cases e:j=i
        ·rw[Bb e,e,cu.out];exact(show C3 w6 (C+1) _ _ from⟨q,cap,rfl,ax,b9.mono sX⟩).moved bb sX sX
        ·rw[Ba e];exact((c.out.2.1 j sX).moved G sX sX).moved bb sX sX
       have ce:∀j,i+1<=j->HC sl i (.slice q L.length cap) j=.slice none 0 0:=fun j hj=>(Ba sX).trans (c.out.2.2 j sX);have c6:=Dm (And.intro ca (And.intro cc ce));obtain⟨m,hm⟩:=Ah L.length;rw[c.out.2.2 i (B9 i)] at e7;rw[hm] at c6 ⊢;clear cb c u G d R ca bb cc ce ax b9 hm
       go_wp2
       go_roundw
       case rel=>exact⟨i+1,sX,tP,_,c6⟩
       case measure=>simp[intOf];omega
      ·obtain rfl:i=6:=sX;have t0:decide ((6:Int)<6)=false:=sV;have bc:=c.out.1.cel;rw[QB] at bc;have dg:=c.out.1.lt;have u:=c.out.1.res;have ay:=HS D sl fun j hj=>(c.out.2.1 j hj).one;have P:=HT D sl;have az:Y.size=(AD D sl).toArray.size:=by rw[<-cx.out];rfl
       obtain⟨V,hV⟩:=Ah ((AD D sl).toArray);rw[hV] at bc ay P az;have dh:=Dm hV;clear hV
       go_wp2_with (first|(with_reducible refine Nb rfl 77 _ rfl C rfl 77 V (0,0) _ bc Nc rfl P ?_)|(with_reducible refine AK rfl 77 _ _ rfl (A+1) V Y rfl rfl 77 u P az ay ?_;intro w5 a2 ai))
       have ab:=CO ai sX;refine Hb (Hc rfl _ _ (A+1) 77 _ (0,0) _ rfl a2 Nc rfl P) rfl ?_;exact⟨D,_,sl,b7.out,by rw[dh.out],fun j hj=>((c.out.2.1 j hj).moved (Ybe.grown ai (.inl rfl):Ybe (A+1) (A+1) _ _) sX sX).from sX,c.out.1.rd.under ab sX,c.out.1.mv.onto ab sX⟩
end
section
theorem Qi (r m:List UInt8):r.isPrefixOf (r++m)=true:=Jg.2 (Jp _ _)
theorem Qlj (inter:Bool)(a b:Int)(r:ByteArray)(hr:BC inter a b=r)(e:r.data.toList.isEmpty=false)(m:List UInt8):
  mtk inter (r.data.toList++m)=if a=2 then (0,0,6,0) else (a,b,0,r.size):=by
 by_cases hn:a<0\/5<a\/b<0\/3<b\/(a=5/\0<b)
 ·rw[T9 hn] at hr;rw[<-hr] at e;cases e
 obtain⟨k,rfl⟩:∃k:Nat,a=k:=⟨a.toNat,sX⟩;obtain⟨c,rfl⟩:∃c:Nat,b=c:=⟨b.toNat,sX⟩;obtain⟨e1,e2,i⟩:=SX inter k c sX sX;rw[hr] at e1;have d:rowCY (EA inter (4*k+c))=r.data.toList:=by unfold rowCY;rw[e1]
 have f:EA inter (4*k+c)∈D4 inter:=XA sX (by rw[d,e];rfl);obtain⟨h1,h2,h3⟩:=GS (VF inter _ f);rw[d] at h1 h2 h3;have g:r.data.toList.length=r.size:=rfl;have j:=Kr.2 h1;have ht:=SE (TU inter) (b:=r.data.toList++m) (r:=r.data.toList) (by rw[<-d];exact Kc f) (Qi _ _) (k:=25) (n:=1) sX sX;have h:=RT inter ht f (by rw[d];exact(F7.1 (Qi _ _)).symm);rw[e2,i] at h;exact h
theorem Qlz (intra:Bool)(k:Nat)(hk:k<16)(r:ByteArray)(hr:F4 intra k=r)(m:List UInt8):ptk intra (r.data.toList++m)=((k:Int),0,r.size):=by
 have e:IM intra (EX intra k)=(r,((EX intra (EX intra k):Nat):Int)):=by rw[Sj intra _ (QA hk),<-dT hk rfl,hr]
 have c:IM intra (EX intra k)∈CW intra:=aK intra (QA hk);have a:rowC (IM intra (EX intra k))=r.data.toList:=uJ;obtain⟨h1,h2,h3⟩:=GS (Wy intra _ c);rw[a] at h1 h2 h3;have d:r.data.toList.length=r.size:=rfl;have g:=Kr.2 h1;have ht:=SE (VV intra) (b:=r.data.toList++m) (r:=r.data.toList) (by rw[<-a];exact Kc c) (Qi _ _) (k:=25) (n:=1) sX sX;have f:=V4 intra ht c (by rw[a];exact(F7.1 (Qi _ _)).symm);rw[e,Qcc hk] at f;exact f
theorem jR {d:Int}(hd:-32<=d/\d<=31)(r:ByteArray)(hr:BR d=r)(m:List UInt8):dtk (r.data.toList++m)=(d,0,r.size):=by
 obtain⟨j,hj⟩:∃j:Nat,d=(j:Int)-32:=⟨(d+32).toNat,sX⟩;have c:j<64:=sX;have a:rowC (H8 j)=r.data.toList:=by
  show (BR ((j:Int)-32)).data.toList=_;rw[<-hj,hr]
 have ht:=TE c (b:=r.data.toList++m) (by rw[a];exact Qi _ _);rw[a,<-hj] at ht;exact ht
theorem pR {s:Int}(hs:s = -1\/s = -2\/s=1\/s=2)(m:List UInt8):stk ((E7 s).data.toList++m)=(s,0,2):=by
 rcases hs with rfl|rfl|rfl|rfl
 all_goals
  rw[Sf (by simp[E7])]
  rfl
theorem gN (inter:Bool):∀x∈D4 inter,BC inter (sA x.2) (sB x.2)=x.1:=by
 cases inter <;> decide +kernel
theorem jF {inter:Bool}{B:List UInt8}{a b:Int}{n:Nat}(h:mtk inter B=(a,b,0,n)):
  B.take n=(BC inter a b).data.toList/\n=(BC inter a b).size/\n<=B.length/\(BC inter a b).data.toList.isEmpty=false/\a≠2:=by
 obtain⟨⟨f,k⟩,ht⟩:=Ah (tk ((D4 inter).map rowCY) B 25 1);by_cases d:f=0
 ·subst d;obtain⟨h1,h2,h3⟩:=OV ht;obtain⟨x,g,c⟩:=Gi.1 h1;rw[RT inter ht g c] at h
  split at h
  ·simp at h
  next h5=>
   simp only[J1,J4] at h;obtain⟨rfl,rfl,rfl⟩:=h;rw[gN inter x g];have e:x.1.data.toList=B.take k:=c;have hl:x.1.data.toList.length=k:=by rw[e,Be];omega
   refine⟨e.symm,hl.symm,h2,?_,h5⟩;cases hq:x.1.data.toList with
   |nil=>rw[hq] at hl;simp at hl;omega
   |cons _ _=>rfl
 ·rw[QM inter ht d] at h;simp only[J1] at h;exact absurd h.2.2.1 d
theorem TF {all:List (ByteArray×Int)}{F:Int->ByteArray}(hF:∀x∈all,F x.2=x.1){B:List UInt8}{v:Int}{n:Nat}(h:gtk all B=(v,0,n)):
  B.take n=(F v).data.toList/\n=(F v).size/\n<=B.length/\∃x∈all,x.2=v:=by
 obtain⟨⟨f,k⟩,ht⟩:=Ah (tk (all.map rowC) B 25 1);unfold gtk at h;rw[ht] at h;by_cases a:f=0
 ·subst a;obtain⟨h1,h2,h3⟩:=OV ht;rw[Bb rfl] at h
  split at h
  next x hx=>
   simp only[J1,J4] at h;obtain⟨rfl,rfl⟩:=h;have hm:=Kj hx;have e:x.1.data.toList=B.take k:=by simpa [rowC] using Kp hx
   rw[hF x hm];exact⟨e.symm,by have:=Bz List.length e;rw[Be] at this;have h2:x.1.data.toList.length=x.1.size:=rfl;omega,h2,x,hm,rfl⟩
  next hx=>
   obtain⟨y,c,b⟩:=Gi.1 h1;have:=Kn.1 hx y c;rw[b] at this;simp at this
 ·rw[Ba a] at h;simp only[J1] at h;exact absurd h.2.1 a
theorem Qpc (intra:Bool):∀x∈CW intra,F4 intra x.2=x.1:=by
 cases intra <;> decide +kernel
theorem sC {intra:Bool}{B:List UInt8}{v:Int}{n:Nat}(h:ptk intra B=(v,0,n)):B.take n=(F4 intra v).data.toList/\n=(F4 intra v).size/\n<=B.length/\0<=v/\v<16:=by
 obtain⟨h1,h2,h3,x,a,hv⟩:=TF (Qpc intra) (show gtk (CW intra) B=(v,0,n) from h);have b:∀x∈CW intra,0<=x.2/\x.2<16:=by cases intra <;> decide +kernel
 exact⟨h1,h2,h3,hv▸(b x a).1,hv▸(b x a).2⟩
theorem Qks:∀x∈allD,BR x.2=x.1:=uB
theorem Qky {B:List UInt8}{d:Int}{n:Nat}(h:dtk B=(d,0,n)):B.take n=(BR d).data.toList/\n=(BR d).size/\n<=B.length∧-32<=d/\d<=31:=by
 obtain⟨h1,h2,h3,x,a,hv⟩:=TF Qks (show gtk allD B=(d,0,n) from h);have b:∀x∈allD,-32<=x.2/\x.2<=31:=uB;exact⟨h1,h2,h3,hv▸(b x a).1,hv▸(b x a).2⟩
theorem Qmr {B:List UInt8}{s:Int}{n:Nat}(b:AH B=true)(h:stk B=(s,0,n)):B.take n=(E7 s).data.toList/\n=2/\2<=B.length/\(s = -1\/s = -2\/s=1\/s=2):=by
 by_cases hl:B.length<2
 ·rw[TH hl] at h;simp at h
 ·rw[Sf sX] at h;simp only[J1,J4] at h;obtain⟨rfl,rfl⟩:=h;have hr:=Lq (B.take 2) (ET _ _ b);have h4:=K0 B b 2 sX;have a:(B.take 2).length=2:=tB;rw[a] at hr;generalize num (B.take 2)=v at hr h4;rw[<-hr]
  match v,h4 with
  |0,_=>exact⟨rfl,rfl,sX,.inl rfl⟩
  |1,_=>exact⟨rfl,rfl,sX,.inr (.inl rfl)⟩
  |2,_=>exact⟨rfl,rfl,sX,.inr (.inr (.inl rfl))⟩
  |3,_=>exact⟨rfl,rfl,sX,.inr (.inr (.inr rfl))⟩
theorem Ql7:∀x∈allT,FK x.2.toNat=x.1:=by
 intro x a;obtain⟨i,_,rfl⟩:=Gi.1 a;show FK ((i:Int)).toNat=FK i;rw[Dp]
theorem UA {B:List UInt8}{n v:Nat}(a:AH B=true)(hl:n<=B.length)(hv:num (B.take n)=v):B.take n=AF v n:=by
 have h:=Lq (B.take n) (ET _ _ a);rw[hv,Be,Bv hl] at h;exact h.symm
theorem X0 {B:List UInt8}{n m:Nat}(a:AH B=true)(hl:n+m<=B.length):∃r,r<2^m/\num (B.take (n+m))=num (B.take n)*2^m+r:=by
 refine⟨num ((B.drop n).take m),?_,?_⟩
 ·exact K0 (B.drop n) (DH _ _ a) m tD
 ·have e:B.take (n+m)=B.take n++(B.drop n).take m:=Ct;have hm:((B.drop n).take m).length=m:=by rw[Be,Bf];omega
  rw[e,LR,hm]
theorem Qk1 {B:List UInt8}(d:AH B=true){l:Bool}{r n:Nat}{v:Int}(h:etk B=((l,r,v),0,n)):DL r v=true/\B.take n=(FL l r v).data.toList/\n<=B.length/\0<n:=by
 obtain⟨⟨S,f,k⟩,hg⟩:=Ah (gtk allT B);by_cases g:f=0
 ·subst g;obtain⟨h1,h2,h3,x,s,t⟩:=TF (F:=fun v=>FK v.toNat) Ql7 hg;obtain⟨i,u,rfl⟩:=Gi.1 s;have hi:i<103:=Bs.1 u;have w:S=(i:Int):=t.symm;subst w;rw[Dp] at h1 h2;obtain⟨c1,c2,c3,c4⟩:=ID i hi;have hk:k=AS i:=h2.trans (by show (AF (DM i) (AS i)).toArray.size=_;simp[BS]);subst hk;have y:B.take (AS i)=AF (DM i) (AS i):=h1;have b:num (B.take (AS i))=DM i:=by rw[y,IQ,Bq c3]
  by_cases hl:B.length<if i=102 then 22 else AS i+1
  ·rw[Ss hg hl] at h;simp at h
  by_cases a:i=102
  ·subst a;rw[Bb rfl] at hl;rw[S0 hg sX] at h
   split at h
   next hc=>
    rw[Al,L4] at hc;have T:AS 102=7:=uB;have U:DM 102=3:=uB;rw[T,U] at b;obtain⟨q,W,hs⟩:=X0 (n:=7) (m:=15) d sX;rw[b] at hs;have hs:num (B.take 22)=3*2^15+q:=hs;generalize X:num (B.take 22)=V at h hc hs;simp only[J1,J4] at h;obtain⟨j,rfl⟩:=h;rw[j] at hc;obtain⟨hr,c⟩:=hc;simp only at hr c;have z:(V / 16384%2==1)=l:=(Nd j).1;have A:V / 256%64=r:=(Nd (Nd j).2).1;have C:(if 127<V%256 then ((V%256:Nat):Int)-256 else ((V%256:Nat):Int))=v:=(Nd (Nd j).2).2;have D:l.toNat=V / 16384%2:=by
     rw[<-z];rcases Nh (V / 16384) with e|e <;> simp[e]
    have E:(v%256).toNat=V%256:=by
     rw[<-C]
     split <;> omega
    have G:DO l r v=V:=by
     unfold DO;rw[Ba (by simp[c]),D,E,<-A];omega
    have H:DI l r v=22:=by
     unfold DI;rw[Ba (by simp[c])]
    refine⟨hr,?_,sX,sX⟩;rw[UA d sX X];unfold FL;rw[Bb hr,Dp,G,H]
   ·simp at h
  ·rw[Ba a] at hl;rw[Sn hg a sX] at h;obtain⟨⟨o,p,M⟩,_,N,O⟩:=UK i sX;obtain⟨x,s⟩:=Ah (evT i);rw[s] at o p M N O h;obtain⟨P,I,Y⟩:=x;simp only at o p M N O;simp only[NP,J1,J4] at h;obtain⟨⟨rfl,rfl,hv⟩,rfl⟩:=h;obtain⟨q,W,hs⟩:=X0 (n:=AS i) (m:=1) d sX;rw[b] at hs;have hs:num (B.take (AS i+1))=DM i*2+q:=hs;have J:q=0\/q=1:=sX;have K:v.natAbs=Y/\(if v<0 then 1 else 0)=q∧-12<=v/\v<=12/\v≠0:=by
    rcases J with rfl|rfl
    ·rw[Ba (by rw[hs];simp)] at hv;subst hv;exact⟨sV,Ba sX,sX,sX,sX⟩
    ·rw[Bb (by rw[hs];simp)] at hv;subst hv;exact⟨sV,Bb sX,sX,sX,sX⟩
   obtain⟨Q,Z,k3,k4,k5⟩:=K;have hr:DL (I:Int) v=true:=KQ.2 ⟨sX,sX,sX,sX,k5⟩;have G:DO P I v=DM i*2+q:=by
    unfold DO;rw[Q,Bb o,p,Z];omega
   have H:DI P I v=AS i+1:=by
    unfold DI;rw[Q,Bb o,p]
   refine⟨hr,?_,sX,sX⟩;rw[UA d sX hs];unfold FL;rw[Bb hr,Dp,G,H]
 ·have L:gtk allT B=(0,f,0):=by
   obtain⟨⟨f',k'⟩,ht⟩:=Ah (tk (allT.map rowC) B 25 1);by_cases R:f'=0
   ·subst R;unfold gtk at hg;rw[ht,Bb rfl] at hg
    split at hg <;> (simp only[J1] at hg;exact absurd hg.2.1.symm g)
   ·rw[ML ht R] at hg ⊢;simp only[J1] at hg;rw[hg.2.1]
  rw[V5 L g] at h;simp only[J1] at h;exact absurd h.2.1 g
theorem Zi (x:Ev)(l:List Ev):BU (x::l)=(DW x).data.toList++BU l:=rfl
theorem YL {S:List UInt8}(q:AH S=true)(a:Nat):∀(k:Nat) (acc:List Ev) (p m:Nat) (L:List Ev) (t:Nat),p<=S.length->C4 S k acc p m=(L,0,t)->(lvS a acc).1=m->
  (∀j,(hj:j<acc.length)->acc[j].1=false/\DL acc[j].2.1 acc[j].2.2=true/\(lvS a (acc.take j)).1+acc[j].2.1.toNat<64)->
  ∃e,L=acc++e/\0<e.length/\p<=t/\t<=S.length/\(S.drop p).take (t-p)=BU e/\EV a L L.length=false
 |0,acc,p,m,L,t,hp,h,hm,hall=>by
  simp[C4] at h
 |k+1,acc,p,m,L,t,hp,h,hm,hall=>by
  obtain⟨⟨⟨l,r,v⟩,f,n⟩,g⟩:∃x,etk (S.drop p)=x:=⟨_,rfl⟩;by_cases i:f=0
  ·subst i;obtain⟨hr,c,hn,s⟩:=Qk1 (DH _ _ q) g;rw[Bf] at hn;by_cases o:63<m+r
   ·rw[aO g o] at h;simp at h
   have hfit:∀j,(hj:j<acc.length)->∀L',(u:acc.length<L'.length)->(∀(w:j<L'.length),L'[j]=acc[j])->L'.take j=acc.take j->GK a L' j acc[j]=true:=by
    intro j hj L' u _ ht;obtain⟨y,z,A⟩:=hall j hj;unfold GK;rw[ht,y,z];simp only[Gs,Al,Bj,Av];exact⟨by rw[eq_comm,Gd];omega,A⟩
   cases l with
   |true=>
    rw[V9 g sX] at h;simp only[J1,J4] at h;obtain⟨rfl,rfl⟩:=h;refine⟨[(true,(r:Int),v)],rfl,sV,sX,sX,?_,?_⟩
    ·rw[Bm,c,Zi];simp[DW,BU]
    ·refine V6 _ (B9 _) fun j hj _=>?_;by_cases b:j<acc.length
     ·rw[Ng b];exact hfit j b _ sV (fun _=>Ng b) (by rw[C9 (by omega)])
     ·have d:j=acc.length:=by simp at hj;omega
      subst d;rw[Ni (B9 _)];simp only[Ci,Ji];unfold GK;rw[C9 (B9 _),Jk,hm,hr];simp;omega
   |false=>
    rw[Vv g sX] at h;obtain⟨e,e1,e2,E,B,C,D⟩:=YL q a k (acc++[(false,(r:Int),v)]) (p+n) (m+r+1) L t sX h (by rw[dV,hm];simp) (fun j hj=>by
     by_cases b:j<acc.length
     ·rw[Ng b,C9 sX];exact hall j b
     ·have d:j=acc.length:=by simp at hj;omega
      subst d;rw[Ni (B9 _)];simp only[Ci,Ji];rw[C9 (B9 _),Jk,hm];exact⟨sV,hr,sU⟩)
    refine⟨(false,(r:Int),v)::e,by rw[e1,Bg];rfl,sV,sX,B,?_,D⟩;rw[show t-p=n+(t-(p+n)) by omega,Ct,c,Cf,Zi,C]
    rfl
  ·rw[cY g i] at h;simp only[J1] at h;exact absurd h.2.1 i
theorem mD {B:List UInt8}(f:AH B=true){i:Bool}{d:Int}{n:Nat}(h:dcT B i=(d,0,n)):B.take n=dcB i d/\n<=B.length/\KB i d=true/\n=8*BI i:=by
 cases i with
 |false=>
  rw[Qkq] at h;simp only[J1,J4] at h;obtain⟨rfl,rfl⟩:=h;exact⟨rfl,Do _,rfl,rfl⟩
 |true=>
  by_cases g:B.length<8
  ·rw[TC g] at h;simp at h
  have j:=K0 B f 8 sX;have b:=fun v (hv:num (B.take 8)=v)=>UA f sX hv;by_cases c:num (B.take 8)=0\/num (B.take 8)=128
  ·rw[Tu sX c] at h;simp at h
  by_cases a:num (B.take 8)=255
  ·rw[S4 sX a] at h;simp only[J1,J4] at h;obtain⟨rfl,rfl⟩:=h;exact⟨b 255 a,sX,rfl,rfl⟩
  ·rw[SH sX rfl (fun e=>c (.inl e)) (fun e=>c (.inr e)) a] at h;simp only[J1,J4] at h;obtain⟨rfl,rfl⟩:=h;refine⟨?_,sX,?_,rfl⟩
   ·refine(b _ rfl).trans ?_;unfold dcB;rw[Bb rfl,Ba sX,Dp]
   ·rw[Qe3,Al,Fg,Fg];omega
theorem oE {S:List UInt8}(g:AH S=true){p t:Nat}{i c:Bool}{d:Int}{L:List Ev}(u:p<=S.length)(h:btk S p i c=(d,L,t,0)):
  p<=t/\t<=S.length/\(S.drop p).take (t-p)=CN i d L/\FU i d L=true/\decide (0<L.length)=c:=by
 obtain⟨⟨v,f,n⟩,hd⟩:=Ah (dcT (S.drop p) i);by_cases b:f=0
 ·subst b;obtain⟨k,o,m,w⟩:=mD (DH _ _ g) hd;rw[Bf] at o;cases c with
  |false=>
   rw[SA hd] at h;simp only[J1,J6] at h;obtain⟨rfl,rfl,rfl⟩:=h;refine⟨sX,sX,?_,?_,rfl⟩
   ·rw[Bm,k];simp[CN,BU]
   ·unfold FU;rw[m]
    rfl
  |true=>
   obtain⟨⟨l,f2,e⟩,hl⟩:=Ah (C4 S (65-BI i) [] (p+n) (BI i));by_cases a:f2=0
   ·subst a;rw[Sp hd hl] at h;simp only[J1,J6] at h;obtain⟨rfl,rfl,rfl⟩:=h;obtain⟨x,e1,e2,y,q,r,s⟩:=YL g (BI i) _ [] (p+n) (BI i) l e sX hl rfl (fun j hj=>absurd hj (Fi j));rw[Cb] at e1;subst e1;refine⟨sX,q,?_,?_,by simpa using e2⟩
    ·rw[show e-p=n+(e-(p+n)) by omega,Ct,k,Cf,r]
     rfl
    ·unfold FU;rw[m,s]
     rfl
   ·rw[UD hd hl a] at h;simp only[J1] at h;exact absurd h.2.2.2 a
 ·rw[Ws hd b] at h;simp only[J1] at h;exact absurd h.2.2.2 b
theorem Qbj {k:List UInt8->Int×Int×Nat}{S:List UInt8}{p:Nat}{f:Int}(a:f≠0):AT k S (p,f)=(0,p,f):=MC a
theorem Z1 {inter:Bool}{S:List UInt8}{p:Nat}{f:Int}(a:f≠0):∀j n,(AR inter S j n (p,f)).2.2.2.2.2≠0
 |0,_=>by simp[AR]
 |j+1,n=>by
  unfold AR;rw[Qbj a];have h1:DU inter S (if inter then (p,f) else (p,f))=(0,0,p,f):=by
   rw[ite_self];exact Td a
  simp only at h1 ⊢;rw[h1]
  simpa using a
theorem Qj5 {S:List UInt8}(b:AH S=true){p q:Nat}{v:Int}(a:p<=S.length)(h:AT DZ S (p,0)=(v,q,0)):(v=1/\Seg S p q [49])\/(v=0/\Seg S p q [48]):=by
 rw[ED] at h;have hr:=DH S p b;cases hd:S.drop p with
 |nil=>
  rw[hd] at h;simp[DZ] at h
 |cons c l=>
  rw[hd] at h;simp only[DZ,J1,J6] at h;obtain⟨rfl,rfl⟩:=h;have hc:c=48\/c=49:=by
   rw[hd] at hr;unfold AH at hr;simp at hr;exact hr.1
  rcases hc with rfl|rfl
  ·exact .inr ⟨rfl,Seg.of a (by rw[hd];simp) (by rw[hd];rfl)⟩
  ·exact .inl ⟨rfl,Seg.of a (by rw[hd];simp) (by rw[hd];rfl)⟩
theorem fG {inter:Bool}{b:Int}(h:(BC inter 5 b).data.toList.isEmpty=false):b=0:=by
 by_cases a:b<0\/0<b
 ·rw[T9 sX] at h;cases h
 ·omega
theorem ZK {inter:Bool}{S:List UInt8}{p q:Nat}{a c:Int}(b:p<=S.length)(h:DU inter S (p,0)=(a,c,q,0)):Seg S p q (BC inter a c).data.toList/\(BC inter a c).data.toList.isEmpty=false/\a≠2:=by
 rw[QE] at h;obtain⟨⟨e,c',f,n⟩,hk⟩:=Ah (mtk inter (S.drop p));rw[hk] at h;simp only[J1] at h;obtain⟨rfl,rfl,rfl,rfl⟩:=h;obtain⟨h1,h2,h3,h4,d⟩:=jF hk;exact⟨Seg.of b h3 h1,h4,d⟩
theorem Wc {inter:Bool}{S:List UInt8}(x:AH S=true):∀(j n p m:Nat) (b:Bool) (k c:Int) (q:Nat),p<=S.length->AR inter S j n (p,0)=(m,b,k,c,q,0)->∃d,m=n+d/\d<j/\
  (b=true->inter=true/\k=0/\c=0/\Seg S p q (IE inter d++[49]))/\
  (b=false->Seg S p q (IE inter d++(KH inter++(BC inter k c).data.toList))/\(BC inter k c).data.toList.isEmpty=false/\k≠2/\k≠5)
 |0,n,p,m,b,k,c,q,hp,h=>by
  simp[AR] at h
 |j+1,n,p,m,b,k,c,q,hp,h=>by
  cases inter with
  |false=>
   obtain⟨⟨a,c0,o,f⟩,hk⟩:=Ah (DU false S (p,0));rw[OA hk] at h;by_cases e:f=0
   ·subst e;obtain⟨g,r,y⟩:=ZK hp hk;by_cases i:a=5
    ·subst i;rw[Bb rfl] at h;obtain rfl:=fG r;obtain⟨d,e1,e2,z,A⟩:=Wc x j (n+1) o m b k c q g.2.1 h;have w:Seg S p o (KT false):=g;refine⟨d+1,sX,sX,fun hs=>absurd (z hs).1 sY,fun hs=>?_⟩;obtain⟨s,t⟩:=A hs;rw[NF,Bg];exact⟨w.app s,t⟩
    ·rw[Ba i] at h;simp only[J1] at h;obtain⟨rfl,rfl,rfl,rfl,rfl,_⟩:=h;exact⟨0,rfl,sX,fun hs=>(by cases hs),fun _=>⟨g,r,y,i⟩⟩
   ·exact Wer
  |true=>
   obtain⟨⟨v,o,f1⟩,hn⟩:=Ah (AT DZ S (p,0));by_cases l:f1=0
   ·subst l;rcases Qj5 x hp hn with ⟨rfl,u⟩|⟨rfl,u⟩
    ·rw[RM rfl hn rfl] at h;simp only[J1] at h;obtain⟨rfl,rfl,rfl,rfl,rfl,_⟩:=h;exact⟨0,rfl,sX,fun _=>⟨rfl,rfl,rfl,u⟩,fun hs=>(by cases hs)⟩
    ·obtain⟨⟨a,c0,B,f⟩,hk⟩:=Ah (DU true S (o,0));rw[LP hn sY hk] at h;by_cases e:f=0
     ·subst e;obtain⟨g,r,y⟩:=ZK u.2.1 hk;by_cases i:a=5
      ·subst i;rw[Bb rfl] at h;obtain rfl:=fG r;obtain⟨d,e1,e2,z,A⟩:=Wc x j (n+1) B m b k c q g.2.1 h;have w:Seg S p B (KT true):=u.app g;refine⟨d+1,sX,sX,fun hs=>?_,fun hs=>?_⟩
       ·obtain⟨D,s,t,C⟩:=z hs;rw[NF,Bg];exact⟨rfl,s,t,w.app C⟩
       ·obtain⟨s,t⟩:=A hs;rw[NF,Bg];exact⟨w.app s,t⟩
      ·rw[Ba i] at h;simp only[J1] at h;obtain⟨rfl,rfl,rfl,rfl,rfl,_⟩:=h;exact⟨0,rfl,sX,fun hs=>(by cases hs),fun _=>⟨u.app g,r,y,i⟩⟩
     ·exact Wer
   ·exfalso;have hv:v≠1:=by
     rw[ED] at hn;intro hv;cases hd:S.drop p with
     |nil=>rw[hd] at hn;simp[DZ] at hn;omega
     |cons c0 E=>rw[hd] at hn;simp[DZ] at hn;omega
    have hk:DU true S (o,f1)=(0,0,o,f1):=Td l;rw[LP hn hv hk,Ba sY] at h;simp only[J1] at h;exact l h.2.2.2.2.2
theorem Qlw {intra:Bool}{S:List UInt8}{p q:Nat}{v:Int}(b:p<=S.length)(h:AT (ptk intra) S (p,0)=(v,q,0)):Seg S p q (F4 intra v).data.toList/\0<=v/\v<16:=by
 rw[ED] at h;obtain⟨⟨a,f,n⟩,hk⟩:=Ah (ptk intra (S.drop p));rw[hk] at h;simp only[J1] at h;obtain⟨rfl,rfl,rfl⟩:=h;obtain⟨h1,h2,h3,h4,c⟩:=sC hk;exact⟨Seg.of b h3 h1,h4,c⟩
theorem Qms {S:List UInt8}(c:AH S=true){p q:Nat}{k v:Int}(b:p<=S.length)(h:FM S k (p,0)=(v,q,0)):Seg S p q (E7 v).data.toList/\KS k v=true:=by
 unfold FM at h;unfold KS;cases hk:P0 k with
 |true=>
  rw[hk,Bb rfl,ED] at h;obtain⟨⟨a,f,n⟩,ht⟩:=Ah (stk (S.drop p));rw[ht] at h;simp only[J1] at h;obtain⟨rfl,rfl,rfl⟩:=h;obtain⟨h1,rfl,h3,h4⟩:=Qmr (DH _ _ c) ht;exact⟨Seg.of b h3 h1,by rw[Bb rfl,WO.2 h4];rfl⟩
 |false=>
  rw[hk,Ba sY] at h;simp only[J1,J6] at h;obtain⟨rfl,rfl⟩:=h;exact⟨Seg.nil b,rfl⟩
theorem ZY {S:List UInt8}{p q:Nat}{a v:Int}(b:p<=S.length)(h:BG S a (p,0)=(v,q,0)):Seg S p q (BR (AI (v-AI a))).data.toList/\v=AI v:=by
 unfold BG at h;rw[ED] at h;obtain⟨⟨d,f,n⟩,ht⟩:=Ah (dtk (S.drop p));rw[ht] at h;simp only[J1] at h;obtain⟨rfl,rfl,rfl⟩:=h;obtain⟨h1,h2,h3,h4,c⟩:=Qky ht;have e:AI (AI (AI a+d)-AI a)=d:=tC;rw[e];exact⟨Seg.of b h3 h1,tC⟩
theorem Qna {S:List UInt8}{p q:Nat}{k x y mx my:Int}(d:p<=S.length)(h:EO S k x y (p,0)=(mx,my,q,0)):Seg S p q (LN k x y mx my)/\JI k mx my=true:=by
 unfold EO at h;unfold LN JI;cases hk:AG k with
 |true=>
  rw[hk,Bb rfl] at h;simp only[J1,J6] at h;obtain⟨rfl,rfl,rfl⟩:=h;exact⟨Seg.nil d,rfl⟩
 |false=>
  rw[hk,Ba sY] at h;obtain⟨⟨a,e,f1⟩,h1⟩:=Ah (BG S x (p,0));obtain⟨⟨b,l,f2⟩,h2⟩:=Ah (BG S y (e,f1));rw[h1] at h;simp only at h;rw[h2] at h;simp only[J1] at h;obtain⟨rfl,rfl,rfl,rfl⟩:=h;by_cases c:f1=0
  ·subst c;obtain⟨f,g⟩:=ZY d h1;obtain⟨i,j⟩:=ZY f.2.1 h2;rw[Ba sY,Ba sY,Al,Bj,Bj];exact⟨f.app i,g,j⟩
  ·exfalso;unfold BG at h2;rw[MC (show ((e,f1):Stt).2≠0 from c)] at h2;simp only[J1] at h2;exact c h2.2.2
theorem Xy {S:List UInt8}(e:AH S=true){p q:Nat}{i c:Bool}{d:Int}{L:List Ev}(g:p<=S.length)(h:BB i c S (p,0)=(d,L,q,0)):Seg S p q (CN i d L)/\FU i d L=true/\decide (0<L.length)=c:=by
 rw[NZ] at h;obtain⟨⟨a,l,t,f⟩,b⟩:=Ah (btk S p i c);rw[b] at h;simp only[J1] at h;obtain⟨rfl,rfl,rfl,rfl⟩:=h;obtain⟨h1,h2,h3,h4,j⟩:=oE e g b;exact⟨⟨h1,h2,h3⟩,h4,j⟩
theorem iL {inter:Bool}{k c:Int}(h:(BC inter k c).data.toList.isEmpty=false)(h2:k≠2)(a:k≠5):IJ inter k=true/\0<=c/\c<=3:=by
 have b:¬ (k<0\/5<k\/c<0\/3<c\/(k=5/\0<c)):=by
  intro hn;rw[T9 hn] at h;cases h
 refine⟨?_,sX,sX⟩;rcases (by omega:k=0\/k=1\/k=3\/k=4) with rfl|rfl|rfl|rfl
 ·exact Wep
 ·exact Wep
 ·rfl
 ·cases inter <;> rfl
theorem Qkn {pt ch:Nat}(f:pt<16)(hc:ch<4){c:Cel}(h:∀i,i<6->decide (0<(c.ev i).length)=AX (4*pt+ch) i):BT c 4=pt/\DK c=ch:=by
 have a:∀i,i<6->F8 c i=(4*pt+ch) / 2^(5-i)%2:=by
  intro i hi;unfold F8;rw[h i hi];unfold AX;rcases Nh ((4*pt+ch) / 2^(5-i)) with e|e <;> rw[e] <;> rfl
 have b:=a 0 sX;have h1:=a 1 sX;have h2:=a 2 sX;have h3:=a 3 sX;have h4:=a 4 sX;have d:=a 5 sX;simp only[Nat.reduceSub,Nat.reducePow,Nj] at b h1 h2 h3 h4 d;rw[R8];unfold DK;omega
theorem VL {inter:Bool}{S:List UInt8}(D:AH S=true){x y:Int}{p q:Nat}{c:Cel}(hp:p<=S.length)(h:ctk inter S x y p=(c,q,0)):Seg S p q (E4 inter x y c)/\CC inter c=true:=by
 have m:EL inter S x y (p,0)=(c,q,0):=by
  obtain⟨⟨c1,K,f1⟩,j⟩:=Ah (EL inter S x y (p,0));unfold ctk at h;rw[j] at h ⊢;simp only at h;by_cases e:f1=0
  ·subst e;rw[Bb rfl] at h;exact h
  ·rw[Ba e] at h;simp only[J1] at h;exact absurd h.2.2 e
 clear h;obtain⟨⟨n,T,k,ch,K,f1⟩,E⟩:=Ah (AR inter S 65 0 (p,0));by_cases o:f1=0
 ·subst o;obtain⟨d,e1,e2,e3,e4⟩:=Wc D 65 0 p n T k ch K hp E;rw[Ar] at e1;subst e1;cases T with
  |true=>
   obtain⟨F,U,V,L⟩:=e3 rfl;rw[R9 E] at m;simp only[J1,J6] at m;obtain⟨rfl,rfl⟩:=m;refine⟨?_,?_⟩
   ·unfold E4
    simpa using L
   ·unfold CC;rw[F];simp only[Jw,Gs,Al,Av];exact⟨sX,rfl⟩
  |false=>
   obtain⟨F,U,V,L⟩:=e4 rfl;obtain⟨t,c0,c3⟩:=iL U V L;obtain⟨⟨pt,M⟩,h2⟩:=Ah (AT (ptk (AG k)) S (K,0));obtain⟨⟨sp,N⟩,h3⟩:=Ah (FM S k M);obtain⟨⟨mx,my,G⟩,h4⟩:=Ah (EO S k x y N);rw[OL E h2 h3 h4] at m;simp only[J1] at m;obtain⟨hc,W⟩:=m;have X:(stB (AG k) (4*pt.toNat+ch.toNat) S G 6).2=0:=by rw[W]
   have H:∀i,i<=6->(stB (AG k) (4*pt.toNat+ch.toNat) S G i).2=0:=by
    intro i hi;refine Nf fun b=>?_;have h1:=Sk b (6-i);rw[show i+(6-i)=6 by omega] at h1;rw[h1] at X;exact b X
   have I:G.2=0:=H 0 sX;have J:N.2=0:=by
    refine Nf fun b=>?_;have h1:=MQ (kind:=k) (x:=x) (y:=y) (S:=S) b;rw[h4] at h1;simp only at h1;rw[h1] at I;exact b I
   have Y:M.2=0:=by
    refine Nf fun b=>?_;have h1:=OS (kind:=k) (S:=S) b;rw[h3] at h1;simp only[J1] at h1;rw[h1.2] at J;exact b J
   obtain⟨q2,f2⟩:=M;obtain⟨q3,f3⟩:=N;obtain⟨f,f4⟩:=G;simp only at Y J I;subst Y J I;obtain⟨Z,a2,a3⟩:=Qlw F.2.1 h2;obtain⟨b1,b2⟩:=Qms D Z.2.1 h3;obtain⟨O,v2⟩:=Qna b1.2.1 h4;have r:∀i,i<6->Seg S (stB (AG k) (4*pt.toNat+ch.toNat) S (f,0) i).1 (stB (AG k) (4*pt.toNat+ch.toNat) S (f,0) (i+1)).1 (CN (AG k) (c.dc i) (c.ev i))/\FU (AG k) (c.dc i) (c.ev i)=true/\decide (0<(c.ev i).length)=AX (4*pt.toNat+ch.toNat) i:=by
    intro i
    induction i with
    |zero=>
     intro hi;have j:=H 1 sX;obtain⟨⟨d0,u,t0,f0⟩,a⟩:=Ah (BB (AG k) (AX (4*pt.toNat+ch.toNat) 0) S (f,0));have hn:stB (AG k) (4*pt.toNat+ch.toNat) S (f,0) 1=(t0,f0):=by
      show (BB (AG k) (AX (4*pt.toNat+ch.toNat) 0) S (f,0)).2.2=_;rw[a]
     rw[hn] at j ⊢;simp only at j;subst j;have hd:c.dc 0=d0:=by rw[<-hc];show (BB (AG k) (AX (4*pt.toNat+ch.toNat) 0) S (f,0)).1=d0;rw[a]
     have hl:c.ev 0=u:=by rw[<-hc];show (BB (AG k) (AX (4*pt.toNat+ch.toNat) 0) S (f,0)).2.1=u;rw[a]
     rw[hd,hl];exact Xy D O.2.1 a
    |succ i P=>
     intro hi;obtain⟨Q,_,_⟩:=P sX;have s:=H (i+1) sX;have j:=H (i+1+1) sX;obtain⟨⟨t1,f1⟩,g⟩:=Ah (stB (AG k) (4*pt.toNat+ch.toNat) S (f,0) (i+1));rw[g] at s Q;simp only at s Q;subst s;obtain⟨⟨d0,u,t0,f0⟩,a⟩:=Ah (BB (AG k) (AX (4*pt.toNat+ch.toNat) (i+1)) S (t1,0));have hn:stB (AG k) (4*pt.toNat+ch.toNat) S (f,0) (i+1+1)=(t0,f0):=by
      show (BB (AG k) (AX (4*pt.toNat+ch.toNat) (i+1)) S (stB (AG k) (4*pt.toNat+ch.toNat) S (f,0) (i+1))).2.2=_;rw[g,a]
     rw[hn] at j ⊢;simp only at j;subst j;have hd:c.dc (i+1)=d0:=by rw[<-hc];show (BB (AG k) (AX (4*pt.toNat+ch.toNat) (i+1)) S (stB (AG k) (4*pt.toNat+ch.toNat) S (f,0) (i+1))).1=d0;rw[g,a]
     have hl:c.ev (i+1)=u:=by rw[<-hc];show (BB (AG k) (AX (4*pt.toNat+ch.toNat) (i+1)) S (stB (AG k) (4*pt.toNat+ch.toNat) S (f,0) (i+1))).2.1=u;rw[g,a]
     rw[hd,hl,g];exact Xy D Q.2.1 a
   have l:c.kind=k:=by rw[<-hc]
   have v:c.skip=false:=by rw[<-hc]
   have w:c.stuff=(n:Int):=by rw[<-hc]
   have z:c.step=sp:=by rw[<-hc]
   have A:c.mx=mx:=by rw[<-hc]
   have B:c.my=my:=by rw[<-hc]
   have C:∀i,i<=6->Seg S f (stB (AG k) (4*pt.toNat+ch.toNat) S (f,0) i).1 (D6 c i):=by
    intro i
    induction i with
    |zero=>intro _;exact Seg.nil O.2.1
    |succ i P=>
     intro hi;show Seg S f _ (D6 c i++CN (AG c.kind) (c.dc i) (c.ev i));rw[l];exact(P sX).app (r i sX).1
   have R:=C 6 (B9 _);rw[W] at R;simp only at R;obtain⟨m1,m2⟩:=Qkn (pt:=pt.toNat) (ch:=ch.toNat) (c:=c) sX sX (fun i hi=>(r i hi).2.2);refine⟨?_,?_⟩
   ·unfold E4;rw[v,Ba sY,l,w,z,A,B,m1,m2,Ce a2,Ce c0,Dp,<-Bg,<-Bg,<-Bg,<-Bg];exact(((F.app Z).app b1).app O).app R
   ·unfold CC;rw[v,Ba sY,l,w,z,A,B,t,b2,v2];simp only[Gs,Al,Av];refine⟨sX,QJ.2 fun i hi=>?_⟩;rw[l];exact(r i hi).2.1
 ·exfalso;have:=dF (x:=x) (y:=y) E o;rw[m] at this;exact o this.symm
theorem XR {inter:Bool}{S:List UInt8}{p q:Nat}{a c:Int}(h:Seg S p q (BC inter a c).data.toList)(b:(BC inter a c).data.toList.isEmpty=false)(h2:a≠2):DU inter S (p,0)=(a,c,q,0):=by
 have hl:=h.len;rw[QE,h.at,Qlj inter a c _ rfl b,Ba h2];exact Wes
theorem eP {S:List UInt8}{p q:Nat}{d:UInt8}(h:Seg S p q [d]):AT DZ S (p,0)=(if d=49 then 1 else 0,q,0):=by
 have hl:=h.len;rw[ED,h.at];simp only[Mp,DZ,J1,J6,J4];exact hl.symm
theorem VW {inter:Bool}{S:List UInt8}{j m p q:Nat}{a c:Int}(h:Seg S p q (KH inter++(BC inter a c).data.toList))(b:(BC inter a c).data.toList.isEmpty=false)(h2:a≠2):
  AR inter S (j+1) m (p,0)=if a=5 then AR inter S j (m+1) (q,0) else (m,false,a,c,q,0):=by
 cases inter with
 |false=>exact OA (XR h b h2)
 |true=>
  obtain⟨d,e⟩:=h.split;exact LP (eP d) sY (XR e b h2)
theorem ZO (inter:Bool):(BC inter 5 0).data.toList.isEmpty=false:=by cases inter <;> rfl
theorem aS {S:List UInt8}:∀(n j m p q:Nat),n<j->Seg S p q (IE true n++[49])->AR true S j m (p,0)=(m+n,true,0,0,q,0)
 |0,j,m,p,q,hj,h=>by
  obtain⟨k,rfl⟩:∃k,j=k+1:=⟨j-1,sX⟩;exact RM rfl (eP (show Seg S p q [49] from h)) sY
 |n+1,j,m,p,q,hj,h=>by
  obtain⟨k,rfl⟩:∃k,j=k+1:=⟨j-1,sX⟩;rw[NF,Bg] at h;obtain⟨a,b⟩:=h.split;rw[VW a (ZO true) sY,Bb rfl,aS n k (m+1) _ q sX b,Az,Cj 1 n]
theorem WB {inter:Bool}{S:List UInt8}{a c:Int}(b:(BC inter a c).data.toList.isEmpty=false)(h2:a≠2)(d:a≠5):∀(n j m p q:Nat),n<j->Seg S p q (IE inter n++(KH inter++(BC inter a c).data.toList))->AR inter S j m (p,0)=(m+n,false,a,c,q,0)
 |0,j,m,p,q,hj,h=>by
  obtain⟨k,rfl⟩:∃k,j=k+1:=⟨j-1,sX⟩;rw[VW (show Seg S p q (KH inter++(BC inter a c).data.toList) from h) b h2,Ba d]
  rfl
 |n+1,j,m,p,q,hj,h=>by
  obtain⟨k,rfl⟩:∃k,j=k+1:=⟨j-1,sX⟩;rw[NF,Bg] at h;obtain⟨e,f⟩:=h.split;rw[VW e (ZO inter) sY,Bb rfl,WB b h2 d n k (m+1) _ q sX f,Az,Cj 1 n]
theorem Qfw {inter:Bool}{k:Int}{c:Nat}(h:IJ inter k=true)(hc:c<4):(BC inter k (c:Nat)).data.toList.isEmpty=false/\k≠2/\k≠5:=by
 have hk:k=3\/k=4\/(inter=true/\(k=0\/k=1)):=by
  unfold IJ at h
  simpa [or_assoc] using h
 rcases hk with rfl|rfl|⟨rfl,rfl|rfl⟩
 all_goals
  refine⟨?_,sY,sY⟩
  match c,hc with
  |0,_=>first|rfl|(cases inter <;> rfl)
  |1,_=>first|rfl|(cases inter <;> rfl)
  |2,_=>first|rfl|(cases inter <;> rfl)
  |3,_=>first|rfl|(cases inter <;> rfl)
theorem Qgt {S:List UInt8}{p q:Nat}{i:Bool}{k:Nat}(h:Seg S p q (F4 i (k:Nat)).data.toList)(hk:k<16):AT (ptk i) S (p,0)=(((k:Nat):Int),(q,0)):=by
 have hl:=h.len;rw[ED,h.at,Qlz i k hk _ rfl];exact Wes
theorem jE {S:List UInt8}{p q:Nat}{k s:Int}(h:Seg S p q (E7 s).data.toList)(hs:KS k s=true):FM S k (p,0)=(s,q,0):=by
 have hl:=h.len;unfold FM;unfold KS at hs;cases hk:P0 k with
 |true=>
  rw[hk,Bb rfl,L4] at hs;have h4:=WO.1 hs;rw[Bb rfl,ED,h.at,pR h4];simp only[J1,J6,J4];have:(E7 s).data.toList.length=2:=by rcases h4 with rfl|rfl|rfl|rfl <;> rfl
  omega
 |false=>
  rw[hk,Ba sY,Bj] at hs;subst hs;rw[Ba sY];exact Wes
theorem bF {S:List UInt8}{p q:Nat}{a v:Int}(h:Seg S p q (BR (AI (v-AI a))).data.toList)(hv:v=AI v):BG S a (p,0)=(v,q,0):=by
 have hl:=h.len;unfold BG;rw[ED,h.at,jR (Wv _) _ rfl];have e:AI (AI a+AI (v-AI a))=v:=by unfold AI at hv ⊢;omega
 rw[e];exact Wes
theorem nI {S:List UInt8}{p q:Nat}{k x y mx my:Int}(h:Seg S p q (LN k x y mx my))(hv:JI k mx my=true):EO S k x y (p,0)=(mx,my,q,0):=by
 unfold LN at h;unfold JI at hv;unfold EO;cases hk:AG k with
 |true=>
  rw[hk,Bb rfl] at h hv;rw[Al,Bj,Bj] at hv;obtain⟨rfl,rfl⟩:=hv;rw[Bb rfl];simp only[J1,J6,J4];exact h.len.symm
 |false=>
  rw[hk,Ba sY] at h hv;rw[Al,Bj,Bj] at hv;obtain⟨a,b⟩:=h.split;have h1:=bF a hv.1;have h2:=bF b hv.2;rw[Ba sY,h1];simp only;rw[h2]
theorem X2 {S:List UInt8}{p q:Nat}{i:Bool}{d:Int}{l:List Ev}(h:Seg S p q (CN i d l))(hm:FU i d l=true):BB i (decide (0<l.length)) S (p,0)=(d,l,q,0):=by
 have hl:=h.len;have h1:=h.at;obtain⟨e1,e2,_⟩:=h;have b:S=S.take p++CN i d l++S.drop q:=by rw[Bg,<-h1,Bt]
 have c:(S.take p).length=p:=tB;have a:=Qjy hm (S.take p) (S.drop q);rw[<-b,c,<-hl] at a;rw[NZ,a]
theorem W9 {S:List UInt8}{a:Nat}{c:Cel}{i:Nat}:∀(k b:Nat),Seg S a b (D6 c (i+k))->Seg S a (a+(D6 c i).length) (D6 c i)
 |0,b,h=>by
  have hl:=h.len;rw[C6] at hl h;rw[<-hl];exact h
 |k+1,b,h=>by
  have d:Seg S a b (D6 c (i+k)++CN (AG c.kind) (c.dc (i+k)) (c.ev (i+k))):=h;exact W9 k _ d.split.1
theorem Zn {c:Cel}:∀i,i<6->AX (4*BT c 4+DK c) i=decide (0<(c.ev i).length):=by
 have a:∀i,(F8 c i==1)=decide (0<(c.ev i).length):=by
  intro i;unfold F8;cases decide (0<(c.ev i).length) <;> rfl
 have h:=fun i=>W2 c i;have b:=h 0;have h1:=h 1;have h2:=h 2;have h3:=h 3;have h4:=h 4;have d:=h 5;intro i hi;rw[<-a];unfold AX
 congr 1
 rw[R8];unfold DK
 match i,hi with
 |0,_=>simp only[Nj,Nat.reducePow];omega
 |1,_=>simp only[Nat.reduceSub,Nat.reducePow];omega
 |2,_=>simp only[Nat.reduceSub,Nat.reducePow];omega
 |3,_=>simp only[Nat.reduceSub,Nat.reducePow];omega
 |4,_=>simp only[Nat.reduceSub,Nat.reducePow];omega
 |5,_=>simp only[Nat.reduceSub,Nat.reducePow];omega
theorem W8 {c d:Cel}(a:∀i,i<6->c.ev i=d.ev i)(hd:∀i,i<6->c.dc i=d.dc i)(h1:c.stuff=d.stuff)(h2:c.skip=d.skip)(h3:c.kind=d.kind)(h4:c.step=d.step)(b:c.mx=d.mx)(e:c.my=d.my):FH c d=true:=by
 unfold FH;rw[WH a,Gs];unfold IR;rw[h1,h2,h3,h4,b,e];simp only[J5,Bool.and_self,Gs,Bw];intro i hi;rw[hd i (Bs.1 hi)];exact J5 _
theorem iB {inter:Bool}{S:List UInt8}{x y:Int}{p q:Nat}{c:Cel}(h:Seg S p q (E4 inter x y c))(hm:CC inter c=true):∃c',ctk inter S x y p=(c',q,0)/\FH c' c=true:=by
 unfold CC at hm;rw[Al,Al,Fg,Fg] at hm;obtain⟨⟨F,G⟩,hm⟩:=hm;obtain⟨n,hn⟩:∃n:Nat,c.stuff=n:=⟨c.stuff.toNat,sX⟩;unfold E4 at h;rw[hn,Dp] at h;cases hsk:c.skip with
 |true=>
  rw[hsk,Bb rfl] at hm h;rw[Al] at hm;obtain⟨hi,k⟩:=hm;subst hi;have j:=aS n 65 0 p q sX h;refine⟨_,MN (R9 j),?_⟩;unfold JY at k;simp only[Al,Bj,Bw,Bs,Av] at k;obtain⟨⟨⟨o,r⟩,s,t⟩,hd,u⟩:=k;exact W8 (fun i hi=>(Dh (u i hi)).symm) (fun i hi=>(hd i hi).symm) (by rw[hn];simp) hsk.symm o.symm r.symm s.symm t.symm
 |false=>
  rw[hsk,Ba sY] at hm h;simp only[Al] at hm;obtain⟨⟨hk,hs⟩,hv,l⟩:=hm;rw[<-Bg,<-Bg,<-Bg,<-Bg] at h;obtain⟨a,h,m⟩:=h.cut;obtain⟨H,h,v⟩:=h.cut;obtain⟨I,h,w⟩:=h.cut;obtain⟨z,A,B⟩:=h.cut;obtain⟨c1,c2,c3⟩:=UR c;obtain⟨r1,r2,r3⟩:=Qfw hk c2;have j:=WB r1 r2 r3 n 65 0 p z sX A;rw[Ar] at j;have b:=OL j (Qgt B c1) (jE w hs) (nI v hv);rw[Dp,Dp] at b;have d:∀i,i<6->Seg S (a+(D6 c i).length) (a+(D6 c (i+1)).length) (CN (AG c.kind) (c.dc i) (c.ev i)):=by
   intro i hi;have C:Seg S a q (D6 c (i+1+(5-i))):=by rw[show i+1+(5-i)=6 by omega];exact m
   have D:Seg S a (a+(D6 c (i+1)).length) (D6 c i++CN (AG c.kind) (c.dc i) (c.ev i)):=W9 (5-i) q C;exact D.split.2
  have e:=QJ.1 l;have f:∀i,i<=6->stB (AG c.kind) (4*BT c 4+DK c) S (a,0) i=(a+(D6 c i).length,0):=by
   intro i
   induction i with
   |zero=>intro _;rfl
   |succ i E=>
    intro hi;show (BB (AG c.kind) (AX (4*BT c 4+DK c) i) S (stB (AG c.kind) (4*BT c 4+DK c) S (a,0) i)).2.2=_;rw[E sX,Zn i sX,X2 (d i sX) (e i sX)]
  have g:∀i,i<6->BB (AG c.kind) (AX (4*BT c 4+DK c) i) S (stB (AG c.kind) (4*BT c 4+DK c) S (a,0) i)=(c.dc i,c.ev i,a+(D6 c (i+1)).length,0):=by
   intro i hi;rw[f i sX,Zn i hi,X2 (d i hi) (e i hi)]
  rw[f 6 (B9 _),<-m.len] at b;refine⟨_,MN b,?_⟩;refine W8 (fun i hi=>?_) (fun i hi=>?_) hn.symm hsk.symm rfl rfl rfl rfl
  ·show (BB (AG c.kind) (AX (4*BT c 4+DK c) i) S (stB (AG c.kind) (4*BT c 4+DK c) S (a,0) i)).2.1=_;rw[g i hi]
  ·show (BB (AG c.kind) (AX (4*BT c 4+DK c) i) S (stB (AG c.kind) (4*BT c 4+DK c) S (a,0) i)).1=_;rw[g i hi]
end
section
open Go.RowKit Go.Lib
def Ti (inter:Bool)(S:List UInt8)(at_:Nat)(w:A5)(e:Ae)(b:A5):Prop:=
 ∃(n:Nat) (a:Bool) (k c:Int) (q:Nat) (f:Int),AR inter S 65 0 (at_,0)=(n,a,k,c,q,f)/\Below w.heap.size w b/\
  ((f=0/\e=.returned (.tuple #[.agg (AD {Bx with stuff:=n,skip:=a,kind:=k} nilS).toArray,.int .i64 c,.int .i64 (q:Int),.int .i64 0])/\q<=S.length)\/
  (f≠0/\e=.returned (.tuple #[.agg (AD Bx nilS).toArray,.int .i64 0,.int .i64 0,.int .i64 f])))
theorem NJ {P:Program}{b:Func}{p u v x:Tmp}{ty:TypeId}(h:b.results=#[.cell p ty,.tmp u,.tmp v,.tmp x])(tmps:Array A0)(w:A5)(g:Nat)(t:TypeId)(cs:Array A0)(c:Nat×Nat)(d:TypeDesc)
  (e:tmps.getD p undef=.pointer (some ⟨g,0,none⟩))(hg:w.heap[g]? =some (.cells cs t c))
  (f:P.underlying ty=some d)(hd:(match d with|.struct _|.array _ _=>true|_=>false)=true)(hi:(P.info? ty).map (·.size)=some cs.size):
  (results b tmps).run P w=.ok (.tuple #[.agg cs,tmps.getD u undef,tmps.getD v undef,tmps.getD x undef]) w:=by
 have a:tmps[p]?.getD undef=.pointer (some ⟨g,0,none⟩):=by simpa using e
 simp[results,h,a,asAddr,Result.andThen,run_loadVar_row w g t ty cs c d hg f hd hi]
def Vq (C:Nat)(x:A5):Nat:=match x.cell? ⟨C,0,none⟩ with|some (.int _ n)=>n.toNat|_=>0
theorem V3 {C:Nat}{x:A5}{n:Nat}(h:x.cell? ⟨C,0,none⟩=some (.int .i64 (n:Int))):Vq C x=n:=by
 unfold Vq;rw[h]
 rfl
theorem Qj6 {S:List UInt8}{t:Nat}(h:S.length<=t):AT DZ S (t,0)=(0,t,2):=by
 rw[ED,Cd h]
 rfl
theorem Qj8 {S:List UInt8}{t:Nat}(h:t<S.length)(h1:S[t].toNat=49):AT DZ S (t,0)=(1,t+1,0):=by
 rw[ED,Fl h];have e:S[t]=49:=Jl.1 h1;simp[DZ,e]
theorem Qj7 {S:List UInt8}{t:Nat}(h:t<S.length)(h1:S[t].toNat≠49):AT DZ S (t,0)=(0,t+1,0):=by
 rw[ED,Fl h];have e:¬ S[t]=49:=fun e=>h1 uJ;simp[DZ,e]
structure Qdr (w wr:A5) (R C:Nat) (Y:Array A0) (c:Cel) (sl:Nat->A0):Prop where
 below:Below R w wr
 res:wr.heap[R]? =some (.cells Y 77 (0,0))
 cel:wr.heap[C]? =some (.cells (AD c sl).toArray 77 (0,0))
 lt:R<C/\C<wr.heap.size
section
variable {w wr z:A5}{R C:Nat}{Y:Array A0}{c c':Cel}{sl sl':Nat->A0}
theorem Qdr.move (h:Qdr w wr R C Y c sl)(a:Below wr.heap.size wr z):Qdr w z R C Y c sl:=
 ⟨h.below.trans (a.mono yR),(a.block R yR).trans h.res,(a.block C h.lt.2).trans h.cel,h.lt.1,Bc h.lt.2 a.size⟩
theorem Qdr.set (h:Qdr w wr R C Y c sl)(o:Nat)(v:A0)(hs:(AD c sl).set o v=AD c' sl'):Qdr w (wr.setCell ⟨C,o,none⟩ v) R C Y c' sl':=by
 have a:Below C wr (wr.setCell ⟨C,o,none⟩ v):=⟨rfl,rfl,rfl,tY,fun k hk=>Ib _ _ _ _ sU⟩;refine⟨h.below.trans (a.mono yR),(a.block R h.lt.1).trans h.res,?_,h.lt.1,Bc h.lt.2 a.size⟩;rw[<-hs];exact B3 (o:=o) v h.cel
theorem Qdr.same (h:Qdr w wr R C Y c sl)(a:AD c sl=AD c' sl'):Qdr w wr R C Y c' sl':=
 ⟨h.below,h.res,a▸h.cel,h.lt⟩
end
set_option maxRecDepth 100000 in
theorem oC (inter:Bool)(s:ByteArray)(at_:Nat)(w:A5)(hs:s.size<=1048576)(ha:at_<=s.size):
  A9 prog 94 #[.string s,.int .i64 (at_:Int),.bool inter] w (Ti inter s.data.toList at_ w):=by
 obtain⟨Y,hY⟩:∃Y:Array A0,(AD Bx nilS).toArray=Y:=⟨_,rfl⟩;have a5:∀w,(zeroValue 77).run prog w=.ok (.agg Y) w:=by rw[<-hY];exact T0
 have D:(prog.info? 77).map (·.size)=some Y.size:=hY▸HT _ _;have M:Y.all (·.oneCell')=true:=hY▸HS _ _ fun _ _=>rfl;obtain⟨R,wA,wB,hR,ah,ai,au,av,aj,ab,ak⟩:=JT w (.cells Y 77 (0,0)) (.cells Y 77 (0,0));rw[<-hY] at ab;have al:Qdr w wB R (R+1) Y {Bx with stuff:=((0:Nat):Int)} nilS:=⟨ak,aj,ab,sX,sX⟩;have aw:s.data.toList.length=s.size:=rfl;obtain⟨S,hS⟩:=Ah s.data.toList;rw[hS] at aw ⊢;have ax:=Dm hS;have ay:=Dm hY;have a6:=Dm hR;have az:=Dm ah;have a0:=Dm ai;have a3:∀(n:Nat) (Z:Bool) (k c:Int) (q:Nat) (f:Int) (V:Array A0) (wx wy:A5),AR inter S 65 0 (at_,0)=(n,Z,k,c,q,f)->q<=S.length->f=0->V=(AD {Bx with stuff:=n,skip:=Z,kind:=k} nilS).toArray->Below R w wx->Below R wx wy->Ti inter S at_ w (.returned (.tuple #[.agg V,.int .i64 c,.int .i64 (q:Int),.int .i64 0])) wy:=
  fun n Z k c q f V wx wy h hq H K h1 h2=>⟨n,Z,k,c,q,f,h,hR▸h1.trans h2,.inl ⟨H,by rw[K],hq⟩⟩
 have a4:∀(n:Nat) (Z:Bool) (k c:Int) (q:Nat) (f:Int) (wx wy:A5),AR inter S 65 0 (at_,0)=(n,Z,k,c,q,f)->f≠0->Below R w wx->Below R wx wy->Ti inter S at_ w (.returned (.tuple #[.agg Y,.int .i64 0,.int .i64 0,.int .i64 f])) wy:=
  fun n Z k c q f wx wy h H h1 h2=>⟨n,Z,k,c,q,f,h,hR▸h1.trans h2,.inr ⟨H,by rw[hY]⟩⟩
 have T:=Dm a3;have L:=Dm a4;obtain⟨a8,am⟩:=Ah (Ti inter S at_ w);rw[am] at T L ⊢;clear a3 a4 hS hY hR ah ai aj ab ak au am
 go_enter func94,ntmps94
 go_wp2
 rw[az.out,a6.out,a0.out]
 go_loopw [1] (fun u wr=>∃(i t:Nat),i<=64/\t<=s.size/\u=.int .i64 (t:Int)/\Hid (AR inter S 65 0 (at_,0)=AR inter S (65-i) i (t,0))/\Hid (Qdr w wr R (R+1) Y {Bx with stuff:=(i:Int)} nilS)) (fun _ wr=>65-Vq (R+1) wr)
 case atStart=>exact⟨0,at_,sX,ha,rfl,Dm rfl,Dm al⟩
 case round=>
  clear al av;obtain⟨i,t,hi,ht,rfl,hb,l⟩:=hrel;obtain⟨j,hj⟩:∃j,65-i=j+1:=⟨64-i,sX⟩;have ac:=hb.out;rw[hj] at ac;have an:j=65-(i+1):=sX;have aa:=Dm ac;have ar:=Dm an;have ao:=V3 (AA (o:=0) l.out.cel rfl);have ap:=Dm ao;clear hb ac hj an ao;cases inter with
  |true=>
   by_cases ad:t=s.size
   ·have e0:((t:Int)==(s.size:Int))=true:=uE;have F:=Dm (show AR true S 65 0 (at_,0)=(i,false,0,0,t,2) by rw[aa.out];exact(LP (Qj6 sX) sY (Td (st:=(t,2)) (show (2:Int)≠0 by decide))).trans (Ba sY));clear ad;have d:=l.out.res;have I:=l.out.lt
    go_wp2_with (with_reducible refine AK rfl 77 _ _ rfl R Y Y rfl rfl 77 d D rfl M ?_;intro w5 r v)
    refine Hb (NJ rfl _ _ R 77 _ (0,0) _ rfl r Nc rfl D) rfl ?_;exact L.out _ _ _ _ _ 2 _ _ F.out sY l.out.below (CO v sX)
   ·have e0:((t:Int)==(s.size:Int))=false:=uC;have a7:t<s.size:=sX;have U:S[t]' sX=s[t]:=by have h:=ax.out;subst h;rfl
    by_cases W:s[t].toNat=49
    ·have e1:((s[t].toNat:Int)==49)=true:=uE;have F:=Dm (show AR true S 65 0 (at_,0)=(i,true,0,0,t+1,0) by rw[aa.out];exact RM rfl (Qj8 sX (by rw[U];exact W)) rfl);have c1:wr.cell? ⟨R+1,1,none⟩=some (.bool false):=AA (o:=1) l.out.cel rfl;have f1:=AL (o:=1) l.out.cel;have g:=l.out.set 1 (.bool true) (c':={Bx with stuff:=(i:Int),skip:=true}) (sl':=nilS) rfl;clear ad W U l;have E:=g.cel;have d:=g.res;have I:=g.lt;have x:=HT {Bx with stuff:=(i:Int),skip:=true} nilS;have B:=HS {Bx with stuff:=(i:Int),skip:=true} nilS fun _ _=>rfl;have G:Y.size=(AD {Bx with stuff:=(i:Int),skip:=true} nilS).toArray.size:=by rw[<-ay.out];rfl
     obtain⟨V,K⟩:∃V,(AD {Bx with stuff:=(i:Int),skip:=true} nilS).toArray=V:=⟨_,rfl⟩;rw[K] at E x B G;have aq:=Dm K;clear K
     go_wp2_with (first|(with_reducible refine Nb rfl 77 _ rfl (R+1) rfl 77 V (0,0) _ E Nc rfl x ?_)|(with_reducible refine AK rfl 77 _ _ rfl R V Y rfl rfl 77 d x G B ?_;intro w5 r v))
     refine Hb (NJ rfl _ _ R 77 _ (0,0) _ rfl r Nc rfl x) rfl ?_;exact T.out _ true 0 0 (t+1) 0 _ _ _ F.out sX rfl (by rw[<-aq.out];rfl) g.below (CO v sX)
    ·have e1:((s[t].toNat:Int)==49)=false:=uC;have N:=Dm (Qj7 (S:=S) (t:=t) sX (by rw[U];exact W));clear ad W U;have C:=eG true s (t+1) wr hs sX;rw[ax.out] at C;unfold Rj at C;have m:=Ww true (S.drop (t+1));have y:DU true S (t+1,0)=_:=QE;have O:(S.drop (t+1)).length=S.length-(t+1):=Bf;generalize mtk true (S.drop (t+1))=z at C m y;obtain⟨a,c,f,n⟩:=z;simp only at C m y;have A:=Dm y;clear y;by_cases H:f=0
     ·subst H;obtain⟨m0,m1,m2,m3,m4,m5⟩:0<=a/\a<=5/\a≠2/\0<=c/\c<=3/\n<=(S.drop (t+1)).length:=by
       rcases m with ⟨_,h⟩|h
       ·exact absurd rfl h
       ·exact h.2
      obtain⟨q,hq⟩:=Ah (t+1+n);have ae:q<=s.size:=sX;rw[hq] at C A;clear m O m5 hq;by_cases J:a=5
      ·subst J;have F:=Dm (show AR true S 65 0 (at_,0)=AR true S j (i+1) (q,0) by rw[aa.out];exact(LP N.out sY A.out).trans (Bb rfl))
       go_wp2_with fail
       refine C.mono ?_;rintro e P ⟨rfl,p⟩;have b:=l.out.move p;have c0:P.cell? ⟨R+1,0,none⟩=some (.int .i64 (i:Int)):=AA (o:=0) b.cel rfl;have f0:=AL (o:=0) b.cel;have g:=b.set 0 (.int .i64 ((i:Int)+1)) (c':={Bx with stuff:=(i:Int)+1}) (sl':=nilS) rfl;have d0:(P.setCell ⟨R+1,0,none⟩ (.int .i64 ((i:Int)+1))).cell? ⟨R+1,0,none⟩=some (.int .i64 ((i:Int)+1)):=AA (o:=0) g.cel rfl;have X:=Dm g;clear C p b g l;by_cases Q:i=64
       ·have t64:decide (64<(i:Int)+1)=true:=sU;have a1:=Dm (show AR true S 65 0 (at_,0)=(0,false,0,0,q,13) by rw[F.out,ar.out,Q];rfl);exact Wen
       ·exact Weo
      ·have t5:decide (a<5)=true:=sU;have F:=Dm (show AR true S 65 0 (at_,0)=(i,false,a,c,q,0) by rw[aa.out];exact(LP N.out sY A.out).trans (Ba J));exact Wel
     ·obtain⟨af,ag⟩:a=0/\c=0:=by
       exact Weq
      subst af ag;have g0:(f != 0)=true:=by simpa using H
      have a2:=Dm H;have F:=Dm (show AR true S 65 0 (at_,0)=(i,false,0,0,t+1+n,f) by rw[aa.out];exact(LP N.out sY A.out).trans (Ba sY));exact Wem
  |false=>
   have C:=eG false s (t) wr hs sX;rw[ax.out] at C;unfold Rj at C;have m:=Ww false (S.drop (t));have y:DU false S (t,0)=_:=QE;have O:(S.drop (t)).length=S.length-(t):=Bf;generalize mtk false (S.drop (t))=z at C m y;obtain⟨a,c,f,n⟩:=z;simp only at C m y;have A:=Dm y;clear y;by_cases H:f=0
   ·subst H;obtain⟨m0,m1,m2,m3,m4,m5⟩:0<=a/\a<=5/\a≠2/\0<=c/\c<=3/\n<=(S.drop (t)).length:=by
     rcases m with ⟨_,h⟩|h
     ·exact absurd rfl h
     ·exact h.2
    obtain⟨q,hq⟩:=Ah (t+n);have ae:q<=s.size:=sX;rw[hq] at C A;clear m O m5 hq;by_cases J:a=5
    ·subst J;have F:=Dm (show AR false S 65 0 (at_,0)=AR false S j (i+1) (q,0) by rw[aa.out];exact(OA A.out).trans (Bb rfl))
     go_wp2_with fail
     refine C.mono ?_;rintro e P ⟨rfl,p⟩;have b:=l.out.move p;have c0:P.cell? ⟨R+1,0,none⟩=some (.int .i64 (i:Int)):=AA (o:=0) b.cel rfl;have f0:=AL (o:=0) b.cel;have g:=b.set 0 (.int .i64 ((i:Int)+1)) (c':={Bx with stuff:=(i:Int)+1}) (sl':=nilS) rfl;have d0:(P.setCell ⟨R+1,0,none⟩ (.int .i64 ((i:Int)+1))).cell? ⟨R+1,0,none⟩=some (.int .i64 ((i:Int)+1)):=AA (o:=0) g.cel rfl;have X:=Dm g;clear C p b g l;by_cases Q:i=64
     ·have t64:decide (64<(i:Int)+1)=true:=sU;have a1:=Dm (show AR false S 65 0 (at_,0)=(0,false,0,0,q,13) by rw[F.out,ar.out,Q];rfl);exact Wen
     ·exact Weo
    ·have t5:decide (a<5)=true:=sU;have F:=Dm (show AR false S 65 0 (at_,0)=(i,false,a,c,q,0) by rw[aa.out];exact(OA A.out).trans (Ba J));exact Wel
   ·obtain⟨af,ag⟩:a=0/\c=0:=by
     exact Weq
    subst af ag;have g0:(f != 0)=true:=by simpa using H
    have a2:=Dm H;have F:=Dm (show AR false S 65 0 (at_,0)=(i,false,0,0,t+n,f) by rw[aa.out];exact(OA A.out).trans (Ba sY));exact Wem
end
end Go.Proofs.YtjjmalchelniiaaGreatDoor
