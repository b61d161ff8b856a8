/- StripsChecks, 48. No condition. -/
import Derived.Test.YtjjmalchelniiaaGreatDoorStripsChecksMy
import Derived.Test.YtjjmalchelniiaaGreatDoorStripsChecksMbk
import Derived.Test.YtjjmalchelniiaaGreatDoorStripsChecksMbl
import Derived.Test.YtjjmalchelniiaaGreatDoorStripsChecksMbu
namespace Go.Proofs.YtjjmalchelniiaaGreatDoor
open Go.RowKit
theorem Wd {ct:CelT}{l:List UInt8}{p q:Nat}{S:ShP}(h:wtk ct l p=(S,q,0)):q%8=0:=by
 unfold wtk at h;obtain⟨⟨hd,d,f⟩,e⟩:=Ai (shk l p);rw[e] at h;simp only at h;by_cases a:f=0
 case neg=>rw[Bc a] at h;injection h with _ h;injection h with _ h;exact absurd h a
 rw[Bb (fun x=>x a)] at h;obtain⟨⟨rs,z,g⟩,hr⟩:=Ai (D2 ct l hd.inter hd.fmt (BC hd.fmt).toNat 0 d [] 0);rw[hr] at h;simp only at h;by_cases b:g=0
 case neg=>rw[Bc b] at h;injection h with _ h;injection h with _ h;exact absurd h b
 rw[Bb (fun x=>x b)] at h;by_cases c:AD l z (gap z)=0
 case neg=>rw[Bc c] at h;injection h with _ h;injection h with _ h;cases h
 rw[Bb (fun x=>x c)] at h;injection h with _ h;injection h with h _;rw[<-h];unfold gap;omega
structure StrP where
 sheets:List ShP
 fin:Bool
def EB:StrP:=⟨[],false⟩
def CD (a:Option Int)(S:ShP):Bool:=!S.hd.inter || a==some S.hd.fmt
def CR:Option Int->List ShP->Int
 |_,[]=>0
 |pr,S::r=>if BT S≠0 then BT S else if CD pr S=false then 11 else CR (some S.hd.fmt) r
def E5 (t:StrP):Int:=if t.sheets.length=0\/64<t.sheets.length then 12 else CR none t.sheets
def H2 (a b:StrP):Bool:=a.fin==b.fin&&(decide (a.sheets.length=b.sheets.length)&&(a.sheets.zip b.sheets).all fun p=>shB p.1 p.2)
theorem iG (a:StrP):H2 a a=true:=by simp[H2,QO xF]
def CA (l:List ShP):Option Int:=l.getLast?.map (·.hd.fmt)
theorem pW (l:List ShP)(S:ShP):CA (l++[S])=some S.hd.fmt:=by unfold CA;rw[List.getLast?_concat];rfl
def EX (ct:CelT)(l:List UInt8):Nat->Nat->List ShP->StrP×Nat×Int
 |0,p,_=>(EB,p / 8,13)
 |n+1,p,done=>
  if p=8*l.length then (if done.length=0 then (EB,p / 8,2) else (⟨done,false⟩,0,0))
  else if 0<done.length/\(AX l p).2=0/\(AX l p).1=31 then (if 8*l.length=p+24/\AD l (p+22) 2=0 then (⟨done,true⟩,0,0) else (EB,p / 8,5))
  else match wtk ct l p with
   |(S,q,f)=>if f≠0 then (EB,p / 8,f) else if 64<=done.length then (EB,p / 8,13) else if CD (CA done) S=false then (EB,p / 8,11) else EX ct l n q (done++[S])
def IE (ct:CelT)(l:List UInt8):StrP×Nat×Int:=if 262144<l.length then (EB,0,13) else EX ct l 65 0 []
def MT (b:Bool):List UInt8:=if b then D5 31++[48,48] else []
def C3 (l:List ShP)(b:Bool):List UInt8:=l.flatMap (E6 0)++MT b
theorem kE {a b:Shd}(h:JJ a b=true):a.fmt=b.fmt/\a.inter=b.inter:=by
 unfold JJ at h;simp only[Am,Bm] at h;exact⟨h.2.2.1,h.2.2.2.1⟩
theorem RX {l:List UInt8}{p q n:Nat}(hn:n<32)(h:Seg (AA l) p q (D5 n)):(AX l p).2=0/\(AX l p).1=n/\q=p+22:=by
 obtain⟨a,e,b⟩:=EK (v:=32+n) (n:=22) h (by show 32+n<4194304;omega);rw[IZ b,a,Bc (by omega)];exact⟨rfl,by simp only;omega,e⟩
theorem Zc {l:List UInt8}{p q:Nat}{S:ShP}{r:List UInt8}(h:Seg (AA l) p q (E6 0 S++r)):(AX l p).2=0/\(AX l p).1=0:=by
 unfold E6 at h;simp only[Bf] at h;obtain⟨z,h1,-⟩:=h.cut;obtain⟨a,b,-⟩:=RX (n:=0) (by decide) h1;exact⟨a,b⟩
theorem UI {ct:CelT}{l:List UInt8}{b:Bool}(k:NZ ct (AA l)):∀(rest:List ShP) (n p:Nat) (done:List ShP),p%8=0->done.length+rest.length<=64->rest.length<n->0<done.length+rest.length->CR (CA done) rest=0->
  Seg (AA l) p (8*l.length) (C3 rest b)->∃T,EX ct l n p done=(T,0,0)/\T.fin=b/\∃r',T.sheets=done++r'/\r'.length=rest.length/\((r'.zip rest).all fun p=>shB p.1 p.2)=true
 |[],0,p,done,_,_,hn,_,_,_=>by cases hn
 |[],n+1,p,done,_,_,_,o,_,hs=>by
  rw[EX];have o:0<done.length:=o;cases b with
  |false=>
   have e:8*l.length=p:=hs.len;rw[Bc e.symm,Bb (by omega)];exact⟨⟨done,false⟩,rfl,rfl,[],by simp,rfl,rfl⟩
  |true=>
   have d:Seg (AA l) p (8*l.length) (D5 31++[48,48]):=hs;have c:=d.len;rw[B9,IB] at c;have c:8*l.length=p+24:=c;obtain⟨z,j,h⟩:=d.cut;obtain⟨A,u,D⟩:=RX (n:=31) (by decide) j;subst D;have E:Seg (AA l) (p+22) (8*l.length) (AI 0 2):=by rw[MJ];exact h
   obtain⟨t,-,-⟩:=EK E (by decide);rw[Bb (by omega),Bc ⟨o,A,u⟩,Bc ⟨c,t⟩];exact⟨⟨done,true⟩,rfl,rfl,[],by simp,rfl,rfl⟩
 |S::rest,0,p,done,_,_,hn,_,_,_=>by cases hn
 |S::rest,n+1,p,done,h8,h64,hn,o,hE,hs=>by
  rw[EX];rw[Ao] at h64 hn;rw[CR] at hE;by_cases f:BT S=0
  case neg=>rw[Bc f] at hE;exact absurd hE f
  rw[Bb (fun x=>x f)] at hE;by_cases g:CD (CA done) S=false
  ·rw[Bc g] at hE;exact absurd hE (by decide)
  rw[Bb g] at hE;have d:Seg (AA l) p (8*l.length) (E6 0 S++C3 rest b):=by
   unfold C3 at hs ⊢;rw[G7,Bf] at hs;exact hs
  obtain⟨A,u⟩:=Zc d;obtain⟨q,j,h⟩:=d.cut;have v:=dK 0 S;have B:=j.len;have F:=j.2.1;rw[BB] at F;rw[Bb (by omega),Bb (fun x=>by rw[u] at x;exact absurd x.2.2 (by decide))];have i:q=8*l.length\/(AX l q).2=0:=by
   cases rest with
   |cons G r2=>
    right
    have h2:Seg (AA l) q (8*l.length) (E6 0 G++C3 r2 b):=by
     unfold C3 at h ⊢;rw[G7,Bf] at h;exact h
    exact(Zc h2).1
   |nil=>
    cases b with
    |false=>
     left
     have e:8*l.length=q:=h.len;exact e.symm
    |true=>
     right
     have h2:Seg (AA l) q (8*l.length) (D5 31++[48,48]):=h;obtain⟨z,h3,-⟩:=h2.cut;exact(RX (n:=31) (by decide) h3).1
  rw[V9 (p:=0) (q:=p) (by omega)] at j;obtain⟨r,C,s⟩:=wL k h8 f j i;have w:=Wd C;have y:=kE (a:=r.hd) (b:=S.hd) (by unfold shB at s;rw[Am] at s;exact s.1);have m:¬ CD (CA done) r=false:=by
   unfold CD at g ⊢;rw[y.1,y.2];exact g
  obtain⟨T,H,I,r',J,K,L⟩:=UI k rest n q (done++[r]) w (by rw[B9];simp only[Ao,By];omega) (by omega) (by rw[B9];simp only[Ao,By];omega)
   (by rw[pW,y.1];exact hE) h
  refine⟨T,?_,I,r::r',by rw[J];simp,by rw[Ao,Ao,K],by rw[Le,Gy,s,L];rfl⟩;rw[C];simp only;rw[Bb (by decide),Bb (by omega),Bb m];exact H
theorem ZG {ct:CelT}{l:List UInt8}{T:StrP}(d:NZ ct (AA l))(a:E5 T=0)(hl:l.length<=262144)(hs:AA l=C3 T.sheets T.fin):∃c,IE ct l=(c,0,0)/\H2 c T=true:=by
 unfold E5 at a;by_cases e:T.sheets.length=0\/64<T.sheets.length
 ·rw[Bc e] at a;exact absurd a (by decide)
 rw[Bb e] at a;have b:Seg (AA l) 0 (8*l.length) (C3 T.sheets T.fin):=⟨Dn _,by rw[BB];exact Ba _,by rw[Gt,Nat.sub_zero,<-BB,Iy,hs]⟩;obtain⟨c,g,h,r',f,i,j⟩:=UI d T.sheets 65 0 [] rfl (by simp only[By];omega) (by omega) (by simp only[By];omega) a b;refine⟨c,by unfold IE;rw[Bb (by omega)];exact g,?_⟩
 rw[Ce] at f;unfold H2;rw[h,f,i];simp[j]
theorem ZL {l:List UInt8}(h:l.length%8=0):II l=l:=by
 unfold II;rw[show (8-l.length%8)%8=0 by omega];exact Ew l
theorem hO (l:List ShP):AK (l.flatMap (E6 0))=true:=by
 induction l with
 |nil=>rfl
 |cons S l a=>rw[G7,CX,uZ,a];rfl
theorem gB (l:List ShP):(l.flatMap (E6 0)).length%8=0:=by
 induction l with
 |nil=>rfl
 |cons S l a=>
  have h:=Zg [] S;rw[eG] at h;rw[G7,B9];omega
theorem bN (b:Bool):AK (MT b)=true:=by cases b <;> decide +kernel
theorem kF (l:List ShP)(b:Bool):AK (C3 l b)=true:=by
 unfold C3;rw[CX,hO,bN];rfl
theorem WX (l:List ShP)(b:Bool):(C3 l b).length%8=0:=by
 have h:=gB l;unfold C3;rw[B9];cases b with
 |false=>exact h
 |true=>
  have e:(MT true).length=24:=by decide +kernel
  rw[e];omega
theorem WZ {s:List ShP}{b:Bool}:AA (FF (C3 s b))=C3 s b:=by rw[Vx _ (kF s b),ZL (WX s b)]
theorem R7 (s:List ShP)(b:Bool):8*(FF (C3 s b)).length=(C3 s b).length:=by rw[<-BB,WZ]
def CZ (r:List UInt8)(l:List ShP):List UInt8:=l.foldl FX r
theorem YX:∀(l:List ShP) (r:List UInt8),r.length%8=0->CZ r l=r++l.flatMap (E6 0)
 |[],r,_=>(Ew r).symm
 |S::l,r,h=>by
  show CZ (FX r S) l=_;rw[YX l (FX r S) (Zg r S),qQ h,G7,Bf]
theorem QY (l:List ShP):CZ [] l=C3 l false:=by
 rw[YX l [] rfl];unfold C3 MT;rw[Bb (by decide),Ew];rfl
theorem uJ (r:List UInt8)(l:List ShP)(S:ShP):CZ r (l++[S])=FX (CZ r l) S:=by unfold CZ;rw[Gn];rfl
theorem iX (l:List ShP):E2 (CZ [] l) 31++List.replicate (gap (E2 (CZ [] l) 31).length) 48=C3 l true:=by
 have b:=WX l false;rw[QY];have a:gap (C3 l false).length=0:=by unfold gap;omega
 unfold E2;rw[a,List.replicate_zero,Ew];rw[show gap (C3 l false++D5 31).length=2 by rw[B9,IB];unfold gap;omega];unfold C3;rw[show MT true=D5 31++List.replicate 2 48 from rfl,show MT false=[] from rfl];simp only[Ew,Bf]
theorem RN {ct:CelT}{l:List UInt8}{p:Nat}{done:List ShP}(n:Nat)(h:p=8*l.length):EX ct l (n+1) p done=if done.length=0 then (EB,p / 8,2) else (⟨done,false⟩,0,0):=by rw[EX,Bc h]
theorem rJ {ct:CelT}{l:List UInt8}{p:Nat}{done:List ShP}(n:Nat)(h:p≠8*l.length)(hm:0<done.length/\(AX l p).2=0/\(AX l p).1=31):
  EX ct l (n+1) p done=if 8*l.length=p+24/\AD l (p+22) 2=0 then (⟨done,true⟩,0,0) else (EB,p / 8,5):=by rw[EX,Bb h,Bc hm]
theorem YL {ct:CelT}{l:List UInt8}{p q:Nat}{f:Int}{S:ShP}{done:List ShP}(n:Nat)(h:p≠8*l.length)(hm:¬ (0<done.length/\(AX l p).2=0/\(AX l p).1=31))(a:wtk ct l p=(S,q,f)):
  EX ct l (n+1) p done=if f≠0 then (EB,p / 8,f) else if 64<=done.length then (EB,p / 8,13) else if CD (CA done) S=false then (EB,p / 8,11) else EX ct l n q (done++[S]):=by rw[EX,Bb h,Bb hm,a]
theorem Rx:∀(a b:List ShP) (c:Option Int),CR c (a++b)=if CR c a≠0 then CR c a else CR (if a.length=0 then c else CA a) b
 |[],b,c=>by simp[CR]
 |S::a,b,c=>by
  have d:∀r,CR c (S::r)=if BT S≠0 then BT S else if CD c S=false then 11 else CR (some S.hd.fmt) r:=fun r=>by rw[CR]
  rw[J0,d,d];by_cases h1:BT S=0
  case neg=>simp[h1]
  by_cases h2:CD c S=false
  ·simp[h1,h2]
  have h3:=Rx a b (some S.hd.fmt);simp only[h1,h2,ne_eq,not_true_eq_false,Jb,Ao,Nat.add_one_ne_zero] at h3 ⊢;rw[h3];cases a with
  |nil=>simp[CR,CA]
  |cons U a=>simp[CA]
theorem nH {a:List ShP}{S:ShP}(h:CR none a=0):CR none (a++[S])=if BT S≠0 then BT S else if CD (CA a) S=false then 11 else 0:=by
 rw[Rx,Bb (fun x=>x h)];cases a with
 |nil=>rfl
 |cons U a=>rfl
theorem uN {a b:List ShP}(h:CR none a≠0):CR none (a++b)=CR none a:=by rw[Rx,Bc h]
theorem rR {T:StrP}(h:E5 T=0):(0<T.sheets.length/\T.sheets.length<=64)/\CR none T.sheets=0:=by
 unfold E5 at h;by_cases a:T.sheets.length=0\/64<T.sheets.length
 ·rw[Bc a] at h;exact absurd h (by decide)
 ·rw[Bb a] at h;exact⟨by omega,h⟩
theorem Xr:∀{l:List ShP} {b:Option Int},CR b l=0->∀S∈l,BT S=0
 |[],_,_,S,a=>by cases a
 |U::l,b,h,S,a=>by
  rw[CR] at h;by_cases h1:BT U=0
  case neg=>rw[Bc h1] at h;exact absurd h h1
  rw[Bb (fun x=>x h1)] at h;by_cases h2:CD b U=false
  ·rw[Bc h2] at h;exact absurd h (by decide)
  rw[Bb h2] at h;rcases Eb.1 a with rfl|a
  ·exact h1
  ·exact Xr h S a
theorem Y9:∀(l:List ShP) (r:List UInt8),r.length<=(CZ r l).length
 |[],r=>Ba _
 |S::l,r=>by
  have h:=Y9 l (FX r S);have h2:r.length<=(FX r S).length:=by unfold FX;rw[B9];omega
  show _<=(CZ (FX r S) l).length;omega
theorem oX (a b:List ShP)(f:Bool):(CZ [] a).length<=(C3 (a++b) f).length:=by
 have h:CZ [] (a++b)=CZ (CZ [] a) b:=by unfold CZ;rw[Gn]
 have h1:=Y9 b (CZ [] a);rw[<-h,QY (a++b)] at h1;unfold C3 at h1 ⊢;rw[B9] at h1 ⊢;have:(MT false).length=0:=rfl;omega
theorem uX {a b:StrP}(h:H2 a b=true):a.sheets.length=b.sheets.length/\a.fin=b.fin:=by
 unfold H2 at h;simp only[Am,Bm,Fb] at h;exact⟨h.2.1,h.1⟩
theorem lD (ct:CelT)(l:List UInt8):wtk ct l (8*l.length)=(JK,8*l.length,2):=by
 have hm:AX l ((8*l.length:Nat):Int)=(0,2):=MO (Ba _) (by omega);have h1:CT l (8*l.length)=2:=by
  unfold CT;rw[Bb (by omega),hm];rfl
 have h2:=Qa (l:=l) (p:=8*l.length) (by rw[h1];decide);rw[h1] at h2;unfold wtk;rw[h2];rfl
theorem tG {ct:CelT}{l:List UInt8}{p q:Nat}{f:Int}{S:ShP}{done:List ShP}(n:Nat)(h:done.length≠0->p≠8*l.length/\¬ ((AX l p).2=0/\(AX l p).1=31))(a:wtk ct l p=(S,q,f)):
  EX ct l (n+1) p done=if f≠0 then (EB,p / 8,f) else if 64<=done.length then (EB,p / 8,13) else if CD (CA done) S=false then (EB,p / 8,11) else EX ct l n q (done++[S]):=by
 by_cases b:done.length=0
 ·by_cases c:p=8*l.length
  ·rw[RN n c,Bc b];rw[c,lD] at a;injection a with _ a;injection a with _ a;rw[<-a,Bc (by decide)]
  ·exact YL n c (by omega) a
 ·exact YL n (h b).1 (fun x=>(h b).2 x.2) a
def JS (f:Int)(n:Nat)(fo:Bool):Int:=if f≠0 then f else if 64<=n then 13 else if fo=false then 11 else 0
theorem cT {ct:CelT}{l:List UInt8}{p q:Nat}{f:Int}{S:ShP}{done:List ShP}(n:Nat)(h:done.length≠0->p≠8*l.length/\¬ ((AX l p).2=0/\(AX l p).1=31))(b:wtk ct l p=(S,q,f)):
  EX ct l (n+1) p done=if JS f done.length (CD (CA done) S)≠0 then (EB,p / 8,JS f done.length (CD (CA done) S)) else EX ct l n q (done++[S]):=by
 rw[tG n h b];unfold JS;by_cases a:f=0
 ·subst a;by_cases h1:64<=done.length
  ·simp[h1]
  ·by_cases h2:CD (CA done) S=false
   ·simp[h1,h2]
   ·simp[h1,h2]
 ·simp[a]
theorem dA {f:Int}{n:Nat}{fo:Bool}(h:JS f n fo=0):f=0/\n<64/\fo=true:=by
 unfold JS at h;by_cases a:f=0
 ·subst a;rw[Bb (by decide)] at h;by_cases h1:64<=n
  ·rw[Bc h1] at h;exact absurd h (by decide)
  ·rw[Bb h1] at h;cases fo with
   |false=>exact absurd h (by decide)
   |true=>exact⟨rfl,by omega,rfl⟩
 ·rw[Bc a] at h;exact absurd h a
theorem vO {ct:CelT}{l:List UInt8}{p:Nat}{done:List ShP}(n:Nat)(h:p=8*l.length)(a:done.length≠0):EX ct l (n+1) p done=(⟨done,false⟩,0,0):=by rw[RN n h,Bb a]
def NJ:List UInt8:=FF (D5 31++[48,48])
theorem uF:AA NJ=D5 31++[48,48]:=by decide +kernel
theorem mR:NJ.length=3:=by decide +kernel
theorem oK {l:List UInt8}{a:Nat}(f:a<=l.length)(hm:(AX l ((8*a:Nat):Int)).2=0/\(AX l ((8*a:Nat):Int)).1=31):l.drop a=NJ↔8*l.length=8*a+24/\AD l (8*a+22) 2=0:=by
 constructor
 ·intro h;have hl:=C8 List.length h;rw[Bj,mR] at hl;refine⟨by omega,?_⟩;have h1:=QW l a 3 (by omega);rw[<-show (l.drop a).take 3=l.drop a from Bh (by rw[Bj];omega)] at h;rw[h,uF] at h1;have hs:Seg (AA l) (8*a) (8*a+24) (D5 31++[48,48]):=⟨by omega,by rw[BB];omega,by rw[show 8*a+24-8*a=8*3 by omega];exact h1.symm⟩;obtain⟨z,b,d⟩:=hs.cut
  have e:=b.len;rw[IB] at e;subst e;have c:Seg (AA l) (8*a+22) (8*a+24) (AI 0 2):=by rw[MJ];exact d
  exact(EK c (by decide)).1
 ·rintro⟨h1,h2⟩;have ht:AD l (8*a) 22=32+31:=by
   rw[IZ (by omega)] at hm;by_cases ht:AD l (8*a) 22 / 32=1
   ·rw[Bc ht] at hm;simp only at hm;omega
   ·rw[Bb ht] at hm;exact absurd hm.1 (by decide)
  have b:=GG (l:=l) (p:=8*a) (n:=22) (by omega);rw[ht] at b;have d:=Qu (l:=l) (p:=8*a+22) (n:=2) (by omega) h2;have c:=b.app d;rw[show 8*a+22+2=8*(a+3) by omega] at c;have h3:=sG c;rw[show a+3-a=3 by omega,Bh (by rw[Bj];omega)] at h3;exact h3.symm
theorem W1 {l:List ShP}{i:Nat}(hi:i<l.length)(h:CR none (l.take i)=0):CR none (l.take (i+1))=if BT l[i]≠0 then BT l[i] else if CD (CA (l.take i)) l[i]=false then 11 else 0:=by
 rw[Bd hi];exact nH h
theorem WH {l:List ShP}{i:Nat}(h:CR none (l.take i)≠0):CR none l=CR none (l.take i):=by
 have h1:=uN (b:=l.drop i) h;rw[Bs] at h1;exact h1
def LN (T:StrP):List UInt8×Int:=if E5 T≠0 then ([],E5 T) else if 262144<(FF (C3 T.sheets T.fin)).length then ([],13) else (FF (C3 T.sheets T.fin),0)
theorem oM {T:StrP}(h:E5 T≠0):LN T=([],E5 T):=Bc h
theorem uG {T:StrP}(h:E5 T=0)(h1:2097152<(C3 T.sheets T.fin).length):LN T=([],13):=by
 unfold LN;rw[Bb (fun x=>x h),Bc (by have:=R7 T.sheets T.fin;omega)]
theorem VV {T:StrP}(h:E5 T=0)(h1:(C3 T.sheets T.fin).length<=2097152):LN T=(FF (C3 T.sheets T.fin),0):=by
 unfold LN;rw[Bb (fun x=>x h),Bb (by have:=R7 T.sheets T.fin;omega)]
theorem gZ (l:List UInt8):NZ ctk (AA l):=fun _ _ _ _ _ _ h hm=>vG h hm
end Go.Proofs.YtjjmalchelniiaaGreatDoor