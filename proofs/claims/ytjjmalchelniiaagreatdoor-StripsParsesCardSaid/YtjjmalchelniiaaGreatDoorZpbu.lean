/- No condition. -/
import Derived.Test.YtjjmalchelniiaaGreatDoorZpy
import Derived.Test.YtjjmalchelniiaaGreatDoorZpbj
import Derived.Test.YtjjmalchelniiaaGreatDoorZpbm
import Derived.Test.YtjjmalchelniiaaGreatDoorZpbt
namespace Go.Proofs.YtjjmalchelniiaaGreatDoor
open Go.RowKit
def Qh (ct:CelT):Prop:=∀inter S x y p i,((ct inter S x y p).1.ev i).length<=65
theorem Qox:Qh ctk:=U7
theorem fO {ct:CelT}(a:Qh ct){l:List UInt8}{inter:Bool}{k first:Int}:∀(n p:Nat) (vs:List (Int×Int)) (c:Cel) (i:Nat),c∈(CG ct l inter k first n p vs).1->(c.ev i).length<=65
 |0,p,vs,c,i,h=>by rw[CG] at h;cases h
 |n+1,p,vs,c,i,h=>by
  rw[CG] at h;have b:=a inter (A2 l) (CY vs (AY k) first).1 (CY vs (AY k) first).2 p i;obtain⟨⟨c1,z,f⟩,hc⟩:=Ah (ct inter (A2 l) (CY vs (AY k) first).1 (CY vs (AY k) first).2 p);rw[hc] at h b;simp only at h b
  split at h
  ·cases h
  ·split at h
   ·cases h
   ·obtain⟨⟨d,y,g⟩,hr⟩:=Ah (CG ct l inter k first n z (vs++[(c1.mx,c1.my)]));rw[hr] at h;simp only at h
    split at h
    ·cases h
    ·rcases Ee.1 h with rfl|h
     ·exact b
     ·exact fO a n z _ c i (by rw[hr];exact h)
theorem WJ {ct:CelT}(a:Qh ct){l:List UInt8}{inter:Bool}{k:Int}:∀(n j p:Nat) (vs:List (Int×Int)) (first:Int) (c:Cel) (i:Nat),c∈(CB ct l inter k n j p vs first).1.flatMap (·.cels)->(c.ev i).length<=65
 |0,j,p,vs,first,c,i,h=>by rw[CB] at h;cases h
 |n+1,j,p,vs,first,c,i,h=>by
  rw[CB] at h;obtain⟨⟨hd,id,qu,z,fs,f⟩,d⟩:=Ah (F2 l k j p first);rw[d] at h;simp only at h
  split at h
  ·cases h
  ·have b:=fO a (l:=l) (inter:=inter) (k:=k) (first:=fs) (BN k).toNat z vs c i;obtain⟨⟨cs,y,g⟩,hc⟩:=Ah (CG ct l inter k fs (BN k).toNat z vs);rw[hc] at h b;simp only at h b
   split at h
   ·cases h
   ·obtain⟨⟨m,q',e⟩,hr⟩:=Ah (CB ct l inter k n (j+1) y (vs++CP cs) fs);rw[hr] at h;simp only at h
    split at h
    ·cases h
    ·simp only[Gc,Ir] at h;rcases h with h|h
     ·exact b h
     ·exact WJ a n (j+1) y _ fs c i (by rw[hr];exact h)
theorem Qp5 {ct:CelT}(a:Qh ct){l:List UInt8}{p:Nat}:∀c∈FA (wtk ct l p).1,∀i,(c.ev i).length<=65:=by
 intro c h i;unfold wtk at h;obtain⟨⟨hd,q,f⟩,hk⟩:=Ah (shk l p);rw[hk] at h;simp only at h
 split at h
 ·cases h
 ·have b:=WJ a (l:=l) (inter:=hd.inter) (k:=hd.fmt) (BE hd.fmt).toNat 0 q [] 0 c i;obtain⟨⟨rs,z,g⟩,hr⟩:=Ah (CB ct l hd.inter hd.fmt (BE hd.fmt).toNat 0 q [] 0);rw[hr] at h b;simp only at h b
  split at h
  ·cases h
  ·split at h
   ·cases h
   ·exact b h
theorem Qi1 {ct:CelT}{l:List UInt8}{p q:Nat}{S:ShP}(a:LG ct (A2 l))(h:wtk ct l p=(S,q,0)):S.zeros<=l.length:=by
 obtain⟨-,-,-,-,b,hs⟩:=Rg a h;have h1:=hs.len;have h2:=hs.2.1;rw[AZ] at h2;unfold EC at h1;simp only[B8,Bp] at h1;omega
theorem TD {ct:CelT}{l:List UInt8}{p q:Nat}{S:ShP}(h:wtk ct l p=(S,q,0)):q%8=0:=by
 unfold wtk at h;obtain⟨⟨hd,c,f⟩,hk⟩:=Ah (shk l p);rw[hk] at h;simp only at h;by_cases a:f=0
 case neg=>rw[Bb a] at h;injection h with _ h;injection h with _ h;exact absurd h a
 rw[Ba (fun x=>x a)] at h;obtain⟨⟨rs,z,g⟩,hr⟩:=Ah (CB ct l hd.inter hd.fmt (BE hd.fmt).toNat 0 c [] 0);rw[hr] at h;simp only at h;by_cases hg:g=0
 case neg=>rw[Bb hg] at h;injection h with _ h;injection h with _ h;exact absurd h hg
 rw[Ba (fun x=>x hg)] at h;by_cases b:AB l z (gap z)=0
 case neg=>rw[Bb b] at h;injection h with _ h;injection h with _ h;cases h
 rw[Ba (fun x=>x b)] at h;injection h with _ h;injection h with h _;rw[<-h];unfold gap;omega
structure StrP where
 sheets:List ShP
 fin:Bool
def DE:StrP:=⟨[],false⟩
def CA (a:Option Int)(S:ShP):Bool:=!S.hd.inter || a==some S.hd.fmt
def DB:Option Int->List ShP->Int
 |_,[]=>0
 |pr,S::r=>if DG S≠0 then DG S else if CA pr S=false then 11 else DB (some S.hd.fmt) r
def GI (t:StrP):Int:=if t.sheets.length=0\/64<t.sheets.length then 12 else DB none t.sheets
def LM (a b:StrP):Bool:=a.fin==b.fin&&(decide (a.sheets.length=b.sheets.length)&&(a.sheets.zip b.sheets).all fun p=>shB p.1 p.2)
theorem Qh4 (a:StrP):LM a a=true:=by simp[LM,RY Qmj]
def BZ (l:List ShP):Option Int:=l.getLast?.map (·.hd.fmt)
theorem ZV (l:List ShP)(S:ShP):BZ (l++[S])=some S.hd.fmt:=by unfold BZ;rw[List.getLast?_concat];rfl
def CU (ct:CelT)(l:List UInt8):Nat->Nat->List ShP->StrP×Nat×Int
 |0,p,_=>(DE,p / 8,13)
 |n+1,p,done=>
  if p=8*l.length then (if done.length=0 then (DE,p / 8,2) else (⟨done,false⟩,0,0))
  else if 0<done.length/\(AM l p).2=0/\(AM l p).1=31 then (if 8*l.length=p+24/\AB l (p+22) 2=0 then (⟨done,true⟩,0,0) else (DE,p / 8,5))
  else match wtk ct l p with
   |(S,q,f)=>if f≠0 then (DE,p / 8,f) else if 64<=done.length then (DE,p / 8,13) else if CA (BZ done) S=false then (DE,p / 8,11) else CU ct l n q (done++[S])
def CH (ct:CelT)(l:List UInt8):StrP×Nat×Int:=if 262144<l.length then (DE,0,13) else CU ct l 65 0 []
def NO (b:Bool):List UInt8:=if b then DJ 31++[48,48] else []
def CD (l:List ShP)(b:Bool):List UInt8:=l.flatMap (EC 0)++NO b
theorem aC {ct:CelT}{l:List UInt8}(b:LG ct (A2 l))(hl:l.length<=262144):∀(n p:Nat) (done:List ShP) (T:StrP) (a:Nat),p<=8*l.length->done.length<=64->CU ct l n p done=(T,a,0)->
  a=0/\∃rest,T.sheets=done++rest/\Seg (A2 l) p (8*l.length) (CD rest T.fin)/\DB (BZ done) rest=0/\(0<T.sheets.length/\T.sheets.length<=64)
 |0,p,done,T,a,_,_,h=>by rw[CU] at h;cases h
 |n+1,p,done,T,a,hp,hd,h=>by
  rw[CU] at h;by_cases i:p=8*l.length
  ·rw[Bb i] at h;by_cases j:done.length=0
   ·rw[Bb j] at h;cases h
   ·rw[Ba j] at h;injection h with e1 h;injection h with e2 _;subst e1 e2;exact⟨rfl,[],sV,by rw[i];exact Seg.nil (by rw[AZ];exact B9 _),rfl,vY,hd⟩
  rw[Ba i] at h;by_cases hm:0<done.length/\(AM l p).2=0/\(AM l p).1=31
  ·rw[Bb hm] at h;by_cases k:8*l.length=p+24/\AB l (p+22) 2=0
   ·rw[Bb k] at h;injection h with e1 h;injection h with e2 _;subst e1 e2;refine⟨rfl,[],sV,?_,rfl,hm.1,hd⟩;have ht:AB l p 22=32+31:=by
     have h2:=hm.2;rw[IX sX] at h2;by_cases ht:AB l p 22 / 32=1
     ·rw[Bb ht] at h2;simp only at h2;omega
     ·rw[Ba ht] at h2;exact absurd h2.1 sY
    have e:=FR (l:=l) (p:=p) (n:=22) sX;rw[ht] at e;have t:=PW (l:=l) (p:=p+22) (n:=2) sX k.2;have r:=e.app t;rw[show p+22+2=8*l.length by omega] at r;exact r
   ·rw[Ba k] at h;cases h
  ·rw[Ba hm] at h;obtain⟨⟨S,q,f⟩,m⟩:=Ah (wtk ct l p);rw[m] at h;simp only at h;by_cases g:f=0
   case neg=>rw[Bb g] at h;injection h with _ h;injection h with _ h;exact absurd h g
   rw[Ba (fun x=>x g)] at h;subst g;by_cases d:64<=done.length
   ·rw[Bb d] at h;cases h
   rw[Ba d] at h;by_cases c:CA (BZ done) S=false
   ·rw[Bb c] at h;cases h
   rw[Ba c] at h;obtain⟨y,z,u,o,j,hs⟩:=Rg b m;have A:=Qi1 b m;have s:=hs.2.1;rw[AZ] at s;obtain⟨v,rest,e1,e,e2,w⟩:=aC b hl n q (done++[S]) T a s (by rw[B8];simp only[An,Bu];omega) h;refine⟨v,S::rest,by rw[e1];simp,?_,?_,w⟩
   ·unfold CD;rw[Gc,Bg];rw[Uf (p:=p) (q:=0) sX] at hs;exact hs.app e
   ·rw[DB,Ba (fun x=>x (o sX)),Ba c];rw[ZV] at e2;exact e2
theorem kS {ct:CelT}{l:List UInt8}{T:StrP}{a:Nat}(b:LG ct (A2 l))(h:CH ct l=(T,a,0)):a=0/\l.length<=262144/\GI T=0/\A2 l=CD T.sheets T.fin:=by
 unfold CH at h;by_cases hl:262144<l.length
 ·rw[Bb hl] at h;cases h
 rw[Ba hl] at h;obtain⟨d,rest,e1,e,e2,f⟩:=aC b sX 65 0 [] T a (Do _) (Do _) h;rw[Cb] at e1;subst e1;refine⟨d,sX,?_,?_⟩
 ·unfold GI;rw[Ba sX];exact e2
 ·obtain⟨-,-,c⟩:=e;rw[Gq,Nj,<-AZ,Il] at c;exact c
theorem Y6m {a b:Shd}(h:K7 a b=true):a.fmt=b.fmt/\a.inter=b.inter:=by
 unfold K7 at h;simp only[Al,Bj] at h;exact⟨h.2.2.1,h.2.2.2.1⟩
theorem Uc {l:List UInt8}{p q n:Nat}(hn:n<32)(h:Seg (A2 l) p q (DJ n)):(AM l p).2=0/\(AM l p).1=n/\q=p+22:=by
 obtain⟨a,e,b⟩:=ER (v:=32+n) (n:=22) h (by show 32+n<4194304;omega);rw[IX b,a,Bb sX];exact⟨rfl,vY,e⟩
theorem cR {l:List UInt8}{p q:Nat}{S:ShP}{r:List UInt8}(h:Seg (A2 l) p q (EC 0 S++r)):(AM l p).2=0/\(AM l p).1=0:=by
 unfold EC at h;simp only[Bg] at h;obtain⟨z,h1,-⟩:=h.cut;obtain⟨a,b,-⟩:=Uc (n:=0) sY h1;exact⟨a,b⟩
theorem Yu {ct:CelT}{l:List UInt8}{b:Bool}(k:Qb ct (A2 l)):∀(rest:List ShP) (n p:Nat) (done:List ShP),p%8=0->done.length+rest.length<=64->rest.length<n->0<done.length+rest.length->DB (BZ done) rest=0->
  Seg (A2 l) p (8*l.length) (CD rest b)->∃T,CU ct l n p done=(T,0,0)/\T.fin=b/\∃r',T.sheets=done++r'/\r'.length=rest.length/\((r'.zip rest).all fun p=>shB p.1 p.2)=true
 |[],0,p,done,_,_,hn,_,_,_=>by cases hn
 |[],n+1,p,done,_,_,_,o,_,hs=>by
  rw[CU];have o:0<done.length:=o;cases b with
  |false=>
   have e:8*l.length=p:=hs.len;rw[Bb e.symm,Ba sX];exact⟨⟨done,false⟩,rfl,rfl,[],sV,rfl,rfl⟩
  |true=>
   have d:Seg (A2 l) p (8*l.length) (DJ 31++[48,48]):=hs;have c:=d.len;rw[B8,JG] at c;have c:8*l.length=p+24:=c;obtain⟨z,j,h⟩:=d.cut;obtain⟨A,u,D⟩:=Uc (n:=31) sY j;subst D;have E:Seg (A2 l) (p+22) (8*l.length) (AF 0 2):=by rw[OJ];exact h
   obtain⟨t,-,-⟩:=ER E sY;rw[Ba sX,Bb ⟨o,A,u⟩,Bb ⟨c,t⟩];exact⟨⟨done,true⟩,rfl,rfl,[],sV,rfl,rfl⟩
 |S::rest,0,p,done,_,_,hn,_,_,_=>by cases hn
 |S::rest,n+1,p,done,h8,h64,hn,o,hE,hs=>by
  rw[CU];rw[An] at h64 hn;rw[DB] at hE;by_cases f:DG S=0
  case neg=>rw[Bb f] at hE;exact absurd hE f
  rw[Ba (fun x=>x f)] at hE;by_cases g:CA (BZ done) S=false
  ·rw[Bb g] at hE;exact absurd hE sY
  rw[Ba g] at hE;have d:Seg (A2 l) p (8*l.length) (EC 0 S++CD rest b):=by
   unfold CD at hs ⊢;rw[Gc,Bg] at hs;exact hs
  obtain⟨A,u⟩:=cR d;obtain⟨q,j,h⟩:=d.cut;have v:=oZ 0 S;have B:=j.len;have F:=j.2.1;rw[AZ] at F;rw[Ba sX,Ba (fun x=>by rw[u] at x;exact absurd x.2.2 (by decide))];have i:q=8*l.length\/(AM l q).2=0:=by
   cases rest with
   |cons G r2=>
    right
    have h2:Seg (A2 l) q (8*l.length) (EC 0 G++CD r2 b):=by
     unfold CD at h ⊢;rw[Gc,Bg] at h;exact h
    exact(cR h2).1
   |nil=>
    cases b with
    |false=>
     left
     have e:8*l.length=q:=h.len;exact e.symm
    |true=>
     right
     have h2:Seg (A2 l) q (8*l.length) (DJ 31++[48,48]):=h;obtain⟨z,h3,-⟩:=h2.cut;exact(Uc (n:=31) sY h3).1
  rw[Uf (p:=0) (q:=p) sX] at j;obtain⟨r,C,s⟩:=rY k h8 f j i;have w:=TD C;have y:=Y6m (a:=r.hd) (b:=S.hd) (by unfold shB at s;rw[Al] at s;exact s.1);have m:¬ CA (BZ done) r=false:=by
   unfold CA at g ⊢;rw[y.1,y.2];exact g
  obtain⟨T,e1,e2,r',H,I,J⟩:=Yu k rest n q (done++[r]) w (by rw[B8];simp only[An,Bu];omega) sX (by rw[B8];simp only[An,Bu];omega)
   (by rw[ZV,y.1];exact hE) h
  refine⟨T,?_,e2,r::r',by rw[H];simp,by rw[An,An,I],by rw[Lp,Gt,s,J];rfl⟩;rw[C];simp only;rw[Ba sY,Ba sX,Ba m];exact e1
theorem Yzg {ct:CelT}{l:List UInt8}{T:StrP}(d:Qb ct (A2 l))(a:GI T=0)(hl:l.length<=262144)(hs:A2 l=CD T.sheets T.fin):∃c,CH ct l=(c,0,0)/\LM c T=true:=by
 unfold GI at a;by_cases e:T.sheets.length=0\/64<T.sheets.length
 ·rw[Bb e] at a;exact absurd a sY
 rw[Ba e] at a;have b:Seg (A2 l) 0 (8*l.length) (CD T.sheets T.fin):=⟨Do _,by rw[AZ];exact B9 _,by rw[Gq,Nj,<-AZ,Il,hs]⟩;obtain⟨c,e1,e2,r',f,g,h⟩:=Yu d T.sheets 65 0 [] rfl (by simp only[Bu];omega) sX (by simp only[Bu];omega) a b;refine⟨c,by unfold CH;rw[Ba (by omega)];exact e1,?_⟩;rw[Cb] at f;unfold LM;rw[e2,f,g];simp[h]
theorem Qbp {l:List UInt8}(h:l.length%8=0):JR l=l:=by
 unfold JR;rw[show (8-l.length%8)%8=0 by omega];exact Fa l
theorem sL (l:List ShP):AH (l.flatMap (EC 0))=true:=by
 induction l with
 |nil=>rfl
 |cons S l a=>rw[Gc,D7,Y38,a];rfl
theorem Y25 (l:List ShP):(l.flatMap (EC 0)).length%8=0:=by
 induction l with
 |nil=>rfl
 |cons S l a=>
  have h:=fD [] S;rw[lA] at h;rw[Gc,B8];omega
theorem Qk0 (b:Bool):AH (NO b)=true:=by cases b <;> decide +kernel
theorem oI (l:List ShP)(b:Bool):AH (CD l b)=true:=by
 unfold CD;rw[D7,sL,Qk0];rfl
theorem Xb (l:List ShP)(b:Bool):(CD l b).length%8=0:=by
 have h:=Y25 l;unfold CD;rw[B8];cases b with
 |false=>exact h
 |true=>
  have e:(NO true).length=24:=uB;rw[e];omega
theorem YK {s:List ShP}{b:Bool}:A2 (FV (CD s b))=CD s b:=by rw[XE _ (oI s b),Qbp (Xb s b)]
theorem Vu (s:List ShP)(b:Bool):8*(FV (CD s b)).length=(CD s b).length:=by rw[<-AZ,YK]
def DD (r:List UInt8)(l:List ShP):List UInt8:=l.foldl GD r
theorem WM:∀(l:List ShP) (r:List UInt8),r.length%8=0->DD r l=r++l.flatMap (EC 0)
 |[],r,_=>(Fa r).symm
 |S::l,r,h=>by
  show DD (GD r S) l=_;rw[WM l (GD r S) (fD r S),Qgi h,Gc,Bg]
theorem TJ (l:List ShP):DD [] l=CD l false:=by
 rw[WM l [] rfl];unfold CD NO;rw[Ba sY,Fa];rfl
theorem Qbo (r:List UInt8)(l:List ShP)(S:ShP):DD r (l++[S])=GD (DD r l) S:=by unfold DD;rw[Gk];rfl
theorem nM (l:List ShP):EH (DD [] l) 31++List.replicate (gap (EH (DD [] l) 31).length) 48=CD l true:=by
 have a:=Xb l false;rw[TJ];have hg:gap (CD l false).length=0:=uH;unfold EH;rw[hg,List.replicate_zero,Fa];rw[show gap (CD l false++DJ 31).length=2 by rw[B8,JG];unfold gap;omega];unfold CD;rw[show NO true=DJ 31++List.replicate 2 48 from rfl,show NO false=[] from rfl];simp only[Fa,Bg]
theorem PA {ct:CelT}{l:List UInt8}{p:Nat}{done:List ShP}(n:Nat)(h:p=8*l.length):CU ct l (n+1) p done=if done.length=0 then (DE,p / 8,2) else (⟨done,false⟩,0,0):=by rw[CU,Bb h]
theorem RH {ct:CelT}{l:List UInt8}{p:Nat}{done:List ShP}(n:Nat)(h:p≠8*l.length)(hm:0<done.length/\(AM l p).2=0/\(AM l p).1=31):
  CU ct l (n+1) p done=if 8*l.length=p+24/\AB l (p+22) 2=0 then (⟨done,true⟩,0,0) else (DE,p / 8,5):=by rw[CU,Ba h,Bb hm]
theorem Sa {ct:CelT}{l:List UInt8}{p q:Nat}{f:Int}{S:ShP}{done:List ShP}(n:Nat)(h:p≠8*l.length)(hm:¬ (0<done.length/\(AM l p).2=0/\(AM l p).1=31))(a:wtk ct l p=(S,q,f)):
  CU ct l (n+1) p done=if f≠0 then (DE,p / 8,f) else if 64<=done.length then (DE,p / 8,13) else if CA (BZ done) S=false then (DE,p / 8,11) else CU ct l n q (done++[S]):=by rw[CU,Ba h,Ba hm,a]
theorem fT {ct:CelT}{l:List UInt8}(a:LG ct (A2 l)):∀(n p:Nat) (done:List ShP),p<=8*l.length->(CU ct l n p done).2.2≠0->(CU ct l n p done).1=DE/\(CU ct l n p done).2.1<=l.length
 |0,p,done,hp,_=>⟨rfl,show p / 8<=l.length by omega⟩
 |n+1,p,done,hp,h=>by
  by_cases d:p=8*l.length
  ·rw[PA n d] at h ⊢;by_cases g:done.length=0
   ·rw[Bb g];exact⟨rfl,vY⟩
   ·rw[Ba g] at h;exact absurd rfl h
  by_cases hm:0<done.length/\(AM l p).2=0/\(AM l p).1=31
  ·rw[RH n d hm] at h ⊢;by_cases i:8*l.length=p+24/\AB l (p+22) 2=0
   ·rw[Bb i] at h;exact absurd rfl h
   ·rw[Ba i];exact⟨rfl,vY⟩
  obtain⟨⟨S,q,f⟩,j⟩:=Ah (wtk ct l p);rw[Sa n d hm j] at h ⊢;by_cases e:f=0
  case neg=>rw[Bb e];exact⟨rfl,vY⟩
  rw[Ba (fun x=>x e)] at h ⊢;by_cases b:64<=done.length
  ·rw[Bb b];exact⟨rfl,vY⟩
  rw[Ba b] at h ⊢;by_cases c:CA (BZ done) S=false
  ·rw[Bb c];exact⟨rfl,vY⟩
  rw[Ba c] at h ⊢;subst e;have k:=(Rg a j).2.2.2.2.2.2.1;rw[AZ] at k;exact fT a n q _ k h
theorem pY {ct:CelT}{l:List UInt8}(a:LG ct (A2 l))(h:(CH ct l).2.2≠0):(CH ct l).1=DE/\(CH ct l).2.1<=l.length:=by
 unfold CH at h ⊢;by_cases hl:262144<l.length
 ·rw[Bb hl];exact⟨rfl,Do _⟩
 ·rw[Ba hl] at h ⊢;exact fT a 65 0 [] (Do _) h
def Va (S:ShP):Prop:=∀c∈FA S,∀i,(c.ev i).length<=65
theorem Zm {ct:CelT}(a:Qh ct){l:List UInt8}:∀(n p:Nat) (done:List ShP),(∀S∈done,Va S)->∀S∈(CU ct l n p done).1.sheets,Va S
 |0,p,done,_=>fun S h=>by rw[CU] at h;cases h
 |n+1,p,done,hd=>by
  intro S h;by_cases d:p=8*l.length
  ·rw[PA n d] at h;by_cases e:done.length=0
   ·rw[Bb e] at h;cases h
   ·rw[Ba e] at h;exact hd S h
  by_cases hm:0<done.length/\(AM l p).2=0/\(AM l p).1=31
  ·rw[RH n d hm] at h;by_cases g:8*l.length=p+24/\AB l (p+22) 2=0
   ·rw[Bb g] at h;exact hd S h
   ·rw[Ba g] at h;cases h
  obtain⟨⟨i,q,f⟩,j⟩:=Ah (wtk ct l p);rw[Sa n d hm j] at h;by_cases k:f=0
  case neg=>rw[Bb k] at h;cases h
  rw[Ba (fun x=>x k)] at h;by_cases b:64<=done.length
  ·rw[Bb b] at h;cases h
  rw[Ba b] at h;by_cases c:CA (BZ done) i=false
  ·rw[Bb c] at h;cases h
  rw[Ba c] at h;refine Zm a n q (done++[i]) (fun m h2=>?_) S h;rcases Ir.1 h2 with h2|h2
  ·exact hd m h2
  ·rw[Df.1 h2];have h3:=Qp5 a (l:=l) (p:=p);rw[j] at h3;exact h3
theorem Y60 {ct:CelT}(a:Qh ct)(l:List UInt8):∀S∈(CH ct l).1.sheets,Va S:=by
 unfold CH;by_cases hl:262144<l.length
 ·rw[Bb hl];intro S h;cases h
 ·rw[Ba hl];exact Zm a 65 0 [] fun S h=>uA
theorem W5:∀(a b:List ShP) (c:Option Int),DB c (a++b)=if DB c a≠0 then DB c a else DB (if a.length=0 then c else BZ a) b
 |[],b,c=>by simp[DB]
 |S::a,b,c=>by
  have d:∀r,DB c (S::r)=if DG S≠0 then DG S else if CA c S=false then 11 else DB (some S.hd.fmt) r:=fun r=>by rw[DB]
  rw[Im,d,d];by_cases h1:DG S=0
  case neg=>simp[h1]
  by_cases h2:CA c S=false
  ·simp[h1,h2]
  have h3:=W5 a b (some S.hd.fmt);simp only[h1,h2,ne_eq,not_true_eq_false,Iw,An,Nat.add_one_ne_zero] at h3 ⊢;rw[h3];cases a with
  |nil=>simp[DB,BZ]
  |cons U a=>simp[BZ]
theorem Qh8 {a:List ShP}{S:ShP}(h:DB none a=0):DB none (a++[S])=if DG S≠0 then DG S else if CA (BZ a) S=false then 11 else 0:=by
 rw[W5,Ba (fun x=>x h)];cases a with
 |nil=>rfl
 |cons U a=>rfl
theorem Qmv {a b:List ShP}(h:DB none a≠0):DB none (a++b)=DB none a:=by rw[W5,Bb h]
theorem eH {T:StrP}(h:GI T=0):(0<T.sheets.length/\T.sheets.length<=64)/\DB none T.sheets=0:=by
 unfold GI at h;by_cases a:T.sheets.length=0\/64<T.sheets.length
 ·rw[Bb a] at h;exact absurd h sY
 ·rw[Ba a] at h;exact⟨sX,h⟩
theorem Vs:∀{l:List ShP} {b:Option Int},DB b l=0->∀S∈l,DG S=0
 |[],_,_,S,a=>by cases a
 |U::l,b,h,S,a=>by
  rw[DB] at h;by_cases h1:DG U=0
  case neg=>rw[Bb h1] at h;exact absurd h h1
  rw[Ba (fun x=>x h1)] at h;by_cases h2:CA b U=false
  ·rw[Bb h2] at h;exact absurd h sY
  rw[Ba h2] at h;rcases Ee.1 a with rfl|a
  ·exact h1
  ·exact Vs h S a
theorem YX:∀(l:List ShP) (r:List UInt8),r.length<=(DD r l).length
 |[],r=>B9 _
 |S::l,r=>by
  have h:=YX l (GD r S);have h2:r.length<=(GD r S).length:=by unfold GD;rw[B8];omega
  show _<=(DD (GD r S) l).length;omega
theorem rM (a b:List ShP)(f:Bool):(DD [] a).length<=(CD (a++b) f).length:=by
 have h:DD [] (a++b)=DD (DD [] a) b:=by unfold DD;rw[Gk]
 have h1:=YX b (DD [] a);rw[<-h,TJ (a++b)] at h1;unfold CD at h1 ⊢;rw[B8] at h1 ⊢;have:(NO false).length=0:=rfl;omega
theorem gT {a b:StrP}(h:LM a b=true):a.sheets.length=b.sheets.length/\a.fin=b.fin:=by
 unfold LM at h;simp only[Al,Bj,Fg] at h;exact⟨h.2.1,h.1⟩
theorem mW (ct:CelT)(l:List UInt8):wtk ct l (8*l.length)=(GR,8*l.length,2):=by
 have hm:AM l ((8*l.length:Nat):Int)=(0,2):=MW (B9 _) sX;have h1:CR l (8*l.length)=2:=by
  unfold CR;rw[Ba sX,hm];rfl
 have h2:=OH (l:=l) (p:=8*l.length) (by rw[h1];decide);rw[h1] at h2;unfold wtk;rw[h2];rfl
theorem Qia {ct:CelT}{l:List UInt8}{p q:Nat}{f:Int}{S:ShP}{done:List ShP}(n:Nat)(h:done.length≠0->p≠8*l.length/\¬ ((AM l p).2=0/\(AM l p).1=31))(a:wtk ct l p=(S,q,f)):
  CU ct l (n+1) p done=if f≠0 then (DE,p / 8,f) else if 64<=done.length then (DE,p / 8,13) else if CA (BZ done) S=false then (DE,p / 8,11) else CU ct l n q (done++[S]):=by
 by_cases b:done.length=0
 ·by_cases c:p=8*l.length
  ·rw[PA n c,Bb b];rw[c,mW] at a;injection a with _ a;injection a with _ a;rw[<-a,Bb sY]
  ·exact Sa n c sX a
 ·exact Sa n (h b).1 (fun x=>(h b).2 x.2) a
def G2 (f:Int)(n:Nat)(fo:Bool):Int:=if f≠0 then f else if 64<=n then 13 else if fo=false then 11 else 0
theorem YT {ct:CelT}{l:List UInt8}{p q:Nat}{f:Int}{S:ShP}{done:List ShP}(n:Nat)(h:done.length≠0->p≠8*l.length/\¬ ((AM l p).2=0/\(AM l p).1=31))(b:wtk ct l p=(S,q,f)):
  CU ct l (n+1) p done=if G2 f done.length (CA (BZ done) S)≠0 then (DE,p / 8,G2 f done.length (CA (BZ done) S)) else CU ct l n q (done++[S]):=by
 rw[Qia n h b];unfold G2;by_cases a:f=0
 ·subst a;by_cases h1:64<=done.length
  ·simp[h1]
  ·by_cases h2:CA (BZ done) S=false
   ·simp[h1,h2]
   ·simp[h1,h2]
 ·simp[a]
theorem jM {f:Int}{n:Nat}{fo:Bool}(h:G2 f n fo=0):f=0/\n<64/\fo=true:=by
 unfold G2 at h;by_cases a:f=0
 ·subst a;rw[Ba sY] at h;by_cases h1:64<=n
  ·rw[Bb h1] at h;exact absurd h sY
  ·rw[Ba h1] at h;cases fo with
   |false=>exact absurd h sY
   |true=>exact⟨rfl,sX,rfl⟩
 ·rw[Bb a] at h;exact absurd h a
theorem kJ {ct:CelT}{l:List UInt8}{p:Nat}{done:List ShP}(n:Nat)(h:p=8*l.length)(a:done.length≠0):CU ct l (n+1) p done=(⟨done,false⟩,0,0):=by rw[PA n h,Ba a]
def PY:List UInt8:=FV (DJ 31++[48,48])
theorem Qfh:A2 PY=DJ 31++[48,48]:=uB
theorem Y5f:PY.length=3:=uB
theorem kI {l:List UInt8}{a:Nat}(f:a<=l.length)(hm:(AM l ((8*a:Nat):Int)).2=0/\(AM l ((8*a:Nat):Int)).1=31):l.drop a=PY↔8*l.length=8*a+24/\AB l (8*a+22) 2=0:=by
 constructor
 ·intro h;have hl:=Bz List.length h;rw[Bf,Y5f] at hl;refine⟨sX,?_⟩;have h1:=VO l a 3 sX;rw[<-show (l.drop a).take 3=l.drop a from Bh tD] at h;rw[h,Qfh] at h1;have hs:Seg (A2 l) (8*a) (8*a+24) (DJ 31++[48,48]):=⟨sX,by rw[AZ];omega,by rw[show 8*a+24-8*a=8*3 by omega];exact h1.symm⟩;obtain⟨z,b,d⟩:=hs.cut;have e:=b.len;rw[JG] at e;subst e;have c:Seg (A2 l) (8*a+22) (8*a+24) (AF 0 2):=by rw[OJ];exact d
  exact(ER c sY).1
 ·rintro⟨h1,h2⟩;have ht:AB l (8*a) 22=32+31:=by
   rw[IX sX] at hm;by_cases ht:AB l (8*a) 22 / 32=1
   ·rw[Bb ht] at hm;simp only at hm;omega
   ·rw[Ba ht] at hm;exact absurd hm.1 sY
  have b:=FR (l:=l) (p:=8*a) (n:=22) sX;rw[ht] at b;have d:=PW (l:=l) (p:=8*a+22) (n:=2) sX h2;have c:=b.app d;rw[show 8*a+22+2=8*(a+3) by omega] at c;have h3:=Qmh c;rw[show a+3-a=3 by omega,Bh tD] at h3;exact h3.symm
theorem mP {l:List ShP}{i:Nat}(hi:i<l.length)(h:DB none (l.take i)=0):DB none (l.take (i+1))=if DG l[i]≠0 then DG l[i] else if CA (BZ (l.take i)) l[i]=false then 11 else 0:=by
 rw[Bd hi];exact Qh8 h
theorem Qh7 {l:List ShP}{i:Nat}(h:DB none (l.take i)≠0):DB none l=DB none (l.take i):=by
 have h1:=Qmv (b:=l.drop i) h;rw[Bt] at h1;exact h1
def MO (T:StrP):List UInt8×Int:=if GI T≠0 then ([],GI T) else if 262144<(FV (CD T.sheets T.fin)).length then ([],13) else (FV (CD T.sheets T.fin),0)
theorem kH {T:StrP}(h:GI T≠0):MO T=([],GI T):=Bb h
theorem kK {T:StrP}(h:GI T=0)(h1:2097152<(CD T.sheets T.fin).length):MO T=([],13):=by
 unfold MO;rw[Ba (fun x=>x h),Bb (by have:=Vu T.sheets T.fin;omega)]
theorem cX {T:StrP}(h:GI T=0)(h1:(CD T.sheets T.fin).length<=2097152):MO T=(FV (CD T.sheets T.fin),0):=by
 unfold MO;rw[Ba (fun x=>x h),Ba (by have:=Vu T.sheets T.fin;omega)]
theorem Qjz (l:List UInt8):Qb ctk (A2 l):=fun _ _ _ _ _ _ h hm=>iB h hm
end Go.Proofs.YtjjmalchelniiaaGreatDoor