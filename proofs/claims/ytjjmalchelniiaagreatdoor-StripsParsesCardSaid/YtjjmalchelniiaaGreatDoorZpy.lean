/- No condition. -/
import Derived.Test.YtjjmalchelniiaaGreatDoorZpg
import Derived.Test.YtjjmalchelniiaaGreatDoorZpj
import Derived.Test.YtjjmalchelniiaaGreatDoorZpl
import Derived.Test.YtjjmalchelniiaaGreatDoorZpo
import Derived.Test.YtjjmalchelniiaaGreatDoorZpw
import Derived.Test.YtjjmalchelniiaaGreatDoorZpx
open Go.Proofs.Tryz
set_option maxHeartbeats 1000000
namespace Go.Proofs.YtjjmalchelniiaaGreatDoor
section
open Go.RowKit
theorem Wdt{p:Prop}(h:p:=by
 rw[Bb b] at h;injection h with _ h;injection h with _ h;exact absurd h b):p:=h
theorem Wds{p:Prop}(h:p:=by
 injection h with e1 h;injection h with e2 _;subst e1 e2;exact⟨Seg.nil xT,rfl,rfl,rfl⟩):p:=h
theorem Wdr{p:Prop}(h:p:=by
 go_wp2_with fail
 refine ca.mono ?_;rintro e x ⟨rfl,rfl⟩
 go_wp2
 go_ret
 exact⟨ES (by rw[N.out]),rfl⟩):p:=h
theorem Wdq{p:Prop}(h:p:=by
 rw[Bb hg] at h;injection h with _ h;injection h with _ h;exact absurd h hg):p:=h
theorem xR{p:Prop}(h:p:=by rw[CE (by omega)];omega):p:=h
theorem xS{p:Prop}(h:p:=by have:=Bz List.length h;rw[AZ,AZ] at this;simp at this):p:=h
theorem xT{p:Prop}(h:p:=by rw[AZ];exact hp):p:=h
theorem xU{p:Prop}(h:p:=by trivial):p:=h
abbrev Ln:=@List.replicate_append_replicate
abbrev Lo:=@Option.map_some
abbrev Lp:=@List.zip_cons_cons
abbrev Lr:=@Bool.and_assoc
def AV {α:Type}(f:Nat->α->Bool):Nat->List α->Bool
 |_,[]=>true
 |i,a::l=>f i a&&AV f (i+1) l
theorem OQ {α:Type}{f:Nat->α->Bool}:∀{i:Nat} {l:List α},AV f i l=true↔∀j,(h:j<l.length)->f (i+j) l[j]=true
 |_,[]=>⟨fun _ j h=>absurd h (Fi j),fun _=>rfl⟩
 |i,a::l=>by
  rw[AV,Al,OQ];constructor
  ·rintro⟨b,h1⟩ j hj;cases j with
   |zero=>exact b
   |succ j=>
    have:=h1 j vQ;rw[show i+(j+1)=i+1+j by omega];exact this
  ·intro h;refine⟨h 0 sV,fun j hj=>?_⟩;have:=h (j+1) vQ;rw[show i+(j+1)=i+1+j by omega] at this;exact this
theorem Z7 {α:Type}{f:Nat->α->Bool}:∀(i:Nat) (l:List α) (a:α),AV f i (l++[a])=(AV f i l&&f (i+l.length) a)
 |i,[],a=>by simp[AV]
 |i,b::l,a=>by
  rw[Im,AV,Z7 (i+1) l a,AV,Lr,An,show i+(l.length+1)=i+1+l.length by omega]
theorem Tk {α:Type}{f:Nat->α->Bool}:∀(i:Nat) (l m:List α),AV f i (l++m)=(AV f i l&&AV f (i+l.length) m)
 |i,[],m=>by simp[AV]
 |i,b::l,m=>by
  rw[Im,AV,Tk (i+1) l m,AV,Lr,An,show i+(l.length+1)=i+1+l.length by omega]
theorem iM {α:Type}{f:Nat->α->Bool}{l:List α}{j:Nat}(hj:j<l.length)(h1:f j l[j]=false):AV f 0 l=false:=by
 cases h:AV f 0 l with
 |false=>rfl
 |true=>
  have:=OQ.1 h j hj;rw[Ar,h1] at this;cases this
def FJ (inter:Bool)(n:Int)(i:Nat)(r:RowP):Bool:=
 decide ((r.cels.length:Int)=n)&&((if r.head then decide (i≠0/\0<=r.id/\r.id<=3/\1<=r.quant/\r.quant<=31) else decide (r.id=0/\r.quant=0))&&r.cels.all (CC inter))
def BN (k:Int):Int:=AY k*BQ k
def HE (S:ShP):Bool:=
 GG S.hd&&(decide (0<=S.zeros/\S.zeros<=262144)&&(decide ((S.rows.length:Int)=BE S.hd.fmt)&&AV (FJ S.hd.inter (BN S.hd.fmt)) 0 S.rows))
def FA (S:ShP):List Cel:=S.rows.flatMap (·.cels)
def D0 (k:Int)(n:Nat)(c:Cel):Bool:=AG c.kind || H1 k (n:Int) c.mx c.my
def DG (S:ShP):Int:=if HE S=true then (if AV (D0 S.hd.fmt) 0 (FA S)=true then 0 else 8) else 12
theorem gG {S:ShP}(h:HE S=false):DG S=12:=by unfold DG;rw[Ba (by rw[h];decide)]
theorem rK {S:ShP}(h:HE S=true)(h1:AV (D0 S.hd.fmt) 0 (FA S)=false):DG S=8:=by unfold DG;rw[Bb h,Ba (by rw[h1];decide)]
theorem Z9 {S:ShP}(h:HE S=true)(h1:AV (D0 S.hd.fmt) 0 (FA S)=true):DG S=0:=by unfold DG;rw[Bb h,Bb h1]
theorem XB {S:ShP}(h:DG S=0):HE S=true/\AV (D0 S.hd.fmt) 0 (FA S)=true:=by
 unfold DG at h;cases h1:HE S with
 |false=>rw[h1] at h;cases h
 |true=>
  cases h2:AV (D0 S.hd.fmt) 0 (FA S) with
  |false=>rw[h1,h2] at h;cases h
  |true=>exact⟨rfl,rfl⟩
def K7 (a b:Shd):Bool:=a.ref==b.ref&&(a.flags==b.flags&&(a.fmt==b.fmt&&(a.inter==b.inter&&(a.quant==b.quant&&decide (a.supp=b.supp)))))
def rwB (a b:RowP):Bool:=(a.head==b.head&&(a.id==b.id&&a.quant==b.quant))&&(decide (a.cels.length=b.cels.length)&&(a.cels.zip b.cels).all fun p=>FH p.1 p.2)
def shB (a b:ShP):Bool:=K7 a.hd b.hd&&(a.zeros==b.zeros&&(decide (a.rows.length=b.rows.length)&&(a.rows.zip b.rows).all fun p=>rwB p.1 p.2))
theorem RY {α:Type}{f:α->α->Bool}(b:∀a,f a a=true):∀l:List α,((l.zip l).all fun p=>f p.1 p.2)=true
 |[]=>rfl
 |a::l=>by rw[Lp,Gt,b,RY b l];rfl
theorem X8 (a:Shd):K7 a a=true:=by simp[K7]
theorem lV (a:RowP):rwB a a=true:=by simp[rwB,RY Qel]
theorem Qmj (a:ShP):shB a a=true:=by simp[shB,X8,RY lV]
theorem UH {α:Type}{f:α->α->Bool}{l m:List α}{j:Nat}(hl:j<l.length)(hm:j<m.length)(h:(((l.take j).zip (m.take j)).all fun p=>f p.1 p.2)=true)(h1:f l[j] m[j]=true):(((l.take (j+1)).zip (m.take (j+1))).all fun p=>f p.1 p.2)=true:=by
 rw[Bd hl,Bd hm,List.zip_append sU,Dy,h];simp[h1]
theorem Up {α:Type}{f:α->α->Bool}{l m:List α}{j:Nat}(hl:j<l.length)(hm:j<m.length)(h1:f l[j] m[j]=false):((l.zip m).all fun p=>f p.1 p.2)=false:=by
 rw[Gj];refine⟨(l[j],m[j]),?_,by rw[h1];decide⟩;have a:j<(l.zip m).length:=by rw[List.length_zip];omega
 have e:(l.zip m)[j]=(l[j],m[j]):=List.getElem_zip;rw[<-e];exact Bl a
theorem OJ (n:Nat):AF 0 n=List.replicate n 48:=by
 have h:=Lq (List.replicate n 48) (Ri n);rw[gL,Bp] at h;exact h
theorem PW {l:List UInt8}{p n:Nat}(h:p+n<=8*l.length)(a:AB l p n=0):Seg (A2 l) p (p+n) (List.replicate n 48):=by
 have:=FR (l:=l) h;rw[a,OJ] at this;exact this
theorem Yg {l:List UInt8}{p n z:Nat}{id q:Int}(h:hdk l p (n:Int)=(id,q,z,0)):(0<=id/\id<=3/\1<=q/\q<=31)/\Seg (A2 l) p z (IA p n id.toNat q.toNat):=by
 by_cases h1:(BA l p).2=false
 ·rw[UZ h1] at h;cases h
 have a:(BA l p).2=true:=uD;by_cases h2:(BA l p).1=(n:Int)
 case neg=>rw[TP a h2] at h;cases h
 by_cases h3:8*l.length<p+gap p+22+7
 ·rw[Ug a h2 h3] at h;cases h
 by_cases h4:AB l (p+gap p+22+2) 5=0
 ·rw[Wb a h2 sX h4] at h;cases h
 rw[RN a h2 sX h4] at h;injection h with e1 h;injection h with e2 h;injection h with e3 _;have hg:=U0 a;have c:=EB l (p+gap p+22) 2;have d:=EB l (p+gap p+22+2) 5;have e:AB l (p+gap p+22) 2<4:=c;have f:AB l (p+gap p+22+2) 5<32:=d;have hm:AB l (p+gap p) 22=32+n:=by
  rw[P7 sX hg,IX sX] at a h2;by_cases ht:AB l (p+gap p) 22 / 32=1
  ·rw[Bb ht] at h2;simp only at h2;omega
  ·rw[Ba ht] at a;exact absurd a sY
 have g:=PW (l:=l) (p:=p) (n:=gap p) sX hg;have b:=FR (l:=l) (p:=p+gap p) (n:=22) sX;have i:=FR (l:=l) (p:=p+gap p+22) (n:=2) sX;have j:=FR (l:=l) (p:=p+gap p+22+2) (n:=5) sX;rw[hm] at b;subst e1 e2 e3;refine⟨sX,?_⟩;unfold IA JX;rw[Dp,Dp,Bg];exact g.app (b.app (i.app j))
def CelT:=Bool->List UInt8->Int->Int->Nat->Cel×Nat×Int
def LG (ct:CelT)(S:List UInt8):Prop:=∀inter x y p c q,p<=S.length->ct inter S x y p=(c,q,0)->Seg S p q (E4 inter x y c)/\CC inter c=true
def CP (cs:List Cel):List (Int×Int):=cs.map fun c=>(c.mx,c.my)
def CY (vs:List (Int×Int))(a first:Int):Int×Int:=KR (fun i=>vs.getD i (0,0)) vs.length a first
def CG (ct:CelT)(l:List UInt8)(inter:Bool)(k first:Int):Nat->Nat->List (Int×Int)->List Cel×Nat×Int
 |0,p,_=>([],p,0)
 |n+1,p,vs=>
  match ct inter (A2 l) (CY vs (AY k) first).1 (CY vs (AY k) first).2 p with
  |(c,q,f)=>if f≠0 then ([],p,f) else if D0 k vs.length c=false then ([],p,8) else
   match CG ct l inter k first n q (vs++[(c.mx,c.my)]) with
   |(cs,z,g)=>if g≠0 then ([],p,g) else (c::cs,z,0)
def GN (inter:Bool)(k first:Int):List (Int×Int)->List Cel->List UInt8
 |_,[]=>[]
 |vs,c::cs=>E4 inter (CY vs (AY k) first).1 (CY vs (AY k) first).2 c++GN inter k first (vs++[(c.mx,c.my)]) cs
theorem Zr {ct:CelT}{l:List UInt8}{inter:Bool}{k first:Int}(a:LG ct (A2 l)):∀(n p:Nat) (vs:List (Int×Int)) (cs:List Cel) (q:Nat),p<=8*l.length->CG ct l inter k first n p vs=(cs,q,0)->
  Seg (A2 l) p q (GN inter k first vs cs)/\cs.length=n/\cs.all (CC inter)=true/\AV (D0 k) vs.length cs=true
 |0,p,vs,cs,q,hp,h=>by
  rw[CG] at h;exact Wds
 |n+1,p,vs,cs,q,hp,h=>by
  rw[CG] at h;obtain⟨⟨c,z,f⟩,hc⟩:=Ah (ct inter (A2 l) (CY vs (AY k) first).1 (CY vs (AY k) first).2 p);rw[hc] at h;simp only at h;by_cases b:f=0
  case neg=>
   exact Wdt
  rw[Ba (fun x=>x b)] at h;subst b;cases hv:D0 k vs.length c with
  |false=>rw[hv,Bb rfl] at h;cases h
  |true=>
   rw[hv,Ba sY] at h;obtain⟨⟨d,y,g⟩,hr⟩:=Ah (CG ct l inter k first n z (vs++[(c.mx,c.my)]));rw[hr] at h;simp only at h;by_cases hg:g=0
   case neg=>
    exact Wdq
   rw[Ba (fun x=>x hg)] at h;subst hg;injection h with e1 h;injection h with e2 _;subst e1 e2;obtain⟨e,j⟩:=a inter _ _ p c z xT hc;have m:z<=8*l.length:=by have:=e.2.1;rwa [AZ] at this
   obtain⟨o,r,s,i⟩:=Zr a n z (vs++[(c.mx,c.my)]) d y m hr;rw[B8] at i;refine⟨e.app o,by rw[An,r],by rw[Gt,j,s];rfl,?_⟩;rw[AV,hv];exact i
def HI (l:List UInt8)(i p:Nat):Bool:=decide (0<i)&&((BA l p).2&&((BA l p).1 != 0&&(BA l p).1 != 31))
def F2 (l:List UInt8)(k:Int)(i p:Nat)(first:Int):Bool×Int×Int×Nat×Int×Int:=
 if HI l i p=true then (true,(hdk l p i).1,(hdk l p i).2.1,(hdk l p i).2.2.1,(i:Int)*BQ k,(hdk l p i).2.2.2) else (false,0,0,p,first,0)
def CB (ct:CelT)(l:List UInt8)(inter:Bool)(k:Int):Nat->Nat->Nat->List (Int×Int)->Int->List RowP×Nat×Int
 |0,_,p,_,_=>([],p,0)
 |n+1,i,p,vs,first=>
  match F2 l k i p first with
  |(h,id,qu,z,fs,f)=>if f≠0 then ([],p,f) else
   match CG ct l inter k fs (BN k).toNat z vs with
   |(cs,q,g)=>if g≠0 then ([],p,g) else
    match CB ct l inter k n (i+1) q (vs++CP cs) fs with
    |(rs,y,e)=>if e≠0 then ([],p,e) else (⟨h,id,qu,cs⟩::rs,y,0)
def FN (i p:Nat)(r:RowP):List UInt8:=if r.head then IA p i r.id.toNat r.quant.toNat else []
def F1 (k:Int)(i:Nat)(first:Int)(r:RowP):Int:=if r.head then (i:Int)*BQ k else first
def FD (inter:Bool)(k:Int):Nat->Nat->List (Int×Int)->Int->List RowP->List UInt8
 |_,_,_,_,[]=>[]
 |i,p,vs,first,r::rs=>FN i p r++(GN inter k (F1 k i first r) vs r.cels++FD inter k (i+1) (p+(FN i p r).length+(GN inter k (F1 k i first r) vs r.cels).length) (vs++CP r.cels) (F1 k i first r) rs)
theorem iV {l:List UInt8}{k:Int}{i p z:Nat}{first id qu fs:Int}{h:Bool}(a:p<=8*l.length)(e:F2 l k i p first=(h,id,qu,z,fs,0))(cs:List Cel):
  Seg (A2 l) p z (FN i p ⟨h,id,qu,cs⟩)/\fs=F1 k i first ⟨h,id,qu,cs⟩/\(if h then decide (i≠0/\0<=id/\id<=3/\1<=qu/\qu<=31) else decide (id=0/\qu=0))=true:=by
 unfold F2 at e;cases hh:HI l i p with
 |true=>
  rw[hh,Bb rfl] at e;injection e with e1 e;injection e with e2 e;injection e with e3 e;injection e with e4 e;injection e with e5 e6;subst e1 e5;obtain⟨m,s⟩:=Yg (l:=l) (p:=p) (n:=i) (id:=id) (q:=qu) (z:=z) (by rw[<-e2,<-e3,<-e4,<-e6]);refine⟨s,rfl,?_⟩;unfold HI at hh;rw[Al,Fg] at hh;rw[Bb rfl,Fg];exact⟨sX,m⟩
 |false=>
  rw[hh,Ba sY] at e;injection e with e1 e;injection e with e2 e;injection e with e3 e;injection e with e4 e;injection e with e5 _;subst e1 e2 e3 e4 e5;exact⟨Seg.nil (by rw[AZ];exact a),rfl,rfl⟩
theorem WC {ct:CelT}{l:List UInt8}{inter:Bool}{k:Int}(a:LG ct (A2 l))(hk:0<=BN k):∀(n i p:Nat) (vs:List (Int×Int)) (first:Int) (rs:List RowP) (q:Nat),p<=8*l.length->CB ct l inter k n i p vs first=(rs,q,0)->
  Seg (A2 l) p q (FD inter k i p vs first rs)/\rs.length=n/\AV (FJ inter (BN k)) i rs=true/\AV (D0 k) vs.length (rs.flatMap (·.cels))=true
 |0,i,p,vs,first,rs,q,hp,h=>by
  rw[CB] at h;exact Wds
 |n+1,i,p,vs,first,rs,q,hp,h=>by
  rw[CB] at h;obtain⟨⟨hd,id,qu,z,fs,f⟩,r⟩:=Ah (F2 l k i p first);rw[r] at h;simp only at h;by_cases c:f=0
  case neg=>
   rw[Bb c] at h;injection h with _ h;injection h with _ h;exact absurd h c
  rw[Ba (fun x=>x c)] at h;subst c;obtain⟨⟨cs,y,g⟩,hc⟩:=Ah (CG ct l inter k fs (BN k).toNat z vs);rw[hc] at h;simp only at h;by_cases hg:g=0
  case neg=>
   exact Wdq
  rw[Ba (fun x=>x hg)] at h;subst hg;obtain⟨⟨b,q',e⟩,hr⟩:=Ah (CB ct l inter k n (i+1) y (vs++CP cs) fs);rw[hr] at h;simp only at h;by_cases d:e=0
  case neg=>
   rw[Bb d] at h;injection h with _ h;injection h with _ h;exact absurd h d
  rw[Ba (fun x=>x d)] at h;subst d;injection h with e1 h;injection h with e2 _;subst e1 e2;obtain⟨m,f1,s⟩:=iV hp r cs;have t:z<=8*l.length:=by have:=m.2.1;rwa [AZ] at this
  obtain⟨o,u,v,w⟩:=Zr a _ z vs cs y t hc;have A:y<=8*l.length:=by have:=o.2.1;rwa [AZ] at this
  obtain⟨B,C,D,j⟩:=WC a hk n (i+1) y (vs++CP cs) fs b q' A hr;have E:y=p+(FN i p ⟨hd,id,qu,cs⟩).length+(GN inter k fs vs cs).length:=by have:=m.len;have:=o.len;omega
  refine⟨?_,by rw[An,C],?_,?_⟩
  ·rw[FD];show Seg (A2 l) p q' (FN i p ⟨hd,id,qu,cs⟩++(GN inter k (F1 k i first ⟨hd,id,qu,cs⟩) vs cs++FD inter k (i+1) (p+(FN i p ⟨hd,id,qu,cs⟩).length+(GN inter k (F1 k i first ⟨hd,id,qu,cs⟩) vs cs).length) (vs++CP cs) (F1 k i first ⟨hd,id,qu,cs⟩) b));rw[<-f1,<-E];exact m.app (o.app B)
  ·rw[AV,D,Lb];unfold FJ;simp only;rw[u,Ce hk,s,v];simp
  ·rw[Gc,Tk,w,Gs];simp only;rw[B8] at j;unfold CP at j;rw[Kh] at j;exact j
def DV (l:List UInt8):Nat->Nat->Option Nat
 |0,p=>if (AM l p).2=0\/p=8*l.length then some 0 else none
 |n+1,p=>if (AM l p).2=0\/p=8*l.length then some 0 else if p+8<=8*l.length/\AB l p 8=0 then (DV l n (p+8)).map (· + 1) else none
def FQ (l:List UInt8)(p:Nat):Nat:=(DV l l.length p).getD 0
theorem eC {l:List UInt8}:∀(n p z:Nat),p<=8*l.length->DV l n p=some z->Seg (A2 l) p (p+8*z) (List.replicate (8*z) 48)
 |0,p,z,hp,h=>by
  rw[DV] at h
  split at h
  ·injection h with h;subst h;exact Seg.nil xT
  ·cases h
 |n+1,p,z,hp,h=>by
  rw[DV] at h
  split at h
  ·injection h with h;subst h;exact Seg.nil xT
  ·split at h
   ·rename_i a
    obtain⟨y,b,rfl⟩:=Ih.1 h;have c:=PW (l:=l) (p:=p) (n:=8) a.1 a.2;have d:=eC n (p+8) y a.1 b;have:=c.app d;rw[Ln] at this;rw[show p+8*(y+1)=p+8+8*y by omega,show 8*(y+1)=8+8*y by omega];exact this
   ·cases h
theorem Vo {l:List UInt8}{p:Nat}(a:p<=8*l.length):Seg (A2 l) p (p+8*FQ l p) (List.replicate (8*FQ l p) 48):=by
 unfold FQ;cases h:DV l l.length p with
 |none=>exact Seg.nil (by rw[AZ];exact a)
 |some z=>exact eC _ p z a h
def GR:ShP:=⟨EJ,[],0⟩
def wtk (ct:CelT)(l:List UInt8)(p:Nat):ShP×Nat×Int:=
 match shk l p with
 |(h,q,f)=>if f≠0 then (GR,p,f) else
  match CB ct l h.inter h.fmt (BE h.fmt).toNat 0 q [] 0 with
  |(rs,z,g)=>if g≠0 then (GR,p,g) else if AB l z (gap z)≠0 then (GR,p,5) else (⟨h,rs,(FQ l (z+gap z):Nat)⟩,z+gap z+8*FQ l (z+gap z),0)
def LW (p:Nat)(S:ShP):List UInt8:=FD S.hd.inter S.hd.fmt 0 p [] 0 S.rows
def KG (p:Nat):List UInt8:=List.replicate (gap p) 48
def EC (p:Nat)(S:ShP):List UInt8:=
 (DJ 0++EN S.hd)++(LW (p+(DJ 0++EN S.hd).length) S++(KG (p+(DJ 0++EN S.hd).length+(LW (p+(DJ 0++EN S.hd).length) S).length)++List.replicate (8*S.zeros.toNat) 48))
theorem UF (k:Int):0<=BN k/\0<=BE k:=by
 unfold BN AY;rcases KD k with rfl|rfl|rfl|rfl|rfl|rfl|⟨h,hv⟩
 case _|_|_|_|_|_=>decide +kernel
 unfold BE BQ DF;rw[hv]
 decide
theorem Rg {ct:CelT}{l:List UInt8}{p q:Nat}{S:ShP}(c:LG ct (A2 l))(h:wtk ct l p=(S,q,0)):
  p%8=0/\q%8=0/\p<q/\(S.zeros<=262144->DG S=0)/\0<=S.zeros/\Seg (A2 l) p q (EC p S):=by
 unfold wtk at h;obtain⟨⟨hd,d,f⟩,o⟩:=Ah (shk l p);rw[o] at h;simp only at h;by_cases b:f=0
 case neg=>
  exact Wdt
 rw[Ba (fun x=>x b)] at h;subst b;obtain⟨⟨rs,z,g⟩,hr⟩:=Ah (CB ct l hd.inter hd.fmt (BE hd.fmt).toNat 0 d [] 0);rw[hr] at h;simp only at h;by_cases hg:g=0
 case neg=>
  exact Wdq
 rw[Ba (fun x=>x hg)] at h;subst hg;by_cases e:AB l z (gap z)=0
 case neg=>
  rw[Bb e] at h;injection h with _ h;injection h with _ h;cases h
 rw[Ba (fun x=>x e)] at h;injection h with e1 h;injection h with e2 _;obtain⟨s,hm,i⟩:=Si o;obtain⟨t,u⟩:=UF hd.fmt;have j:d<=8*l.length:=by have:=i.2.1;rwa [AZ] at this
 obtain⟨k,v,w,y⟩:=WC c t _ 0 d [] 0 rs z j hr;have E:z<=8*l.length:=by have:=k.2.1;rwa [AZ] at this
 have a:z+gap z<=8*l.length:=uH;have A:=PW (l:=l) (p:=z) (n:=gap z) a e;have B:=Vo (l:=l) (p:=z+gap z) a;have C:=i.len;have D:=k.len;have r:(DJ 0++EN hd).length=50+9*hd.supp.length:=by rw[B8,JG,SC];omega
 subst e1 e2;refine⟨s,uH,sX,fun m=>?_,sV,?_⟩
 ·refine Z9 ?_ ?_
  ·unfold HE;simp only[Al,Fg];refine⟨hm,⟨sV,m⟩,?_,w⟩;rw[v,Ce u]
  ·exact y
 ·unfold EC LW KG;simp only[Dp];rw[<-C,<-D];exact i.app (k.app (A.app B))
theorem W1 {α:Type}{a:α}{n:Nat}{A B:List α}(h:a∈A.take n):a∈(A++B).take n:=by
 rw[List.take_append];exact Fc _ h
theorem Qif:∀inter:Bool,(49:UInt8)∈(KT inter).take 10:=uB
theorem kA:∀(inter:Bool) (k:Fin 6) (c:Fin 4),IJ inter (k.val:Nat)=true->(49:UInt8)∈(KH inter++(BC inter (k.val:Nat) (c.val:Nat)).data.toList).take 10:=uB
theorem Qla {inter:Bool}{k:Int}(h:IJ inter k=true):∃n:Nat,n<6/\k=n:=by
 unfold IJ at h;simp only[B6,Al,Bj] at h;exact⟨k.toNat,sX,sX⟩
theorem kX {inter:Bool}{x y:Int}{c:Cel}(h:CC inter c=true):(49:UInt8)∈(E4 inter x y c).take 10:=by
 unfold CC at h;rw[Al] at h;unfold E4;cases hn:c.stuff.toNat with
 |succ n=>
  rw[NF,Bg];exact W1 (Qif inter)
 |zero=>
  show _∈List.take 10 ([]++_);rw[Cb];cases hs:c.skip with
  |true=>
   rw[Bb rfl]
   decide
  |false=>
   rw[Ba sY];have h2:=h.2;rw[hs,Ba sY,Al,Al] at h2;obtain⟨n,b,hk⟩:=Qla h2.1.1;have a:=h2.1.1;rw[hk] at a;have h1:=kA inter ⟨n,b⟩ ⟨DK c,(UR c).2.1⟩ a;rw[hk];simp only[Bg];rw[<-Bg];exact W1 h1
theorem Qpl {S:List UInt8}{p q j:Nat}{r:List UInt8}(h:Seg S p q r)(hj:j<r.length):S[p+j]? =r[j]?:=by
 have e:=h.at;have:(S.drop p)[j]? =(r++S.drop q)[j]?:=by rw[e]
 rw[Ax,Hj hj] at this;exact this
theorem nX {l:List UInt8}{p q:Nat}{r:List UInt8}(h:Seg (A2 l) p q r)(h1:(49:UInt8)∈r.take 10):(BA l p).2=false:=by
 cases hn:(BA l p).2 with
 |false=>rfl
 |true=>
  have hg:=U0 hn;have d:=Xh hn;rw[P7 sX hg,IX sX] at hn;have ht:AB l (p+gap p) 22 / 32=1:=by
   by_cases ht:AB l (p+gap p) 22 / 32=1
   ·exact ht
   ·rw[Ba ht] at hn;exact absurd hn sY
  have e:=KM l (p+gap p) 16 6 sX;have f:AB l (p+gap p) 22=AB l (p+gap p) 16*64+AB l (p+gap p+16) 6:=e;have a:AB l (p+gap p) 16=0:=sX;obtain⟨j,hj,hv⟩:=List.mem_iff_getElem.1 h1;have b:=hj;rw[Be] at b;have hs:=Qpl h (j:=j) sX;rw[Fo] at hv;rw[Fh (show j<r.length by omega),hv] at hs;by_cases c:j<gap p
  ·have:=(JJ l p (gap p) sX).1 hg j c;rw[this] at hs;exact absurd hs sY
  ·have:=(JJ l (p+gap p) 16 sX).1 a (j-gap p) sX;rw[show p+gap p+(j-gap p)=p+j by omega] at this;rw[this] at hs;exact absurd hs sY
theorem Qoy {l:List UInt8}{p z n id q:Nat}(hn:n<32)(hi:id<4)(h1:1<=q)(s:q<32)(h:Seg (A2 l) p z (IA p n id q)):hdk l p (n:Int)=((id:Int),(q:Int),z,0)/\BA l p=((n:Int),true):=by
 unfold IA JX at h;rw[<-OJ,Bg] at h;obtain⟨d,e,h⟩:=h.cut;obtain⟨f,g,h⟩:=h.cut;obtain⟨t,i,j⟩:=h.cut;have a:Seg (A2 l) d f (AF (32+n) 22):=g;obtain⟨k,e0,u⟩:=ER e (Ch _);obtain⟨m,e1,v⟩:=ER a (by show 32+n<4194304;omega);obtain⟨o,e2,b2⟩:=ER i (by show id<4;omega);obtain⟨c,r,b3⟩:=ER j (by show q<32;omega);subst e0 e1 e2 r;have b:BA l p=((n:Int),true):=by
  rw[P7 sX k,IX sX,m,Bb sX];have:(32+n)%32=n:=sX;rw[this];rfl
 refine⟨?_,b⟩;rw[RN (by rw[b]) (by rw[b]) sX tZ,o,c]
def Qb (ct:CelT)(S:List UInt8):Prop:=∀inter x y p q c,Seg S p q (E4 inter x y c)->CC inter c=true->∃c',ct inter S x y p=(c',q,0)/\FH c' c=true
theorem Qej {c d:Cel}(h:FH c d=true):c.kind=d.kind/\c.mx=d.mx/\c.my=d.my:=by
 unfold FH IR at h;simp only[Al,Bj] at h;exact⟨h.2.1.1.1.2,h.2.1.2.1,h.2.1.2.2⟩
theorem dI {ct:CelT}{l:List UInt8}{inter:Bool}{k first:Int}(b:Qb ct (A2 l)):∀(cs:List Cel) (p:Nat) (vs:List (Int×Int)) (q:Nat),Seg (A2 l) p q (GN inter k first vs cs)->cs.all (CC inter)=true->AV (D0 k) vs.length cs=true->
  ∃a,CG ct l inter k first cs.length p vs=(a,q,0)/\CP a=CP cs/\a.length=cs.length/\((a.zip cs).all fun p=>FH p.1 p.2)=true
 |[],p,vs,q,h,_,_=>by
  have e:q=p:=h.len;subst e;exact⟨[],rfl,rfl,rfl,rfl⟩
 |c::cs,p,vs,q,h,hm,hv=>by
  rw[GN] at h;obtain⟨z,h1,h2⟩:=h.cut;rw[Gt,Al] at hm;rw[AV,Al] at hv;obtain⟨c',hc,i⟩:=b inter _ _ p z c h1 hm.1;obtain⟨j,d,f⟩:=Qej i;have g:D0 k vs.length c'=true:=by
   have:=hv.1;unfold D0 at this ⊢;rw[j,d,f];exact this
  obtain⟨a,e1,e2,m,n⟩:=dI b cs z (vs++[(c.mx,c.my)]) q h2 hm.2 (by rw[B8];exact hv.2);refine⟨c'::a,?_,?_,by rw[An,An,m],?_⟩
  ·rw[An,CG,hc];simp only;rw[Ba sY,g,Ba sY,d,f,e1];simp
  ·show (c'.mx,c'.my)::CP a=(c.mx,c.my)::CP cs;rw[d,f,e2]
  ·rw[Lp,Gt,i,n];rfl
theorem Yf {ct:CelT}{l:List UInt8}{inter:Bool}{k:Int}(d:Qb ct (A2 l))(hk:0<BN k):∀(rs:List RowP) (i p:Nat) (vs:List (Int×Int)) (first:Int) (q:Nat),Seg (A2 l) p q (FD inter k i p vs first rs)->i+rs.length<=31->
  AV (FJ inter (BN k)) i rs=true->AV (D0 k) vs.length (rs.flatMap (·.cels))=true->
  ∃a,CB ct l inter k rs.length i p vs first=(a,q,0)/\a.length=rs.length/\((a.zip rs).all fun p=>rwB p.1 p.2)=true
 |[],i,p,vs,first,q,h,_,_,_=>by
  have e:q=p:=h.len;subst e;exact⟨[],rfl,rfl,rfl⟩
 |r::rs,i,p,vs,first,q,h,hi,hm,hv=>by
  rw[FD] at h;obtain⟨z,h1,h⟩:=h.cut;obtain⟨y,h2,h3⟩:=h.cut;rw[An] at hi;rw[AV,Al] at hm;rw[Gc,Tk,Al] at hv;have hr:=hm.1;unfold FJ at hr;rw[Al,Fg,Al] at hr;obtain⟨hc,b,f⟩:=hr;have m:=h1.len;have n:=h2.len;rw[<-m,<-n] at h3;obtain⟨g,e1,e2,o,s⟩:=dI d r.cels z vs y h2 f hv.1;obtain⟨a,f1,f2,f3⟩:=Yf d hk rs (i+1) y (vs++CP r.cels) (F1 k i first r) q h3 sX hm.2 (by
   rw[B8];unfold CP;rw[Kh];exact hv.2)
  have t:(BN k).toNat=r.cels.length:=sX;have u:F2 l k i p first=(r.head,r.id,r.quant,z,F1 k i first r,0):=by
   unfold F2 F1;unfold FN at h1;cases hd:r.head with
   |true=>
    rw[hd,Bb rfl] at b h1;rw[Fg] at b;obtain⟨v,w⟩:=Qoy sX sX sX sX h1;have j:HI l i p=true:=by
     unfold HI;rw[w];simp only[Al,Fg,Fj,J4];omega
    rw[j,Bb rfl,Bb rfl,v];simp only[J1,J4,J6];omega
   |false=>
    rw[hd,Ba sY] at b h1;rw[Fg] at b;have e:z=p:=h1.len;subst e;have j:HI l i z=false:=by
     unfold HI;by_cases x:0<i
     ·cases hcs:r.cels with
      |nil=>rw[hcs] at hc;simp at hc;omega
      |cons c cs=>
       rw[hcs] at h2 f;rw[GN] at h2;rw[Gt,Al] at f;rw[nX h2 (W1 (kX f.1))];simp
     ·rw[Gl x];rfl
    rw[j,Ba sY,Ba sY,b.1,b.2]
  refine⟨⟨r.head,r.id,r.quant,g⟩::a,?_,by rw[An,An,f2],?_⟩
  ·rw[An,CB,u];simp only;rw[Ba sY,t,e1];simp only;rw[Ba sY,e2,f1];simp
  ·rw[Lp,Gt,f3];unfold rwB;simp only[J5,Gs,Lb,Al,Fg];exact⟨o,s⟩
theorem XU {l:List UInt8}:∀(z n p q:Nat),z<=n->q=p+8*z->q<=8*l.length->Seg (A2 l) p q (List.replicate (8*z) 48)->(q=8*l.length\/(AM l q).2=0)->DV l n p=some z
 |0,n,p,q,_,hq,_,_,a=>by
  have e:q=p:=sX;subst e;have hc:(AM l q).2=0\/q=8*l.length:=a.symm;cases n with
  |zero=>rw[DV,Bb hc]
  |succ n=>rw[DV,Bb hc]
 |z+1,0,p,q,h,_,_,_,_=>sX
 |z+1,n+1,p,q,h,hq,hin,hs,a=>by
  have c:=hs;rw[show 8*(z+1)=8+8*z by omega,<-Ln] at c;obtain⟨m,g,o⟩:=c.cut;have r:m=p+8:=by have:=g.len;rw[Bp] at this;exact this
  subst r;rw[<-OJ] at g hs;obtain⟨t8,_,s⟩:=ER g sY;obtain⟨t,_,y⟩:=ER hs (Ch _);have j:¬ ((AM l p).2=0\/p=8*l.length):=by
   rintro(b|b)
   ·by_cases d:p+22<=8*l.length
    ·rw[IX d] at b;have ht:AB l p 22 / 32=1:=by
      by_cases ht:AB l p 22 / 32=1
      ·exact ht
      ·rw[Ba ht] at b;exact absurd b sY
     have u:∀i,i<22->(A2 l)[p+i]? =some 48:=by
      intro i hi;by_cases v:i<8*(z+1)
      ·exact(JJ l p (8*(z+1)) sX).1 t i v
      ·rcases a with a|a
       ·omega
       ·have f:q+22<=8*l.length:=by
         by_cases w:q+22<=8*l.length
         ·exact w
         ·rw[MW sX sX] at a;exact absurd a sY
        rw[IX f] at a;have x:AB l q 22 / 32=1:=by
         by_cases ht:AB l q 22 / 32=1
         ·exact ht
         ·rw[Ba ht] at a;exact absurd a sY
        have e:AB l q 22=AB l q 16*64+AB l (q+16) 6:=KM l q 16 6 sX;have k:AB l q 16=0:=sX;have:=(JJ l q 16 sX).1 k (i-8*(z+1)) sX;rw[show q+(i-8*(z+1))=p+i by omega] at this;exact this
     have:=(JJ l p 22 d).2 u;omega
    ·rw[MW sX sX] at b;exact absurd b sY
   ·omega
  rw[DV,Ba j,Bb ⟨s,t8⟩,XU z n (p+8) q sX sX hin o a]
  rfl
theorem rY {ct:CelT}{l:List UInt8}{p q:Nat}{S:ShP}(k:Qb ct (A2 l))(w:p%8=0)(y:DG S=0)(h:Seg (A2 l) p q (EC p S))(z:q=8*l.length\/(AM l q).2=0):
  ∃t,wtk ct l p=(t,q,0)/\shB t S=true:=by
 obtain⟨h1,h2⟩:=XB y;unfold HE at h1;simp only[Al,Fg] at h1;obtain⟨hm,⟨A,B⟩,hn,hr⟩:=h1;obtain⟨hd,rows,d⟩:=S;dsimp only at hm A B hn hr h2;unfold EC LW KG at h;dsimp only at h;obtain⟨a,u,h⟩:=h.cut;obtain⟨b,m,h⟩:=h.cut;obtain⟨c,g,i⟩:=h.cut;have C:=u.len;have v:=m.len;have j:=g.len;have D:=i.len;rw[<-C] at m g v j;rw[<-v] at g j;rw[Bp] at j D;have n:q<=8*l.length:=by have:=i.2.1;rwa [AZ] at this
 have E:=(LL.1 hm).2.1;have o:0<BN hd.fmt/\BE hd.fmt<=18:=by
  have e:hd.fmt=1\/hd.fmt=2\/hd.fmt=3\/hd.fmt=4\/hd.fmt=5\/hd.fmt=6:=sX;rcases e with e|e|e|e|e|e <;> rw[e] <;> decide +kernel
 have hk:=pU w hm u;obtain⟨r,f1,f2,f3⟩:=Yf k o.1 rows 0 a [] 0 b m sX hr h2;have F:(BE hd.fmt).toNat=rows.length:=sX;have f:AB l b (gap b)=0:=by
  rw[<-OJ] at g;exact(ER g (Ch _)).1
 have G:DV l l.length (b+gap b)=some d.toNat:=by
  rw[j] at i;exact XU d.toNat l.length (b+gap b) q sX sX n i z
 have s:FQ l (b+gap b)=d.toNat:=by unfold FQ;rw[G];rfl
 refine⟨⟨hd,r,d⟩,?_,?_⟩
 ·unfold wtk;rw[hk];simp only;rw[Ba sY,F,f1];simp only;rw[Ba sY,Ba (fun x=>x f),s];have e1:((d.toNat:Nat):Int)=d:=sX;have e2:b+gap b+8*d.toNat=q:=sX;rw[e1,e2]
 ·unfold shB;rw[X8];simp only[J5,Gs,Al,Fg];exact⟨f2,f3⟩
theorem cJ {p q:Nat}(h:p%8=q%8):gap p=gap q:=by unfold gap;rw[h]
theorem Y5o {p q:Nat}(h:p%8=q%8)(n a b:Nat):IA p n a b=IA q n a b:=by unfold IA;rw[cJ h]
theorem fF {inter:Bool}{k:Int}:∀(rs:List RowP) (i p q:Nat) (vs:List (Int×Int)) (first:Int),p%8=q%8->FD inter k i p vs first rs=FD inter k i q vs first rs
 |[],_,_,_,_,_,_=>rfl
 |r::rs,i,p,q,vs,first,h=>by
  have a:FN i p r=FN i q r:=by unfold FN;rw[Y5o h]
  rw[FD,FD,a]
  congr 2
  exact fF rs _ _ _ _ _ sX
theorem Uf {p q:Nat}(h:p%8=q%8)(S:ShP):EC p S=EC q S:=by
 unfold EC LW;have e1:∀a:Nat,FD S.hd.inter S.hd.fmt 0 (p+a) [] 0 S.rows=FD S.hd.inter S.hd.fmt 0 (q+a) [] 0 S.rows:=fun a=>fF _ _ _ _ _ _ sX;rw[e1];have e2:∀a b:Nat,KG (p+a+b)=KG (q+a+b):=fun a b=>by unfold KG;rw[cJ (p:=p+a+b) (q:=q+a+b) (by omega)]
 rw[e2]
theorem oZ (p:Nat)(S:ShP):50<=(EC p S).length:=by
 unfold EC;rw[B8,B8,JG,SC];omega
theorem Xa:∀{l m:List UInt8},A2 l=A2 m->l=m
 |[],[],_=>rfl
 |[],c::m,h=>xS
 |c::l,[],h=>xS
 |c::l,d::m,h=>by
  rw[RR,RR] at h;obtain⟨h1,h2⟩:=List.append_inj h (by rw[BS,BS]);have h3:=Bz num h1;rw[IQ,IQ] at h3;have hc:=c.toNat_lt;have hd:=d.toNat_lt;have e:c=d:=Hp.1 sX;rw[e,Xa h2]
theorem Qmh {l:List UInt8}{a b:Nat}{r:List UInt8}(h:Seg (A2 l) (8*a) (8*b) r):FV r=(l.drop a).take (b-a):=by
 obtain⟨h1,h2,h3⟩:=h;rw[AZ] at h2;have c:=VO l a (b-a) sX;rw[show 8*(b-a)=8*b-8*a by omega,h3] at c;have hr:AH r=true:=by rw[<-c];exact GX _
 apply Xa;rw[XE r hr,c];unfold JR;have hl:r.length%8=0:=by rw[<-c,AZ];omega
 rw[show (8-r.length%8)%8=0 by omega];exact Fa r
def GD (r:List UInt8)(S:ShP):List UInt8:=r++(KG r.length++EC (r.length+gap r.length) S)
def IU (r:List UInt8)(S:ShP):List UInt8:=EH r 0++EN S.hd
def HZ (r:List UInt8)(S:ShP):List UInt8:=IU r S++LW (IU r S).length S
theorem RW (r:List UInt8)(S:ShP):(IU r S).length=r.length+gap r.length+(DJ 0++EN S.hd).length:=by
 unfold IU;rw[B8,Uo,B8,JG];omega
theorem Ui (r:List UInt8)(S:ShP):GD r S=(HZ r S++List.replicate (gap (HZ r S).length) 48)++List.replicate (8*S.zeros.toNat) 48:=by
 have hl:(HZ r S).length=r.length+gap r.length+(DJ 0++EN S.hd).length+(LW (r.length+gap r.length+(DJ 0++EN S.hd).length) S).length:=by
  unfold HZ;rw[B8,RW]
 rw[hl];unfold GD EC HZ;rw[RW];unfold IU EH KG;simp only[Bg]
def GW (inter:Bool)(k:Int)(i:Nat)(R:List UInt8)(vs:List (Int×Int))(first:Int)(rs:List RowP):List UInt8:=R++FD inter k i R.length vs first rs
def JC (inter:Bool)(k first:Int)(R:List UInt8)(vs:List (Int×Int))(cs:List Cel):List UInt8:=R++GN inter k first vs cs
theorem Qah (inter:Bool)(k first:Int)(R:List UInt8)(vs:List (Int×Int)):JC inter k first R vs []=R:=Fa R
theorem Y41 (inter:Bool)(k first:Int)(R:List UInt8)(vs:List (Int×Int))(c:Cel)(cs:List Cel):
  JC inter k first R vs (c::cs)=JC inter k first (R++E4 inter (CY vs (AY k) first).1 (CY vs (AY k) first).2 c) (vs++[(c.mx,c.my)]) cs:=by
 unfold JC;rw[GN,Bg]
theorem Qb8 (inter:Bool)(k:Int)(i:Nat)(R:List UInt8)(vs:List (Int×Int))(first:Int):GW inter k i R vs first []=R:=Fa R
theorem pJ (inter:Bool)(k:Int)(i:Nat)(R:List UInt8)(vs:List (Int×Int))(first:Int)(r:RowP)(rs:List RowP):
  GW inter k i R vs first (r::rs)=GW inter k (i+1) (JC inter k (F1 k i first r) (R++FN i R.length r) vs r.cels) (vs++CP r.cels) (F1 k i first r) rs:=by
 unfold GW JC;rw[FD];simp only[B8,Bg,Az]
theorem WP (r:List UInt8)(S:ShP):GW S.hd.inter S.hd.fmt 0 (IU r S) [] 0 S.rows=HZ r S:=rfl
theorem fD (r:List UInt8)(S:ShP):(GD r S).length%8=0:=by
 rw[Ui];simp only[B8,Bp];unfold gap;omega
theorem lA (S:ShP):GD [] S=EC 0 S:=rfl
theorem Qgi {r:List UInt8}(h:r.length%8=0)(S:ShP):GD r S=r++EC 0 S:=by
 unfold GD KG;have hg:gap r.length=0:=uH;rw[hg,Uf (q:=0) sX]
 rfl
def CZ {α:Type}(E:List α×Nat×Int)(d:List α)(T:List α×Nat×Int):Prop:=(T.2.2≠0->E.2.2=T.2.2)/\(T.2.2=0->E=(d++T.1,T.2.1,0))
theorem CZ.start {α:Type}(E:List α×Nat×Int):CZ E [] E:=⟨fun _=>rfl,fun h=>by obtain⟨a,b,c⟩:=E;simp only at h;subst h;rfl⟩
theorem CZ.bad {α:Type}{E T:List α×Nat×Int}{d:List α}{f:Int}(h:CZ E d T)(a:T.2.2=f)(b:f≠0):E.2.2=f:=by
 subst a;exact h.1 b
theorem CZ.done {α:Type}{E:List α×Nat×Int}{d:List α}{p:Nat}(h:CZ E d ([],p,0)):E=(d,p,0):=by
 have:=h.2 rfl;rwa [Fa] at this
theorem CZ.step {α:Type}{E T b:List α×Nat×Int}{d:List α}{a:α}(h:CZ E d T)(e:T=(if b.2.2≠0 then ([],T.2.1,b.2.2) else (a::b.1,b.2.1,0))):CZ E (d++[a]) b:=by
 by_cases c:b.2.2=0
 ·rw[Ba (fun x=>x c)] at e;refine⟨fun h1=>absurd c h1,fun _=>?_⟩;have:=h.2 (by rw[e]);rw[this,e,Bg]
  rfl
 ·rw[Bb c] at e;exact⟨fun _=>h.bad (by rw[e]) c,fun h1=>absurd h1 c⟩
section
variable {ct:CelT}{l:List UInt8}{inter:Bool}{k first:Int}{n p:Nat}{vs:List (Int×Int)}
theorem Yv {E:List Cel×Nat×Int}{d:List Cel}{c:Cel}{q:Nat}{f:Int}(h:CZ E d (CG ct l inter k first (n+1) p vs))(hc:ct inter (A2 l) (CY vs (AY k) first).1 (CY vs (AY k) first).2 p=(c,q,f))(a:f≠0):E.2.2=f:=by
 refine h.bad ?_ a;rw[CG,hc];simp only;rw[Bb a]
theorem bM {E:List Cel×Nat×Int}{d:List Cel}{c:Cel}{q:Nat}(h:CZ E d (CG ct l inter k first (n+1) p vs))(hc:ct inter (A2 l) (CY vs (AY k) first).1 (CY vs (AY k) first).2 p=(c,q,0))(hv:D0 k vs.length c=false):E.2.2=8:=by
 refine h.bad ?_ sY;rw[CG,hc];simp only;rw[Ba (fun x=>x rfl),hv,Bb rfl]
theorem cW {E:List Cel×Nat×Int}{d:List Cel}{c:Cel}{q:Nat}(h:CZ E d (CG ct l inter k first (n+1) p vs))(hc:ct inter (A2 l) (CY vs (AY k) first).1 (CY vs (AY k) first).2 p=(c,q,0))(hv:D0 k vs.length c=true):CZ E (d++[c]) (CG ct l inter k first n q (vs++[(c.mx,c.my)])):=by
 refine h.step ?_;rw[CG,hc];simp only;rw[Ba (fun x=>x rfl),hv,Ba sY];obtain⟨⟨cs,z,g⟩,hr⟩:=Ah (CG ct l inter k first n q (vs++[(c.mx,c.my)]));rw[hr];by_cases hg:g=0
 ·subst hg
  rfl
 ·simp only;rw[Bb hg,Bb hg]
theorem Z3 {i:Nat}{E:List RowP×Nat×Int}{d:List RowP}{hd:Bool}{id qu fs f:Int}{z:Nat}(h:CZ E d (CB ct l inter k (n+1) i p vs first))(b:F2 l k i p first=(hd,id,qu,z,fs,f))(a:f≠0):E.2.2=f:=by
 refine h.bad ?_ a;rw[CB,b];simp only;rw[Bb a]
theorem WI {i:Nat}{E:List RowP×Nat×Int}{d:List RowP}{hd:Bool}{id qu fs g:Int}{z q:Nat}{cs:List Cel}(h:CZ E d (CB ct l inter k (n+1) i p vs first))(a:F2 l k i p first=(hd,id,qu,z,fs,0))(hc:CG ct l inter k fs (BN k).toNat z vs=(cs,q,g))(hg:g≠0):E.2.2=g:=by
 refine h.bad ?_ hg;rw[CB,a];simp only;rw[Ba (fun x=>x rfl),hc];simp only;rw[Bb hg]
theorem dO {i:Nat}{E:List RowP×Nat×Int}{d:List RowP}{hd:Bool}{id qu fs:Int}{z q:Nat}{cs:List Cel}(h:CZ E d (CB ct l inter k (n+1) i p vs first))(b:F2 l k i p first=(hd,id,qu,z,fs,0))(hc:CG ct l inter k fs (BN k).toNat z vs=(cs,q,0)):
  CZ E (d++[⟨hd,id,qu,cs⟩]) (CB ct l inter k n (i+1) q (vs++CP cs) fs):=by
 refine h.step ?_;rw[CB,b];simp only;rw[Ba (fun x=>x rfl),hc];simp only;rw[Ba (fun x=>x rfl)];obtain⟨⟨rs,y,e⟩,hr⟩:=Ah (CB ct l inter k n (i+1) q (vs++CP cs) fs);rw[hr];by_cases a:e=0
 ·subst a
  rfl
 ·simp only;rw[Bb a,Bb a]
end
section
variable {ct:CelT}{l:List UInt8}{p q z:Nat}{h:Shd}{rs:List RowP}{f g:Int}
theorem bN (a:shk l p=(h,q,f))(b:f≠0):wtk ct l p=(GR,p,f):=by
 unfold wtk;rw[a];simp only;rw[Bb b]
theorem W6 (a:shk l p=(h,q,0))(hr:(CB ct l h.inter h.fmt (BE h.fmt).toNat 0 q [] 0).2.2=g)(hg:g≠0):wtk ct l p=(GR,p,g):=by
 unfold wtk;rw[a];simp only;rw[Ba (fun x=>x rfl)];obtain⟨⟨rs,z,e⟩,h2⟩:=Ah (CB ct l h.inter h.fmt (BE h.fmt).toNat 0 q [] 0);rw[h2] at hr ⊢;simp only at hr ⊢;subst hr;rw[Bb hg]
theorem ZS (a:shk l p=(h,q,0))(hr:CB ct l h.inter h.fmt (BE h.fmt).toNat 0 q [] 0=(rs,z,0))(b:AB l z (gap z)≠0):wtk ct l p=(GR,p,5):=by
 unfold wtk;rw[a];simp only;rw[Ba (fun x=>x rfl),hr];simp only;rw[Ba (fun x=>x rfl),Bb b]
theorem XT (a:shk l p=(h,q,0))(hr:CB ct l h.inter h.fmt (BE h.fmt).toNat 0 q [] 0=(rs,z,0))(b:AB l z (gap z)=0):wtk ct l p=(⟨h,rs,(FQ l (z+gap z):Nat)⟩,z+gap z+8*FQ l (z+gap z),0):=by
 unfold wtk;rw[a];simp only;rw[Ba (fun x=>x rfl),hr];simp only;rw[Ba (fun x=>x rfl),Ba (fun x=>x b)]
end
theorem pG {l:List UInt8}{p:Nat}(h:(AM l p).2=0\/p=8*l.length):∀n,DV l n p=some 0
 |0=>by rw[DV,Bb h]
 |n+1=>by rw[DV,Bb h]
theorem Qi2 {l:List UInt8}{p n:Nat}(h:¬ ((AM l p).2=0\/p=8*l.length))(a:p+8<=8*l.length/\AB l p 8=0):DV l (n+1) p=(DV l n (p+8)).map (· + 1):=by rw[DV,Ba h,Bb a]
theorem nE {l:List UInt8}{p:Nat}(h:¬ ((AM l p).2=0\/p=8*l.length))(a:¬ (p+8<=8*l.length/\AB l p 8=0)):∀n,DV l n p=none
 |0=>by rw[DV,Ba h]
 |n+1=>by rw[DV,Ba h,Ba a]
def JV (l:List UInt8)(p n:Nat):Prop:=p+8*n<=8*l.length/\n<=l.length/\DV l l.length p=(DV l (l.length-n) (p+8*n)).map (· + n)
theorem JV.start {l:List UInt8}{p:Nat}(a:p<=8*l.length):JV l p 0:=⟨sX,Do _,by rw[Nat.sub_zero,Db,C6];cases DV l l.length p <;> rfl⟩
theorem JV.stop {l:List UInt8}{p n:Nat}(h:JV l p n)(a:(AM l ((p+8*n:Nat):Int)).2=0\/p+8*n=8*l.length):FQ l p=n:=by
 unfold FQ;rw[h.2.2,pG a];simp
theorem JV.none {l:List UInt8}{p n:Nat}(h:JV l p n)(a:¬ ((AM l ((p+8*n:Nat):Int)).2=0\/p+8*n=8*l.length))(b:¬ (p+8*n+8<=8*l.length/\AB l (p+8*n) 8=0)):FQ l p=0:=by
 unfold FQ;rw[h.2.2,nE a b]
 rfl
theorem JV.more {l:List UInt8}{p n:Nat}(h:JV l p n)(a:¬ ((AM l ((p+8*n:Nat):Int)).2=0\/p+8*n=8*l.length))(b:p+8*n+8<=8*l.length/\AB l (p+8*n) 8=0):JV l p (n+1):=by
 have h1:=h.1;have h2:=h.2.1;have hl:n+1<=l.length:=sX;refine⟨sX,hl,?_⟩;have e:l.length-n=(l.length-(n+1))+1:=sX;rw[h.2.2,e,Qi2 a b,Option.map_map,show p+8*(n+1)=p+8*n+8 by omega]
 congr 1
 funext x
 show x+1+n=x+(n+1);omega
theorem Y6:∀(L:List UInt8),(∀i,i<(L.takeWhile (· == 48)).length->L[i]? =some 48)/\L[(L.takeWhile (· == 48)).length]?≠some 48
 |[]=>⟨fun i hi=>by simp at hi,sV⟩
 |c::L=>by
  by_cases hc:c=48
  ·obtain⟨h1,h2⟩:=Y6 L;rw[Fu (by simpa using hc),An];refine⟨fun i hi=>?_,uG⟩
   match i,hi with
   |0,_=>rw[hc];rfl
   |i+1,hi=>simpa using h1 i sX
  ·rw[Fv (by simpa using hc)];refine⟨fun i hi=>by simp at hi,?_⟩
   simpa using hc
theorem Sv (l:List UInt8)(p:Nat):(∀i,i<CK l p->(A2 l)[p+i]? =some 48)/\(A2 l)[p+CK l p]?≠some 48:=by
 have h:=Y6 ((A2 l).drop p);unfold CK;rw[Ba sX,Dp];refine⟨fun i hi=>?_,?_⟩
 ·have:=h.1 i hi;rwa [Ax] at this
 ·have:=h.2;rwa [Ax] at this
theorem VX {l:List UInt8}{p:Nat}(a:p<=8*l.length):p+CK l p<=8*l.length:=by
 rcases Au (8*l.length) (p+CK l p) with h|h
 ·have:=(Sv l p).1 (8*l.length-p) sX;rw[Fr (by rw[AZ];omega)] at this;cases this
 ·exact h
theorem TT {l:List UInt8}{p n:Nat}(h:p+n<=8*l.length):AB l p n=0↔n<=CK l p:=by
 rw[JJ l p n h];constructor
 ·intro a;rcases Au (CK l p) n with h1|h1
  ·exact absurd (a _ h1) (Sv l p).2
  ·exact h1
 ·exact fun h1 i hi=>(Sv l p).1 i sX
theorem Y2a {l:List UInt8}{p n:Nat}(h:n<=CK l p):CK l ((p+n:Nat):Int)=CK l p-n:=by
 obtain⟨h1,h2⟩:=Sv l p;refine U1 (fun i hi=>?_) ?_
 ·rw[Az];exact h1 (n+i) sX
 ·rw[show p+n+(CK l p-n)=p+CK l p by omega];exact h2
theorem Y12 {l:List UInt8}{p:Nat}(f:p<=8*l.length):(AM l (p:Int)).2=0↔p+22<=8*l.length/\CK l p=16:=by
 rcases Au (8*l.length) (p+22) with h|h
 ·rw[MW f h];constructor
  ·intro h;cases h
  ·omega
 ·rw[IX h];have e:=KM l p 16 6 sX;have e2:=KM l p 17 5 sX;have g:=KM l p 16 1 sX;have i:=EB l (p+17) 5;have j:=EB l (p+16) 1;have a:=TT (l:=l) (p:=p) (n:=16) sX;have b:=TT (l:=l) (p:=p) (n:=17) sX;simp only[Nat.reduceAdd,Nat.reducePow] at e e2 g i j;constructor
  ·intro h1;by_cases ht:AB l p 22 / 32=1
   ·have d:AB l p 17=1:=sX;have c:AB l p 16=0:=sX;have:=a.1 c;have:=fun h=>b.2 h;refine⟨h,?_⟩;omega
   ·rw[Ba ht] at h1;cases h1
  ·rintro⟨_,h1⟩;have c:AB l p 16=0:=a.2 sX;have d:AB l p 17≠0:=fun k=>by have:=b.1 k;omega
   rw[Bb sX]
def N1 (n left:Nat):Nat:=if n=left then n / 8 else if n%8=0/\16<=n then (n-16) / 8 else 0
theorem WG (l:List UInt8):∀(m p:Nat),p<=8*l.length->p%8=0->8*l.length-p<=8*m->
  DV l m p=if CK l p=8*l.length-p then some (CK l p / 8) else if CK l p%8=0/\16<=CK l p then some ((CK l p-16) / 8) else none
 |0,p,hp,h8,hm=>by
  have hn:=VX hp;rw[DV,Bb (.inr sX),Bb sX];rw[show CK l p=0 by omega]
 |m+1,p,hp,h8,hm=>by
  have hn:=VX hp;have hk:=Y12 hp;rw[DV];by_cases h1:(AM l (p:Int)).2=0\/p=8*l.length
  ·rw[Bb h1];rcases h1 with h1|h1
   ·obtain⟨a,b⟩:=hk.1 h1;rw[b,Ba sX,Bb sX]
   ·rw[show CK l p=0 by omega,Bb sX]
  ·rw[Ba h1];have h2:¬ (p+22<=8*l.length/\CK l p=16):=fun h=>h1 (.inl (hk.2 h));have h3:p+8<=8*l.length:=by
    have:p≠8*l.length:=fun h=>h1 (.inr h);omega
   have hg:=TT h3;by_cases h4:AB l p 8=0
   ·rw[Bb ⟨h3,h4⟩];have c:=hg.1 h4;rw[WG l m (p+8) h3 sX sX,Y2a c];by_cases d:CK l p=8*l.length-p
    ·rw[Bb d,Bb sX,Lo]
     congr 1
     omega
    ·rw[Ba d,Ba sX];by_cases e:CK l p%8=0/\16<=CK l p
     ·rw[Bb e,Bb sX,Lo]
      congr 1
      omega
     ·rw[Ba e,Ba sX]
      rfl
   ·rw[Ba (fun h=>h4 h.2)];have c:CK l p<8:=by
     rcases Au (CK l p) 8 with h|h
     ·exact h
     ·exact absurd (hg.2 h) h4
    rw[Ba sX,Ba sX]
theorem jC {l:List UInt8}{p:Nat}(a:p<=8*l.length)(b:p%8=0):FQ l p=N1 (CK l p) (8*l.length-p):=by
 unfold FQ N1;rw[WG l l.length p a b sX]
 split
 ·rfl
 ·split <;> rfl
end
section
open Go.RowKit Go.Lib
theorem WD {l:List UInt8}{p:Nat}(h:p+8<=8*l.length):(AB l p 8=0->(!((A2 l).drop p).take 8 == [48,48,48,48,48,48,48,48])=false)/\(AB l p 8≠0->(!((A2 l).drop p).take 8 == [48,48,48,48,48,48,48,48])=true):=by
 constructor
 ·intro a;have:=(PW (l:=l) (p:=p) (n:=8) h a).2.2;rw[Bm] at this;rw[this]
  rfl
 ·intro a;rw[L4,Fe];intro b;apply a;unfold AB;rw[b]
  rfl
theorem gR (s:ByteArray)(p:Nat)(B:p<=8*s.size)(O:p%8=0)(hs:s.size<=1073741824)(w:World):
  Calls prog 70 #[.string ⟨(A2 s.data.toList).toArray⟩,.int .i64 (p:Int)] w fun e E=>e=.returned (.int .i64 (FQ s.data.toList p:Int))/\w=E:=by
 have g:s.data.toList.length=s.size:=rfl;have i:=N7 s;have hcut:=fun q=>PS s q 8;have v:=fun(b:Int) w=>Se s b sX w;obtain⟨l,hl⟩:=Ah s.data.toList;rw[hl] at g i ⊢;simp only[hl] at hcut v;obtain⟨S,y⟩:∃S:ByteArray,(⟨(A2 l).toArray⟩:ByteArray)=S:=⟨_,rfl⟩;rw[y] at i ⊢;simp only[y] at hcut v;have u:=Dm hcut;have r:=Dm i;have j:=Dm g;have F:=Dm v;have C:=Dm (JV.start (l:=l) (p:=p) (by rw[g];exact B));have G:s.size<=1073741824:=hs;clear hl y hcut v i g B
 go_enter func70,ntmps70
 go_wp2
 go_loopw [5] (fun z wr=>∃n:Nat,z=.int .i64 (n:Int)/\Hid (JV l p n)/\n<=s.size/\wr=w) (fun z _=>s.size-(intOf z).toNat)
 case atStart=>exact⟨0,rfl,C,Do _,rfl⟩
 case round=>
  clear C;obtain⟨n,rfl,t,hn,rfl⟩:=hrel;have D:=t.out.1;obtain⟨q,c⟩:=Ah (p+8*n);have H:q%8=0:=sX;have I:q<=8*s.size:=by rw[<-j.out,<-c];exact D
  have P:IntKind.i64.wrap (8*(n:Int))=8*(n:Int):=CE sX;have x:IntKind.i64.wrap ((p:Int)+8*(n:Int))=(q:Int):=xR;have J:(p:Int)+8*(n:Int)=(q:Int):=sX;have Q:=Dm c;have ca:=F.out (q:Int) wr;clear J D;have R:decide (0<=(q:Int))=true:=sV;by_cases o:(AM l (q:Int)).2=0
  ·have d1:((AM l (q:Int)).2==0)=true:=by rw[o];rfl
   have N:=Dm (t.out.stop (.inl (by rw[c];exact o)));generalize (AM l (q:Int)).2=f at *;generalize (AM l (q:Int)).1=m at *;clear o c
   exact Wdr
  have d1:((AM l (q:Int)).2==0)=false:=by rw[Fe];exact o
  by_cases a:q=8*s.size
  ·have d2:((q:Int)==(S.size:Int))=true:=by rw[r.out,a];simp
   have N:=Dm (t.out.stop (.inr (by rw[c,a,j.out])));generalize (AM l (q:Int)).2=f at *;generalize (AM l (q:Int)).1=m at *;clear o c a
   exact Wdr
  have d2:((q:Int)==(S.size:Int))=false:=by rw[Fe];have:=r.out;omega
  have k:¬ ((AM l ((p+8*n:Nat):Int)).2=0\/p+8*n=8*l.length):=by
   rw[c,j.out];exact fun h=>h.elim o a
  have d:q+8<=8*l.length:=by rw[j.out];omega
  have K:=u.out q;have L:q+8<=S.size:=by rw[r.out];omega
  have T:IntKind.i64.wrap ((q:Int)+8)=(q:Int)+8:=CE sX;have U:((q:Int)+8).toNat=q+8:=sX;by_cases ht:AB l q 8=0
  ·have M:=(WD d).1 ht;have N:=Dm (t.out.more k (by rw[c];exact⟨d,ht⟩));have A:n+1<=s.size:=sX;generalize (AM l (q:Int)).2=f at *;generalize (AM l (q:Int)).1=m at *;clear o c a k ht t d
   go_wp2_with fail
   refine ca.mono ?_;rintro e x ⟨rfl,rfl⟩
   go_wp2
   go_roundw
   case rel=>exact⟨n+1,tP,N,A,xU⟩
   case measure=>simp[intOf];omega
  ·have M:=(WD d).2 ht;have N:=Dm (t.out.none k (by rw[c];exact fun h=>ht h.2));generalize (AM l (q:Int)).2=f at *;generalize (AM l (q:Int)).1=m at *;clear o c a k ht t d
   go_wp2_with fail
   refine ca.mono ?_;rintro e x ⟨rfl,rfl⟩
   go_wp2
   go_ret
   exact⟨ES vG,rfl⟩
end
end Go.Proofs.YtjjmalchelniiaaGreatDoor
