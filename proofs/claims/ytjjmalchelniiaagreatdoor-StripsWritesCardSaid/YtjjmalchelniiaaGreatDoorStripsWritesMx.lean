/- StripsWrites, 24. No condition. -/
import Derived.Test.YtjjmalchelniiaaGreatDoorStripsWritesMg
import Derived.Test.YtjjmalchelniiaaGreatDoorStripsWritesMj
import Derived.Test.YtjjmalchelniiaaGreatDoorStripsWritesMn
import Derived.Test.YtjjmalchelniiaaGreatDoorStripsWritesMp
import Derived.Test.YtjjmalchelniiaaGreatDoorStripsWritesMw
namespace Go.Proofs.YtjjmalchelniiaaGreatDoor
open Go.RowKit
abbrev Lk:=@List.mem_iff_getElem
abbrev Ll:=@List.replicate_append_replicate
abbrev Lm:=@Option.map_some
abbrev Ln:=@List.zip_cons_cons
abbrev Lo:=@Bool.and_assoc
def AT {α:Type}(f:Nat->α->Bool):Nat->List α->Bool
 |_,[]=>true
 |i,a::l=>f i a&&AT f (i+1) l
theorem Pn {α:Type}{f:Nat->α->Bool}:∀{i:Nat} {l:List α},AT f i l=true↔∀j,(h:j<l.length)->f (i+j) l[j]=true
 |_,[]=>⟨fun _ j h=>absurd h (Fk j),fun _=>rfl⟩
 |i,a::l=>by
  rw[AT,Al,Pn];constructor
  ·rintro⟨b,h1⟩ j hj;cases j with
   |zero=>exact b
   |succ j=>
    have:=h1 j (by simpa using hj);rw[show i+(j+1)=i+1+j by omega];exact this
  ·intro h;refine⟨h 0 (by simp),fun j hj=>?_⟩;have:=h (j+1) (by simpa using hj);rw[show i+(j+1)=i+1+j by omega] at this;exact this
theorem S7 {α:Type}{f:Nat->α->Bool}:∀(i:Nat) (l:List α) (a:α),AT f i (l++[a])=(AT f i l&&f (i+l.length) a)
 |i,[],a=>by simp[AT]
 |i,b::l,a=>by
  rw[J2,AT,S7 (i+1) l a,AT,Lo,An,show i+(l.length+1)=i+1+l.length by omega]
theorem Rt {α:Type}{f:Nat->α->Bool}:∀(i:Nat) (l m:List α),AT f i (l++m)=(AT f i l&&AT f (i+l.length) m)
 |i,[],m=>by simp[AT]
 |i,b::l,m=>by
  rw[J2,AT,Rt (i+1) l m,AT,Lo,An,show i+(l.length+1)=i+1+l.length by omega]
theorem Zs {α:Type}{f:Nat->α->Bool}{l:List α}{j:Nat}(hj:j<l.length)(h:AT f 0 (l.take j)=true)(h1:f j l[j]=true):AT f 0 (l.take (j+1))=true:=by
 rw[Be hj,S7,h,Bf,show 0+min j l.length=j by omega,h1];rfl
theorem Ud {α:Type}{f:Nat->α->Bool}{l:List α}{j:Nat}(hj:j<l.length)(h1:f j l[j]=false):AT f 0 l=false:=by
 cases h:AT f 0 l with
 |false=>rfl
 |true=>
  have:=Pn.1 h j hj;rw[Ar,h1] at this;cases this
def DZ (inter:Bool)(n:Int)(i:Nat)(r:RowP):Bool:=
 decide ((r.cels.length:Int)=n)&&((if r.head then decide (i≠0/\0<=r.id/\r.id<=3/\1<=r.quant/\r.quant<=31) else decide (r.id=0/\r.quant=0))&&r.cels.all (BL inter))
def BI (k:Int):Int:=B1 k*BP k
def EV (S:ShP):Bool:=
 E5 S.hd&&(decide (0<=S.zeros/\S.zeros<=262144)&&(decide ((S.rows.length:Int)=BJ S.hd.fmt)&&AT (DZ S.hd.inter (BI S.hd.fmt)) 0 S.rows))
def C2 (S:ShP):List Cel:=S.rows.flatMap (·.cels)
def CP (k:Int)(n:Nat)(c:Cel):Bool:=AD c.kind || GJ k (n:Int) c.mx c.my
def C4 (S:ShP):Int:=if EV S=true then (if AT (CP S.hd.fmt) 0 (C2 S)=true then 0 else 8) else 12
theorem P8 {S:ShP}(h:EV S=false):C4 S=12:=by unfold C4;rw[Bb (by rw[h];decide)]
theorem ZE {S:ShP}(h:EV S=true)(h1:AT (CP S.hd.fmt) 0 (C2 S)=false):C4 S=8:=by unfold C4;rw[Bc h,Bb (by rw[h1];decide)]
theorem Tl {S:ShP}(h:EV S=true)(h1:AT (CP S.hd.fmt) 0 (C2 S)=true):C4 S=0:=by unfold C4;rw[Bc h,Bc h1]
theorem Y8 {S:ShP}(h:C4 S=0):EV S=true/\AT (CP S.hd.fmt) 0 (C2 S)=true:=by
 unfold C4 at h;cases h1:EV S with
 |false=>rw[h1] at h;cases h
 |true=>
  cases h2:AT (CP S.hd.fmt) 0 (C2 S) with
  |false=>rw[h1,h2] at h;cases h
  |true=>exact⟨rfl,rfl⟩
def PU (a b:Shd):Bool:=a.ref==b.ref&&(a.flags==b.flags&&(a.fmt==b.fmt&&(a.inter==b.inter&&(a.quant==b.quant&&decide (a.supp=b.supp)))))
def rwB (a b:RowP):Bool:=(a.head==b.head&&(a.id==b.id&&a.quant==b.quant))&&(decide (a.cels.length=b.cels.length)&&(a.cels.zip b.cels).all fun p=>MO p.1 p.2)
def shB (a b:ShP):Bool:=PU a.hd b.hd&&(a.zeros==b.zeros&&(decide (a.rows.length=b.rows.length)&&(a.rows.zip b.rows).all fun p=>rwB p.1 p.2))
theorem mP (a:Shd):PU a a=true:=by simp[PU]
theorem NT (n:Nat):AB 0 n=List.replicate n 48:=by
 have h:=KR (List.replicate n 48) (OT n);rw[fJ,Bl] at h;exact h
theorem Ry {l:List UInt8}{p n:Nat}(h:p+n<=8*l.length)(a:AE l p n=0):Seg (A2 l) p (p+n) (List.replicate n 48):=by
 have:=GN (l:=l) h;rw[a,NT] at this;exact this
theorem kJ {l:List UInt8}{p n z:Nat}{id q:Int}(h:hdk l p (n:Int)=(id,q,z,0)):(0<=id/\id<=3/\1<=q/\q<=31)/\Seg (A2 l) p z (EQ p n id.toNat q.toNat):=by
 by_cases h1:(BH l p).2=false
 ·rw[Yx h1] at h;cases h
 have a:(BH l p).2=true:=by simpa using h1
 by_cases h2:(BH l p).1=(n:Int)
 case neg=>rw[Y7 a h2] at h;cases h
 by_cases h3:8*l.length<p+gap p+22+7
 ·rw[WQ a h2 h3] at h;cases h
 by_cases h4:AE l (p+gap p+22+2) 5=0
 ·rw[Vq a h2 (by omega) h4] at h;cases h
 rw[US a h2 (by omega) h4] at h;injection h with e1 h;injection h with e2 h;injection h with e3 _;have b:=SR a;have d:=F1 l (p+gap p+22) 2;have e:=F1 l (p+gap p+22+2) 5;have f:AE l (p+gap p+22) 2<4:=d;have g:AE l (p+gap p+22+2) 5<32:=e;have hm:AE l (p+gap p) 22=32+n:=by
  rw[Qo (by omega) b,K0 (by omega)] at a h2;by_cases ht:AE l (p+gap p) 22 / 32=1
  ·rw[Bc ht] at h2;simp only at h2;omega
  ·rw[Bb ht] at a;exact absurd a (by decide)
 have i:=Ry (l:=l) (p:=p) (n:=gap p) (by omega) b;have c:=GN (l:=l) (p:=p+gap p) (n:=22) (by omega);have j:=GN (l:=l) (p:=p+gap p+22) (n:=2) (by omega);have k:=GN (l:=l) (p:=p+gap p+22+2) (n:=5) (by omega);rw[hm] at c;subst e1 e2 e3;refine⟨by omega,?_⟩;unfold EQ JE;rw[Dr,Dr,Bd];exact i.app (c.app (j.app k))
def CelT:=Bool->List UInt8->Int->Int->Nat->Cel×Nat×Int
def QX (ct:CelT)(S:List UInt8):Prop:=∀inter x y p c q,p<=S.length->ct inter S x y p=(c,q,0)->Seg S p q (CQ inter x y c)/\BL inter c=true
def C5 (cs:List Cel):List (Int×Int):=cs.map fun c=>(c.mx,c.my)
def DT (vs:List (Int×Int))(a first:Int):Int×Int:=KU (fun i=>vs.getD i (0,0)) vs.length a first
def DR (ct:CelT)(l:List UInt8)(inter:Bool)(k first:Int):Nat->Nat->List (Int×Int)->List Cel×Nat×Int
 |0,p,_=>([],p,0)
 |n+1,p,vs=>
  match ct inter (A2 l) (DT vs (B1 k) first).1 (DT vs (B1 k) first).2 p with
  |(c,q,f)=>if f≠0 then ([],p,f) else if CP k vs.length c=false then ([],p,8) else
   match DR ct l inter k first n q (vs++[(c.mx,c.my)]) with
   |(cs,z,g)=>if g≠0 then ([],p,g) else (c::cs,z,0)
def GP (inter:Bool)(k first:Int):List (Int×Int)->List Cel->List UInt8
 |_,[]=>[]
 |vs,c::cs=>CQ inter (DT vs (B1 k) first).1 (DT vs (B1 k) first).2 c++GP inter k first (vs++[(c.mx,c.my)]) cs
theorem Yw {ct:CelT}{l:List UInt8}{inter:Bool}{k first:Int}(a:QX ct (A2 l)):∀(n p:Nat) (vs:List (Int×Int)) (cs:List Cel) (q:Nat),p<=8*l.length->DR ct l inter k first n p vs=(cs,q,0)->
  Seg (A2 l) p q (GP inter k first vs cs)/\cs.length=n/\cs.all (BL inter)=true/\AT (CP k) vs.length cs=true
 |0,p,vs,cs,q,hp,h=>by
  rw[DR] at h;injection h with e1 h;injection h with e2 _;subst e1 e2;exact⟨Seg.nil (by rw[BO];exact hp),rfl,rfl,rfl⟩
 |n+1,p,vs,cs,q,hp,h=>by
  rw[DR] at h;obtain⟨⟨c,z,f⟩,hc⟩:=Ah (ct inter (A2 l) (DT vs (B1 k) first).1 (DT vs (B1 k) first).2 p);rw[hc] at h;simp only at h;by_cases b:f=0
  case neg=>
   rw[Bc b] at h;injection h with _ h;injection h with _ h;exact absurd h b
  rw[Bb (fun x=>x b)] at h;subst b;cases hv:CP k vs.length c with
  |false=>rw[hv,Bc rfl] at h;cases h
  |true=>
   rw[hv,Bb (by decide)] at h;obtain⟨⟨e,y,g⟩,hr⟩:=Ah (DR ct l inter k first n z (vs++[(c.mx,c.my)]))
   rw[hr] at h;simp only at h;by_cases d:g=0
   case neg=>
    rw[Bc d] at h;injection h with _ h;injection h with _ h;exact absurd h d
   rw[Bb (fun x=>x d)] at h;subst d;injection h with e1 h;injection h with e2 _;subst e1 e2;obtain⟨i,m⟩:=a inter _ _ p c z (by rw[BO];exact hp) hc;have o:z<=8*l.length:=by have:=i.2.1;rwa [BO] at this
   obtain⟨r,s,t,j⟩:=Yw a n z (vs++[(c.mx,c.my)]) e y o hr;rw[B9] at j;refine⟨i.app r,by rw[An,s],by rw[Gs,m,t];rfl,?_⟩;rw[AT,hv];exact j
def JJ (l:List UInt8)(i p:Nat):Bool:=decide (0<i)&&((BH l p).2&&((BH l p).1 != 0&&(BH l p).1 != 31))
def HC (l:List UInt8)(k:Int)(i p:Nat)(first:Int):Bool×Int×Int×Nat×Int×Int:=
 if JJ l i p=true then (true,(hdk l p i).1,(hdk l p i).2.1,(hdk l p i).2.2.1,(i:Int)*BP k,(hdk l p i).2.2.2) else (false,0,0,p,first,0)
def DJ (ct:CelT)(l:List UInt8)(inter:Bool)(k:Int):Nat->Nat->Nat->List (Int×Int)->Int->List RowP×Nat×Int
 |0,_,p,_,_=>([],p,0)
 |n+1,i,p,vs,first=>
  match HC l k i p first with
  |(h,id,qu,z,fs,f)=>if f≠0 then ([],p,f) else
   match DR ct l inter k fs (BI k).toNat z vs with
   |(cs,q,g)=>if g≠0 then ([],p,g) else
    match DJ ct l inter k n (i+1) q (vs++C5 cs) fs with
    |(rs,y,e)=>if e≠0 then ([],p,e) else (⟨h,id,qu,cs⟩::rs,y,0)
def EP (i p:Nat)(r:RowP):List UInt8:=if r.head then EQ p i r.id.toNat r.quant.toNat else []
def E3 (k:Int)(i:Nat)(first:Int)(r:RowP):Int:=if r.head then (i:Int)*BP k else first
def FI (inter:Bool)(k:Int):Nat->Nat->List (Int×Int)->Int->List RowP->List UInt8
 |_,_,_,_,[]=>[]
 |i,p,vs,first,r::rs=>EP i p r++(GP inter k (E3 k i first r) vs r.cels++FI inter k (i+1) (p+(EP i p r).length+(GP inter k (E3 k i first r) vs r.cels).length) (vs++C5 r.cels) (E3 k i first r) rs)
theorem kI {l:List UInt8}{k:Int}{i p z:Nat}{first id qu fs:Int}{h:Bool}(a:p<=8*l.length)(e:HC l k i p first=(h,id,qu,z,fs,0))(cs:List Cel):
  Seg (A2 l) p z (EP i p ⟨h,id,qu,cs⟩)/\fs=E3 k i first ⟨h,id,qu,cs⟩/\(if h then decide (i≠0/\0<=id/\id<=3/\1<=qu/\qu<=31) else decide (id=0/\qu=0))=true:=by
 unfold HC at e;cases hh:JJ l i p with
 |true=>
  rw[hh,Bc rfl] at e;injection e with e1 e;injection e with e2 e;injection e with e3 e;injection e with e4 e;injection e with e5 e6;subst e1 e5;obtain⟨m,s⟩:=kJ (l:=l) (p:=p) (n:=i) (id:=id) (q:=qu) (z:=z) (by rw[<-e2,<-e3,<-e4,<-e6]);refine⟨s,rfl,?_⟩;unfold JJ at hh;rw[Al,Fi] at hh;rw[Bc rfl,Fi];exact⟨by omega,m⟩
 |false=>
  rw[hh,Bb (by decide)] at e;injection e with e1 e;injection e with e2 e;injection e with e3 e;injection e with e4 e;injection e with e5 _;subst e1 e2 e3 e4 e5;exact⟨Seg.nil (by rw[BO];exact a),rfl,rfl⟩
theorem VP {ct:CelT}{l:List UInt8}{inter:Bool}{k:Int}(a:QX ct (A2 l))(s:0<=BI k):∀(n i p:Nat) (vs:List (Int×Int)) (first:Int) (rs:List RowP) (q:Nat),p<=8*l.length->DJ ct l inter k n i p vs first=(rs,q,0)->
  Seg (A2 l) p q (FI inter k i p vs first rs)/\rs.length=n/\AT (DZ inter (BI k)) i rs=true/\AT (CP k) vs.length (rs.flatMap (·.cels))=true
 |0,i,p,vs,first,rs,q,hp,h=>by
  rw[DJ] at h;injection h with e1 h;injection h with e2 _;subst e1 e2;exact⟨Seg.nil (by rw[BO];exact hp),rfl,rfl,rfl⟩
 |n+1,i,p,vs,first,rs,q,hp,h=>by
  rw[DJ] at h;obtain⟨⟨hd,id,qu,z,fs,f⟩,t⟩:=Ah (HC l k i p first)
  rw[t] at h;simp only at h;by_cases c:f=0
  case neg=>
   rw[Bc c] at h;injection h with _ h;injection h with _ h;exact absurd h c
  rw[Bb (fun x=>x c)] at h;subst c;obtain⟨⟨cs,y,g⟩,hc⟩:=Ah (DR ct l inter k fs (BI k).toNat z vs);rw[hc] at h;simp only at h;by_cases d:g=0
  case neg=>
   rw[Bc d] at h;injection h with _ h;injection h with _ h;exact absurd h d
  rw[Bb (fun x=>x d)] at h;subst d;obtain⟨⟨b,q',e⟩,hr⟩:=Ah (DJ ct l inter k n (i+1) y (vs++C5 cs) fs);rw[hr] at h;simp only at h;by_cases j:e=0
  case neg=>
   rw[Bc j] at h;injection h with _ h;injection h with _ h;exact absurd h j
  rw[Bb (fun x=>x j)] at h;subst j;injection h with e1 h;injection h with e2 _;subst e1 e2;obtain⟨o,f1,u⟩:=kI hp t cs;have v:z<=8*l.length:=by have:=o.2.1;rwa [BO] at this
  obtain⟨r,w,A,B⟩:=Yw a _ z vs cs y v hc;have C:y<=8*l.length:=by have:=r.2.1;rwa [BO] at this
  obtain⟨D,E,F,m⟩:=VP a s n (i+1) y (vs++C5 cs) fs b q' C hr;have G:y=p+(EP i p ⟨hd,id,qu,cs⟩).length+(GP inter k fs vs cs).length:=by have:=o.len;have:=r.len;omega
  refine⟨?_,by rw[An,E],?_,?_⟩
  ·rw[FI];show Seg (A2 l) p q' (EP i p ⟨hd,id,qu,cs⟩++(GP inter k (E3 k i first ⟨hd,id,qu,cs⟩) vs cs++FI inter k (i+1) (p+(EP i p ⟨hd,id,qu,cs⟩).length+(GP inter k (E3 k i first ⟨hd,id,qu,cs⟩) vs cs).length) (vs++C5 cs) (E3 k i first ⟨hd,id,qu,cs⟩) b));rw[<-f1,<-G];exact o.app (r.app D)
  ·rw[AT,F,Lg];unfold DZ;simp only;rw[w,Ce s,u,A];simp
  ·rw[G8,Rt,B,Gr];simp only;rw[B9] at m;unfold C5 at m;rw[G9] at m;exact m
def HR (l:List UInt8):Nat->Nat->Option Nat
 |0,p=>if (B0 l p).2=0\/p=8*l.length then some 0 else none
 |n+1,p=>if (B0 l p).2=0\/p=8*l.length then some 0 else if p+8<=8*l.length/\AE l p 8=0 then (HR l n (p+8)).map (· + 1) else none
def IL (l:List UInt8)(p:Nat):Nat:=(HR l l.length p).getD 0
theorem ZN {l:List UInt8}:∀(n p z:Nat),p<=8*l.length->HR l n p=some z->Seg (A2 l) p (p+8*z) (List.replicate (8*z) 48)
 |0,p,z,hp,h=>by
  rw[HR] at h
  split at h
  ·injection h with h;subst h;exact Seg.nil (by rw[BO];exact hp)
  ·cases h
 |n+1,p,z,hp,h=>by
  rw[HR] at h
  split at h
  ·injection h with h;subst h;exact Seg.nil (by rw[BO];exact hp)
  ·split at h
   ·rename_i a
    obtain⟨y,b,rfl⟩:=Ih.1 h;have c:=Ry (l:=l) (p:=p) (n:=8) a.1 a.2;have d:=ZN n (p+8) y a.1 b;have:=c.app d;rw[Ll] at this;rw[show p+8*(y+1)=p+8+8*y by omega,show 8*(y+1)=8+8*y by omega];exact this
   ·cases h
theorem Y0 {l:List UInt8}{p:Nat}(a:p<=8*l.length):Seg (A2 l) p (p+8*IL l p) (List.replicate (8*IL l p) 48):=by
 unfold IL;cases h:HR l l.length p with
 |none=>exact Seg.nil (by rw[BO];exact a)
 |some z=>exact ZN _ p z a h
def JV:ShP:=⟨FK,[],0⟩
def wtk (ct:CelT)(l:List UInt8)(p:Nat):ShP×Nat×Int:=
 match shk l p with
 |(h,q,f)=>if f≠0 then (JV,p,f) else
  match DJ ct l h.inter h.fmt (BJ h.fmt).toNat 0 q [] 0 with
  |(rs,z,g)=>if g≠0 then (JV,p,g) else if AE l z (gap z)≠0 then (JV,p,5) else (⟨h,rs,(IL l (z+gap z):Nat)⟩,z+gap z+8*IL l (z+gap z),0)
def L1 (p:Nat)(S:ShP):List UInt8:=FI S.hd.inter S.hd.fmt 0 p [] 0 S.rows
def GX (p:Nat):List UInt8:=List.replicate (gap p) 48
def CV (p:Nat)(S:ShP):List UInt8:=
 (BR 0++Eh S.hd)++(L1 (p+(BR 0++Eh S.hd).length) S++(GX (p+(BR 0++Eh S.hd).length+(L1 (p+(BR 0++Eh S.hd).length) S).length)++List.replicate (8*S.zeros.toNat) 48))
theorem YX (k:Int):0<=BI k/\0<=BJ k:=by
 unfold BI B1;rcases K1 k with rfl|rfl|rfl|rfl|rfl|rfl|⟨h,hv⟩
 case _|_|_|_|_|_=>decide +kernel
 unfold BJ BP CU;rw[hv]
 decide
theorem kN {ct:CelT}{l:List UInt8}{p q:Nat}{S:ShP}(d:QX ct (A2 l))(h:wtk ct l p=(S,q,0)):
  p%8=0/\q%8=0/\p<q/\(S.zeros<=262144->C4 S=0)/\0<=S.zeros/\Seg (A2 l) p q (CV p S):=by
 unfold wtk at h;obtain⟨⟨hd,e,f⟩,r⟩:=Ah (shk l p);rw[r] at h;simp only at h;by_cases b:f=0
 case neg=>
  rw[Bc b] at h;injection h with _ h;injection h with _ h;exact absurd h b
 rw[Bb (fun x=>x b)] at h;subst b;obtain⟨⟨rs,z,g⟩,hr⟩:=Ah (DJ ct l hd.inter hd.fmt (BJ hd.fmt).toNat 0 e [] 0);rw[hr] at h;simp only at h;by_cases c:g=0
 case neg=>
  rw[Bc c] at h;injection h with _ h;injection h with _ h;exact absurd h c
 rw[Bb (fun x=>x c)] at h;subst c;by_cases i:AE l z (gap z)=0
 case neg=>
  rw[Bc i] at h;injection h with _ h;injection h with _ h;cases h
 rw[Bb (fun x=>x i)] at h;injection h with e1 h;injection h with e2 _;obtain⟨t,hm,j⟩:=VT r;obtain⟨u,v⟩:=YX hd.fmt;have k:e<=8*l.length:=by have:=j.2.1;rwa [BO] at this
 obtain⟨m,w,y,A⟩:=VP d u _ 0 e [] 0 rs z k hr;have F:z<=8*l.length:=by have:=m.2.1;rwa [BO] at this
 have a:z+gap z<=8*l.length:=by unfold gap;omega
 have B:=Ry (l:=l) (p:=z) (n:=gap z) a i;have C:=Y0 (l:=l) (p:=z+gap z) a;have D:=j.len;have E:=m.len;have s:(BR 0++Eh hd).length=50+9*hd.supp.length:=by rw[B9,GI,Pl];omega
 subst e1 e2;refine⟨t,by unfold gap;omega,by omega,fun o=>?_,by simp,?_⟩
 ·refine Tl ?_ ?_
  ·unfold EV;simp only[Al,Fi];refine⟨hm,⟨by simp,o⟩,?_,y⟩;rw[w,Ce v]
  ·exact A
 ·unfold CV L1 GX;simp only[Dr];rw[<-D,<-E];exact j.app (m.app (B.app C))
theorem Ut {α:Type}{a:α}{n:Nat}{A B:List α}(h:a∈A.take n):a∈(A++B).take n:=by
 rw[List.take_append];exact Ff _ h
theorem rB:∀inter:Bool,(49:UInt8)∈(K7 inter).take 10:=by decide +kernel
theorem oW:∀(inter:Bool) (k:Fin 6) (c:Fin 4),EJ inter (k.val:Nat)=true->(49:UInt8)∈(H3 inter++(AY inter (k.val:Nat) (c.val:Nat)).data.toList).take 10:=by decide +kernel
theorem nP {inter:Bool}{k:Int}(h:EJ inter k=true):∃n:Nat,n<6/\k=n:=by
 unfold EJ at h;simp only[B6,Al,Bm] at h;exact⟨k.toNat,by omega,by omega⟩
theorem lJ {inter:Bool}{x y:Int}{c:Cel}(h:BL inter c=true):(49:UInt8)∈(CQ inter x y c).take 10:=by
 unfold BL at h;rw[Al] at h;unfold CQ;cases hn:c.stuff.toNat with
 |succ n=>
  rw[MP,Bd];exact Ut (rB inter)
 |zero=>
  show _∈List.take 10 ([]++_);rw[Cc];cases hs:c.skip with
  |true=>
   rw[Bc rfl]
   decide
  |false=>
   rw[Bb (by decide)];have h2:=h.2;rw[hs,Bb (by decide),Al,Al] at h2;obtain⟨n,b,d⟩:=nP h2.1.1;have a:=h2.1.1;rw[d] at a;have h1:=oW inter ⟨n,b⟩ ⟨BU c,(Rr c).2.1⟩ a;rw[d];simp only[Bd];rw[<-Bd];exact Ut h1
theorem dI {S:List UInt8}{p q j:Nat}{r:List UInt8}(h:Seg S p q r)(hj:j<r.length):S[p+j]? =r[j]?:=by
 have e:=h.at;have:(S.drop p)[j]? =(r++S.drop q)[j]?:=by rw[e]
 rw[Az,Hd hj] at this;exact this
theorem sX {l:List UInt8}{p q:Nat}{r:List UInt8}(h:Seg (A2 l) p q r)(h1:(49:UInt8)∈r.take 10):(BH l p).2=false:=by
 cases hn:(BH l p).2 with
 |false=>rfl
 |true=>
  have d:=SR hn;have f:=W1 hn;rw[Qo (by omega) d,K0 (by omega)] at hn;have ht:AE l (p+gap p) 22 / 32=1:=by
   by_cases ht:AE l (p+gap p) 22 / 32=1
   ·exact ht
   ·rw[Bb ht] at hn;exact absurd hn (by decide)
  have e:=LC l (p+gap p) 16 6 (by omega);have g:AE l (p+gap p) 22=AE l (p+gap p) 16*64+AE l (p+gap p+16) 6:=e;have a:AE l (p+gap p) 16=0:=by omega
  obtain⟨j,hj,hv⟩:=Lk.1 h1;have b:=hj;rw[Bf] at b;have hs:=dI h (j:=j) (by omega);rw[Fp] at hv;rw[Fj (show j<r.length by omega),hv] at hs;by_cases c:j<gap p
  ·have:=(LK l p (gap p) (by omega)).1 d j c;rw[this] at hs;exact absurd hs (by decide)
  ·have:=(LK l (p+gap p) 16 (by omega)).1 a (j-gap p) (by omega);rw[show p+gap p+(j-gap p)=p+j by omega] at this;rw[this] at hs;exact absurd hs (by decide)
theorem qE {l:List UInt8}{p z n id q:Nat}(hn:n<32)(hi:id<4)(h1:1<=q)(v:q<32)(h:Seg (A2 l) p z (EQ p n id q)):hdk l p (n:Int)=((id:Int),(q:Int),z,0)/\BH l p=((n:Int),true):=by
 unfold EQ JE at h;rw[<-NT,Bd] at h;obtain⟨d,e,h⟩:=h.cut;obtain⟨f,g,h⟩:=h.cut;obtain⟨w,i,j⟩:=h.cut;have a:Seg (A2 l) d f (AB (32+n) 22):=g;obtain⟨k,m,x⟩:=ET e (Cf _);obtain⟨o,r,y⟩:=ET a (by show 32+n<4194304;omega);obtain⟨s,t,b2⟩:=ET i (by show id<4;omega);obtain⟨c,u,b3⟩:=ET j (by show q<32;omega);subst m r t u
 have b:BH l p=((n:Int),true):=by
  rw[Qo (by omega) k,K0 (by omega),o,Bc (by omega)];have:(32+n)%32=n:=by omega
  rw[this];rfl
 refine⟨?_,b⟩;rw[US (by rw[b]) (by rw[b]) (by omega) (by rw[c];omega),s,c]
def OV (ct:CelT)(S:List UInt8):Prop:=∀inter x y p q c,Seg S p q (CQ inter x y c)->BL inter c=true->∃c',ct inter S x y p=(c',q,0)/\MO c' c=true
theorem jF {c d:Cel}(h:MO c d=true):c.kind=d.kind/\c.mx=d.mx/\c.my=d.my:=by
 unfold MO Tv at h;simp only[Al,Bm] at h;exact⟨h.2.1.1.1.2,h.2.1.2.1,h.2.1.2.2⟩
theorem Z0 {ct:CelT}{l:List UInt8}{inter:Bool}{k first:Int}(b:OV ct (A2 l)):∀(cs:List Cel) (p:Nat) (vs:List (Int×Int)) (q:Nat),Seg (A2 l) p q (GP inter k first vs cs)->cs.all (BL inter)=true->AT (CP k) vs.length cs=true->
  ∃a,DR ct l inter k first cs.length p vs=(a,q,0)/\C5 a=C5 cs/\a.length=cs.length/\((a.zip cs).all fun p=>MO p.1 p.2)=true
 |[],p,vs,q,h,_,_=>by
  have e:q=p:=h.len;subst e;exact⟨[],rfl,rfl,rfl,rfl⟩
 |c::cs,p,vs,q,h,hm,hv=>by
  rw[GP] at h;obtain⟨z,h1,h2⟩:=h.cut;rw[Gs,Al] at hm;rw[AT,Al] at hv;obtain⟨c',hc,i⟩:=b inter _ _ p z c h1 hm.1;obtain⟨j,d,f⟩:=jF i;have g:CP k vs.length c'=true:=by
   have:=hv.1;unfold CP at this ⊢;rw[j,d,f];exact this
  obtain⟨a,m,n,o,r⟩:=Z0 b cs z (vs++[(c.mx,c.my)]) q h2 hm.2 (by rw[B9];exact hv.2);refine⟨c'::a,?_,?_,by rw[An,An,o],?_⟩
  ·rw[An,DR,hc];simp only;rw[Bb (by decide),g,Bb (by decide),d,f,m];simp
  ·show (c'.mx,c'.my)::C5 a=(c.mx,c.my)::C5 cs;rw[d,f,n]
  ·rw[Ln,Gs,i,r];rfl
theorem Vs {ct:CelT}{l:List UInt8}{inter:Bool}{k:Int}(d:OV ct (A2 l))(m:0<BI k):∀(rs:List RowP) (i p:Nat) (vs:List (Int×Int)) (first:Int) (q:Nat),Seg (A2 l) p q (FI inter k i p vs first rs)->i+rs.length<=31->
  AT (DZ inter (BI k)) i rs=true->AT (CP k) vs.length (rs.flatMap (·.cels))=true->
  ∃a,DJ ct l inter k rs.length i p vs first=(a,q,0)/\a.length=rs.length/\((a.zip rs).all fun p=>rwB p.1 p.2)=true
 |[],i,p,vs,first,q,h,_,_,_=>by
  have e:q=p:=h.len;subst e;exact⟨[],rfl,rfl,rfl⟩
 |r::rs,i,p,vs,first,q,h,hi,hm,hv=>by
  rw[FI] at h;obtain⟨z,h1,h⟩:=h.cut;obtain⟨y,h2,h3⟩:=h.cut;rw[An] at hi;rw[AT,Al] at hm;rw[G8,Rt,Al] at hv;have hr:=hm.1;unfold DZ at hr;rw[Al,Fi,Al] at hr;obtain⟨hc,b,f⟩:=hr;have n:=h1.len;have o:=h2.len;rw[<-n,<-o] at h3;obtain⟨g,s,t,u,v⟩:=Z0 d r.cels z vs y h2 f hv.1
  obtain⟨a,f1,f2,f3⟩:=Vs d m rs (i+1) y (vs++C5 r.cels) (E3 k i first r) q h3 (by omega) hm.2 (by
   rw[B9];unfold C5;rw[G9];exact hv.2)
  have w:(BI k).toNat=r.cels.length:=by omega
  have x:HC l k i p first=(r.head,r.id,r.quant,z,E3 k i first r,0):=by
   unfold HC E3;unfold EP at h1;cases hd:r.head with
   |true=>
    rw[hd,Bc rfl] at b h1;rw[Fi] at b;obtain⟨A,B⟩:=qE (by omega) (by omega) (by omega) (by omega) h1;have j:JJ l i p=true:=by
     unfold JJ;rw[B];simp only[Al,Fi,Fl,Jf];omega
    rw[j,Bc rfl,Bc rfl,A];simp only[Jd,Jf,Jh];omega
   |false=>
    rw[hd,Bb (by decide)] at b h1;rw[Fi] at b;have e:z=p:=h1.len;subst e;have j:JJ l i z=false:=by
     unfold JJ;by_cases C:0<i
     ·cases hcs:r.cels with
      |nil=>rw[hcs] at hc;simp at hc;omega
      |cons c cs=>
       rw[hcs] at h2 f;rw[GP] at h2;rw[Gs,Al] at f;rw[sX h2 (Ut (lJ f.1))];simp
     ·rw[I3 C];rfl
    rw[j,Bb (by decide),Bb (by decide),b.1,b.2]
  refine⟨⟨r.head,r.id,r.quant,g⟩::a,?_,by rw[An,An,f2],?_⟩
  ·rw[An,DJ,x];simp only;rw[Bb (by decide),w,s];simp only;rw[Bb (by decide),t,f1];simp
  ·rw[Ln,Gs,f3];unfold rwB;simp only[Jg,Gr,Lg,Al,Fi];exact⟨u,v⟩
theorem V2 {l:List UInt8}:∀(z n p q:Nat),z<=n->q=p+8*z->q<=8*l.length->Seg (A2 l) p q (List.replicate (8*z) 48)->(q=8*l.length\/(B0 l q).2=0)->HR l n p=some z
 |0,n,p,q,_,hq,_,_,a=>by
  have e:q=p:=by omega
  subst e;have hc:(B0 l q).2=0\/q=8*l.length:=a.symm;cases n with
  |zero=>rw[HR,Bc hc]
  |succ n=>rw[HR,Bc hc]
 |z+1,0,p,q,h,_,_,_,_=>by omega
 |z+1,n+1,p,q,h,hq,hin,hs,a=>by
  have c:=hs;rw[show 8*(z+1)=8+8*z by omega,<-Ll] at c;obtain⟨m,g,o⟩:=c.cut;have r:m=p+8:=by have:=g.len;rw[Bl] at this;exact this
  subst r;rw[<-NT] at g hs;obtain⟨t8,_,s⟩:=ET g (by decide);obtain⟨t,_,y⟩:=ET hs (Cf _);have j:¬ ((B0 l p).2=0\/p=8*l.length):=by
   rintro(b|b)
   ·by_cases d:p+22<=8*l.length
    ·rw[K0 d] at b;have ht:AE l p 22 / 32=1:=by
      by_cases ht:AE l p 22 / 32=1
      ·exact ht
      ·rw[Bb ht] at b;exact absurd b (by decide)
     have u:∀i,i<22->(A2 l)[p+i]? =some 48:=by
      intro i hi;by_cases v:i<8*(z+1)
      ·exact(LK l p (8*(z+1)) (by omega)).1 t i v
      ·rcases a with a|a
       ·omega
       ·have f:q+22<=8*l.length:=by
         by_cases w:q+22<=8*l.length
         ·exact w
         ·rw[NY (by omega) (by omega)] at a;exact absurd a (by decide)
        rw[K0 f] at a;have x:AE l q 22 / 32=1:=by
         by_cases ht:AE l q 22 / 32=1
         ·exact ht
         ·rw[Bb ht] at a;exact absurd a (by decide)
        have e:AE l q 22=AE l q 16*64+AE l (q+16) 6:=LC l q 16 6 (by omega);have k:AE l q 16=0:=by omega
        have:=(LK l q 16 (by omega)).1 k (i-8*(z+1)) (by omega);rw[show q+(i-8*(z+1))=p+i by omega] at this;exact this
     have:=(LK l p 22 d).2 u;omega
    ·rw[NY (by omega) (by omega)] at b;exact absurd b (by decide)
   ·omega
  rw[HR,Bb j,Bc ⟨s,t8⟩,V2 z n (p+8) q (by omega) (by omega) hin o a]
  rfl
theorem oQ {ct:CelT}{l:List UInt8}{p q:Nat}{S:ShP}(k:OV ct (A2 l))(w:p%8=0)(y:C4 S=0)(h:Seg (A2 l) p q (CV p S))(z:q=8*l.length\/(B0 l q).2=0):
  ∃t,wtk ct l p=(t,q,0)/\shB t S=true:=by
 obtain⟨h1,h2⟩:=Y8 y;unfold EV at h1;simp only[Al,Fi] at h1;obtain⟨hm,⟨A,B⟩,hn,hr⟩:=h1;obtain⟨hd,rows,d⟩:=S;dsimp only at hm A B hn hr h2;unfold CV L1 GX at h;dsimp only at h;obtain⟨a,u,h⟩:=h.cut;obtain⟨b,m,h⟩:=h.cut;obtain⟨c,g,i⟩:=h.cut;have C:=u.len;have v:=m.len;have j:=g.len;have D:=i.len;rw[<-C] at m g v j;rw[<-v] at g j
 rw[Bl] at j D;have n:q<=8*l.length:=by have:=i.2.1;rwa [BO] at this
 have E:=(JX.1 hm).2.1;have o:0<BI hd.fmt/\BJ hd.fmt<=18:=by
  have e:hd.fmt=1\/hd.fmt=2\/hd.fmt=3\/hd.fmt=4\/hd.fmt=5\/hd.fmt=6:=by omega
  rcases e with e|e|e|e|e|e <;> rw[e] <;> decide +kernel
 have F:=cQ w hm u;obtain⟨r,f1,f2,f3⟩:=Vs k o.1 rows 0 a [] 0 b m (by omega) hr h2;have G:(BJ hd.fmt).toNat=rows.length:=by omega
 have f:AE l b (gap b)=0:=by
  rw[<-NT] at g;exact(ET g (Cf _)).1
 have H:HR l l.length (b+gap b)=some d.toNat:=by
  rw[j] at i;exact V2 d.toNat l.length (b+gap b) q (by omega) (by omega) n i z
 have s:IL l (b+gap b)=d.toNat:=by unfold IL;rw[H];rfl
 refine⟨⟨hd,r,d⟩,?_,?_⟩
 ·unfold wtk;rw[F];simp only;rw[Bb (by decide),G,f1];simp only;rw[Bb (by decide),Bb (fun x=>x f),s];have I:((d.toNat:Nat):Int)=d:=by omega
  have J:b+gap b+8*d.toNat=q:=by omega
  rw[I,J]
 ·unfold shB;rw[mP];simp only[Jg,Gr,Al,Fi];exact⟨f2,f3⟩
theorem Yp {p q:Nat}(h:p%8=q%8):gap p=gap q:=by unfold gap;rw[h]
theorem iK {p q:Nat}(h:p%8=q%8)(n a b:Nat):EQ p n a b=EQ q n a b:=by unfold EQ;rw[Yp h]
theorem Wl {inter:Bool}{k:Int}:∀(rs:List RowP) (i p q:Nat) (vs:List (Int×Int)) (first:Int),p%8=q%8->FI inter k i p vs first rs=FI inter k i q vs first rs
 |[],_,_,_,_,_,_=>rfl
 |r::rs,i,p,q,vs,first,h=>by
  have a:EP i p r=EP i q r:=by unfold EP;rw[iK h]
  rw[FI,FI,a]
  congr 2
  exact Wl rs _ _ _ _ _ (by omega)
theorem VX {p q:Nat}(h:p%8=q%8)(S:ShP):CV p S=CV q S:=by
 unfold CV L1;have c:∀a:Nat,FI S.hd.inter S.hd.fmt 0 (p+a) [] 0 S.rows=FI S.hd.inter S.hd.fmt 0 (q+a) [] 0 S.rows:=fun a=>Wl _ _ _ _ _ _ (by omega);rw[c];have d:∀a b:Nat,GX (p+a+b)=GX (q+a+b):=fun a b=>by unfold GX;rw[Yp (p:=p+a+b) (q:=q+a+b) (by omega)]
 rw[d]
theorem xS (p:Nat)(S:ShP):50<=(CV p S).length:=by
 unfold CV;rw[B9,B9,GI,Pl];omega
theorem T0:∀{l m:List UInt8},A2 l=A2 m->l=m
 |[],[],_=>rfl
 |[],c::m,h=>by have:=C6 List.length h;rw[BO,BO] at this;simp at this
 |c::l,[],h=>by have:=C6 List.length h;rw[BO,BO] at this;simp at this
 |c::l,d::m,h=>by
  rw[QQ,QQ] at h;obtain⟨h1,h2⟩:=List.append_inj h (by rw[BB,BB]);have h3:=C6 num h1;rw[IF,IF] at h3;have hc:=c.toNat_lt;have hd:=d.toNat_lt;have e:c=d:=Hq.1 (by omega);rw[e,T0 h2]
theorem sK {l:List UInt8}{a b:Nat}{r:List UInt8}(h:Seg (A2 l) (8*a) (8*b) r):BM r=(l.drop a).take (b-a):=by
 obtain⟨h1,h2,h3⟩:=h;rw[BO] at h2;have c:=Tk l a (b-a) (by omega);rw[show 8*(b-a)=8*b-8*a by omega,h3] at c;have hr:AL r=true:=by rw[<-c];exact KS _
 apply T0;rw[Qw r hr,c];unfold HV;have hl:r.length%8=0:=by rw[<-c,BO];omega
 rw[show (8-r.length%8)%8=0 by omega];exact Fb r
def DI (r:List UInt8)(S:ShP):List UInt8:=r++(GX r.length++CV (r.length+gap r.length) S)
def Hf (r:List UInt8)(S:ShP):List UInt8:=DS r 0++Eh S.hd
def FS (r:List UInt8)(S:ShP):List UInt8:=Hf r S++L1 (Hf r S).length S
theorem RD (r:List UInt8)(S:ShP):(Hf r S).length=r.length+gap r.length+(BR 0++Eh S.hd).length:=by
 unfold Hf;rw[B9,Ur,B9,GI];omega
theorem PS (r:List UInt8)(S:ShP):DI r S=(FS r S++List.replicate (gap (FS r S).length) 48)++List.replicate (8*S.zeros.toNat) 48:=by
 have hl:(FS r S).length=r.length+gap r.length+(BR 0++Eh S.hd).length+(L1 (r.length+gap r.length+(BR 0++Eh S.hd).length) S).length:=by
  unfold FS;rw[B9,RD]
 rw[hl];unfold DI CV FS;rw[RD];unfold Hf DS GX;simp only[Bd]
def ES (inter:Bool)(k:Int)(i:Nat)(R:List UInt8)(vs:List (Int×Int))(first:Int)(rs:List RowP):List UInt8:=R++FI inter k i R.length vs first rs
def G2 (inter:Bool)(k first:Int)(R:List UInt8)(vs:List (Int×Int))(cs:List Cel):List UInt8:=R++GP inter k first vs cs
theorem Xx (inter:Bool)(k first:Int)(R:List UInt8)(vs:List (Int×Int)):G2 inter k first R vs []=R:=Fb R
theorem bO (inter:Bool)(k first:Int)(R:List UInt8)(vs:List (Int×Int))(c:Cel)(cs:List Cel):
  G2 inter k first R vs (c::cs)=G2 inter k first (R++CQ inter (DT vs (B1 k) first).1 (DT vs (B1 k) first).2 c) (vs++[(c.mx,c.my)]) cs:=by
 unfold G2;rw[GP,Bd]
theorem YN (inter:Bool)(k:Int)(i:Nat)(R:List UInt8)(vs:List (Int×Int))(first:Int):ES inter k i R vs first []=R:=Fb R
theorem Y39 (inter:Bool)(k:Int)(i:Nat)(R:List UInt8)(vs:List (Int×Int))(first:Int)(r:RowP)(rs:List RowP):
  ES inter k i R vs first (r::rs)=ES inter k (i+1) (G2 inter k (E3 k i first r) (R++EP i R.length r) vs r.cels) (vs++C5 r.cels) (E3 k i first r) rs:=by
 unfold ES G2;rw[FI];simp only[B9,Bd,Ay]
theorem U4 (r:List UInt8)(S:ShP):ES S.hd.inter S.hd.fmt 0 (Hf r S) [] 0 S.rows=FS r S:=rfl
theorem Sn (r:List UInt8)(S:ShP):(DI r S).length%8=0:=by
 rw[PS];simp only[B9,Bl];unfold gap;omega
theorem RO (S:ShP):DI [] S=CV 0 S:=rfl
theorem cT {r:List UInt8}(h:r.length%8=0)(S:ShP):DI r S=r++CV 0 S:=by
 unfold DI GX;have a:gap r.length=0:=by unfold gap;omega
 rw[a,VX (q:=0) (by omega)]
 rfl
def E7 {α:Type}(E:List α×Nat×Int)(d:List α)(T:List α×Nat×Int):Prop:=(T.2.2≠0->E.2.2=T.2.2)/\(T.2.2=0->E=(d++T.1,T.2.1,0))
theorem E7.start {α:Type}(E:List α×Nat×Int):E7 E [] E:=⟨fun _=>rfl,fun h=>by obtain⟨a,b,c⟩:=E;simp only at h;subst h;rfl⟩
theorem E7.bad {α:Type}{E T:List α×Nat×Int}{d:List α}{f:Int}(h:E7 E d T)(a:T.2.2=f)(b:f≠0):E.2.2=f:=by
 subst a;exact h.1 b
theorem E7.done {α:Type}{E:List α×Nat×Int}{d:List α}{p:Nat}(h:E7 E d ([],p,0)):E=(d,p,0):=by
 have:=h.2 rfl;rwa [Fb] at this
theorem E7.step {α:Type}{E T b:List α×Nat×Int}{d:List α}{a:α}(h:E7 E d T)(e:T=(if b.2.2≠0 then ([],T.2.1,b.2.2) else (a::b.1,b.2.1,0))):E7 E (d++[a]) b:=by
 by_cases c:b.2.2=0
 ·rw[Bb (fun x=>x c)] at e;refine⟨fun h1=>absurd c h1,fun _=>?_⟩;have:=h.2 (by rw[e]);rw[this,e,Bd]
  rfl
 ·rw[Bc c] at e;exact⟨fun _=>h.bad (by rw[e]) c,fun h1=>absurd h1 c⟩
section
variable {ct:CelT}{l:List UInt8}{inter:Bool}{k first:Int}{n p:Nat}{vs:List (Int×Int)}
theorem Qcl {E:List Cel×Nat×Int}{d:List Cel}{c:Cel}{q:Nat}{f:Int}(h:E7 E d (DR ct l inter k first (n+1) p vs))(hc:ct inter (A2 l) (DT vs (B1 k) first).1 (DT vs (B1 k) first).2 p=(c,q,f))(a:f≠0):E.2.2=f:=by
 refine h.bad ?_ a;rw[DR,hc];simp only;rw[Bc a]
theorem uD {E:List Cel×Nat×Int}{d:List Cel}{c:Cel}{q:Nat}(h:E7 E d (DR ct l inter k first (n+1) p vs))(hc:ct inter (A2 l) (DT vs (B1 k) first).1 (DT vs (B1 k) first).2 p=(c,q,0))(hv:CP k vs.length c=false):E.2.2=8:=by
 refine h.bad ?_ (by decide);rw[DR,hc];simp only;rw[Bb (fun x=>x rfl),hv,Bc rfl]
theorem eJ {E:List Cel×Nat×Int}{d:List Cel}{c:Cel}{q:Nat}(h:E7 E d (DR ct l inter k first (n+1) p vs))(hc:ct inter (A2 l) (DT vs (B1 k) first).1 (DT vs (B1 k) first).2 p=(c,q,0))(hv:CP k vs.length c=true):E7 E (d++[c]) (DR ct l inter k first n q (vs++[(c.mx,c.my)])):=by
 refine h.step ?_;rw[DR,hc];simp only;rw[Bb (fun x=>x rfl),hv,Bb (by decide)];obtain⟨⟨cs,z,g⟩,hr⟩:=Ah (DR ct l inter k first n q (vs++[(c.mx,c.my)]))
 rw[hr];by_cases a:g=0
 ·subst a
  rfl
 ·simp only;rw[Bc a,Bc a]
theorem gY {i:Nat}{E:List RowP×Nat×Int}{d:List RowP}{hd:Bool}{id qu fs f:Int}{z:Nat}(h:E7 E d (DJ ct l inter k (n+1) i p vs first))(b:HC l k i p first=(hd,id,qu,z,fs,f))(a:f≠0):E.2.2=f:=by
 refine h.bad ?_ a;rw[DJ,b];simp only;rw[Bc a]
theorem zC {i:Nat}{E:List RowP×Nat×Int}{d:List RowP}{hd:Bool}{id qu fs g:Int}{z q:Nat}{cs:List Cel}(h:E7 E d (DJ ct l inter k (n+1) i p vs first))(b:HC l k i p first=(hd,id,qu,z,fs,0))(hc:DR ct l inter k fs (BI k).toNat z vs=(cs,q,g))(a:g≠0):E.2.2=g:=by
 refine h.bad ?_ a;rw[DJ,b];simp only;rw[Bb (fun x=>x rfl),hc];simp only;rw[Bc a]
theorem vP {i:Nat}{E:List RowP×Nat×Int}{d:List RowP}{hd:Bool}{id qu fs:Int}{z q:Nat}{cs:List Cel}(h:E7 E d (DJ ct l inter k (n+1) i p vs first))(b:HC l k i p first=(hd,id,qu,z,fs,0))(hc:DR ct l inter k fs (BI k).toNat z vs=(cs,q,0)):
  E7 E (d++[⟨hd,id,qu,cs⟩]) (DJ ct l inter k n (i+1) q (vs++C5 cs) fs):=by
 refine h.step ?_;rw[DJ,b];simp only;rw[Bb (fun x=>x rfl),hc];simp only;rw[Bb (fun x=>x rfl)];obtain⟨⟨rs,y,e⟩,hr⟩:=Ah (DJ ct l inter k n (i+1) q (vs++C5 cs) fs);rw[hr];by_cases a:e=0
 ·subst a
  rfl
 ·simp only;rw[Bc a,Bc a]
end
section
variable {ct:CelT}{l:List UInt8}{p q z:Nat}{h:Shd}{rs:List RowP}{f g:Int}
theorem uY (a:shk l p=(h,q,f))(b:f≠0):wtk ct l p=(JV,p,f):=by
 unfold wtk;rw[a];simp only;rw[Bc b]
theorem iN (a:shk l p=(h,q,0))(hr:(DJ ct l h.inter h.fmt (BJ h.fmt).toNat 0 q [] 0).2.2=g)(b:g≠0):wtk ct l p=(JV,p,g):=by
 unfold wtk;rw[a];simp only;rw[Bb (fun x=>x rfl)];obtain⟨⟨rs,z,e⟩,h2⟩:=Ah (DJ ct l h.inter h.fmt (BJ h.fmt).toNat 0 q [] 0);rw[h2] at hr ⊢;simp only at hr ⊢;subst hr;rw[Bc b]
theorem tW (a:shk l p=(h,q,0))(hr:DJ ct l h.inter h.fmt (BJ h.fmt).toNat 0 q [] 0=(rs,z,0))(b:AE l z (gap z)≠0):wtk ct l p=(JV,p,5):=by
 unfold wtk;rw[a];simp only;rw[Bb (fun x=>x rfl),hr];simp only;rw[Bb (fun x=>x rfl),Bc b]
theorem mT (a:shk l p=(h,q,0))(hr:DJ ct l h.inter h.fmt (BJ h.fmt).toNat 0 q [] 0=(rs,z,0))(b:AE l z (gap z)=0):wtk ct l p=(⟨h,rs,(IL l (z+gap z):Nat)⟩,z+gap z+8*IL l (z+gap z),0):=by
 unfold wtk;rw[a];simp only;rw[Bb (fun x=>x rfl),hr];simp only;rw[Bb (fun x=>x rfl),Bb (fun x=>x b)]
end
theorem YA:∀(L:List UInt8),(∀i,i<(L.takeWhile (· == 48)).length->L[i]? =some 48)/\L[(L.takeWhile (· == 48)).length]?≠some 48
 |[]=>⟨fun i hi=>by simp at hi,by simp⟩
 |c::L=>by
  by_cases hc:c=48
  ·obtain⟨h1,h2⟩:=YA L;rw[Fw (by simpa using hc),An];refine⟨fun i hi=>?_,by simpa using h2⟩
   match i,hi with
   |0,_=>rw[hc];rfl
   |i+1,hi=>simpa using h1 i (by omega)
  ·rw[Fx (by simpa using hc)];refine⟨fun i hi=>by simp at hi,?_⟩
   simpa using hc
theorem QT (l:List UInt8)(p:Nat):(∀i,i<CE l p->(A2 l)[p+i]? =some 48)/\(A2 l)[p+CE l p]?≠some 48:=by
 have h:=YA ((A2 l).drop p);unfold CE;rw[Bb (by omega),Dr];refine⟨fun i hi=>?_,?_⟩
 ·have:=h.1 i hi;rwa [Az] at this
 ·have:=h.2;rwa [Az] at this
theorem SE {l:List UInt8}{p:Nat}(a:p<=8*l.length):p+CE l p<=8*l.length:=by
 rcases Ax (8*l.length) (p+CE l p) with h|h
 ·have:=(QT l p).1 (8*l.length-p) (by omega);rw[Fv (by rw[BO];omega)] at this;cases this
 ·exact h
theorem Uk {l:List UInt8}{p n:Nat}(h:p+n<=8*l.length):AE l p n=0↔n<=CE l p:=by
 rw[LK l p n h];constructor
 ·intro a;rcases Ax (CE l p) n with h1|h1
  ·exact absurd (a _ h1) (QT l p).2
  ·exact h1
 ·exact fun h1 i hi=>(QT l p).1 i (by omega)
theorem Y0c {l:List UInt8}{p n:Nat}(h:n<=CE l p):CE l ((p+n:Nat):Int)=CE l p-n:=by
 obtain⟨h1,h2⟩:=QT l p;refine Sr (fun i hi=>?_) ?_
 ·rw[Ay];exact h1 (n+i) (by omega)
 ·rw[show p+n+(CE l p-n)=p+CE l p by omega];exact h2
theorem kC {l:List UInt8}{p:Nat}(f:p<=8*l.length):(B0 l (p:Int)).2=0↔p+22<=8*l.length/\CE l p=16:=by
 rcases Ax (8*l.length) (p+22) with h|h
 ·rw[NY f h];constructor
  ·intro h;cases h
  ·omega
 ·rw[K0 h];have e:=LC l p 16 6 (by omega);have g:=LC l p 17 5 (by omega);have i:=LC l p 16 1 (by omega);have j:=F1 l (p+17) 5;have k:=F1 l (p+16) 1;have a:=Uk (l:=l) (p:=p) (n:=16) (by omega);have b:=Uk (l:=l) (p:=p) (n:=17) (by omega);simp only[Nat.reduceAdd,Nat.reducePow] at e g i j k;constructor
  ·intro h1;by_cases ht:AE l p 22 / 32=1
   ·have d:AE l p 17=1:=by omega
    have c:AE l p 16=0:=by omega
    have:=a.1 c;have:=fun h=>b.2 h;refine⟨h,?_⟩;omega
   ·rw[Bb ht] at h1;cases h1
  ·rintro⟨_,h1⟩;have c:AE l p 16=0:=a.2 (by omega);have d:AE l p 17≠0:=fun m=>by have:=b.1 m;omega
   rw[Bc (by omega)]
def MX (n left:Nat):Nat:=if n=left then n / 8 else if n%8=0/\16<=n then (n-16) / 8 else 0
theorem XH (l:List UInt8):∀(m p:Nat),p<=8*l.length->p%8=0->8*l.length-p<=8*m->
  HR l m p=if CE l p=8*l.length-p then some (CE l p / 8) else if CE l p%8=0/\16<=CE l p then some ((CE l p-16) / 8) else none
 |0,p,hp,h8,hm=>by
  have hn:=SE hp;rw[HR,Bc (.inr (by omega)),Bc (by omega)];rw[show CE l p=0 by omega]
 |m+1,p,hp,h8,hm=>by
  have hn:=SE hp;have c:=kC hp;rw[HR];by_cases h1:(B0 l (p:Int)).2=0\/p=8*l.length
  ·rw[Bc h1];rcases h1 with h1|h1
   ·obtain⟨a,b⟩:=c.1 h1;rw[b,Bb (by omega),Bc (by omega)]
   ·rw[show CE l p=0 by omega,Bc (by omega)]
  ·rw[Bb h1];have h2:¬ (p+22<=8*l.length/\CE l p=16):=fun h=>h1 (.inl (c.2 h));have h3:p+8<=8*l.length:=by
    have:p≠8*l.length:=fun h=>h1 (.inr h);omega
   have d:=Uk h3;by_cases h4:AE l p 8=0
   ·rw[Bc ⟨h3,h4⟩];have e:=d.1 h4;rw[XH l m (p+8) h3 (by omega) (by omega),Y0c e];by_cases f:CE l p=8*l.length-p
    ·rw[Bc f,Bc (by omega),Lm]
     congr 1
     omega
    ·rw[Bb f,Bb (by omega)];by_cases g:CE l p%8=0/\16<=CE l p
     ·rw[Bc g,Bc (by omega),Lm]
      congr 1
      omega
     ·rw[Bb g,Bb (by omega)]
      rfl
   ·rw[Bb (fun h=>h4 h.2)];have e:CE l p<8:=by
     rcases Ax (CE l p) 8 with h|h
     ·exact h
     ·exact absurd (d.2 h) h4
    rw[Bb (by omega),Bb (by omega)]
theorem lR {l:List UInt8}{p:Nat}(a:p<=8*l.length)(b:p%8=0):IL l p=MX (CE l p) (8*l.length-p):=by
 unfold IL MX;rw[XH l l.length p a b (by omega)]
 split
 ·rfl
 ·split <;> rfl
end Go.Proofs.YtjjmalchelniiaaGreatDoor