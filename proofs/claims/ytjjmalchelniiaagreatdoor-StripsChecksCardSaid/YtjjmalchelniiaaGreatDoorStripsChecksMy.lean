/- StripsChecks, 25. No condition. -/
import Derived.Test.YtjjmalchelniiaaGreatDoorStripsChecksMg
import Derived.Test.YtjjmalchelniiaaGreatDoorStripsChecksMk
import Derived.Test.YtjjmalchelniiaaGreatDoorStripsChecksMp
import Derived.Test.YtjjmalchelniiaaGreatDoorStripsChecksMr
import Derived.Test.YtjjmalchelniiaaGreatDoorStripsChecksMx
namespace Go.Proofs.YtjjmalchelniiaaGreatDoor
open Go.RowKit
abbrev Lc:=@List.replicate_append_replicate
abbrev Ld:=@Option.map_some
abbrev Le:=@List.zip_cons_cons
abbrev Lg:=@Bool.and_assoc
def AP {α:Type}(f:Nat->α->Bool):Nat->List α->Bool
 |_,[]=>true
 |i,a::l=>f i a&&AP f (i+1) l
theorem NM {α:Type}{f:Nat->α->Bool}:∀{i:Nat} {l:List α},AP f i l=true↔∀j,(h:j<l.length)->f (i+j) l[j]=true
 |_,[]=>⟨fun _ j h=>absurd h (Fc j),fun _=>rfl⟩
 |i,a::l=>by
  rw[AP,Am,NM];constructor
  ·rintro⟨b,h1⟩ j hj;cases j with
   |zero=>exact b
   |succ j=>
    have:=h1 j (by simpa using hj);rw[show i+(j+1)=i+1+j by omega];exact this
  ·intro h;refine⟨h 0 (by simp),fun j hj=>?_⟩;have:=h (j+1) (by simpa using hj);rw[show i+(j+1)=i+1+j by omega] at this;exact this
theorem SY {α:Type}{f:Nat->α->Bool}:∀(i:Nat) (l:List α) (a:α),AP f i (l++[a])=(AP f i l&&f (i+l.length) a)
 |i,[],a=>by simp[AP]
 |i,b::l,a=>by
  rw[J0,AP,SY (i+1) l a,AP,Lg,Ao,show i+(l.length+1)=i+1+l.length by omega]
theorem QM {α:Type}{f:Nat->α->Bool}:∀(i:Nat) (l m:List α),AP f i (l++m)=(AP f i l&&AP f (i+l.length) m)
 |i,[],m=>by simp[AP]
 |i,b::l,m=>by
  rw[J0,AP,QM (i+1) l m,AP,Lg,Ao,show i+(l.length+1)=i+1+l.length by omega]
theorem Yr {α:Type}{f:Nat->α->Bool}{l:List α}{j:Nat}(hj:j<l.length)(h:AP f 0 (l.take j)=true)(h1:f j l[j]=true):AP f 0 (l.take (j+1))=true:=by
 rw[Bd hj,SY,h,Be,show 0+min j l.length=j by omega,h1];rfl
theorem SE {α:Type}{f:Nat->α->Bool}{l:List α}{j:Nat}(hj:j<l.length)(h1:f j l[j]=false):AP f 0 l=false:=by
 cases h:AP f 0 l with
 |false=>rfl
 |true=>
  have:=NM.1 h j hj;rw[As,h1] at this;cases this
def DJ (inter:Bool)(n:Int)(i:Nat)(r:RowP):Bool:=
 decide ((r.cels.length:Int)=n)&&((if r.head then decide (i≠0/\0<=r.id/\r.id<=3/\1<=r.quant/\r.quant<=31) else decide (r.id=0/\r.quant=0))&&r.cels.all (BE inter))
def BA (k:Int):Int:=Bx k*BG k
def EL (S:ShP):Bool:=
 Ec S.hd&&(decide (0<=S.zeros/\S.zeros<=262144)&&(decide ((S.rows.length:Int)=BC S.hd.fmt)&&AP (DJ S.hd.inter (BA S.hd.fmt)) 0 S.rows))
def BI (S:ShP):List Cel:=S.rows.flatMap (·.cels)
def CC (k:Int)(n:Nat)(c:Cel):Bool:=AE c.kind || GJ k (n:Int) c.mx c.my
def BT (S:ShP):Int:=if EL S=true then (if AP (CC S.hd.fmt) 0 (BI S)=true then 0 else 8) else 12
theorem Pk {S:ShP}(h:EL S=false):BT S=12:=by unfold BT;rw[Bb (by rw[h];decide)]
theorem V2 {S:ShP}(h:EL S=true)(h1:AP (CC S.hd.fmt) 0 (BI S)=false):BT S=8:=by unfold BT;rw[Bc h,Bb (by rw[h1];decide)]
theorem Sw {S:ShP}(h:EL S=true)(h1:AP (CC S.hd.fmt) 0 (BI S)=true):BT S=0:=by unfold BT;rw[Bc h,Bc h1]
theorem XM {S:ShP}(h:BT S=0):EL S=true/\AP (CC S.hd.fmt) 0 (BI S)=true:=by
 unfold BT at h;cases h1:EL S with
 |false=>rw[h1] at h;cases h
 |true=>
  cases h2:AP (CC S.hd.fmt) 0 (BI S) with
  |false=>rw[h1,h2] at h;cases h
  |true=>exact⟨rfl,rfl⟩
def JJ (a b:Shd):Bool:=a.ref==b.ref&&(a.flags==b.flags&&(a.fmt==b.fmt&&(a.inter==b.inter&&(a.quant==b.quant&&decide (a.supp=b.supp)))))
def rwB (a b:RowP):Bool:=(a.head==b.head&&(a.id==b.id&&a.quant==b.quant))&&(decide (a.cels.length=b.cels.length)&&(a.cels.zip b.cels).all fun p=>CG p.1 p.2)
def shB (a b:ShP):Bool:=JJ a.hd b.hd&&(a.zeros==b.zeros&&(decide (a.rows.length=b.rows.length)&&(a.rows.zip b.rows).all fun p=>rwB p.1 p.2))
theorem QO {α:Type}{f:α->α->Bool}(b:∀a,f a a=true):∀l:List α,((l.zip l).all fun p=>f p.1 p.2)=true
 |[]=>rfl
 |a::l=>by rw[Le,Gy,b,QO b l];rfl
theorem YA (a:Shd):JJ a a=true:=by simp[JJ]
theorem qP (a:RowP):rwB a a=true:=by simp[rwB,QO cZ]
theorem xF (a:ShP):shB a a=true:=by simp[shB,YA,QO qP]
theorem ND {α:Type}{f:α->α->Bool}{l m:List α}{j:Nat}(hl:j<l.length)(hm:j<m.length)(h:(((l.take j).zip (m.take j)).all fun p=>f p.1 p.2)=true)(h1:f l[j] m[j]=true):(((l.take (j+1)).zip (m.take (j+1))).all fun p=>f p.1 p.2)=true:=by
 rw[Bd hl,Bd hm,List.zip_append (by simp;omega),Dv,h];simp[h1]
theorem NF {α:Type}{f:α->α->Bool}{l m:List α}{j:Nat}(hl:j<l.length)(hm:j<m.length)(h1:f l[j] m[j]=false):((l.zip m).all fun p=>f p.1 p.2)=false:=by
 rw[Gh];refine⟨(l[j],m[j]),?_,by rw[h1];decide⟩;have a:j<(l.zip m).length:=by rw[List.length_zip];omega
 have e:(l.zip m)[j]=(l[j],m[j]):=List.getElem_zip;rw[<-e];exact Bl a
theorem MJ (n:Nat):AI 0 n=List.replicate n 48:=by
 have h:=L1 (List.replicate n 48) (P1 n);rw[xM,Bp] at h;exact h
theorem Qu {l:List UInt8}{p n:Nat}(h:p+n<=8*l.length)(a:AD l p n=0):Seg (AA l) p (p+n) (List.replicate n 48):=by
 have:=GG (l:=l) h;rw[a,MJ] at this;exact this
theorem fF {l:List UInt8}{p n z:Nat}{id q:Int}(h:hdk l p (n:Int)=(id,q,z,0)):(0<=id/\id<=3/\1<=q/\q<=31)/\Seg (AA l) p z (HG p n id.toNat q.toNat):=by
 by_cases h1:(B4 l p).2=false
 ·rw[Ve h1] at h;cases h
 have a:(B4 l p).2=true:=by simpa using h1
 by_cases h2:(B4 l p).1=(n:Int)
 case neg=>rw[UU a h2] at h;cases h
 by_cases h3:8*l.length<p+gap p+22+7
 ·rw[YF a h2 h3] at h;cases h
 by_cases h4:AD l (p+gap p+22+2) 5=0
 ·rw[Un a h2 (by omega) h4] at h;cases h
 rw[Rc a h2 (by omega) h4] at h;injection h with e1 h;injection h with e2 h;injection h with e3 _;have b:=Se a;have d:=EA l (p+gap p+22) 2;have e:=EA l (p+gap p+22+2) 5;have f:AD l (p+gap p+22) 2<4:=d;have g:AD l (p+gap p+22+2) 5<32:=e;have hm:AD l (p+gap p) 22=32+n:=by
  rw[OU (by omega) b,IZ (by omega)] at a h2;by_cases ht:AD l (p+gap p) 22 / 32=1
  ·rw[Bc ht] at h2;simp only at h2;omega
  ·rw[Bb ht] at a;exact absurd a (by decide)
 have i:=Qu (l:=l) (p:=p) (n:=gap p) (by omega) b;have c:=GG (l:=l) (p:=p+gap p) (n:=22) (by omega);have j:=GG (l:=l) (p:=p+gap p+22) (n:=2) (by omega);have k:=GG (l:=l) (p:=p+gap p+22+2) (n:=5) (by omega);rw[hm] at c;subst e1 e2 e3;refine⟨by omega,?_⟩;unfold HG JH;rw[Do,Do,Bf];exact i.app (c.app (j.app k))
def CelT:=Bool->List UInt8->Int->Int->Nat->Cel×Nat×Int
def QB (ct:CelT)(S:List UInt8):Prop:=∀inter x y p c q,p<=S.length->ct inter S x y p=(c,q,0)->Seg S p q (DZ inter x y c)/\BE inter c=true
def CM (cs:List Cel):List (Int×Int):=cs.map fun c=>(c.mx,c.my)
def DK (vs:List (Int×Int))(a first:Int):Int×Int:=NC (fun i=>vs.getD i (0,0)) vs.length a first
def DD (ct:CelT)(l:List UInt8)(inter:Bool)(k first:Int):Nat->Nat->List (Int×Int)->List Cel×Nat×Int
 |0,p,_=>([],p,0)
 |n+1,p,vs=>
  match ct inter (AA l) (DK vs (Bx k) first).1 (DK vs (Bx k) first).2 p with
  |(c,q,f)=>if f≠0 then ([],p,f) else if CC k vs.length c=false then ([],p,8) else
   match DD ct l inter k first n q (vs++[(c.mx,c.my)]) with
   |(cs,z,g)=>if g≠0 then ([],p,g) else (c::cs,z,0)
def GB (inter:Bool)(k first:Int):List (Int×Int)->List Cel->List UInt8
 |_,[]=>[]
 |vs,c::cs=>DZ inter (DK vs (Bx k) first).1 (DK vs (Bx k) first).2 c++GB inter k first (vs++[(c.mx,c.my)]) cs
theorem Xy {ct:CelT}{l:List UInt8}{inter:Bool}{k first:Int}(a:QB ct (AA l)):∀(n p:Nat) (vs:List (Int×Int)) (cs:List Cel) (q:Nat),p<=8*l.length->DD ct l inter k first n p vs=(cs,q,0)->
  Seg (AA l) p q (GB inter k first vs cs)/\cs.length=n/\cs.all (BE inter)=true/\AP (CC k) vs.length cs=true
 |0,p,vs,cs,q,hp,h=>by
  rw[DD] at h;injection h with e1 h;injection h with e2 _;subst e1 e2;exact⟨Seg.nil (by rw[BB];exact hp),rfl,rfl,rfl⟩
 |n+1,p,vs,cs,q,hp,h=>by
  rw[DD] at h;obtain⟨⟨c,z,f⟩,hc⟩:=Ai (ct inter (AA l) (DK vs (Bx k) first).1 (DK vs (Bx k) first).2 p);rw[hc] at h;simp only at h;by_cases b:f=0
  case neg=>
   rw[Bc b] at h;injection h with _ h;injection h with _ h;exact absurd h b
  rw[Bb (fun x=>x b)] at h;subst b;cases hv:CC k vs.length c with
  |false=>rw[hv,Bc rfl] at h;cases h
  |true=>
   rw[hv,Bb (by decide)] at h;obtain⟨⟨e,y,g⟩,hr⟩:=Ai (DD ct l inter k first n z (vs++[(c.mx,c.my)]))
   rw[hr] at h;simp only at h;by_cases d:g=0
   case neg=>
    rw[Bc d] at h;injection h with _ h;injection h with _ h;exact absurd h d
   rw[Bb (fun x=>x d)] at h;subst d;injection h with e1 h;injection h with e2 _;subst e1 e2;obtain⟨i,m⟩:=a inter _ _ p c z (by rw[BB];exact hp) hc;have o:z<=8*l.length:=by have:=i.2.1;rwa [BB] at this
   obtain⟨r,s,t,j⟩:=Xy a n z (vs++[(c.mx,c.my)]) e y o hr;rw[B9] at j;refine⟨i.app r,by rw[Ao,s],by rw[Gy,m,t];rfl,?_⟩;rw[AP,hv];exact j
def IP (l:List UInt8)(i p:Nat):Bool:=decide (0<i)&&((B4 l p).2&&((B4 l p).1 != 0&&(B4 l p).1 != 31))
def Hf (l:List UInt8)(k:Int)(i p:Nat)(first:Int):Bool×Int×Int×Nat×Int×Int:=
 if IP l i p=true then (true,(hdk l p i).1,(hdk l p i).2.1,(hdk l p i).2.2.1,(i:Int)*BG k,(hdk l p i).2.2.2) else (false,0,0,p,first,0)
def D2 (ct:CelT)(l:List UInt8)(inter:Bool)(k:Int):Nat->Nat->Nat->List (Int×Int)->Int->List RowP×Nat×Int
 |0,_,p,_,_=>([],p,0)
 |n+1,i,p,vs,first=>
  match Hf l k i p first with
  |(h,id,qu,z,fs,f)=>if f≠0 then ([],p,f) else
   match DD ct l inter k fs (BA k).toNat z vs with
   |(cs,q,g)=>if g≠0 then ([],p,g) else
    match D2 ct l inter k n (i+1) q (vs++CM cs) fs with
    |(rs,y,e)=>if e≠0 then ([],p,e) else (⟨h,id,qu,cs⟩::rs,y,0)
def FH (i p:Nat)(r:RowP):List UInt8:=if r.head then HG p i r.id.toNat r.quant.toNat else []
def ET (k:Int)(i:Nat)(first:Int)(r:RowP):Int:=if r.head then (i:Int)*BG k else first
def F2 (inter:Bool)(k:Int):Nat->Nat->List (Int×Int)->Int->List RowP->List UInt8
 |_,_,_,_,[]=>[]
 |i,p,vs,first,r::rs=>FH i p r++(GB inter k (ET k i first r) vs r.cels++F2 inter k (i+1) (p+(FH i p r).length+(GB inter k (ET k i first r) vs r.cels).length) (vs++CM r.cels) (ET k i first r) rs)
theorem kO {l:List UInt8}{k:Int}{i p z:Nat}{first id qu fs:Int}{h:Bool}(a:p<=8*l.length)(e:Hf l k i p first=(h,id,qu,z,fs,0))(cs:List Cel):
  Seg (AA l) p z (FH i p ⟨h,id,qu,cs⟩)/\fs=ET k i first ⟨h,id,qu,cs⟩/\(if h then decide (i≠0/\0<=id/\id<=3/\1<=qu/\qu<=31) else decide (id=0/\qu=0))=true:=by
 unfold Hf at e;cases hh:IP l i p with
 |true=>
  rw[hh,Bc rfl] at e;injection e with e1 e;injection e with e2 e;injection e with e3 e;injection e with e4 e;injection e with e5 e6;subst e1 e5;obtain⟨m,s⟩:=fF (l:=l) (p:=p) (n:=i) (id:=id) (q:=qu) (z:=z) (by rw[<-e2,<-e3,<-e4,<-e6]);refine⟨s,rfl,?_⟩;unfold IP at hh;rw[Am,Fb] at hh;rw[Bc rfl,Fb];exact⟨by omega,m⟩
 |false=>
  rw[hh,Bb (by decide)] at e;injection e with e1 e;injection e with e2 e;injection e with e3 e;injection e with e4 e;injection e with e5 _;subst e1 e2 e3 e4 e5;exact⟨Seg.nil (by rw[BB];exact a),rfl,rfl⟩
theorem UZ {ct:CelT}{l:List UInt8}{inter:Bool}{k:Int}(a:QB ct (AA l))(s:0<=BA k):∀(n i p:Nat) (vs:List (Int×Int)) (first:Int) (rs:List RowP) (q:Nat),p<=8*l.length->D2 ct l inter k n i p vs first=(rs,q,0)->
  Seg (AA l) p q (F2 inter k i p vs first rs)/\rs.length=n/\AP (DJ inter (BA k)) i rs=true/\AP (CC k) vs.length (rs.flatMap (·.cels))=true
 |0,i,p,vs,first,rs,q,hp,h=>by
  rw[D2] at h;injection h with e1 h;injection h with e2 _;subst e1 e2;exact⟨Seg.nil (by rw[BB];exact hp),rfl,rfl,rfl⟩
 |n+1,i,p,vs,first,rs,q,hp,h=>by
  rw[D2] at h;obtain⟨⟨hd,id,qu,z,fs,f⟩,t⟩:=Ai (Hf l k i p first)
  rw[t] at h;simp only at h;by_cases c:f=0
  case neg=>
   rw[Bc c] at h;injection h with _ h;injection h with _ h;exact absurd h c
  rw[Bb (fun x=>x c)] at h;subst c;obtain⟨⟨cs,y,g⟩,hc⟩:=Ai (DD ct l inter k fs (BA k).toNat z vs);rw[hc] at h;simp only at h;by_cases d:g=0
  case neg=>
   rw[Bc d] at h;injection h with _ h;injection h with _ h;exact absurd h d
  rw[Bb (fun x=>x d)] at h;subst d;obtain⟨⟨b,q',e⟩,hr⟩:=Ai (D2 ct l inter k n (i+1) y (vs++CM cs) fs);rw[hr] at h;simp only at h;by_cases j:e=0
  case neg=>
   rw[Bc j] at h;injection h with _ h;injection h with _ h;exact absurd h j
  rw[Bb (fun x=>x j)] at h;subst j;injection h with e1 h;injection h with e2 _;subst e1 e2;obtain⟨o,f1,u⟩:=kO hp t cs;have v:z<=8*l.length:=by have:=o.2.1;rwa [BB] at this
  obtain⟨r,w,A,B⟩:=Xy a _ z vs cs y v hc;have C:y<=8*l.length:=by have:=r.2.1;rwa [BB] at this
  obtain⟨D,E,F,m⟩:=UZ a s n (i+1) y (vs++CM cs) fs b q' C hr;have G:y=p+(FH i p ⟨hd,id,qu,cs⟩).length+(GB inter k fs vs cs).length:=by have:=o.len;have:=r.len;omega
  refine⟨?_,by rw[Ao,E],?_,?_⟩
  ·rw[F2];show Seg (AA l) p q' (FH i p ⟨hd,id,qu,cs⟩++(GB inter k (ET k i first ⟨hd,id,qu,cs⟩) vs cs++F2 inter k (i+1) (p+(FH i p ⟨hd,id,qu,cs⟩).length+(GB inter k (ET k i first ⟨hd,id,qu,cs⟩) vs cs).length) (vs++CM cs) (ET k i first ⟨hd,id,qu,cs⟩) b));rw[<-f1,<-G];exact o.app (r.app D)
  ·rw[AP,F,L9];unfold DJ;simp only;rw[w,Cb s,u,A];simp
  ·rw[G7,QM,B,Gw];simp only;rw[B9] at m;unfold CM at m;rw[Gc] at m;exact m
def HF (l:List UInt8):Nat->Nat->Option Nat
 |0,p=>if (AX l p).2=0\/p=8*l.length then some 0 else none
 |n+1,p=>if (AX l p).2=0\/p=8*l.length then some 0 else if p+8<=8*l.length/\AD l p 8=0 then (HF l n (p+8)).map (· + 1) else none
def HW (l:List UInt8)(p:Nat):Nat:=(HF l l.length p).getD 0
theorem Ym {l:List UInt8}:∀(n p z:Nat),p<=8*l.length->HF l n p=some z->Seg (AA l) p (p+8*z) (List.replicate (8*z) 48)
 |0,p,z,hp,h=>by
  rw[HF] at h
  split at h
  ·injection h with h;subst h;exact Seg.nil (by rw[BB];exact hp)
  ·cases h
 |n+1,p,z,hp,h=>by
  rw[HF] at h
  split at h
  ·injection h with h;subst h;exact Seg.nil (by rw[BB];exact hp)
  ·split at h
   ·rename_i a
    obtain⟨y,b,rfl⟩:=Im.1 h;have c:=Qu (l:=l) (p:=p) (n:=8) a.1 a.2;have d:=Ym n (p+8) y a.1 b;have:=c.app d;rw[Lc] at this;rw[show p+8*(y+1)=p+8+8*y by omega,show 8*(y+1)=8+8*y by omega];exact this
   ·cases h
theorem W7 {l:List UInt8}{p:Nat}(a:p<=8*l.length):Seg (AA l) p (p+8*HW l p) (List.replicate (8*HW l p) 48):=by
 unfold HW;cases h:HF l l.length p with
 |none=>exact Seg.nil (by rw[BB];exact a)
 |some z=>exact Ym _ p z a h
def JK:ShP:=⟨FB,[],0⟩
def wtk (ct:CelT)(l:List UInt8)(p:Nat):ShP×Nat×Int:=
 match shk l p with
 |(h,q,f)=>if f≠0 then (JK,p,f) else
  match D2 ct l h.inter h.fmt (BC h.fmt).toNat 0 q [] 0 with
  |(rs,z,g)=>if g≠0 then (JK,p,g) else if AD l z (gap z)≠0 then (JK,p,5) else (⟨h,rs,(HW l (z+gap z):Nat)⟩,z+gap z+8*HW l (z+gap z),0)
def KQ (p:Nat)(S:ShP):List UInt8:=F2 S.hd.inter S.hd.fmt 0 p [] 0 S.rows
def JW (p:Nat):List UInt8:=List.replicate (gap p) 48
def E6 (p:Nat)(S:ShP):List UInt8:=
 (D5 0++EF S.hd)++(KQ (p+(D5 0++EF S.hd).length) S++(JW (p+(D5 0++EF S.hd).length+(KQ (p+(D5 0++EF S.hd).length) S).length)++List.replicate (8*S.zeros.toNat) 48))
theorem Zh (k:Int):0<=BA k/\0<=BC k:=by
 unfold BA Bx;rcases JO k with rfl|rfl|rfl|rfl|rfl|rfl|⟨h,hv⟩
 case _|_|_|_|_|_=>decide +kernel
 unfold BC BG CS;rw[hv]
 decide
theorem rW {ct:CelT}{l:List UInt8}{p q:Nat}{S:ShP}(d:QB ct (AA l))(h:wtk ct l p=(S,q,0)):
  p%8=0/\q%8=0/\p<q/\(S.zeros<=262144->BT S=0)/\0<=S.zeros/\Seg (AA l) p q (E6 p S):=by
 unfold wtk at h;obtain⟨⟨hd,e,f⟩,r⟩:=Ai (shk l p);rw[r] at h;simp only at h;by_cases b:f=0
 case neg=>
  rw[Bc b] at h;injection h with _ h;injection h with _ h;exact absurd h b
 rw[Bb (fun x=>x b)] at h;subst b;obtain⟨⟨rs,z,g⟩,hr⟩:=Ai (D2 ct l hd.inter hd.fmt (BC hd.fmt).toNat 0 e [] 0);rw[hr] at h;simp only at h;by_cases c:g=0
 case neg=>
  rw[Bc c] at h;injection h with _ h;injection h with _ h;exact absurd h c
 rw[Bb (fun x=>x c)] at h;subst c;by_cases i:AD l z (gap z)=0
 case neg=>
  rw[Bc i] at h;injection h with _ h;injection h with _ h;cases h
 rw[Bb (fun x=>x i)] at h;injection h with e1 h;injection h with e2 _;obtain⟨t,hm,j⟩:=WP r;obtain⟨u,v⟩:=Zh hd.fmt;have k:e<=8*l.length:=by have:=j.2.1;rwa [BB] at this
 obtain⟨m,w,y,A⟩:=UZ d u _ 0 e [] 0 rs z k hr;have F:z<=8*l.length:=by have:=m.2.1;rwa [BB] at this
 have a:z+gap z<=8*l.length:=by unfold gap;omega
 have B:=Qu (l:=l) (p:=z) (n:=gap z) a i;have C:=W7 (l:=l) (p:=z+gap z) a;have D:=j.len;have E:=m.len;have s:(D5 0++EF hd).length=50+9*hd.supp.length:=by rw[B9,IB,QD];omega
 subst e1 e2;refine⟨t,by unfold gap;omega,by omega,fun o=>?_,by simp,?_⟩
 ·refine Sw ?_ ?_
  ·unfold EL;simp only[Am,Fb];refine⟨hm,⟨by simp,o⟩,?_,y⟩;rw[w,Cb v]
  ·exact A
 ·unfold E6 KQ JW;simp only[Do];rw[<-D,<-E];exact j.app (m.app (B.app C))
theorem Ro {α:Type}{a:α}{n:Nat}{A B:List α}(h:a∈A.take n):a∈(A++B).take n:=by
 rw[List.take_append];exact Ey _ h
theorem vH:∀inter:Bool,(49:UInt8)∈(KB inter).take 10:=by decide +kernel
theorem iU:∀(inter:Bool) (k:Fin 6) (c:Fin 4),EI inter (k.val:Nat)=true->(49:UInt8)∈(JT inter++(B1 inter (k.val:Nat) (c.val:Nat)).data.toList).take 10:=by decide +kernel
theorem qB {inter:Bool}{k:Int}(h:EI inter k=true):∃n:Nat,n<6/\k=n:=by
 unfold EI at h;simp only[B7,Am,Bm] at h;exact⟨k.toNat,by omega,by omega⟩
theorem mD {inter:Bool}{x y:Int}{c:Cel}(h:BE inter c=true):(49:UInt8)∈(DZ inter x y c).take 10:=by
 unfold BE at h;rw[Am] at h;unfold DZ;cases hn:c.stuff.toNat with
 |succ n=>
  rw[MD,Bf];exact Ro (vH inter)
 |zero=>
  show _∈List.take 10 ([]++_);rw[Ce];cases hs:c.skip with
  |true=>
   rw[Bc rfl]
   decide
  |false=>
   rw[Bb (by decide)];have h2:=h.2;rw[hs,Bb (by decide),Am,Am] at h2;obtain⟨n,b,d⟩:=qB h2.1.1;have a:=h2.1.1;rw[d] at a;have h1:=iU inter ⟨n,b⟩ ⟨D3 c,(Tl c).2.1⟩ a;rw[d];simp only[Bf];rw[<-Bf];exact Ro h1
theorem uP {S:List UInt8}{p q j:Nat}{r:List UInt8}(h:Seg S p q r)(hj:j<r.length):S[p+j]? =r[j]?:=by
 have e:=h.at;have:(S.drop p)[j]? =(r++S.drop q)[j]?:=by rw[e]
 rw[Az,Hs hj] at this;exact this
theorem dH {l:List UInt8}{p q:Nat}{r:List UInt8}(h:Seg (AA l) p q r)(h1:(49:UInt8)∈r.take 10):(B4 l p).2=false:=by
 cases hn:(B4 l p).2 with
 |false=>rfl
 |true=>
  have d:=Se hn;have f:=VE hn;rw[OU (by omega) d,IZ (by omega)] at hn;have ht:AD l (p+gap p) 22 / 32=1:=by
   by_cases ht:AD l (p+gap p) 22 / 32=1
   ·exact ht
   ·rw[Bb ht] at hn;exact absurd hn (by decide)
  have e:=KZ l (p+gap p) 16 6 (by omega);have g:AD l (p+gap p) 22=AD l (p+gap p) 16*64+AD l (p+gap p+16) 6:=e;have a:AD l (p+gap p) 16=0:=by omega
  obtain⟨j,hj,hv⟩:=J4.1 h1;have b:=hj;rw[Be] at b;have hs:=uP h (j:=j) (by omega);rw[Fh] at hv;rw[Fe (show j<r.length by omega),hv] at hs;by_cases c:j<gap p
  ·have:=(KR l p (gap p) (by omega)).1 d j c;rw[this] at hs;exact absurd hs (by decide)
  ·have:=(KR l (p+gap p) 16 (by omega)).1 a (j-gap p) (by omega);rw[show p+gap p+(j-gap p)=p+j by omega] at this;rw[this] at hs;exact absurd hs (by decide)
theorem eF {l:List UInt8}{p z n id q:Nat}(hn:n<32)(hi:id<4)(h1:1<=q)(v:q<32)(h:Seg (AA l) p z (HG p n id q)):hdk l p (n:Int)=((id:Int),(q:Int),z,0)/\B4 l p=((n:Int),true):=by
 unfold HG JH at h;rw[<-MJ,Bf] at h;obtain⟨d,e,h⟩:=h.cut;obtain⟨f,g,h⟩:=h.cut;obtain⟨w,i,j⟩:=h.cut;have a:Seg (AA l) d f (AI (32+n) 22):=g;obtain⟨k,m,x⟩:=EK e (Cc _);obtain⟨o,r,y⟩:=EK a (by show 32+n<4194304;omega);obtain⟨s,t,b2⟩:=EK i (by show id<4;omega);obtain⟨c,u,b3⟩:=EK j (by show q<32;omega);subst m r t u
 have b:B4 l p=((n:Int),true):=by
  rw[OU (by omega) k,IZ (by omega),o,Bc (by omega)];have:(32+n)%32=n:=by omega
  rw[this];rfl
 refine⟨?_,b⟩;rw[Rc (by rw[b]) (by rw[b]) (by omega) (by rw[c];omega),s,c]
def NZ (ct:CelT)(S:List UInt8):Prop:=∀inter x y p q c,Seg S p q (DZ inter x y c)->BE inter c=true->∃c',ct inter S x y p=(c',q,0)/\CG c' c=true
theorem lQ {c d:Cel}(h:CG c d=true):c.kind=d.kind/\c.mx=d.mx/\c.my=d.my:=by
 unfold CG GO at h;simp only[Am,Bm] at h;exact⟨h.2.1.1.1.2,h.2.1.2.1,h.2.1.2.2⟩
theorem WS {ct:CelT}{l:List UInt8}{inter:Bool}{k first:Int}(b:NZ ct (AA l)):∀(cs:List Cel) (p:Nat) (vs:List (Int×Int)) (q:Nat),Seg (AA l) p q (GB inter k first vs cs)->cs.all (BE inter)=true->AP (CC k) vs.length cs=true->
  ∃a,DD ct l inter k first cs.length p vs=(a,q,0)/\CM a=CM cs/\a.length=cs.length/\((a.zip cs).all fun p=>CG p.1 p.2)=true
 |[],p,vs,q,h,_,_=>by
  have e:q=p:=h.len;subst e;exact⟨[],rfl,rfl,rfl,rfl⟩
 |c::cs,p,vs,q,h,hm,hv=>by
  rw[GB] at h;obtain⟨z,h1,h2⟩:=h.cut;rw[Gy,Am] at hm;rw[AP,Am] at hv;obtain⟨c',hc,i⟩:=b inter _ _ p z c h1 hm.1;obtain⟨j,d,f⟩:=lQ i;have g:CC k vs.length c'=true:=by
   have:=hv.1;unfold CC at this ⊢;rw[j,d,f];exact this
  obtain⟨a,m,n,o,r⟩:=WS b cs z (vs++[(c.mx,c.my)]) q h2 hm.2 (by rw[B9];exact hv.2);refine⟨c'::a,?_,?_,by rw[Ao,Ao,o],?_⟩
  ·rw[Ao,DD,hc];simp only;rw[Bb (by decide),g,Bb (by decide),d,f,m];simp
  ·show (c'.mx,c'.my)::CM a=(c.mx,c.my)::CM cs;rw[d,f,n]
  ·rw[Le,Gy,i,r];rfl
theorem TU {ct:CelT}{l:List UInt8}{inter:Bool}{k:Int}(d:NZ ct (AA l))(m:0<BA k):∀(rs:List RowP) (i p:Nat) (vs:List (Int×Int)) (first:Int) (q:Nat),Seg (AA l) p q (F2 inter k i p vs first rs)->i+rs.length<=31->
  AP (DJ inter (BA k)) i rs=true->AP (CC k) vs.length (rs.flatMap (·.cels))=true->
  ∃a,D2 ct l inter k rs.length i p vs first=(a,q,0)/\a.length=rs.length/\((a.zip rs).all fun p=>rwB p.1 p.2)=true
 |[],i,p,vs,first,q,h,_,_,_=>by
  have e:q=p:=h.len;subst e;exact⟨[],rfl,rfl,rfl⟩
 |r::rs,i,p,vs,first,q,h,hi,hm,hv=>by
  rw[F2] at h;obtain⟨z,h1,h⟩:=h.cut;obtain⟨y,h2,h3⟩:=h.cut;rw[Ao] at hi;rw[AP,Am] at hm;rw[G7,QM,Am] at hv;have hr:=hm.1;unfold DJ at hr;rw[Am,Fb,Am] at hr;obtain⟨hc,b,f⟩:=hr;have n:=h1.len;have o:=h2.len;rw[<-n,<-o] at h3;obtain⟨g,s,t,u,v⟩:=WS d r.cels z vs y h2 f hv.1
  obtain⟨a,f1,f2,f3⟩:=TU d m rs (i+1) y (vs++CM r.cels) (ET k i first r) q h3 (by omega) hm.2 (by
   rw[B9];unfold CM;rw[Gc];exact hv.2)
  have w:(BA k).toNat=r.cels.length:=by omega
  have x:Hf l k i p first=(r.head,r.id,r.quant,z,ET k i first r,0):=by
   unfold Hf ET;unfold FH at h1;cases hd:r.head with
   |true=>
    rw[hd,Bc rfl] at b h1;rw[Fb] at b;obtain⟨A,B⟩:=eF (by omega) (by omega) (by omega) (by omega) h1;have j:IP l i p=true:=by
     unfold IP;rw[B];simp only[Am,Fb,Ff,Jj];omega
    rw[j,Bc rfl,Bc rfl,A];simp only[Jf,Jj,Jl];omega
   |false=>
    rw[hd,Bb (by decide)] at b h1;rw[Fb] at b;have e:z=p:=h1.len;subst e;have j:IP l i z=false:=by
     unfold IP;by_cases C:0<i
     ·cases hcs:r.cels with
      |nil=>rw[hcs] at hc;simp at hc;omega
      |cons c cs=>
       rw[hcs] at h2 f;rw[GB] at h2;rw[Gy,Am] at f;rw[dH h2 (Ro (mD f.1))];simp
     ·rw[Gp C];rfl
    rw[j,Bb (by decide),Bb (by decide),b.1,b.2]
  refine⟨⟨r.head,r.id,r.quant,g⟩::a,?_,by rw[Ao,Ao,f2],?_⟩
  ·rw[Ao,D2,x];simp only;rw[Bb (by decide),w,s];simp only;rw[Bb (by decide),t,f1];simp
  ·rw[Le,Gy,f3];unfold rwB;simp only[Jk,Gw,L9,Am,Fb];exact⟨u,v⟩
theorem Xk {l:List UInt8}:∀(z n p q:Nat),z<=n->q=p+8*z->q<=8*l.length->Seg (AA l) p q (List.replicate (8*z) 48)->(q=8*l.length\/(AX l q).2=0)->HF l n p=some z
 |0,n,p,q,_,hq,_,_,a=>by
  have e:q=p:=by omega
  subst e;have hc:(AX l q).2=0\/q=8*l.length:=a.symm;cases n with
  |zero=>rw[HF,Bc hc]
  |succ n=>rw[HF,Bc hc]
 |z+1,0,p,q,h,_,_,_,_=>by omega
 |z+1,n+1,p,q,h,hq,hin,hs,a=>by
  have c:=hs;rw[show 8*(z+1)=8+8*z by omega,<-Lc] at c;obtain⟨m,g,o⟩:=c.cut;have r:m=p+8:=by have:=g.len;rw[Bp] at this;exact this
  subst r;rw[<-MJ] at g hs;obtain⟨t8,_,s⟩:=EK g (by decide);obtain⟨t,_,y⟩:=EK hs (Cc _);have j:¬ ((AX l p).2=0\/p=8*l.length):=by
   rintro(b|b)
   ·by_cases d:p+22<=8*l.length
    ·rw[IZ d] at b;have ht:AD l p 22 / 32=1:=by
      by_cases ht:AD l p 22 / 32=1
      ·exact ht
      ·rw[Bb ht] at b;exact absurd b (by decide)
     have u:∀i,i<22->(AA l)[p+i]? =some 48:=by
      intro i hi;by_cases v:i<8*(z+1)
      ·exact(KR l p (8*(z+1)) (by omega)).1 t i v
      ·rcases a with a|a
       ·omega
       ·have f:q+22<=8*l.length:=by
         by_cases w:q+22<=8*l.length
         ·exact w
         ·rw[MO (by omega) (by omega)] at a;exact absurd a (by decide)
        rw[IZ f] at a;have x:AD l q 22 / 32=1:=by
         by_cases ht:AD l q 22 / 32=1
         ·exact ht
         ·rw[Bb ht] at a;exact absurd a (by decide)
        have e:AD l q 22=AD l q 16*64+AD l (q+16) 6:=KZ l q 16 6 (by omega);have k:AD l q 16=0:=by omega
        have:=(KR l q 16 (by omega)).1 k (i-8*(z+1)) (by omega);rw[show q+(i-8*(z+1))=p+i by omega] at this;exact this
     have:=(KR l p 22 d).2 u;omega
    ·rw[MO (by omega) (by omega)] at b;exact absurd b (by decide)
   ·omega
  rw[HF,Bb j,Bc ⟨s,t8⟩,Xk z n (p+8) q (by omega) (by omega) hin o a]
  rfl
theorem wL {ct:CelT}{l:List UInt8}{p q:Nat}{S:ShP}(k:NZ ct (AA l))(w:p%8=0)(y:BT S=0)(h:Seg (AA l) p q (E6 p S))(z:q=8*l.length\/(AX l q).2=0):
  ∃t,wtk ct l p=(t,q,0)/\shB t S=true:=by
 obtain⟨h1,h2⟩:=XM y;unfold EL at h1;simp only[Am,Fb] at h1;obtain⟨hm,⟨A,B⟩,hn,hr⟩:=h1;obtain⟨hd,rows,d⟩:=S;dsimp only at hm A B hn hr h2;unfold E6 KQ JW at h;dsimp only at h;obtain⟨a,u,h⟩:=h.cut;obtain⟨b,m,h⟩:=h.cut;obtain⟨c,g,i⟩:=h.cut;have C:=u.len;have v:=m.len;have j:=g.len;have D:=i.len;rw[<-C] at m g v j;rw[<-v] at g j
 rw[Bp] at j D;have n:q<=8*l.length:=by have:=i.2.1;rwa [BB] at this
 have E:=(KM.1 hm).2.1;have o:0<BA hd.fmt/\BC hd.fmt<=18:=by
  have e:hd.fmt=1\/hd.fmt=2\/hd.fmt=3\/hd.fmt=4\/hd.fmt=5\/hd.fmt=6:=by omega
  rcases e with e|e|e|e|e|e <;> rw[e] <;> decide +kernel
 have F:=gY w hm u;obtain⟨r,f1,f2,f3⟩:=TU k o.1 rows 0 a [] 0 b m (by omega) hr h2;have G:(BC hd.fmt).toNat=rows.length:=by omega
 have f:AD l b (gap b)=0:=by
  rw[<-MJ] at g;exact(EK g (Cc _)).1
 have H:HF l l.length (b+gap b)=some d.toNat:=by
  rw[j] at i;exact Xk d.toNat l.length (b+gap b) q (by omega) (by omega) n i z
 have s:HW l (b+gap b)=d.toNat:=by unfold HW;rw[H];rfl
 refine⟨⟨hd,r,d⟩,?_,?_⟩
 ·unfold wtk;rw[F];simp only;rw[Bb (by decide),G,f1];simp only;rw[Bb (by decide),Bb (fun x=>x f),s];have I:((d.toNat:Nat):Int)=d:=by omega
  have J:b+gap b+8*d.toNat=q:=by omega
  rw[I,J]
 ·unfold shB;rw[YA];simp only[Jk,Gw,Am,Fb];exact⟨f2,f3⟩
theorem WF {p q:Nat}(h:p%8=q%8):gap p=gap q:=by unfold gap;rw[h]
theorem xD {p q:Nat}(h:p%8=q%8)(n a b:Nat):HG p n a b=HG q n a b:=by unfold HG;rw[WF h]
theorem XI {inter:Bool}{k:Int}:∀(rs:List RowP) (i p q:Nat) (vs:List (Int×Int)) (first:Int),p%8=q%8->F2 inter k i p vs first rs=F2 inter k i q vs first rs
 |[],_,_,_,_,_,_=>rfl
 |r::rs,i,p,q,vs,first,h=>by
  have a:FH i p r=FH i q r:=by unfold FH;rw[xD h]
  rw[F2,F2,a]
  congr 2
  exact XI rs _ _ _ _ _ (by omega)
theorem V9 {p q:Nat}(h:p%8=q%8)(S:ShP):E6 p S=E6 q S:=by
 unfold E6 KQ;have c:∀a:Nat,F2 S.hd.inter S.hd.fmt 0 (p+a) [] 0 S.rows=F2 S.hd.inter S.hd.fmt 0 (q+a) [] 0 S.rows:=fun a=>XI _ _ _ _ _ _ (by omega);rw[c];have d:∀a b:Nat,JW (p+a+b)=JW (q+a+b):=fun a b=>by unfold JW;rw[WF (p:=p+a+b) (q:=q+a+b) (by omega)]
 rw[d]
theorem dK (p:Nat)(S:ShP):50<=(E6 p S).length:=by
 unfold E6;rw[B9,B9,IB,QD];omega
theorem VL:∀{l m:List UInt8},AA l=AA m->l=m
 |[],[],_=>rfl
 |[],c::m,h=>by have:=C8 List.length h;rw[BB,BB] at this;simp at this
 |c::l,[],h=>by have:=C8 List.length h;rw[BB,BB] at this;simp at this
 |c::l,d::m,h=>by
  rw[PK,PK] at h;obtain⟨h1,h2⟩:=List.append_inj h (by rw[BN,BN]);have h3:=C8 num h1;rw[IM,IM] at h3;have hc:=c.toNat_lt;have hd:=d.toNat_lt;have e:c=d:=Hp.1 (by omega);rw[e,VL h2]
theorem sG {l:List UInt8}{a b:Nat}{r:List UInt8}(h:Seg (AA l) (8*a) (8*b) r):FF r=(l.drop a).take (b-a):=by
 obtain⟨h1,h2,h3⟩:=h;rw[BB] at h2;have c:=QW l a (b-a) (by omega);rw[show 8*(b-a)=8*b-8*a by omega,h3] at c;have hr:AK r=true:=by rw[<-c];exact K0 _
 apply VL;rw[Vx r hr,c];unfold II;have hl:r.length%8=0:=by rw[<-c,BB];omega
 rw[show (8-r.length%8)%8=0 by omega];exact Ew r
def FX (r:List UInt8)(S:ShP):List UInt8:=r++(JW r.length++E6 (r.length+gap r.length) S)
def HX (r:List UInt8)(S:ShP):List UInt8:=E2 r 0++EF S.hd
def H8 (r:List UInt8)(S:ShP):List UInt8:=HX r S++KQ (HX r S).length S
theorem QU (r:List UInt8)(S:ShP):(HX r S).length=r.length+gap r.length+(D5 0++EF S.hd).length:=by
 unfold HX;rw[B9,RY,B9,IB];omega
theorem SL (r:List UInt8)(S:ShP):FX r S=(H8 r S++List.replicate (gap (H8 r S).length) 48)++List.replicate (8*S.zeros.toNat) 48:=by
 have hl:(H8 r S).length=r.length+gap r.length+(D5 0++EF S.hd).length+(KQ (r.length+gap r.length+(D5 0++EF S.hd).length) S).length:=by
  unfold H8;rw[B9,QU]
 rw[hl];unfold FX E6 H8;rw[QU];unfold HX E2 JW;simp only[Bf]
def GH (inter:Bool)(k:Int)(i:Nat)(R:List UInt8)(vs:List (Int×Int))(first:Int)(rs:List RowP):List UInt8:=R++F2 inter k i R.length vs first rs
def IS (inter:Bool)(k first:Int)(R:List UInt8)(vs:List (Int×Int))(cs:List Cel):List UInt8:=R++GB inter k first vs cs
theorem sM (inter:Bool)(k first:Int)(R:List UInt8)(vs:List (Int×Int)):IS inter k first R vs []=R:=Ew R
theorem yX (inter:Bool)(k first:Int)(R:List UInt8)(vs:List (Int×Int))(c:Cel)(cs:List Cel):
  IS inter k first R vs (c::cs)=IS inter k first (R++DZ inter (DK vs (Bx k) first).1 (DK vs (Bx k) first).2 c) (vs++[(c.mx,c.my)]) cs:=by
 unfold IS;rw[GB,Bf]
theorem tN (inter:Bool)(k:Int)(i:Nat)(R:List UInt8)(vs:List (Int×Int))(first:Int):GH inter k i R vs first []=R:=Ew R
theorem dI (inter:Bool)(k:Int)(i:Nat)(R:List UInt8)(vs:List (Int×Int))(first:Int)(r:RowP)(rs:List RowP):
  GH inter k i R vs first (r::rs)=GH inter k (i+1) (IS inter k (ET k i first r) (R++FH i R.length r) vs r.cels) (vs++CM r.cels) (ET k i first r) rs:=by
 unfold GH IS;rw[F2];simp only[B9,Bf,Ay]
theorem WN (r:List UInt8)(S:ShP):GH S.hd.inter S.hd.fmt 0 (HX r S) [] 0 S.rows=H8 r S:=rfl
theorem Zg (r:List UInt8)(S:ShP):(FX r S).length%8=0:=by
 rw[SL];simp only[B9,Bp];unfold gap;omega
theorem eG (S:ShP):FX [] S=E6 0 S:=rfl
theorem qQ {r:List UInt8}(h:r.length%8=0)(S:ShP):FX r S=r++E6 0 S:=by
 unfold FX JW;have a:gap r.length=0:=by unfold gap;omega
 rw[a,V9 (q:=0) (by omega)]
 rfl
def DV {α:Type}(E:List α×Nat×Int)(d:List α)(T:List α×Nat×Int):Prop:=(T.2.2≠0->E.2.2=T.2.2)/\(T.2.2=0->E=(d++T.1,T.2.1,0))
theorem DV.start {α:Type}(E:List α×Nat×Int):DV E [] E:=⟨fun _=>rfl,fun h=>by obtain⟨a,b,c⟩:=E;simp only at h;subst h;rfl⟩
theorem DV.bad {α:Type}{E T:List α×Nat×Int}{d:List α}{f:Int}(h:DV E d T)(a:T.2.2=f)(b:f≠0):E.2.2=f:=by
 subst a;exact h.1 b
theorem DV.done {α:Type}{E:List α×Nat×Int}{d:List α}{p:Nat}(h:DV E d ([],p,0)):E=(d,p,0):=by
 have:=h.2 rfl;rwa [Ew] at this
theorem DV.step {α:Type}{E T b:List α×Nat×Int}{d:List α}{a:α}(h:DV E d T)(e:T=(if b.2.2≠0 then ([],T.2.1,b.2.2) else (a::b.1,b.2.1,0))):DV E (d++[a]) b:=by
 by_cases c:b.2.2=0
 ·rw[Bb (fun x=>x c)] at e;refine⟨fun h1=>absurd c h1,fun _=>?_⟩;have:=h.2 (by rw[e]);rw[this,e,Bf]
  rfl
 ·rw[Bc c] at e;exact⟨fun _=>h.bad (by rw[e]) c,fun h1=>absurd h1 c⟩
section
variable {ct:CelT}{l:List UInt8}{inter:Bool}{k first:Int}{n p:Nat}{vs:List (Int×Int)}
theorem rC {E:List Cel×Nat×Int}{d:List Cel}{c:Cel}{q:Nat}{f:Int}(h:DV E d (DD ct l inter k first (n+1) p vs))(hc:ct inter (AA l) (DK vs (Bx k) first).1 (DK vs (Bx k) first).2 p=(c,q,f))(a:f≠0):E.2.2=f:=by
 refine h.bad ?_ a;rw[DD,hc];simp only;rw[Bc a]
theorem iK {E:List Cel×Nat×Int}{d:List Cel}{c:Cel}{q:Nat}(h:DV E d (DD ct l inter k first (n+1) p vs))(hc:ct inter (AA l) (DK vs (Bx k) first).1 (DK vs (Bx k) first).2 p=(c,q,0))(hv:CC k vs.length c=false):E.2.2=8:=by
 refine h.bad ?_ (by decide);rw[DD,hc];simp only;rw[Bb (fun x=>x rfl),hv,Bc rfl]
theorem dD {E:List Cel×Nat×Int}{d:List Cel}{c:Cel}{q:Nat}(h:DV E d (DD ct l inter k first (n+1) p vs))(hc:ct inter (AA l) (DK vs (Bx k) first).1 (DK vs (Bx k) first).2 p=(c,q,0))(hv:CC k vs.length c=true):DV E (d++[c]) (DD ct l inter k first n q (vs++[(c.mx,c.my)])):=by
 refine h.step ?_;rw[DD,hc];simp only;rw[Bb (fun x=>x rfl),hv,Bb (by decide)];obtain⟨⟨cs,z,g⟩,hr⟩:=Ai (DD ct l inter k first n q (vs++[(c.mx,c.my)]))
 rw[hr];by_cases a:g=0
 ·subst a
  rfl
 ·simp only;rw[Bc a,Bc a]
theorem uC {i:Nat}{E:List RowP×Nat×Int}{d:List RowP}{hd:Bool}{id qu fs f:Int}{z:Nat}(h:DV E d (D2 ct l inter k (n+1) i p vs first))(b:Hf l k i p first=(hd,id,qu,z,fs,f))(a:f≠0):E.2.2=f:=by
 refine h.bad ?_ a;rw[D2,b];simp only;rw[Bc a]
theorem bG {i:Nat}{E:List RowP×Nat×Int}{d:List RowP}{hd:Bool}{id qu fs g:Int}{z q:Nat}{cs:List Cel}(h:DV E d (D2 ct l inter k (n+1) i p vs first))(b:Hf l k i p first=(hd,id,qu,z,fs,0))(hc:DD ct l inter k fs (BA k).toNat z vs=(cs,q,g))(a:g≠0):E.2.2=g:=by
 refine h.bad ?_ a;rw[D2,b];simp only;rw[Bb (fun x=>x rfl),hc];simp only;rw[Bc a]
theorem sE {i:Nat}{E:List RowP×Nat×Int}{d:List RowP}{hd:Bool}{id qu fs:Int}{z q:Nat}{cs:List Cel}(h:DV E d (D2 ct l inter k (n+1) i p vs first))(b:Hf l k i p first=(hd,id,qu,z,fs,0))(hc:DD ct l inter k fs (BA k).toNat z vs=(cs,q,0)):
  DV E (d++[⟨hd,id,qu,cs⟩]) (D2 ct l inter k n (i+1) q (vs++CM cs) fs):=by
 refine h.step ?_;rw[D2,b];simp only;rw[Bb (fun x=>x rfl),hc];simp only;rw[Bb (fun x=>x rfl)];obtain⟨⟨rs,y,e⟩,hr⟩:=Ai (D2 ct l inter k n (i+1) q (vs++CM cs) fs);rw[hr];by_cases a:e=0
 ·subst a
  rfl
 ·simp only;rw[Bc a,Bc a]
end
section
variable {ct:CelT}{l:List UInt8}{p q z:Nat}{h:Shd}{rs:List RowP}{f g:Int}
theorem oA (a:shk l p=(h,q,f))(b:f≠0):wtk ct l p=(JK,p,f):=by
 unfold wtk;rw[a];simp only;rw[Bc b]
theorem uA (a:shk l p=(h,q,0))(hr:(D2 ct l h.inter h.fmt (BC h.fmt).toNat 0 q [] 0).2.2=g)(b:g≠0):wtk ct l p=(JK,p,g):=by
 unfold wtk;rw[a];simp only;rw[Bb (fun x=>x rfl)];obtain⟨⟨rs,z,e⟩,h2⟩:=Ai (D2 ct l h.inter h.fmt (BC h.fmt).toNat 0 q [] 0);rw[h2] at hr ⊢;simp only at hr ⊢;subst hr;rw[Bc b]
theorem jH (a:shk l p=(h,q,0))(hr:D2 ct l h.inter h.fmt (BC h.fmt).toNat 0 q [] 0=(rs,z,0))(b:AD l z (gap z)≠0):wtk ct l p=(JK,p,5):=by
 unfold wtk;rw[a];simp only;rw[Bb (fun x=>x rfl),hr];simp only;rw[Bb (fun x=>x rfl),Bc b]
theorem mN (a:shk l p=(h,q,0))(hr:D2 ct l h.inter h.fmt (BC h.fmt).toNat 0 q [] 0=(rs,z,0))(b:AD l z (gap z)=0):wtk ct l p=(⟨h,rs,(HW l (z+gap z):Nat)⟩,z+gap z+8*HW l (z+gap z),0):=by
 unfold wtk;rw[a];simp only;rw[Bb (fun x=>x rfl),hr];simp only;rw[Bb (fun x=>x rfl),Bb (fun x=>x b)]
end
theorem XN:∀(L:List UInt8),(∀i,i<(L.takeWhile (· == 48)).length->L[i]? =some 48)/\L[(L.takeWhile (· == 48)).length]?≠some 48
 |[]=>⟨fun i hi=>by simp at hi,by simp⟩
 |c::L=>by
  by_cases hc:c=48
  ·obtain⟨h1,h2⟩:=XN L;rw[Fq (by simpa using hc),Ao];refine⟨fun i hi=>?_,by simpa using h2⟩
   match i,hi with
   |0,_=>rw[hc];rfl
   |i+1,hi=>simpa using h1 i (by omega)
  ·rw[Fr (by simpa using hc)];refine⟨fun i hi=>by simp at hi,?_⟩
   simpa using hc
theorem PX (l:List UInt8)(p:Nat):(∀i,i<C0 l p->(AA l)[p+i]? =some 48)/\(AA l)[p+C0 l p]?≠some 48:=by
 have h:=XN ((AA l).drop p);unfold C0;rw[Bb (by omega),Do];refine⟨fun i hi=>?_,?_⟩
 ·have:=h.1 i hi;rwa [Az] at this
 ·have:=h.2;rwa [Az] at this
theorem SD {l:List UInt8}{p:Nat}(a:p<=8*l.length):p+C0 l p<=8*l.length:=by
 rcases Ax (8*l.length) (p+C0 l p) with h|h
 ·have:=(PX l p).1 (8*l.length-p) (by omega);rw[Fp (by rw[BB];omega)] at this;cases this
 ·exact h
theorem Sy {l:List UInt8}{p n:Nat}(h:p+n<=8*l.length):AD l p n=0↔n<=C0 l p:=by
 rw[KR l p n h];constructor
 ·intro a;rcases Ax (C0 l p) n with h1|h1
  ·exact absurd (a _ h1) (PX l p).2
  ·exact h1
 ·exact fun h1 i hi=>(PX l p).1 i (by omega)
theorem kQ {l:List UInt8}{p n:Nat}(h:n<=C0 l p):C0 l ((p+n:Nat):Int)=C0 l p-n:=by
 obtain⟨h1,h2⟩:=PX l p;refine RO (fun i hi=>?_) ?_
 ·rw[Ay];exact h1 (n+i) (by omega)
 ·rw[show p+n+(C0 l p-n)=p+C0 l p by omega];exact h2
theorem yD {l:List UInt8}{p:Nat}(f:p<=8*l.length):(AX l (p:Int)).2=0↔p+22<=8*l.length/\C0 l p=16:=by
 rcases Ax (8*l.length) (p+22) with h|h
 ·rw[MO f h];constructor
  ·intro h;cases h
  ·omega
 ·rw[IZ h];have e:=KZ l p 16 6 (by omega);have g:=KZ l p 17 5 (by omega);have i:=KZ l p 16 1 (by omega);have j:=EA l (p+17) 5;have k:=EA l (p+16) 1;have a:=Sy (l:=l) (p:=p) (n:=16) (by omega);have b:=Sy (l:=l) (p:=p) (n:=17) (by omega);simp only[Nat.reduceAdd,Nat.reducePow] at e g i j k;constructor
  ·intro h1;by_cases ht:AD l p 22 / 32=1
   ·have d:AD l p 17=1:=by omega
    have c:AD l p 16=0:=by omega
    have:=a.1 c;have:=fun h=>b.2 h;refine⟨h,?_⟩;omega
   ·rw[Bb ht] at h1;cases h1
  ·rintro⟨_,h1⟩;have c:AD l p 16=0:=a.2 (by omega);have d:AD l p 17≠0:=fun m=>by have:=b.1 m;omega
   rw[Bc (by omega)]
def LS (n left:Nat):Nat:=if n=left then n / 8 else if n%8=0/\16<=n then (n-16) / 8 else 0
theorem Zl (l:List UInt8):∀(m p:Nat),p<=8*l.length->p%8=0->8*l.length-p<=8*m->
  HF l m p=if C0 l p=8*l.length-p then some (C0 l p / 8) else if C0 l p%8=0/\16<=C0 l p then some ((C0 l p-16) / 8) else none
 |0,p,hp,h8,hm=>by
  have hn:=SD hp;rw[HF,Bc (.inr (by omega)),Bc (by omega)];rw[show C0 l p=0 by omega]
 |m+1,p,hp,h8,hm=>by
  have hn:=SD hp;have c:=yD hp;rw[HF];by_cases h1:(AX l (p:Int)).2=0\/p=8*l.length
  ·rw[Bc h1];rcases h1 with h1|h1
   ·obtain⟨a,b⟩:=c.1 h1;rw[b,Bb (by omega),Bc (by omega)]
   ·rw[show C0 l p=0 by omega,Bc (by omega)]
  ·rw[Bb h1];have h2:¬ (p+22<=8*l.length/\C0 l p=16):=fun h=>h1 (.inl (c.2 h));have h3:p+8<=8*l.length:=by
    have:p≠8*l.length:=fun h=>h1 (.inr h);omega
   have d:=Sy h3;by_cases h4:AD l p 8=0
   ·rw[Bc ⟨h3,h4⟩];have e:=d.1 h4;rw[Zl l m (p+8) h3 (by omega) (by omega),kQ e];by_cases f:C0 l p=8*l.length-p
    ·rw[Bc f,Bc (by omega),Ld]
     congr 1
     omega
    ·rw[Bb f,Bb (by omega)];by_cases g:C0 l p%8=0/\16<=C0 l p
     ·rw[Bc g,Bc (by omega),Ld]
      congr 1
      omega
     ·rw[Bb g,Bb (by omega)]
      rfl
   ·rw[Bb (fun h=>h4 h.2)];have e:C0 l p<8:=by
     rcases Ax (C0 l p) 8 with h|h
     ·exact h
     ·exact absurd (d.2 h) h4
    rw[Bb (by omega),Bb (by omega)]
theorem oI {l:List UInt8}{p:Nat}(a:p<=8*l.length)(b:p%8=0):HW l p=LS (C0 l p) (8*l.length-p):=by
 unfold HW LS;rw[Zl l l.length p a b (by omega)]
 split
 ·rfl
 ·split <;> rfl
end Go.Proofs.YtjjmalchelniiaaGreatDoor