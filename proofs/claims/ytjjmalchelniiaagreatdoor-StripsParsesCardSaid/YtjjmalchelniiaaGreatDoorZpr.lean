/- No condition. -/
import Derived.Test.YtjjmalchelniiaaGreatDoorZpb
import Derived.Lib.Bytealg
namespace Go.Proofs.YtjjmalchelniiaaGreatDoor
open Go.RowKit
theorem vM{p:Prop}(h:p:=by cases h):p:=h
theorem vN{p:Prop}(h:p:=by simpa using hi):p:=h
theorem vO{p:Prop}(h:p:=by simpa using h1):p:=h
theorem vP{p:Prop}(h:p:=by simpa using h2):p:=h
abbrev J8:=@Bool.and_eq_true
abbrev J9:=@List.mem_cons
abbrev Ja:=@List.mem_cons_self
abbrev Jb:=@List.getElem?_eq_getElem
abbrev Jc:=@Bool.eq_iff_iff
abbrev Jd:=@List.take_succ_cons
abbrev Je:=@Nat.not_lt_zero
abbrev Jf:=@List.mem_filter
abbrev Jg:=@List.isPrefixOf_iff_prefix
abbrev Jh:=@List.getElem_of_mem
abbrev Ji:=@List.getElem_cons_zero
abbrev Jj:=@Bool.true_and
abbrev Jk:=@List.take_length
abbrev Jl:=@UInt8.toNat_inj
abbrev Jm:=@Bool.false_eq_true
abbrev Jn:=@List.any_eq_true
abbrev Jo:=@List.pairwise_iff_getElem
abbrev Jp:=@List.prefix_append
abbrev Jq:=@if_false
abbrev Jr:=@List.pairwise_cons
abbrev Js:=@beq_self_eq_true
abbrev Jt:=@List.isPrefixOf_cons_cons
abbrev Ju:=@Bool.not_false
abbrev Jv:=@Bool.and_false
abbrev Jw:=@if_true
abbrev Jy:=@List.filter_cons
abbrev Jz:=@List.filter_filter
abbrev K5:=@UInt8.lt_asymm
abbrev K8:=@List.filter_congr
abbrev K9:=@List.take_prefix
abbrev Ka:=@UInt8.lt_irrefl
def leL:List UInt8->List UInt8->Bool
 |[],_=>true
 |_::_,[]=>false
 |a::l,b::m=>if a<b then true else if b<a then false else leL l m
theorem P2:∀a b:List UInt8,decide (Lib.compareBytes a b<0) = !leL b a
 |[],[]=>rfl
 |[],_::_=>rfl
 |_::_,[]=>rfl
 |a::l,b::m=>by
  unfold Lib.compareBytes leL;by_cases h1:a<b
  ·have h2:¬ b<a:=K5 h1;simp[h1,h2]
  ·by_cases h2:b<a
   ·simp[h1,h2]
   ·simp only[h1,h2,Jq];exact P2 l m
theorem Sl {a b:UInt8}(h1:¬ a<b)(h2:¬ b<a):a=b:=UInt8.le_antisymm (UInt8.not_lt.1 h2) (UInt8.not_lt.1 h1)
theorem Qld (a:List UInt8):leL a a=true:=by
 induction a with
 |nil=>rfl
 |cons x l b=>unfold leL;simp[UInt8.lt_irrefl,b]
theorem WT:∀a b:List UInt8,leL a b=true\/leL b a=true
 |[],_=>.inl rfl
 |_::_,[]=>.inr rfl
 |a::l,b::m=>by
  unfold leL;by_cases h1:a<b
  ·simp[h1]
  ·by_cases h2:b<a
   ·simp[h2]
   ·simp only[h1,h2,Jq];exact WT l m
theorem TS:∀{a b c:List UInt8},leL a b=true->leL b c=true->leL a c=true
 |[],_,_,_,_=>rfl
 |_::_,[],_,h,_=>vM
 |_::_,_::_,[],_,h=>vM
 |a::l,b::m,c::n,h1,h2=>by
  unfold leL at h1 h2 ⊢;by_cases x1:a<b
  ·by_cases x2:b<c
   ·simp[UInt8.lt_trans x1 x2]
   ·by_cases d:c<b
    ·simp[x2,d] at h2
    ·have:=Sl x2 d;subst this;simp[x1]
  ·by_cases y1:b<a
   ·simp[x1,y1] at h1
   ·have:=Sl x1 y1;subst this;simp only[x1,Jq] at h1;by_cases x2:a<c
    ·simp[x2]
    ·by_cases d:c<a
     ·simp[x2,d] at h2
     ·simp only[x2,d,Jq] at h2 ⊢;exact TS h1 h2
theorem Y1:∀{a b:List UInt8},leL a b=true->leL b a=true->a=b
 |[],[],_,_=>rfl
 |[],_::_,_,h=>vM
 |_::_,[],h,_=>vM
 |a::l,b::m,h1,h2=>by
  unfold leL at h1 h2;by_cases x1:a<b
  ·have x2:¬ b<a:=K5 x1;simp[x1,x2] at h2
  ·by_cases x2:b<a
   ·simp[x1,x2] at h1
   ·simp only[x1,x2,Jq] at h1 h2;rw[Sl x1 x2,Y1 h1 h2]
theorem Yb:∀{a b:List UInt8},a.isPrefixOf b=true->leL a b=true
 |[],_,_=>rfl
 |_::_,[],h=>vM
 |x::a,y::b,h=>by
  rw[Jt,J8,Bj] at h;obtain⟨rfl,h⟩:=h;unfold leL;simp only[Ka,Jq];exact Yb h
theorem bU:∀{a b c:List UInt8},leL a b=true->leL b c=true->a.isPrefixOf c=true->a.isPrefixOf b=true
 |[],_,_,_,_,_=>sZ
 |_::_,_,[],_,_,h=>vM
 |_::_,[],_::_,h,_,_=>vM
 |x::a,z::b,y::c,h1,h2,h=>by
  rw[Jt,J8,Bj] at h;obtain⟨rfl,h⟩:=h;unfold leL at h1 h2;by_cases x1:x<z
  ·have x2:¬ z<x:=K5 x1;simp[x1,x2] at h2
  ·by_cases x2:z<x
   ·simp[x1,x2] at h1
   ·simp only[x1,x2,Jq] at h1 h2;rw[Jt,Sl x1 x2,Js,Jj];exact bU h1 h2 h
theorem JE (a:List UInt8):a.isPrefixOf a=true:=sZ
theorem F7 {a b:List UInt8}:a.isPrefixOf b=true↔b.take a.length=a:=by
 rw[Jg];exact⟨fun h=>(List.prefix_iff_eq_take.1 h).symm,fun h=>List.prefix_iff_eq_take.2 h.symm⟩
theorem HH {a b:List UInt8}(h:a.isPrefixOf b=true):a.length<=b.length:=by
 have:=Bz List.length (F7.1 h);rw[Be] at this;omega
theorem OE (b:List UInt8)(n:Nat):(b.take n).isPrefixOf b=true:=by
 rw[Jg];exact K9 n b
theorem NR {a b c:List UInt8}(h1:a.isPrefixOf b=true)(h2:b.isPrefixOf c=true):a.isPrefixOf c=true:=by
 rw[Jg] at *;exact h1.trans h2
def CJ (l:List (List UInt8)):Prop:=l.Pairwise fun a b=>a.isPrefixOf b=false/\b.isPrefixOf a=false
theorem P1 {l m:List (List UInt8)}(h:l.Perm m):CJ l↔CJ m:=h.pairwise_iff fun h=>⟨h.2,h.1⟩
theorem NY {l:List (List UInt8)}(h:CJ l){x y:List UInt8}(c:x∈l)(d:y∈l)(b:x.isPrefixOf y=true):x=y:=by
 obtain⟨i,hi,rfl⟩:=Jh c;obtain⟨j,hj,rfl⟩:=Jh d;rcases Nat.lt_trichotomy i j with a|rfl|a
 ·have:=(Jo.1 h i j hi hj a).1;rw[b] at this;cases this
 ·rfl
 ·have:=(Jo.1 h j i hj hi a).2;rw[b] at this;cases this
theorem QI {l:List (List UInt8)}:CJ l↔∀i j,(hi:i<l.length)->(hj:j<l.length)->i≠j->(l[i].isPrefixOf l[j])=false:=by
 unfold CJ;rw[Jo];constructor
 ·intro h i j hi hj b;rcases Nat.lt_or_gt_of_ne b with a|a
  ·exact(h i j hi hj a).1
  ·exact(h j i hj hi a).2
 ·exact fun h i j hi hj a=>⟨h i j hi hj sX,h j i hj hi sX⟩
theorem VJ:∀{l:List (List UInt8)},l.Pairwise (fun a b=>leL a b=true)->(∀i,(h:i+1<l.length)->(l[i].isPrefixOf l[i+1])=false)->CJ l
 |[],_,_=>List.Pairwise.nil
 |[a],_,_=>List.pairwise_singleton _ _
 |a::c::l,hs,hn=>by
  have d:=hn 0 sZ;simp only[Ji,Bn,List.getElem_cons_succ] at d;have m:CJ (c::l):=VJ (Jr.1 hs).2 fun i hi=>by
   have:=hn (i+1) vN
   simpa using this
  have j:=(Jr.1 hs).1;have hc:=(Jr.1 (Jr.1 hs).2).1;have k:∀b∈c::l,a.isPrefixOf b=false:=by
   intro b f;cases hab:a.isPrefixOf b with
   |false=>rfl
   |true=>
    rcases J9.1 f with rfl|g
    ·rw[hab] at d;cases d
    ·rw[bU (j c Ja) (hc b g) hab] at d;cases d
  refine Jr.2 ⟨fun b f=>⟨k b f,?_⟩,m⟩;cases hba:b.isPrefixOf a with
  |false=>rfl
  |true=>
   have e:=Y1 (Yb hba) (j b f);have:=k b f;rw[e,JE] at this;cases this
def BW (r:List UInt8):Bool:=!r.isEmpty&&decide (r.length<=24)&&AH r
theorem cQ {r:List UInt8}(h1:r≠[])(h2:r.length<=24)(h3:AH r=true):BW r=true:=by
 unfold BW;simp[h1,h2,h3]
theorem GS {r:List UInt8}(h:BW r=true):r≠[]/\r.length<=24/\AH r=true:=by
 unfold BW at h;simp at h;exact⟨h.1.1,h.1.2,h.2⟩
def tk (rows:List (List UInt8))(b:List UInt8):Nat->Nat->Int×Nat
 |0,_=>(3,0)
 |k+1,n=>if b.length<n then (2,0) else if b.take n∈rows then (0,n) else if rows.any (fun r=>(b.take n).isPrefixOf r)=true then tk rows b k (n+1) else (3,0)
theorem Rp {l m:List (List UInt8)}(h:l.Perm m)(b:List UInt8):∀k n,tk l b k n=tk m b k n
 |0,_=>rfl
 |k+1,n=>by
  have e:(l.any fun r=>(b.take n).isPrefixOf r)=m.any fun r=>(b.take n).isPrefixOf r:=by
   rw[Jc,Jn,Jn];exact⟨fun⟨x,a,c⟩=>⟨x,h.mem_iff.1 a,c⟩,fun⟨x,a,c⟩=>⟨x,h.mem_iff.2 a,c⟩⟩
  unfold tk;simp only[h.mem_iff,e,Rp h b k (n+1)]
theorem OV {l:List (List UInt8)}{b:List UInt8}:∀{k n m:Nat},tk l b k n=(0,m)->b.take m∈l/\m<=b.length/\n<=m
 |0,_,_,h=>vM
 |k+1,n,m,h=>by
  unfold tk at h
  split at h
  ·cases h
  ·split at h
   ·rename_i h1 h2
    injection h with _ h;subst h;exact⟨h2,sX,B9 _⟩
   ·split at h
    ·have:=OV h;exact⟨this.1,this.2.1,sX⟩
    ·cases h
theorem Qf (l:List (List UInt8))(b:List UInt8):∀k n,(tk l b k n).1=0\/((tk l b k n).1=2/\(tk l b k n).2=0)\/((tk l b k n).1=3/\(tk l b k n).2=0)
 |0,_=>.inr (.inr ⟨rfl,rfl⟩)
 |k+1,n=>by
  unfold tk
  split
  ·exact .inr (.inl ⟨rfl,rfl⟩)
  ·split
   ·exact .inl rfl
   ·split
    ·exact Qf l b k (n+1)
    ·exact .inr (.inr ⟨rfl,rfl⟩)
theorem SE {l:List (List UInt8)}(d:CJ l){b r:List UInt8}(hr:r∈l)(c:r.isPrefixOf b=true):∀{k n:Nat},n<=r.length->r.length<n+k->tk l b k n=(0,r.length)
 |0,n,h1,h2=>sX
 |k+1,n,h1,h2=>by
  have f:=HH c;have ht:(b.take n)=r.take n:=by
   have e:b.take r.length=r:=F7.1 c;rw[show r.take n=(b.take r.length).take n by rw[e],Co,Bv h1]
  unfold tk;rw[Ba sX,ht];by_cases hn:n=r.length
  ·subst hn;rw[Jk,Bb hr]
  ·have a:¬ r.take n∈l:=by
    intro hm;have:=Bz List.length (NY d hm hr (OE r n));rw[Be] at this;omega
   rw[Ba a,Bb (Jn.2 ⟨r,hr,OE r n⟩)];exact SE d hr c sX sX
theorem WX {α:Type}{p:α->Bool}:∀{l:List α},l.Pairwise (fun x y=>p y=true->p x=true)->l.takeWhile p=l.filter p/\l.dropWhile p=l.filter (fun x=>!p x)
 |[],_=>⟨rfl,rfl⟩
 |x::l,h=>by
  obtain⟨h1,h2⟩:=Jr.1 h;cases hx:p x with
  |true=>
   obtain⟨c,d⟩:=WX h2;simp[hx,c,d]
  |false=>
   have b:∀y∈l,p y=false:=fun y a=>by
    cases hy':p y with
    |false=>rfl
    |true=>rw[h1 y a hy'] at hx;cases hx
   constructor
   ·simp only[List.takeWhile_cons,Jy,hx]
    symm
    simpa using b
   ·simp only[List.dropWhile_cons,Jy,hx];simp only[Jm,Jq,Ju,Jw]
    congr 1
    symm
    rw[List.filter_eq_self];intro y a;rw[b y a];rfl
theorem YH:∀{k:Nat} {r s:List UInt8},leL r s=true->r.take k=s.take k->(h1:k<r.length)->(h2:k<s.length)->¬ s[k]<r[k]
 |_,[],_,_,_,h1,_=>absurd h1 (Je _)
 |_,_::_,[],_,_,_,h2=>absurd h2 (Je _)
 |0,x::r,y::s,h,_,_,_=>by
  intro a;have a:y<x:=a;unfold leL at h;have:¬ x<y:=K5 a;simp[a,this] at h
 |k+1,x::r,y::s,h,ht,h1,h2=>by
  rw[Jd,Jd] at ht;injection ht with e ht;subst e;unfold leL at h;simp only[Ka,Jq] at h;exact YH h ht vO vP
theorem dA (q r:List UInt8)(c:UInt8)(h:q.length<r.length):(q++[c]).isPrefixOf r=(q.isPrefixOf r&&r[q.length]==c):=by
 rw[Jc,J8,F7,F7,B8,Bo,Bd h,Bj];constructor
 ·intro h;have:=List.append_inj' h rfl;exact⟨this.1,by simpa using this.2⟩
 ·rintro⟨h1,h2⟩;rw[h1,h2]
section
variable {α:Type}(f:α->List UInt8)
def E0 (l:List α)(q:List UInt8):List α:=l.filter fun x=>q.isPrefixOf (f x)
theorem bW (l:List α):E0 f l []=l:=by
 unfold E0;rw[List.filter_eq_self];intro x _;simp
def BV (at_:Nat)(x:α):Bool:=(f x)[at_]? == some 48
theorem aA {l:List α}{q:List UInt8}(hs:l.Pairwise fun x y=>leL (f x) (f y)=true)(hd:∀x∈l,AH (f x)=true)(hl:∀x∈E0 f l q,q.length<(f x).length):
  (E0 f l q).takeWhile (BV f q.length)=E0 f l (q++[48])/\(E0 f l q).dropWhile (BV f q.length)=E0 f l (q++[49]):=by
 have c:∀x∈E0 f l q,(a:q.length<(f x).length)->(f x)[q.length]=48\/(f x)[q.length]=49:=fun x a h=>by
  have h1:=NN (f x) q.length h (hd x (Jf.1 a).1);rcases (by omega:(f x)[q.length].toNat=48\/(f x)[q.length].toNat=49) with h|h
  ·exact .inl (Jl.1 h)
  ·exact .inr (Jl.1 h)
 have mono:(E0 f l q).Pairwise (fun x y=>BV f q.length y=true->BV f q.length x=true):=by
  have g:(E0 f l q).Pairwise fun x y=>leL (f x) (f y)=true:=hs.filter _;refine List.Pairwise.imp_of_mem ?_ g;intro x y a j i hn;have b:=hl x a;have k:=hl y j;unfold BV at hn ⊢;rw[Jb k] at hn;rw[Jb b];have d:(f y)[q.length]=48:=by simpa using hn
  have m:q.isPrefixOf (f x)=true:=(Jf.1 a).2;have n:q.isPrefixOf (f y)=true:=(Jf.1 j).2;have e:=YH i ((F7.1 m).trans (F7.1 n).symm) b k;rcases c x a b with h|h
  ·rw[h];rfl
  ·rw[d,h] at e;exact absurd sY e
 obtain⟨h1,h2⟩:=WX mono;rw[h1,h2];unfold E0;rw[Jz,Jz];constructor
 ·apply K8;intro x a;cases hp:q.isPrefixOf (f x) with
  |false=>
   rw[Jv];cases hq:(q++[48]).isPrefixOf (f x) with
   |false=>rfl
   |true=>rw[NR (by rw[Jg];exact Jp _ _) hq] at hp;cases hp
  |true=>
   have b:=hl x (Jf.2 ⟨a,hp⟩);rw[dA _ _ _ b,hp,BV,Jb b];simp
 ·apply K8;intro x a;cases hp:q.isPrefixOf (f x) with
  |false=>
   rw[Jv];cases hq:(q++[49]).isPrefixOf (f x) with
   |false=>rfl
   |true=>rw[NR (by rw[Jg];exact Jp _ _) hq] at hp;cases hp
  |true=>
   have b:=hl x (Jf.2 ⟨a,hp⟩);rw[dA _ _ _ b,hp,BV,Jb b];rcases c x (Jf.2 ⟨a,hp⟩) b with h|h <;> rw[h] <;> rfl
end
theorem QH (l:List UInt8)(p n:Nat)(h:p+(n+1)<=8*l.length):∃hn:n<((A2 l).drop p).length,(((A2 l).drop p)[n]=48/\AB l p (n+1)%2=0)\/(((A2 l).drop p)[n]=49/\AB l p (n+1)%2=1):=by
 have a:n<((A2 l).drop p).length:=by rw[Bf,AZ];omega
 refine⟨a,?_⟩;have hr:=NN ((A2 l).drop p) n a (DH _ p (GX l));have e:AB l p (n+1)=num (((A2 l).drop p).take n)*2+num [((A2 l).drop p)[n]]:=by
  unfold AB;rw[Bd a,LR]
  rfl
 rcases (by omega:((A2 l).drop p)[n].toNat=48\/((A2 l).drop p)[n].toNat=49) with h|h
 ·have b:((A2 l).drop p)[n]=48:=Jl.1 h;rw[b] at e;rw[show num [48]=0 from rfl] at e;exact .inl ⟨b,sX⟩
 ·have b:((A2 l).drop p)[n]=49:=Jl.1 h;rw[b] at e;rw[show num [49]=1 from rfl] at e;exact .inr ⟨b,sX⟩
theorem TR (rows:List (List UInt8))(b:List UInt8)(h:1<=b.length):∀k n,1<=n->tk rows b k n=tk (rows.filter fun r=>(b.take 1).isPrefixOf r) b k n
 |0,_,_=>rfl
 |k+1,n,hn=>by
  have c:(b.take 1).isPrefixOf (b.take n)=true:=by
   rw[Jg,show b.take 1=(b.take n).take 1 by rw[Co,Bv hn]];exact K9 _ _
  have e1:b.take n∈rows↔b.take n∈rows.filter fun r=>(b.take 1).isPrefixOf r:=by
   rw[Jf];exact⟨fun h=>⟨h,c⟩,fun h=>h.1⟩
  have e2:(rows.any fun r=>(b.take n).isPrefixOf r)=(rows.filter fun r=>(b.take 1).isPrefixOf r).any fun r=>(b.take n).isPrefixOf r:=by
   rw[Jc,Jn,Jn];constructor
   ·rintro⟨x,a,h⟩;exact⟨x,Jf.2 ⟨a,NR c h⟩,h⟩
   ·rintro⟨x,a,h⟩;exact⟨x,(Jf.1 a).1,h⟩
  unfold tk;simp only[e1,<-e2,TR rows b h k (n+1) (by omega)]
end Go.Proofs.YtjjmalchelniiaaGreatDoor