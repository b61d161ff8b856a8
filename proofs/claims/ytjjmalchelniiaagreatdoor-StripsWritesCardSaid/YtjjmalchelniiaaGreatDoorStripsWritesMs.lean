/- StripsWrites, 19. No condition. -/
import Derived.Test.YtjjmalchelniiaaGreatDoorStripsWritesMb
import Derived.Lib.Bytealg
namespace Go.Proofs.YtjjmalchelniiaaGreatDoor
open Go.RowKit
abbrev Jj:=@Bool.and_eq_true
abbrev Jk:=@List.mem_cons
abbrev Jl:=@List.take_succ_cons
abbrev Jm:=@List.mem_cons_self
abbrev Jn:=@List.getElem?_eq_getElem
abbrev Jo:=@Nat.not_lt_zero
abbrev Jp:=@List.mem_filter
abbrev Jq:=@List.isPrefixOf_iff_prefix
abbrev Jr:=@Bool.eq_iff_iff
abbrev Js:=@List.take_length
abbrev Jt:=@Bool.true_and
abbrev Ju:=@List.getElem_cons_zero
abbrev Jv:=@List.getElem_of_mem
abbrev Jw:=@Bool.and_false
abbrev Jy:=@List.any_eq_true
abbrev Jz:=@UInt8.toNat_inj
abbrev K8:=@Bool.false_eq_true
abbrev K9:=@List.pairwise_iff_getElem
abbrev Ka:=@List.prefix_append
abbrev Kb:=@if_false
abbrev Kc:=@List.pairwise_cons
abbrev Kd:=@beq_self_eq_true
abbrev Ke:=@List.isPrefixOf_cons_cons
abbrev Kf:=@List.filter_filter
abbrev Kg:=@if_true
abbrev Kh:=@UInt8.lt_asymm
abbrev Ki:=@List.filter_congr
abbrev Kj:=@List.take_prefix
abbrev Kk:=@UInt8.lt_irrefl
abbrev Kl:=@Bool.not_false
def leL:List UInt8->List UInt8->Bool
 |[],_=>true
 |_::_,[]=>false
 |a::l,b::m=>if a<b then true else if b<a then false else leL l m
theorem Pp:∀a b:List UInt8,decide (Lib.compareBytes a b<0) = !leL b a
 |[],[]=>rfl
 |[],_::_=>rfl
 |_::_,[]=>rfl
 |a::l,b::m=>by
  unfold Lib.compareBytes leL;by_cases h1:a<b
  ·have h2:¬ b<a:=Kh h1;simp[h1,h2]
  ·by_cases h2:b<a
   ·simp[h1,h2]
   ·simp only[h1,h2,Kb];exact Pp l m
theorem Q7 {a b:UInt8}(h1:¬ a<b)(h2:¬ b<a):a=b:=UInt8.le_antisymm (UInt8.not_lt.1 h2) (UInt8.not_lt.1 h1)
theorem tV (a:List UInt8):leL a a=true:=by
 induction a with
 |nil=>rfl
 |cons x l b=>unfold leL;simp[UInt8.lt_irrefl,b]
theorem XY:∀a b:List UInt8,leL a b=true\/leL b a=true
 |[],_=>.inl rfl
 |_::_,[]=>.inr rfl
 |a::l,b::m=>by
  unfold leL;by_cases h1:a<b
  ·simp[h1]
  ·by_cases h2:b<a
   ·simp[h2]
   ·simp only[h1,h2,Kb];exact XY l m
theorem St:∀{a b c:List UInt8},leL a b=true->leL b c=true->leL a c=true
 |[],_,_,_,_=>rfl
 |_::_,[],_,h,_=>by cases h
 |_::_,_::_,[],_,h=>by cases h
 |a::l,b::m,c::n,h1,h2=>by
  unfold leL at h1 h2 ⊢;by_cases e:a<b
  ·by_cases d:b<c
   ·simp[UInt8.lt_trans e d]
   ·by_cases f:c<b
    ·simp[d,f] at h2
    ·have:=Q7 d f;subst this;simp[e]
  ·by_cases y1:b<a
   ·simp[e,y1] at h1
   ·have:=Q7 e y1;subst this;simp only[e,Kb] at h1;by_cases d:a<c
    ·simp[d]
    ·by_cases f:c<a
     ·simp[d,f] at h2
     ·simp only[d,f,Kb] at h2 ⊢;exact St h1 h2
theorem ZA:∀{a b:List UInt8},leL a b=true->leL b a=true->a=b
 |[],[],_,_=>rfl
 |[],_::_,_,h=>by cases h
 |_::_,[],h,_=>by cases h
 |a::l,b::m,h1,h2=>by
  unfold leL at h1 h2;by_cases c:a<b
  ·have d:¬ b<a:=Kh c;simp[c,d] at h2
  ·by_cases d:b<a
   ·simp[c,d] at h1
   ·simp only[c,d,Kb] at h1 h2;rw[Q7 c d,ZA h1 h2]
theorem Wy:∀{a b:List UInt8},a.isPrefixOf b=true->leL a b=true
 |[],_,_=>rfl
 |_::_,[],h=>by cases h
 |x::a,y::b,h=>by
  rw[Ke,Jj,Bm] at h;obtain⟨rfl,h⟩:=h;unfold leL;simp only[Kk,Kb];exact Wy h
theorem Z6:∀{a b c:List UInt8},leL a b=true->leL b c=true->a.isPrefixOf c=true->a.isPrefixOf b=true
 |[],_,_,_,_,_=>by simp
 |_::_,_,[],_,_,h=>by cases h
 |_::_,[],_::_,h,_,_=>by cases h
 |x::a,z::b,y::c,h1,h2,h=>by
  rw[Ke,Jj,Bm] at h;obtain⟨rfl,h⟩:=h;unfold leL at h1 h2;by_cases d:x<z
  ·have e:¬ z<x:=Kh d;simp[d,e] at h2
  ·by_cases e:z<x
   ·simp[d,e] at h1
   ·simp only[d,e,Kb] at h1 h2;rw[Ke,Q7 d e,Kd,Jt];exact Z6 h1 h2 h
theorem JO (a:List UInt8):a.isPrefixOf a=true:=by simp
theorem FJ {a b:List UInt8}:a.isPrefixOf b=true↔b.take a.length=a:=by
 rw[Jq];exact⟨fun h=>(List.prefix_iff_eq_take.1 h).symm,fun h=>List.prefix_iff_eq_take.2 h.symm⟩
theorem HT {a b:List UInt8}(h:a.isPrefixOf b=true):a.length<=b.length:=by
 have:=C6 List.length (FJ.1 h);rw[Bf] at this;omega
theorem NX (b:List UInt8)(n:Nat):(b.take n).isPrefixOf b=true:=by
 rw[Jq];exact Kj n b
theorem NH {a b c:List UInt8}(h1:a.isPrefixOf b=true)(h2:b.isPrefixOf c=true):a.isPrefixOf c=true:=by
 rw[Jq] at *;exact h1.trans h2
def CH (l:List (List UInt8)):Prop:=l.Pairwise fun a b=>a.isPrefixOf b=false/\b.isPrefixOf a=false
theorem OU {l m:List (List UInt8)}(h:l.Perm m):CH l↔CH m:=h.pairwise_iff fun h=>⟨h.2,h.1⟩
theorem N8 {l:List (List UInt8)}(h:CH l){x y:List UInt8}(c:x∈l)(d:y∈l)(b:x.isPrefixOf y=true):x=y:=by
 obtain⟨i,hi,rfl⟩:=Jv c;obtain⟨j,hj,rfl⟩:=Jv d;rcases Nat.lt_trichotomy i j with a|rfl|a
 ·have:=(K9.1 h i j hi hj a).1;rw[b] at this;cases this
 ·rfl
 ·have:=(K9.1 h j i hj hi a).2;rw[b] at this;cases this
theorem PF {l:List (List UInt8)}:CH l↔∀i j,(hi:i<l.length)->(hj:j<l.length)->i≠j->(l[i].isPrefixOf l[j])=false:=by
 unfold CH;rw[K9];constructor
 ·intro h i j hi hj b;rcases Nat.lt_or_gt_of_ne b with a|a
  ·exact(h i j hi hj a).1
  ·exact(h j i hj hi a).2
 ·exact fun h i j hi hj a=>⟨h i j hi hj (by omega),h j i hj hi (by omega)⟩
theorem Tc:∀{l:List (List UInt8)},l.Pairwise (fun a b=>leL a b=true)->(∀i,(h:i+1<l.length)->(l[i].isPrefixOf l[i+1])=false)->CH l
 |[],_,_=>List.Pairwise.nil
 |[a],_,_=>List.pairwise_singleton _ _
 |a::c::l,hs,hn=>by
  have d:=hn 0 (by simp);simp only[Ju,Bo,List.getElem_cons_succ] at d;have k:CH (c::l):=Tc (Kc.1 hs).2 fun i hi=>by
   have:=hn (i+1) (by simpa using hi)
   simpa using this
  have j:=(Kc.1 hs).1;have hc:=(Kc.1 (Kc.1 hs).2).1;have no:∀b∈c::l,a.isPrefixOf b=false:=by
   intro b f;cases hab:a.isPrefixOf b with
   |false=>rfl
   |true=>
    rcases Jk.1 f with rfl|g
    ·rw[hab] at d;cases d
    ·rw[Z6 (j c Jm) (hc b g) hab] at d;cases d
  refine Kc.2 ⟨fun b f=>⟨no b f,?_⟩,k⟩;cases hba:b.isPrefixOf a with
  |false=>rfl
  |true=>
   have e:=ZA (Wy hba) (j b f);have:=no b f;rw[e,JO] at this;cases this
def BX (r:List UInt8):Bool:=!r.isEmpty&&decide (r.length<=24)&&AL r
theorem Y5 {r:List UInt8}(h1:r≠[])(h2:r.length<=24)(h3:AL r=true):BX r=true:=by
 unfold BX;simp[h1,h2,h3]
theorem GK {r:List UInt8}(h:BX r=true):r≠[]/\r.length<=24/\AL r=true:=by
 unfold BX at h;simp at h;exact⟨h.1.1,h.1.2,h.2⟩
def tk (rows:List (List UInt8))(b:List UInt8):Nat->Nat->Int×Nat
 |0,_=>(3,0)
 |k+1,n=>if b.length<n then (2,0) else if b.take n∈rows then (0,n) else if rows.any (fun r=>(b.take n).isPrefixOf r)=true then tk rows b k (n+1) else (3,0)
theorem T8 {l m:List (List UInt8)}(h:l.Perm m)(b:List UInt8):∀k n,tk l b k n=tk m b k n
 |0,_=>rfl
 |k+1,n=>by
  have e:(l.any fun r=>(b.take n).isPrefixOf r)=m.any fun r=>(b.take n).isPrefixOf r:=by
   rw[Jr,Jy,Jy];exact⟨fun⟨x,a,c⟩=>⟨x,h.mem_iff.1 a,c⟩,fun⟨x,a,c⟩=>⟨x,h.mem_iff.2 a,c⟩⟩
  unfold tk;simp only[h.mem_iff,e,T8 h b k (n+1)]
theorem Qs {l:List (List UInt8)}{b:List UInt8}:∀{k n m:Nat},tk l b k n=(0,m)->b.take m∈l/\m<=b.length/\n<=m
 |0,_,_,h=>by cases h
 |k+1,n,m,h=>by
  unfold tk at h
  split at h
  ·cases h
  ·split at h
   ·rename_i h1 h2
    injection h with _ h;subst h;exact⟨h2,by omega,Ba _⟩
   ·split at h
    ·have:=Qs h;exact⟨this.1,this.2.1,by omega⟩
    ·cases h
theorem Tz (l:List (List UInt8))(b:List UInt8):∀k n,(tk l b k n).1=0\/((tk l b k n).1=2/\(tk l b k n).2=0)\/((tk l b k n).1=3/\(tk l b k n).2=0)
 |0,_=>.inr (.inr ⟨rfl,rfl⟩)
 |k+1,n=>by
  unfold tk
  split
  ·exact .inr (.inl ⟨rfl,rfl⟩)
  ·split
   ·exact .inl rfl
   ·split
    ·exact Tz l b k (n+1)
    ·exact .inr (.inr ⟨rfl,rfl⟩)
theorem R4 {l:List (List UInt8)}(d:CH l){b r:List UInt8}(hr:r∈l)(c:r.isPrefixOf b=true):∀{k n:Nat},n<=r.length->r.length<n+k->tk l b k n=(0,r.length)
 |0,n,h1,h2=>by omega
 |k+1,n,h1,h2=>by
  have f:=HT c;have ht:(b.take n)=r.take n:=by
   have e:b.take r.length=r:=FJ.1 c;rw[show r.take n=(b.take r.length).take n by rw[e],Cn,Bw h1]
  unfold tk;rw[Bb (by omega),ht];by_cases hn:n=r.length
  ·subst hn;rw[Js,Bc hr]
  ·have a:¬ r.take n∈l:=by
    intro hm;have:=C6 List.length (N8 d hm hr (NX r n));rw[Bf] at this;omega
   rw[Bb a,Bc (Jy.2 ⟨r,hr,NX r n⟩)];exact R4 d hr c (by omega) (by omega)
theorem W6 {α:Type}{p:α->Bool}:∀{l:List α},l.Pairwise (fun x y=>p y=true->p x=true)->l.takeWhile p=l.filter p/\l.dropWhile p=l.filter (fun x=>!p x)
 |[],_=>⟨rfl,rfl⟩
 |x::l,h=>by
  obtain⟨h1,h2⟩:=Kc.1 h;cases hx:p x with
  |true=>
   obtain⟨b,c⟩:=W6 h2;simp[hx,b,c]
  |false=>
   have no:∀y∈l,p y=false:=fun y a=>by
    cases hy':p y with
    |false=>rfl
    |true=>rw[h1 y a hy'] at hx;cases hx
   constructor
   ·simp only[List.takeWhile_cons,List.filter_cons,hx]
    symm
    simpa using no
   ·simp only[List.dropWhile_cons,List.filter_cons,hx];simp only[K8,Kb,Kl,Kg]
    congr 1
    symm
    rw[List.filter_eq_self];intro y a;rw[no y a];rfl
theorem Zz:∀{k:Nat} {r s:List UInt8},leL r s=true->r.take k=s.take k->(h1:k<r.length)->(h2:k<s.length)->¬ s[k]<r[k]
 |_,[],_,_,_,h1,_=>absurd h1 (Jo _)
 |_,_::_,[],_,_,_,h2=>absurd h2 (Jo _)
 |0,x::r,y::s,h,_,_,_=>by
  intro a;have a:y<x:=a;unfold leL at h;have:¬ x<y:=Kh a;simp[a,this] at h
 |k+1,x::r,y::s,h,ht,h1,h2=>by
  rw[Jl,Jl] at ht;injection ht with e ht;subst e;unfold leL at h;simp only[Kk,Kb] at h;exact Zz h ht (by simpa using h1) (by simpa using h2)
theorem Zh (q r:List UInt8)(c:UInt8)(h:q.length<r.length):(q++[c]).isPrefixOf r=(q.isPrefixOf r&&r[q.length]==c):=by
 rw[Jr,Jj,FJ,FJ,B9,Bq,Be h,Bm];constructor
 ·intro h;have:=List.append_inj' h rfl;exact⟨this.1,by simpa using this.2⟩
 ·rintro⟨h1,h2⟩;rw[h1,h2]
section
variable {α:Type}(f:α->List UInt8)
def E8 (l:List α)(q:List UInt8):List α:=l.filter fun x=>q.isPrefixOf (f x)
theorem W7 (l:List α):E8 f l []=l:=by
 unfold E8;rw[List.filter_eq_self];intro x _;simp
def BT (at_:Nat)(x:α):Bool:=(f x)[at_]? == some 48
theorem Vt {l:List α}{q:List UInt8}(hs:l.Pairwise fun x y=>leL (f x) (f y)=true)(hd:∀x∈l,AL (f x)=true)(hl:∀x∈E8 f l q,q.length<(f x).length):
  (E8 f l q).takeWhile (BT f q.length)=E8 f l (q++[48])/\(E8 f l q).dropWhile (BT f q.length)=E8 f l (q++[49]):=by
 have c:∀x∈E8 f l q,(a:q.length<(f x).length)->(f x)[q.length]=48\/(f x)[q.length]=49:=fun x a h=>by
  have h1:=PM (f x) q.length h (hd x (Jp.1 a).1);rcases (by omega:(f x)[q.length].toNat=48\/(f x)[q.length].toNat=49) with h|h
  ·exact .inl (Jz.1 h)
  ·exact .inr (Jz.1 h)
 have mono:(E8 f l q).Pairwise (fun x y=>BT f q.length y=true->BT f q.length x=true):=by
  have g:(E8 f l q).Pairwise fun x y=>leL (f x) (f y)=true:=hs.filter _;refine List.Pairwise.imp_of_mem ?_ g;intro x y a j i hn;have b:=hl x a;have k:=hl y j;unfold BT at hn ⊢;rw[Jn k] at hn;rw[Jn b];have d:(f y)[q.length]=48:=by simpa using hn
  have m:q.isPrefixOf (f x)=true:=(Jp.1 a).2;have n:q.isPrefixOf (f y)=true:=(Jp.1 j).2;have e:=Zz i ((FJ.1 m).trans (FJ.1 n).symm) b k;rcases c x a b with h|h
  ·rw[h];rfl
  ·rw[d,h] at e;exact absurd (by decide) e
 obtain⟨h1,h2⟩:=W6 mono;rw[h1,h2];unfold E8;rw[Kf,Kf];constructor
 ·apply Ki;intro x a;cases hp:q.isPrefixOf (f x) with
  |false=>
   rw[Jw];cases hq:(q++[48]).isPrefixOf (f x) with
   |false=>rfl
   |true=>rw[NH (by rw[Jq];exact Ka _ _) hq] at hp;cases hp
  |true=>
   have b:=hl x (Jp.2 ⟨a,hp⟩);rw[Zh _ _ _ b,hp,BT,Jn b];simp
 ·apply Ki;intro x a;cases hp:q.isPrefixOf (f x) with
  |false=>
   rw[Jw];cases hq:(q++[49]).isPrefixOf (f x) with
   |false=>rfl
   |true=>rw[NH (by rw[Jq];exact Ka _ _) hq] at hp;cases hp
  |true=>
   have b:=hl x (Jp.2 ⟨a,hp⟩);rw[Zh _ _ _ b,hp,BT,Jn b];rcases c x (Jp.2 ⟨a,hp⟩) b with h|h <;> rw[h] <;> rfl
end
theorem P4 (l:List UInt8)(p n:Nat)(h:p+(n+1)<=8*l.length):∃hn:n<((A2 l).drop p).length,(((A2 l).drop p)[n]=48/\AE l p (n+1)%2=0)\/(((A2 l).drop p)[n]=49/\AE l p (n+1)%2=1):=by
 have a:n<((A2 l).drop p).length:=by rw[Bj,BO];omega
 refine⟨a,?_⟩;have hr:=PM ((A2 l).drop p) n a (FR _ p (KS l));have e:AE l p (n+1)=num (((A2 l).drop p).take n)*2+num [((A2 l).drop p)[n]]:=by
  unfold AE;rw[Be a,MI]
  rfl
 rcases (by omega:((A2 l).drop p)[n].toNat=48\/((A2 l).drop p)[n].toNat=49) with h|h
 ·have b:((A2 l).drop p)[n]=48:=Jz.1 h;rw[b] at e;rw[show num [48]=0 from rfl] at e;exact .inl ⟨b,by omega⟩
 ·have b:((A2 l).drop p)[n]=49:=Jz.1 h;rw[b] at e;rw[show num [49]=1 from rfl] at e;exact .inr ⟨b,by omega⟩
theorem Sf (rows:List (List UInt8))(b:List UInt8)(h:1<=b.length):∀k n,1<=n->tk rows b k n=tk (rows.filter fun r=>(b.take 1).isPrefixOf r) b k n
 |0,_,_=>rfl
 |k+1,n,hn=>by
  have c:(b.take 1).isPrefixOf (b.take n)=true:=by
   rw[Jq,show b.take 1=(b.take n).take 1 by rw[Cn,Bw hn]];exact Kj _ _
  have d:b.take n∈rows↔b.take n∈rows.filter fun r=>(b.take 1).isPrefixOf r:=by
   rw[Jp];exact⟨fun h=>⟨h,c⟩,fun h=>h.1⟩
  have e:(rows.any fun r=>(b.take n).isPrefixOf r)=(rows.filter fun r=>(b.take 1).isPrefixOf r).any fun r=>(b.take n).isPrefixOf r:=by
   rw[Jr,Jy,Jy];constructor
   ·rintro⟨x,a,h⟩;exact⟨x,Jp.2 ⟨a,NH c h⟩,h⟩
   ·rintro⟨x,a,h⟩;exact⟨x,(Jp.1 a).1,h⟩
  unfold tk;simp only[d,<-e,Sf rows b h k (n+1) (by omega)]
end Go.Proofs.YtjjmalchelniiaaGreatDoor