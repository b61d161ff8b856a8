/- StripsChecks, 21. No condition. -/
import Derived.Test.YtjjmalchelniiaaGreatDoorStripsChecksMb
import Derived.Lib.Bytealg
namespace Go.Proofs.YtjjmalchelniiaaGreatDoor
open Go.RowKit
abbrev Jm:=@Bool.and_eq_true
abbrev Jn:=@List.mem_cons
abbrev Jo:=@List.mem_cons_self
abbrev Jp:=@List.take_succ_cons
abbrev Jq:=@Nat.not_lt_zero
abbrev Jr:=@List.getElem?_eq_getElem
abbrev Js:=@List.mem_filter
abbrev Jt:=@List.isPrefixOf_iff_prefix
abbrev Ju:=@Bool.eq_iff_iff
abbrev Jv:=@List.take_length
abbrev Jw:=@Bool.true_and
abbrev Jy:=@List.getElem_cons_zero
abbrev Jz:=@List.getElem_of_mem
abbrev K5:=@Bool.and_false
abbrev K8:=@List.any_eq_true
abbrev K9:=@List.pairwise_iff_getElem
abbrev Ka:=@UInt8.toNat_inj
abbrev Kb:=@List.prefix_append
abbrev Kc:=@List.pairwise_cons
abbrev Kd:=@Bool.false_eq_true
abbrev Ke:=@if_false
abbrev Kf:=@beq_self_eq_true
abbrev Kg:=@List.isPrefixOf_cons_cons
abbrev Kh:=@Bool.not_false
abbrev Ki:=@List.filter_filter
abbrev Kj:=@UInt8.lt_asymm
abbrev Kk:=@List.filter_congr
abbrev Kl:=@if_true
abbrev Km:=@List.take_prefix
abbrev Kn:=@UInt8.lt_irrefl
def leL:List UInt8->List UInt8->Bool
 |[],_=>true
 |_::_,[]=>false
 |a::l,b::m=>if a<b then true else if b<a then false else leL l m
theorem OK:∀a b:List UInt8,decide (Lib.compareBytes a b<0) = !leL b a
 |[],[]=>rfl
 |[],_::_=>rfl
 |_::_,[]=>rfl
 |a::l,b::m=>by
  unfold Lib.compareBytes leL;by_cases h1:a<b
  ·have h2:¬ b<a:=Kj h1;simp[h1,h2]
  ·by_cases h2:b<a
   ·simp[h1,h2]
   ·simp only[h1,h2,Ke];exact OK l m
theorem QP {a b:UInt8}(h1:¬ a<b)(h2:¬ b<a):a=b:=UInt8.le_antisymm (UInt8.not_lt.1 h2) (UInt8.not_lt.1 h1)
theorem dQ (a:List UInt8):leL a a=true:=by
 induction a with
 |nil=>rfl
 |cons x l b=>unfold leL;simp[UInt8.lt_irrefl,b]
theorem U0:∀a b:List UInt8,leL a b=true\/leL b a=true
 |[],_=>.inl rfl
 |_::_,[]=>.inr rfl
 |a::l,b::m=>by
  unfold leL;by_cases h1:a<b
  ·simp[h1]
  ·by_cases h2:b<a
   ·simp[h2]
   ·simp only[h1,h2,Ke];exact U0 l m
theorem Sb:∀{a b c:List UInt8},leL a b=true->leL b c=true->leL a c=true
 |[],_,_,_,_=>rfl
 |_::_,[],_,h,_=>by cases h
 |_::_,_::_,[],_,h=>by cases h
 |a::l,b::m,c::n,h1,h2=>by
  unfold leL at h1 h2 ⊢;by_cases e:a<b
  ·by_cases d:b<c
   ·simp[UInt8.lt_trans e d]
   ·by_cases f:c<b
    ·simp[d,f] at h2
    ·have:=QP d f;subst this;simp[e]
  ·by_cases y1:b<a
   ·simp[e,y1] at h1
   ·have:=QP e y1;subst this;simp only[e,Ke] at h1;by_cases d:a<c
    ·simp[d]
    ·by_cases f:c<a
     ·simp[d,f] at h2
     ·simp only[d,f,Ke] at h2 ⊢;exact Sb h1 h2
theorem XB:∀{a b:List UInt8},leL a b=true->leL b a=true->a=b
 |[],[],_,_=>rfl
 |[],_::_,_,h=>by cases h
 |_::_,[],h,_=>by cases h
 |a::l,b::m,h1,h2=>by
  unfold leL at h1 h2;by_cases c:a<b
  ·have d:¬ b<a:=Kj c;simp[c,d] at h2
  ·by_cases d:b<a
   ·simp[c,d] at h1
   ·simp only[c,d,Ke] at h1 h2;rw[QP c d,XB h1 h2]
theorem W0:∀{a b:List UInt8},a.isPrefixOf b=true->leL a b=true
 |[],_,_=>rfl
 |_::_,[],h=>by cases h
 |x::a,y::b,h=>by
  rw[Kg,Jm,Bm] at h;obtain⟨rfl,h⟩:=h;unfold leL;simp only[Kn,Ke];exact W0 h
theorem Wo:∀{a b c:List UInt8},leL a b=true->leL b c=true->a.isPrefixOf c=true->a.isPrefixOf b=true
 |[],_,_,_,_,_=>by simp
 |_::_,_,[],_,_,h=>by cases h
 |_::_,[],_::_,h,_,_=>by cases h
 |x::a,z::b,y::c,h1,h2,h=>by
  rw[Kg,Jm,Bm] at h;obtain⟨rfl,h⟩:=h;unfold leL at h1 h2;by_cases d:x<z
  ·have e:¬ z<x:=Kj d;simp[d,e] at h2
  ·by_cases e:z<x
   ·simp[d,e] at h1
   ·simp only[d,e,Ke] at h1 h2;rw[Kg,QP d e,Kf,Jw];exact Wo h1 h2 h
theorem IF (a:List UInt8):a.isPrefixOf a=true:=by simp
theorem F4 {a b:List UInt8}:a.isPrefixOf b=true↔b.take a.length=a:=by
 rw[Jt];exact⟨fun h=>(List.prefix_iff_eq_take.1 h).symm,fun h=>List.prefix_iff_eq_take.2 h.symm⟩
theorem H3 {a b:List UInt8}(h:a.isPrefixOf b=true):a.length<=b.length:=by
 have:=C8 List.length (F4.1 h);rw[Be] at this;omega
theorem MP (b:List UInt8)(n:Nat):(b.take n).isPrefixOf b=true:=by
 rw[Jt];exact Km n b
theorem MI {a b c:List UInt8}(h1:a.isPrefixOf b=true)(h2:b.isPrefixOf c=true):a.isPrefixOf c=true:=by
 rw[Jt] at *;exact h1.trans h2
def BY (l:List (List UInt8)):Prop:=l.Pairwise fun a b=>a.isPrefixOf b=false/\b.isPrefixOf a=false
theorem NV {l m:List (List UInt8)}(h:l.Perm m):BY l↔BY m:=h.pairwise_iff fun h=>⟨h.2,h.1⟩
theorem N2 {l:List (List UInt8)}(h:BY l){x y:List UInt8}(c:x∈l)(d:y∈l)(b:x.isPrefixOf y=true):x=y:=by
 obtain⟨i,hi,rfl⟩:=Jz c;obtain⟨j,hj,rfl⟩:=Jz d;rcases Nat.lt_trichotomy i j with a|rfl|a
 ·have:=(K9.1 h i j hi hj a).1;rw[b] at this;cases this
 ·rfl
 ·have:=(K9.1 h j i hj hi a).2;rw[b] at this;cases this
theorem Pd {l:List (List UInt8)}:BY l↔∀i j,(hi:i<l.length)->(hj:j<l.length)->i≠j->(l[i].isPrefixOf l[j])=false:=by
 unfold BY;rw[K9];constructor
 ·intro h i j hi hj b;rcases Nat.lt_or_gt_of_ne b with a|a
  ·exact(h i j hi hj a).1
  ·exact(h j i hj hi a).2
 ·exact fun h i j hi hj a=>⟨h i j hi hj (by omega),h j i hj hi (by omega)⟩
theorem RV:∀{l:List (List UInt8)},l.Pairwise (fun a b=>leL a b=true)->(∀i,(h:i+1<l.length)->(l[i].isPrefixOf l[i+1])=false)->BY l
 |[],_,_=>List.Pairwise.nil
 |[a],_,_=>List.pairwise_singleton _ _
 |a::c::l,hs,hn=>by
  have d:=hn 0 (by simp);simp only[Jy,Br,List.getElem_cons_succ] at d;have k:BY (c::l):=RV (Kc.1 hs).2 fun i hi=>by
   have:=hn (i+1) (by simpa using hi)
   simpa using this
  have j:=(Kc.1 hs).1;have hc:=(Kc.1 (Kc.1 hs).2).1;have no:∀b∈c::l,a.isPrefixOf b=false:=by
   intro b f;cases hab:a.isPrefixOf b with
   |false=>rfl
   |true=>
    rcases Jn.1 f with rfl|g
    ·rw[hab] at d;cases d
    ·rw[Wo (j c Jo) (hc b g) hab] at d;cases d
  refine Kc.2 ⟨fun b f=>⟨no b f,?_⟩,k⟩;cases hba:b.isPrefixOf a with
  |false=>rfl
  |true=>
   have e:=XB (W0 hba) (j b f);have:=no b f;rw[e,IF] at this;cases this
def BM (r:List UInt8):Bool:=!r.isEmpty&&decide (r.length<=24)&&AK r
theorem Yw {r:List UInt8}(h1:r≠[])(h2:r.length<=24)(h3:AK r=true):BM r=true:=by
 unfold BM;simp[h1,h2,h3]
theorem GI {r:List UInt8}(h:BM r=true):r≠[]/\r.length<=24/\AK r=true:=by
 unfold BM at h;simp at h;exact⟨h.1.1,h.1.2,h.2⟩
def tk (rows:List (List UInt8))(b:List UInt8):Nat->Nat->Int×Nat
 |0,_=>(3,0)
 |k+1,n=>if b.length<n then (2,0) else if b.take n∈rows then (0,n) else if rows.any (fun r=>(b.take n).isPrefixOf r)=true then tk rows b k (n+1) else (3,0)
theorem Sq {l m:List (List UInt8)}(h:l.Perm m)(b:List UInt8):∀k n,tk l b k n=tk m b k n
 |0,_=>rfl
 |k+1,n=>by
  have e:(l.any fun r=>(b.take n).isPrefixOf r)=m.any fun r=>(b.take n).isPrefixOf r:=by
   rw[Ju,K8,K8];exact⟨fun⟨x,a,c⟩=>⟨x,h.mem_iff.1 a,c⟩,fun⟨x,a,c⟩=>⟨x,h.mem_iff.2 a,c⟩⟩
  unfold tk;simp only[h.mem_iff,e,Sq h b k (n+1)]
theorem Pa {l:List (List UInt8)}{b:List UInt8}:∀{k n m:Nat},tk l b k n=(0,m)->b.take m∈l/\m<=b.length/\n<=m
 |0,_,_,h=>by cases h
 |k+1,n,m,h=>by
  unfold tk at h
  split at h
  ·cases h
  ·split at h
   ·rename_i h1 h2
    injection h with _ h;subst h;exact⟨h2,by omega,Ba _⟩
   ·split at h
    ·have:=Pa h;exact⟨this.1,this.2.1,by omega⟩
    ·cases h
theorem R6 (l:List (List UInt8))(b:List UInt8):∀k n,(tk l b k n).1=0\/((tk l b k n).1=2/\(tk l b k n).2=0)\/((tk l b k n).1=3/\(tk l b k n).2=0)
 |0,_=>.inr (.inr ⟨rfl,rfl⟩)
 |k+1,n=>by
  unfold tk
  split
  ·exact .inr (.inl ⟨rfl,rfl⟩)
  ·split
   ·exact .inl rfl
   ·split
    ·exact R6 l b k (n+1)
    ·exact .inr (.inr ⟨rfl,rfl⟩)
theorem QG {l:List (List UInt8)}(d:BY l){b r:List UInt8}(hr:r∈l)(c:r.isPrefixOf b=true):∀{k n:Nat},n<=r.length->r.length<n+k->tk l b k n=(0,r.length)
 |0,n,h1,h2=>by omega
 |k+1,n,h1,h2=>by
  have f:=H3 c;have ht:(b.take n)=r.take n:=by
   have e:b.take r.length=r:=F4.1 c;rw[show r.take n=(b.take r.length).take n by rw[e],Cj,Bw h1]
  unfold tk;rw[Bb (by omega),ht];by_cases hn:n=r.length
  ·subst hn;rw[Jv,Bc hr]
  ·have a:¬ r.take n∈l:=by
    intro hm;have:=C8 List.length (N2 d hm hr (MP r n));rw[Be] at this;omega
   rw[Bb a,Bc (K8.2 ⟨r,hr,MP r n⟩)];exact QG d hr c (by omega) (by omega)
theorem Vv {α:Type}{p:α->Bool}:∀{l:List α},l.Pairwise (fun x y=>p y=true->p x=true)->l.takeWhile p=l.filter p/\l.dropWhile p=l.filter (fun x=>!p x)
 |[],_=>⟨rfl,rfl⟩
 |x::l,h=>by
  obtain⟨h1,h2⟩:=Kc.1 h;cases hx:p x with
  |true=>
   obtain⟨b,c⟩:=Vv h2;simp[hx,b,c]
  |false=>
   have no:∀y∈l,p y=false:=fun y a=>by
    cases hy':p y with
    |false=>rfl
    |true=>rw[h1 y a hy'] at hx;cases hx
   constructor
   ·simp only[List.takeWhile_cons,List.filter_cons,hx]
    symm
    simpa using no
   ·simp only[List.dropWhile_cons,List.filter_cons,hx];simp only[Kd,Ke,Kh,Kl]
    congr 1
    symm
    rw[List.filter_eq_self];intro y a;rw[no y a];rfl
theorem V7:∀{k:Nat} {r s:List UInt8},leL r s=true->r.take k=s.take k->(h1:k<r.length)->(h2:k<s.length)->¬ s[k]<r[k]
 |_,[],_,_,_,h1,_=>absurd h1 (Jq _)
 |_,_::_,[],_,_,_,h2=>absurd h2 (Jq _)
 |0,x::r,y::s,h,_,_,_=>by
  intro a;have a:y<x:=a;unfold leL at h;have:¬ x<y:=Kj a;simp[a,this] at h
 |k+1,x::r,y::s,h,ht,h1,h2=>by
  rw[Jp,Jp] at ht;injection ht with e ht;subst e;unfold leL at h;simp only[Kn,Ke] at h;exact V7 h ht (by simpa using h1) (by simpa using h2)
theorem W4 (q r:List UInt8)(c:UInt8)(h:q.length<r.length):(q++[c]).isPrefixOf r=(q.isPrefixOf r&&r[q.length]==c):=by
 rw[Ju,Jm,F4,F4,B9,Bo,Bd h,Bm];constructor
 ·intro h;have:=List.append_inj' h rfl;exact⟨this.1,by simpa using this.2⟩
 ·rintro⟨h1,h2⟩;rw[h1,h2]
section
variable {α:Type}(f:α->List UInt8)
def DT (l:List α)(q:List UInt8):List α:=l.filter fun x=>q.isPrefixOf (f x)
theorem Vd (l:List α):DT f l []=l:=by
 unfold DT;rw[List.filter_eq_self];intro x _;simp
def BL (at_:Nat)(x:α):Bool:=(f x)[at_]? == some 48
theorem YD {l:List α}{q:List UInt8}(hs:l.Pairwise fun x y=>leL (f x) (f y)=true)(hd:∀x∈l,AK (f x)=true)(hl:∀x∈DT f l q,q.length<(f x).length):
  (DT f l q).takeWhile (BL f q.length)=DT f l (q++[48])/\(DT f l q).dropWhile (BL f q.length)=DT f l (q++[49]):=by
 have c:∀x∈DT f l q,(a:q.length<(f x).length)->(f x)[q.length]=48\/(f x)[q.length]=49:=fun x a h=>by
  have h1:=Qv (f x) q.length h (hd x (Js.1 a).1);rcases (by omega:(f x)[q.length].toNat=48\/(f x)[q.length].toNat=49) with h|h
  ·exact .inl (Ka.1 h)
  ·exact .inr (Ka.1 h)
 have mono:(DT f l q).Pairwise (fun x y=>BL f q.length y=true->BL f q.length x=true):=by
  have g:(DT f l q).Pairwise fun x y=>leL (f x) (f y)=true:=hs.filter _;refine List.Pairwise.imp_of_mem ?_ g;intro x y a j i hn;have b:=hl x a;have k:=hl y j;unfold BL at hn ⊢;rw[Jr k] at hn;rw[Jr b];have d:(f y)[q.length]=48:=by simpa using hn
  have m:q.isPrefixOf (f x)=true:=(Js.1 a).2;have n:q.isPrefixOf (f y)=true:=(Js.1 j).2;have e:=V7 i ((F4.1 m).trans (F4.1 n).symm) b k;rcases c x a b with h|h
  ·rw[h];rfl
  ·rw[d,h] at e;exact absurd (by decide) e
 obtain⟨h1,h2⟩:=Vv mono;rw[h1,h2];unfold DT;rw[Ki,Ki];constructor
 ·apply Kk;intro x a;cases hp:q.isPrefixOf (f x) with
  |false=>
   rw[K5];cases hq:(q++[48]).isPrefixOf (f x) with
   |false=>rfl
   |true=>rw[MI (by rw[Jt];exact Kb _ _) hq] at hp;cases hp
  |true=>
   have b:=hl x (Js.2 ⟨a,hp⟩);rw[W4 _ _ _ b,hp,BL,Jr b];simp
 ·apply Kk;intro x a;cases hp:q.isPrefixOf (f x) with
  |false=>
   rw[K5];cases hq:(q++[49]).isPrefixOf (f x) with
   |false=>rfl
   |true=>rw[MI (by rw[Jt];exact Kb _ _) hq] at hp;cases hp
  |true=>
   have b:=hl x (Js.2 ⟨a,hp⟩);rw[W4 _ _ _ b,hp,BL,Jr b];rcases c x (Js.2 ⟨a,hp⟩) b with h|h <;> rw[h] <;> rfl
end
theorem P6 (l:List UInt8)(p n:Nat)(h:p+(n+1)<=8*l.length):∃hn:n<((AA l).drop p).length,(((AA l).drop p)[n]=48/\AD l p (n+1)%2=0)\/(((AA l).drop p)[n]=49/\AD l p (n+1)%2=1):=by
 have a:n<((AA l).drop p).length:=by rw[Bj,BB];omega
 refine⟨a,?_⟩;have hr:=Qv ((AA l).drop p) n a (FO _ p (K0 l));have e:AD l p (n+1)=num (((AA l).drop p).take n)*2+num [((AA l).drop p)[n]]:=by
  unfold AD;rw[Bd a,MZ]
  rfl
 rcases (by omega:((AA l).drop p)[n].toNat=48\/((AA l).drop p)[n].toNat=49) with h|h
 ·have b:((AA l).drop p)[n]=48:=Ka.1 h;rw[b] at e;rw[show num [48]=0 from rfl] at e;exact .inl ⟨b,by omega⟩
 ·have b:((AA l).drop p)[n]=49:=Ka.1 h;rw[b] at e;rw[show num [49]=1 from rfl] at e;exact .inr ⟨b,by omega⟩
theorem Tx (rows:List (List UInt8))(b:List UInt8)(h:1<=b.length):∀k n,1<=n->tk rows b k n=tk (rows.filter fun r=>(b.take 1).isPrefixOf r) b k n
 |0,_,_=>rfl
 |k+1,n,hn=>by
  have c:(b.take 1).isPrefixOf (b.take n)=true:=by
   rw[Jt,show b.take 1=(b.take n).take 1 by rw[Cj,Bw hn]];exact Km _ _
  have d:b.take n∈rows↔b.take n∈rows.filter fun r=>(b.take 1).isPrefixOf r:=by
   rw[Js];exact⟨fun h=>⟨h,c⟩,fun h=>h.1⟩
  have e:(rows.any fun r=>(b.take n).isPrefixOf r)=(rows.filter fun r=>(b.take 1).isPrefixOf r).any fun r=>(b.take n).isPrefixOf r:=by
   rw[Ju,K8,K8];constructor
   ·rintro⟨x,a,h⟩;exact⟨x,Js.2 ⟨a,MI c h⟩,h⟩
   ·rintro⟨x,a,h⟩;exact⟨x,(Js.1 a).1,h⟩
  unfold tk;simp only[d,<-e,Tx rows b h k (n+1) (by omega)]
end Go.Proofs.YtjjmalchelniiaaGreatDoor