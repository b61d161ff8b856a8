/- Part 20 of StripsOnce. No condition. -/
import Derived.Test.YtjjmalchelniiaaGreatDoorStripsOnceMb
import Derived.Lib.Bytealg
namespace Go.Proofs.YtjjmalchelniiaaGreatDoor
open Go.RowKit
def leL:List UInt8→List UInt8→Bool
 |[],_=>true
 |_::_,[]=>false
 |a::l,b::m=>if a<b then true else if b<a then false else leL l m
theorem Ylh:∀a b:List UInt8,decide (Lib.compareBytes a b<0) = !leL b a
 |[],[]=>rfl
 |[],_::_=>rfl
 |_::_,[]=>rfl
 |a::l,b::m=>by
  unfold Lib.compareBytes leL;by_cases h1:a<b
  ·have h2:¬ b<a:=UInt8.lt_asymm h1;simp[h1,h2]
  ·by_cases h2:b<a
   ·simp[h1,h2]
   ·simp only[h1,h2,if_false];exact Ylh l m
theorem Qfv {a b:UInt8}(h1:¬ a<b)(h2:¬ b<a):a=b:=UInt8.le_antisymm (UInt8.not_lt.1 h2) (UInt8.not_lt.1 h1)
theorem Qd7 (a:List UInt8):leL a a=true:=by
 induction a with
 |nil=>rfl
 |cons x l ih=>unfold leL;simp[UInt8.lt_irrefl,ih]
theorem Ywp:∀a b:List UInt8,leL a b=true∨leL b a=true
 |[],_=>.inl rfl
 |_::_,[]=>.inr rfl
 |a::l,b::m=>by
  unfold leL;by_cases h1:a<b
  ·simp[h1]
  ·by_cases h2:b<a
   ·simp[h2]
   ·simp only[h1,h2,if_false];exact Ywp l m
theorem Yoq:∀{a b c:List UInt8},leL a b=true→leL b c=true→leL a c=true
 |[],_,_,_,_=>rfl
 |_::_,[],_,h,_=>by cases h
 |_::_,_::_,[],_,h=>by cases h
 |a::l,b::m,c::n,h1,h2=>by
  unfold leL at h1 h2 ⊢;by_cases x1:a<b
  ·by_cases x2:b<c
   ·simp[UInt8.lt_trans x1 x2]
   ·by_cases x3:c<b
    ·simp[x2,x3] at h2
    ·have:=Qfv x2 x3;subst this;simp[x1]
  ·by_cases y1:b<a
   ·simp[x1,y1] at h1
   ·have:=Qfv x1 y1;subst this;simp only[x1,if_false] at h1;by_cases x2:a<c
    ·simp[x2]
    ·by_cases x3:c<a
     ·simp[x2,x3] at h2
     ·simp only[x2,x3,if_false] at h2 ⊢;exact Yoq h1 h2
theorem Y1u:∀{a b:List UInt8},leL a b=true→leL b a=true→a=b
 |[],[],_,_=>rfl
 |[],_::_,_,h=>by cases h
 |_::_,[],h,_=>by cases h
 |a::l,b::m,h1,h2=>by
  unfold leL at h1 h2;by_cases x1:a<b
  ·have x2:¬ b<a:=UInt8.lt_asymm x1;simp[x1,x2] at h2
  ·by_cases x2:b<a
   ·simp[x1,x2] at h1
   ·simp only[x1,x2,if_false] at h1 h2;rw[Qfv x1 x2,Y1u h1 h2]
theorem Qgp:∀{a b:List UInt8},a.isPrefixOf b=true→leL a b=true
 |[],_,_=>rfl
 |_::_,[],h=>by cases h
 |x::a,y::b,h=>by
  rw[List.isPrefixOf_cons_cons,Bool.and_eq_true,beq_iff_eq] at h;obtain⟨rfl,h⟩:=h;unfold leL;simp only[UInt8.lt_irrefl,if_false];exact Qgp h
theorem Ype:∀{a b c:List UInt8},leL a b=true→leL b c=true→a.isPrefixOf c=true→a.isPrefixOf b=true
 |[],_,_,_,_,_=>by simp
 |_::_,_,[],_,_,h=>by cases h
 |_::_,[],_::_,h,_,_=>by cases h
 |x::a,z::b,y::c,h1,h2,h=>by
  rw[List.isPrefixOf_cons_cons,Bool.and_eq_true,beq_iff_eq] at h;obtain⟨rfl,h⟩:=h;unfold leL at h1 h2;by_cases x1:x<z
  ·have x2:¬ z<x:=UInt8.lt_asymm x1;simp[x1,x2] at h2
  ·by_cases x2:z<x
   ·simp[x1,x2] at h1
   ·simp only[x1,x2,if_false] at h1 h2;rw[List.isPrefixOf_cons_cons,Qfv x1 x2,beq_self_eq_true,Bool.true_and];exact Ype h1 h2 h
theorem Ydv (a:List UInt8):a.isPrefixOf a=true:=by simp
theorem Yb5 {a b:List UInt8}:a.isPrefixOf b=true↔b.take a.length=a:=by
 rw[List.isPrefixOf_iff_prefix];exact⟨fun h=>(List.prefix_iff_eq_take.1 h).symm,fun h=>List.prefix_iff_eq_take.2 h.symm⟩
theorem Yb4 {a b:List UInt8}(h:a.isPrefixOf b=true):a.length≤b.length:=by
 have:=congrArg List.length (Yb5.1 h);rw[List.length_take] at this;omega
theorem Yg5 (b:List UInt8)(n:Nat):(b.take n).isPrefixOf b=true:=by
 rw[List.isPrefixOf_iff_prefix];exact List.take_prefix n b
theorem Yfr {a b c:List UInt8}(h1:a.isPrefixOf b=true)(h2:b.isPrefixOf c=true):a.isPrefixOf c=true:=by
 rw[List.isPrefixOf_iff_prefix] at *;exact h1.trans h2
def Yhh (l:List (List UInt8)):Prop:=l.Pairwise fun a b=>a.isPrefixOf b=false∧b.isPrefixOf a=false
theorem Ygc {l m:List (List UInt8)}(h:l.Perm m):Yhh l↔Yhh m:=h.pairwise_iff fun h=>⟨h.2,h.1⟩
theorem Yjl {l:List (List UInt8)}(h:Yhh l){x y:List UInt8}(hx:x∈l)(hy:y∈l)(hp:x.isPrefixOf y=true):x=y:=by
 obtain⟨i,hi,rfl⟩:=List.getElem_of_mem hx;obtain⟨j,hj,rfl⟩:=List.getElem_of_mem hy;rcases Nat.lt_trichotomy i j with hij|rfl|hij
 ·have:=(List.pairwise_iff_getElem.1 h i j hi hj hij).1;rw[hp] at this;cases this
 ·rfl
 ·have:=(List.pairwise_iff_getElem.1 h j i hj hi hij).2;rw[hp] at this;cases this
theorem Ykh {l:List (List UInt8)}:Yhh l↔∀i j,(hi:i<l.length)→(hj:j<l.length)→i≠j→(l[i].isPrefixOf l[j])=false:=by
 unfold Yhh;rw[List.pairwise_iff_getElem];constructor
 ·intro h i j hi hj hne;rcases Nat.lt_or_gt_of_ne hne with hij|hij
  ·exact(h i j hi hj hij).1
  ·exact(h j i hj hi hij).2
 ·exact fun h i j hi hj hij=>⟨h i j hi hj (by omega),h j i hj hi (by omega)⟩
theorem Yjm:∀{l:List (List UInt8)},l.Pairwise (fun a b=>leL a b=true)→(∀i,(h:i+1<l.length)→(l[i].isPrefixOf l[i+1])=false)→Yhh l
 |[],_,_=>List.Pairwise.nil
 |[a],_,_=>List.pairwise_singleton _ _
 |a::c::l,hs,hn=>by
  have h0:=hn 0 (by simp);simp only[List.getElem_cons_zero,Nat.zero_add,List.getElem_cons_succ] at h0;have ih:Yhh (c::l):=Yjm (List.pairwise_cons.1 hs).2 fun i hi=>by
   have:=hn (i+1) (by simpa using hi)
   simpa using this
  have ha:=(List.pairwise_cons.1 hs).1;have hc:=(List.pairwise_cons.1 (List.pairwise_cons.1 hs).2).1;have no:∀b∈c::l,a.isPrefixOf b=false:=by
   intro b hb;cases hab:a.isPrefixOf b with
   |false=>rfl
   |true=>
    rcases List.mem_cons.1 hb with rfl|hb'
    ·rw[hab] at h0;cases h0
    ·rw[Ype (ha c List.mem_cons_self) (hc b hb') hab] at h0;cases h0
  refine List.pairwise_cons.2 ⟨fun b hb=>⟨no b hb,?_⟩,ih⟩;cases hba:b.isPrefixOf a with
  |false=>rfl
  |true=>
   have e:=Y1u (Qgp hba) (ha b hb);have:=no b hb;rw[e,Ydv] at this;cases this
def Yck (r:List UInt8):Bool:=!r.isEmpty&&decide (r.length≤24)&&Yax r
theorem Yo2 {r:List UInt8}(h1:r≠[])(h2:r.length≤24)(h3:Yax r=true):Yck r=true:=by
 unfold Yck;simp[h1,h2,h3]
theorem Yb1 {r:List UInt8}(h:Yck r=true):r≠[]∧r.length≤24∧Yax r=true:=by
 unfold Yck at h;simp at h;exact⟨h.1.1,h.1.2,h.2⟩
def tk (rows:List (List UInt8))(b:List UInt8):Nat→Nat→Int×Nat
 |0,_=>(3,0)
 |k+1,n=>if b.length<n then (2,0) else if b.take n∈rows then (0,n) else if rows.any (fun r=>(b.take n).isPrefixOf r)=true then tk rows b k (n+1) else (3,0)
theorem Y0s {l m:List (List UInt8)}(h:l.Perm m)(b:List UInt8):∀k n,tk l b k n=tk m b k n
 |0,_=>rfl
 |k+1,n=>by
  have e:(l.any fun r=>(b.take n).isPrefixOf r)=m.any fun r=>(b.take n).isPrefixOf r:=by
   rw[Bool.eq_iff_iff,List.any_eq_true,List.any_eq_true];exact⟨fun⟨x,hx,hp⟩=>⟨x,h.mem_iff.1 hx,hp⟩,fun⟨x,hx,hp⟩=>⟨x,h.mem_iff.2 hx,hp⟩⟩
  unfold tk;simp only[h.mem_iff,e,Y0s h b k (n+1)]
theorem Yx1 {l:List (List UInt8)}{b:List UInt8}:∀{k n m:Nat},tk l b k n=(0,m)→b.take m∈l∧m≤b.length∧n≤m
 |0,_,_,h=>by cases h
 |k+1,n,m,h=>by
  unfold tk at h
  split at h
  ·cases h
  ·split at h
   ·rename_i h1 h2
    injection h with _ h;subst h;exact⟨h2,by omega,Nat.le_refl _⟩
   ·split at h
    ·have:=Yx1 h;exact⟨this.1,this.2.1,by omega⟩
    ·cases h
theorem Yuq (l:List (List UInt8))(b:List UInt8):∀k n,(tk l b k n).1=0∨((tk l b k n).1=2∧(tk l b k n).2=0)∨((tk l b k n).1=3∧(tk l b k n).2=0)
 |0,_=>.inr (.inr ⟨rfl,rfl⟩)
 |k+1,n=>by
  unfold tk
  split
  ·exact .inr (.inl ⟨rfl,rfl⟩)
  ·split
   ·exact .inl rfl
   ·split
    ·exact Yuq l b k (n+1)
    ·exact .inr (.inr ⟨rfl,rfl⟩)
theorem Y2u {l:List (List UInt8)}(hf:Yhh l){b r:List UInt8}(hr:r∈l)(hp:r.isPrefixOf b=true):∀{k n:Nat},n≤r.length→r.length<n+k→tk l b k n=(0,r.length)
 |0,n,h1,h2=>by omega
 |k+1,n,h1,h2=>by
  have hb:=Yb4 hp;have ht:(b.take n)=r.take n:=by
   have e:b.take r.length=r:=Yb5.1 hp;rw[show r.take n=(b.take r.length).take n by rw[e],List.take_take,Nat.min_eq_left h1]
  unfold tk;rw[if_neg (by omega),ht];by_cases hn:n=r.length
  ·subst hn;rw[List.take_length,if_pos hr]
  ·have hnot:¬ r.take n∈l:=by
    intro hm;have:=congrArg List.length (Yjl hf hm hr (Yg5 r n));rw[List.length_take] at this;omega
   rw[if_neg hnot,if_pos (List.any_eq_true.2 ⟨r,hr,Yg5 r n⟩)];exact Y2u hf hr hp (by omega) (by omega)
theorem Yrl {α:Type}{p:α→Bool}:∀{l:List α},l.Pairwise (fun x y=>p y=true→p x=true)→l.takeWhile p=l.filter p∧l.dropWhile p=l.filter (fun x=>!p x)
 |[],_=>⟨rfl,rfl⟩
 |x::l,h=>by
  obtain⟨h1,h2⟩:=List.pairwise_cons.1 h;cases hx:p x with
  |true=>
   obtain⟨i1,i2⟩:=Yrl h2;simp[hx,i1,i2]
  |false=>
   have no:∀y∈l,p y=false:=fun y hy=>by
    cases hy':p y with
    |false=>rfl
    |true=>rw[h1 y hy hy'] at hx;cases hx
   constructor
   ·simp only[List.takeWhile_cons,List.filter_cons,hx]
    symm
    simpa using no
   ·simp only[List.dropWhile_cons,List.filter_cons,hx];simp only[Bool.false_eq_true,if_false,Bool.not_false,if_true]
    congr 1
    symm
    rw[List.filter_eq_self];intro y hy;rw[no y hy];rfl
theorem Qjf:∀{k:Nat} {r s:List UInt8},leL r s=true→r.take k=s.take k→(h1:k<r.length)→(h2:k<s.length)→¬ s[k]<r[k]
 |_,[],_,_,_,h1,_=>absurd h1 (Nat.not_lt_zero _)
 |_,_::_,[],_,_,_,h2=>absurd h2 (Nat.not_lt_zero _)
 |0,x::r,y::s,h,_,_,_=>by
  intro hlt;have hlt:y<x:=hlt;unfold leL at h;have:¬ x<y:=UInt8.lt_asymm hlt;simp[hlt,this] at h
 |k+1,x::r,y::s,h,ht,h1,h2=>by
  rw[List.take_succ_cons,List.take_succ_cons] at ht;injection ht with e ht;subst e;unfold leL at h;simp only[UInt8.lt_irrefl,if_false] at h;exact Qjf h ht (by simpa using h1) (by simpa using h2)
theorem Y2m (q r:List UInt8)(c:UInt8)(h:q.length<r.length):(q++[c]).isPrefixOf r=(q.isPrefixOf r&&r[q.length]==c):=by
 rw[Bool.eq_iff_iff,Bool.and_eq_true,Yb5,Yb5,List.length_append,List.length_singleton,List.take_succ_eq_append_getElem h,beq_iff_eq];constructor
 ·intro h;have:=List.append_inj' h rfl;exact⟨this.1,by simpa using this.2⟩
 ·rintro⟨h1,h2⟩;rw[h1,h2]
section
variable {α:Type}(f:α→List UInt8)
def Ye5 (l:List α)(q:List UInt8):List α:=l.filter fun x=>q.isPrefixOf (f x)
theorem Yx0 (l:List α):Ye5 f l []=l:=by
 unfold Ye5;rw[List.filter_eq_self];intro x _;simp
def Ybg (at_:Nat)(x:α):Bool:=(f x)[at_]? == some 48
theorem Ysh {l:List α}{q:List UInt8}(hs:l.Pairwise fun x y=>leL (f x) (f y)=true)(hd:∀x∈l,Yax (f x)=true)(hl:∀x∈Ye5 f l q,q.length<(f x).length):
  (Ye5 f l q).takeWhile (Ybg f q.length)=Ye5 f l (q++[48])∧(Ye5 f l q).dropWhile (Ybg f q.length)=Ye5 f l (q++[49]):=by
 have dig:∀x∈Ye5 f l q,(hx:q.length<(f x).length)→(f x)[q.length]=48∨(f x)[q.length]=49:=fun x hx h=>by
  have h1:=Ykl (f x) q.length h (hd x (List.mem_filter.1 hx).1);rcases (by omega:(f x)[q.length].toNat=48∨(f x)[q.length].toNat=49) with h|h
  ·exact .inl (UInt8.toNat_inj.1 h)
  ·exact .inr (UInt8.toNat_inj.1 h)
 have mono:(Ye5 f l q).Pairwise (fun x y=>Ybg f q.length y=true→Ybg f q.length x=true):=by
  have hs':(Ye5 f l q).Pairwise fun x y=>leL (f x) (f y)=true:=hs.filter _;refine List.Pairwise.imp_of_mem ?_ hs';intro x y hx hy hle hn;have lx:=hl x hx;have ly:=hl y hy;unfold Ybg at hn ⊢;rw[List.getElem?_eq_getElem ly] at hn;rw[List.getElem?_eq_getElem lx];have hy48:(f y)[q.length]=48:=by simpa using hn
  have px:q.isPrefixOf (f x)=true:=(List.mem_filter.1 hx).2;have py:q.isPrefixOf (f y)=true:=(List.mem_filter.1 hy).2;have hat:=Qjf hle ((Yb5.1 px).trans (Yb5.1 py).symm) lx ly;rcases dig x hx lx with h|h
  ·rw[h];rfl
  ·rw[hy48,h] at hat;exact absurd (by decide) hat
 obtain⟨h1,h2⟩:=Yrl mono;rw[h1,h2];unfold Ye5;rw[List.filter_filter,List.filter_filter];constructor
 ·apply List.filter_congr;intro x hx;cases hp:q.isPrefixOf (f x) with
  |false=>
   rw[Bool.and_false];cases hq:(q++[48]).isPrefixOf (f x) with
   |false=>rfl
   |true=>rw[Yfr (by rw[List.isPrefixOf_iff_prefix];exact List.prefix_append _ _) hq] at hp;cases hp
  |true=>
   have lx:=hl x (List.mem_filter.2 ⟨hx,hp⟩);rw[Y2m _ _ _ lx,hp,Ybg,List.getElem?_eq_getElem lx];simp
 ·apply List.filter_congr;intro x hx;cases hp:q.isPrefixOf (f x) with
  |false=>
   rw[Bool.and_false];cases hq:(q++[49]).isPrefixOf (f x) with
   |false=>rfl
   |true=>rw[Yfr (by rw[List.isPrefixOf_iff_prefix];exact List.prefix_append _ _) hq] at hp;cases hp
  |true=>
   have lx:=hl x (List.mem_filter.2 ⟨hx,hp⟩);rw[Y2m _ _ _ lx,hp,Ybg,List.getElem?_eq_getElem lx];rcases dig x (List.mem_filter.2 ⟨hx,hp⟩) lx with h|h <;> rw[h] <;> rfl
end
theorem Yib (l:List UInt8)(p n:Nat)(h:p+(n+1)≤8*l.length):∃hn:n<((Yad l).drop p).length,(((Yad l).drop p)[n]=48∧Ya3 l p (n+1)%2=0)∨(((Yad l).drop p)[n]=49∧Ya3 l p (n+1)%2=1):=by
 have hlen:n<((Yad l).drop p).length:=by rw[List.length_drop,Yag];omega
 refine⟨hlen,?_⟩;have hr:=Ykl ((Yad l).drop p) n hlen (Ybf _ p (Yds l));have e:Ya3 l p (n+1)=num (((Yad l).drop p).take n)*2+num [((Yad l).drop p)[n]]:=by
  unfold Ya3;rw[List.take_succ_eq_append_getElem hlen,Yeo]
  rfl
 rcases (by omega:((Yad l).drop p)[n].toNat=48∨((Yad l).drop p)[n].toNat=49) with h|h
 ·have h':((Yad l).drop p)[n]=48:=UInt8.toNat_inj.1 h;rw[h'] at e;rw[show num [48]=0 from rfl] at e;exact .inl ⟨h',by omega⟩
 ·have h':((Yad l).drop p)[n]=49:=UInt8.toNat_inj.1 h;rw[h'] at e;rw[show num [49]=1 from rfl] at e;exact .inr ⟨h',by omega⟩
theorem Yur (rows:List (List UInt8))(b:List UInt8)(h:1≤b.length):∀k n,1≤n→tk rows b k n=tk (rows.filter fun r=>(b.take 1).isPrefixOf r) b k n
 |0,_,_=>rfl
 |k+1,n,hn=>by
  have hp:(b.take 1).isPrefixOf (b.take n)=true:=by
   rw[List.isPrefixOf_iff_prefix,show b.take 1=(b.take n).take 1 by rw[List.take_take,Nat.min_eq_left hn]];exact List.take_prefix _ _
  have e1:b.take n∈rows↔b.take n∈rows.filter fun r=>(b.take 1).isPrefixOf r:=by
   rw[List.mem_filter];exact⟨fun h=>⟨h,hp⟩,fun h=>h.1⟩
  have e2:(rows.any fun r=>(b.take n).isPrefixOf r)=(rows.filter fun r=>(b.take 1).isPrefixOf r).any fun r=>(b.take n).isPrefixOf r:=by
   rw[Bool.eq_iff_iff,List.any_eq_true,List.any_eq_true];constructor
   ·rintro⟨x,hx,h⟩;exact⟨x,List.mem_filter.2 ⟨hx,Yfr hp h⟩,h⟩
   ·rintro⟨x,hx,h⟩;exact⟨x,(List.mem_filter.1 hx).1,h⟩
  unfold tk;simp only[e1,←e2,Yur rows b h k (n+1) (by omega)]
end Go.Proofs.YtjjmalchelniiaaGreatDoor