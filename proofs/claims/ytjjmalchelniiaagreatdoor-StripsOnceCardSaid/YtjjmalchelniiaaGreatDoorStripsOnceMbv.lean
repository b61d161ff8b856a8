/- Part 48 of StripsOnce. No condition. -/
import Derived.Test.YtjjmalchelniiaaGreatDoorStripsOnceMz
import Derived.Test.YtjjmalchelniiaaGreatDoorStripsOnceMbl
import Derived.Test.YtjjmalchelniiaaGreatDoorStripsOnceMbm
import Derived.Test.YtjjmalchelniiaaGreatDoorStripsOnceMbu
namespace Go.Proofs.YtjjmalchelniiaaGreatDoor
open Go.RowKit
def Yq0 (ct:CelT):Prop:=∀inter S x y p i,((ct inter S x y p).1.ev i).length≤65
theorem Qhr:Yq0 ctk:=Y72
theorem Yvm {ct:CelT}(hct:Yq0 ct){l:List UInt8}{inter:Bool}{k first:Int}:∀(n p:Nat) (vs:List (Int×Int)) (c:Cel) (i:Nat),c∈(Ydj ct l inter k first n p vs).1→(c.ev i).length≤65
 |0,p,vs,c,i,h=>by rw[Ydj] at h;cases h
 |n+1,p,vs,c,i,h=>by
  rw[Ydj] at h;have h0:=hct inter (Yad l) (Yd3 vs (Yd0 k) first).1 (Yd3 vs (Yd0 k) first).2 p i;obtain⟨⟨c1,z,f⟩,hc⟩:∃r,ct inter (Yad l) (Yd3 vs (Yd0 k) first).1 (Yd3 vs (Yd0 k) first).2 p=r:=⟨_,rfl⟩;rw[hc] at h h0;simp only at h h0
  split at h
  ·cases h
  ·split at h
   ·cases h
   ·obtain⟨⟨cs',y,g⟩,hr⟩:∃r,Ydj ct l inter k first n z (vs++[(c1.mx,c1.my)])=r:=⟨_,rfl⟩
    rw[hr] at h;simp only at h
    split at h
    ·cases h
    ·rcases List.mem_cons.1 h with rfl|h
     ·exact h0
     ·exact Yvm hct n z _ c i (by rw[hr];exact h)
theorem Y2d {ct:CelT}(hct:Yq0 ct){l:List UInt8}{inter:Bool}{k:Int}:∀(n j p:Nat) (vs:List (Int×Int)) (first:Int) (c:Cel) (i:Nat),c∈(Yir ct l inter k n j p vs first).1.flatMap (·.cels)→(c.ev i).length≤65
 |0,j,p,vs,first,c,i,h=>by rw[Yir] at h;cases h
 |n+1,j,p,vs,first,c,i,h=>by
  rw[Yir] at h;obtain⟨⟨hd,id,qu,z,fs,f⟩,hh⟩:∃r,Yi2 l k j p first=r:=⟨_,rfl⟩
  rw[hh] at h;simp only at h
  split at h
  ·cases h
  ·have h0:=Yvm hct (l:=l) (inter:=inter) (k:=k) (first:=fs) (Yf6 k).toNat z vs c i;obtain⟨⟨cs,y,g⟩,hc⟩:∃r,Ydj ct l inter k fs (Yf6 k).toNat z vs=r:=⟨_,rfl⟩;rw[hc] at h h0;simp only at h h0
   split at h
   ·cases h
   ·obtain⟨⟨rs',q',e⟩,hr⟩:∃r,Yir ct l inter k n (j+1) y (vs++Ydl cs) fs=r:=⟨_,rfl⟩;rw[hr] at h;simp only at h
    split at h
    ·cases h
    ·simp only[List.flatMap_cons,List.mem_append] at h;rcases h with h|h
     ·exact h0 h
     ·exact Y2d hct n (j+1) y _ fs c i (by rw[hr];exact h)
theorem Qiz {ct:CelT}(hct:Yq0 ct){l:List UInt8}{p:Nat}:∀c∈Ygv (wtk ct l p).1,∀i,(c.ev i).length≤65:=by
 intro c h i;unfold wtk at h;obtain⟨⟨hd,q,f⟩,hk⟩:∃r,shk l p=r:=⟨_,rfl⟩;rw[hk] at h;simp only at h
 split at h
 ·cases h
 ·have h0:=Y2d hct (l:=l) (inter:=hd.inter) (k:=hd.fmt) (Yhx hd.fmt).toNat 0 q [] 0 c i;obtain⟨⟨rs,z,g⟩,hr⟩:∃r,Yir ct l hd.inter hd.fmt (Yhx hd.fmt).toNat 0 q [] 0=r:=⟨_,rfl⟩;rw[hr] at h h0;simp only at h h0
  split at h
  ·cases h
  ·split at h
   ·cases h
   ·exact h0 h
theorem Qb2 {ct:CelT}{l:List UInt8}{p q:Nat}{S:ShP}(hct:Yfa ct (Yad l))(h:wtk ct l p=(S,q,0)):S.zeros≤l.length:=by
 obtain⟨-,-,-,-,h0,hs⟩:=Ynm hct h;have h1:=hs.len;have h2:=hs.2.1;rw[Yag] at h2;unfold Ybm at h1;simp only[List.length_append,List.length_replicate] at h1;omega
theorem Yyd {ct:CelT}{l:List UInt8}{p q:Nat}{S:ShP}(h:wtk ct l p=(S,q,0)):q%8=0:=by
 unfold wtk at h;obtain⟨⟨hd,z0,f⟩,hk⟩:∃r,shk l p=r:=⟨_,rfl⟩;rw[hk] at h;simp only at h;by_cases hf:f=0
 case neg=>rw[if_pos hf] at h;injection h with _ h;injection h with _ h;exact absurd h hf
 rw[if_neg (fun x=>x hf)] at h;obtain⟨⟨rs,z,g⟩,hr⟩:∃r,Yir ct l hd.inter hd.fmt (Yhx hd.fmt).toNat 0 z0 [] 0=r:=⟨_,rfl⟩;rw[hr] at h;simp only at h;by_cases hg:g=0
 case neg=>rw[if_pos hg] at h;injection h with _ h;injection h with _ h;exact absurd h hg
 rw[if_neg (fun x=>x hg)] at h;by_cases h0:Ya3 l z (gap z)=0
 case neg=>rw[if_pos h0] at h;injection h with _ h;injection h with _ h;cases h
 rw[if_neg (fun x=>x h0)] at h;injection h with _ h;injection h with h _;rw[←h];unfold gap;omega
structure StrP where
 sheets:List ShP
 fin:Bool
def Ynj:StrP:=⟨[],false⟩
def Ydk (pr:Option Int)(S:ShP):Bool:=!S.hd.inter || pr==some S.hd.fmt
def Yjs:Option Int→List ShP→Int
 |_,[]=>0
 |pr,S::r=>if Yd5 S≠0 then Yd5 S else if Ydk pr S=false then 11 else Yjs (some S.hd.fmt) r
def Yek (t:StrP):Int:=if t.sheets.length=0∨64<t.sheets.length then 12 else Yjs none t.sheets
def Qjz (a b:StrP):Bool:=a.fin==b.fin&&(decide (a.sheets.length=b.sheets.length)&&(a.sheets.zip b.sheets).all fun p=>shB p.1 p.2)
def Ydb (l:List ShP):Option Int:=l.getLast?.map (·.hd.fmt)
theorem Yrg (l:List ShP)(S:ShP):Ydb (l++[S])=some S.hd.fmt:=by unfold Ydb;rw[List.getLast?_concat];rfl
def Ykw (ct:CelT)(l:List UInt8):Nat→Nat→List ShP→StrP×Nat×Int
 |0,p,_=>(Ynj,p / 8,13)
 |n+1,p,done=>
  if p=8*l.length then (if done.length=0 then (Ynj,p / 8,2) else (⟨done,false⟩,0,0))
  else if 0<done.length∧(Yaz l p).2=0∧(Yaz l p).1=31 then (if 8*l.length=p+24∧Ya3 l (p+22) 2=0 then (⟨done,true⟩,0,0) else (Ynj,p / 8,5))
  else match wtk ct l p with
   |(S,q,f)=>if f≠0 then (Ynj,p / 8,f) else if 64≤done.length then (Ynj,p / 8,13) else if Ydk (Ydb done) S=false then (Ynj,p / 8,11) else Ykw ct l n q (done++[S])
def Ybj (ct:CelT)(l:List UInt8):StrP×Nat×Int:=if 262144<l.length then (Ynj,0,13) else Ykw ct l 65 0 []
def Qhm (b:Bool):List UInt8:=if b then Ybq 31++[48,48] else []
def Ybi (l:List ShP)(b:Bool):List UInt8:=l.flatMap (Ybm 0)++Qhm b
theorem Yxp {ct:CelT}{l:List UInt8}(hct:Yfa ct (Yad l))(hl:l.length≤262144):∀(n p:Nat) (done:List ShP) (T:StrP) (a:Nat),p≤8*l.length→done.length≤64→Ykw ct l n p done=(T,a,0)→
  a=0∧∃rest,T.sheets=done++rest∧Seg (Yad l) p (8*l.length) (Ybi rest T.fin)∧Yjs (Ydb done) rest=0∧(0<T.sheets.length∧T.sheets.length≤64)
 |0,p,done,T,a,_,_,h=>by rw[Ykw] at h;cases h
 |n+1,p,done,T,a,hp,hd,h=>by
  rw[Ykw] at h;by_cases he:p=8*l.length
  ·rw[if_pos he] at h;by_cases h0:done.length=0
   ·rw[if_pos h0] at h;cases h
   ·rw[if_neg h0] at h;injection h with e1 h;injection h with e2 _;subst e1 e2;exact⟨rfl,[],by simp,by rw[he];exact Seg.nil (by rw[Yag];exact Nat.le_refl _),rfl,by simp only;omega,hd⟩
  rw[if_neg he] at h;by_cases hm:0<done.length∧(Yaz l p).2=0∧(Yaz l p).1=31
  ·rw[if_pos hm] at h;by_cases hx:8*l.length=p+24∧Ya3 l (p+22) 2=0
   ·rw[if_pos hx] at h;injection h with e1 h;injection h with e2 _;subst e1 e2;refine⟨rfl,[],by simp,?_,rfl,hm.1,hd⟩;have ht:Ya3 l p 22=32+31:=by
     have h2:=hm.2;rw[Ye4 (by omega)] at h2;by_cases ht:Ya3 l p 22 / 32=1
     ·rw[if_pos ht] at h2;simp only at h2;omega
     ·rw[if_neg ht] at h2;exact absurd h2.1 (by decide)
    have s1:=Yce (l:=l) (p:=p) (n:=22) (by omega);rw[ht] at s1;have s2:=Ygi (l:=l) (p:=p+22) (n:=2) (by omega) hx.2;have s3:=s1.app s2;rw[show p+22+2=8*l.length by omega] at s3;exact s3
   ·rw[if_neg hx] at h;cases h
  ·rw[if_neg hm] at h;obtain⟨⟨S,q,f⟩,hw⟩:∃r,wtk ct l p=r:=⟨_,rfl⟩;rw[hw] at h;simp only at h;by_cases hf:f=0
   case neg=>rw[if_pos hf] at h;injection h with _ h;injection h with _ h;exact absurd h hf
   rw[if_neg (fun x=>x hf)] at h;subst hf;by_cases h64:64≤done.length
   ·rw[if_pos h64] at h;cases h
   rw[if_neg h64] at h;by_cases hfo:Ydk (Ydb done) S=false
   ·rw[if_pos hfo] at h;cases h
   rw[if_neg hfo] at h;obtain⟨p8,q8,hpq,hsh,h0,hs⟩:=Ynm hct hw;have hz:=Qb2 hct hw;have hq:=hs.2.1;rw[Yag] at hq;obtain⟨ea,rest,e1,s1,e2,e3⟩:=Yxp hct hl n q (done++[S]) T a hq (by rw[List.length_append];simp only[List.length_cons,List.length_nil];omega) h;refine⟨ea,S::rest,by rw[e1];simp,?_,?_,e3⟩
   ·unfold Ybi;rw[List.flatMap_cons,List.append_assoc];rw[Yie (p:=p) (q:=0) (by omega)] at hs;exact hs.app s1
   ·rw[Yjs,if_neg (fun x=>x (hsh (by omega))),if_neg hfo];rw[Yrg] at e2;exact e2
theorem Ymp {ct:CelT}{l:List UInt8}{T:StrP}{a:Nat}(hct:Yfa ct (Yad l))(h:Ybj ct l=(T,a,0)):a=0∧l.length≤262144∧Yek T=0∧Yad l=Ybi T.sheets T.fin:=by
 unfold Ybj at h;by_cases hl:262144<l.length
 ·rw[if_pos hl] at h;cases h
 rw[if_neg hl] at h;obtain⟨ea,rest,e1,s1,e2,e3⟩:=Yxp hct (by omega) 65 0 [] T a (Nat.zero_le _) (Nat.zero_le _) h;rw[List.nil_append] at e1;subst e1;refine⟨ea,by omega,?_,?_⟩
 ·unfold Yek;rw[if_neg (by omega)];exact e2
 ·obtain⟨-,-,s3⟩:=s1;rw[List.drop_zero,Nat.sub_zero,←Yag,List.take_length] at s3;exact s3
theorem Y0c {a b:Shd}(h:Qjr a b=true):a.fmt=b.fmt∧a.inter=b.inter:=by
 unfold Qjr at h;simp only[Bool.and_eq_true,beq_iff_eq] at h;exact⟨h.2.2.1,h.2.2.2.1⟩
theorem Yln {l:List UInt8}{p q n:Nat}(hn:n<32)(h:Seg (Yad l) p q (Ybq n)):(Yaz l p).2=0∧(Yaz l p).1=n∧q=p+22:=by
 obtain⟨a,e,b⟩:=Ybv (v:=32+n) (n:=22) h (by show 32+n<4194304;omega);rw[Ye4 b,a,if_pos (by omega)];exact⟨rfl,by simp only;omega,e⟩
theorem Ysk {l:List UInt8}{p q:Nat}{S:ShP}{r:List UInt8}(h:Seg (Yad l) p q (Ybm 0 S++r)):(Yaz l p).2=0∧(Yaz l p).1=0:=by
 unfold Ybm at h;simp only[List.append_assoc] at h;obtain⟨z,h1,-⟩:=h.cut;obtain⟨a,b,-⟩:=Yln (n:=0) (by decide) h1;exact⟨a,b⟩
theorem Ysb {ct:CelT}{l:List UInt8}{b:Bool}(hct:Yf7 ct (Yad l)):∀(rest:List ShP) (n p:Nat) (done:List ShP),p%8=0→done.length+rest.length≤64→rest.length<n→0<done.length+rest.length→Yjs (Ydb done) rest=0→
  Seg (Yad l) p (8*l.length) (Ybi rest b)→∃T,Ykw ct l n p done=(T,0,0)∧T.fin=b∧∃r',T.sheets=done++r'∧r'.length=rest.length∧((r'.zip rest).all fun p=>shB p.1 p.2)=true
 |[],0,p,done,_,_,hn,_,_,_=>by cases hn
 |[],n+1,p,done,_,_,_,h0,_,hs=>by
  rw[Ykw];have h0:0<done.length:=h0;cases b with
  |false=>
   have e:8*l.length=p:=hs.len;rw[if_pos e.symm,if_neg (by omega)];exact⟨⟨done,false⟩,rfl,rfl,[],by simp,rfl,rfl⟩
  |true=>
   have hs':Seg (Yad l) p (8*l.length) (Ybq 31++[48,48]):=hs;have hlen:=hs'.len;rw[List.length_append,Ybb] at hlen;have hlen:8*l.length=p+24:=hlen;obtain⟨z,s1,s2⟩:=hs'.cut;obtain⟨m1,m2,ez⟩:=Yln (n:=31) (by decide) s1;subst ez;have s3:Seg (Yad l) (p+22) (8*l.length) (Yav 0 2):=by rw[Ydc];exact s2
   obtain⟨t,-,-⟩:=Ybv s3 (by decide);rw[if_neg (by omega),if_pos ⟨h0,m1,m2⟩,if_pos ⟨hlen,t⟩];exact⟨⟨done,true⟩,rfl,rfl,[],by simp,rfl,rfl⟩
 |S::rest,0,p,done,_,_,hn,_,_,_=>by cases hn
 |S::rest,n+1,p,done,h8,h64,hn,h0,hE,hs=>by
  rw[Ykw];rw[List.length_cons] at h64 hn;rw[Yjs] at hE;by_cases hsh:Yd5 S=0
  case neg=>rw[if_pos hsh] at hE;exact absurd hE hsh
  rw[if_neg (fun x=>x hsh)] at hE;by_cases hfo:Ydk (Ydb done) S=false
  ·rw[if_pos hfo] at hE;exact absurd hE (by decide)
  rw[if_neg hfo] at hE;have hs':Seg (Yad l) p (8*l.length) (Ybm 0 S++Ybi rest b):=by
   unfold Ybi at hs ⊢;rw[List.flatMap_cons,List.append_assoc] at hs;exact hs
  obtain⟨m1,m2⟩:=Ysk hs';obtain⟨q,s1,s2⟩:=hs'.cut;have hlong:=Yux 0 S;have elen:=s1.len;have hq:=s1.2.1;rw[Yag] at hq;rw[if_neg (by omega),if_neg (fun x=>by rw[m2] at x;exact absurd x.2.2 (by decide))];have hnext:q=8*l.length∨(Yaz l q).2=0:=by
   cases rest with
   |cons S2 r2=>
    right
    have h2:Seg (Yad l) q (8*l.length) (Ybm 0 S2++Ybi r2 b):=by
     unfold Ybi at s2 ⊢;rw[List.flatMap_cons,List.append_assoc] at s2;exact s2
    exact(Ysk h2).1
   |nil=>
    cases b with
    |false=>
     left
     have e:8*l.length=q:=s2.len;exact e.symm
    |true=>
     right
     have h2:Seg (Yad l) q (8*l.length) (Ybq 31++[48,48]):=s2;obtain⟨z,h3,-⟩:=h2.cut;exact(Yln (n:=31) (by decide) h3).1
  rw[Yie (p:=0) (q:=p) (by omega)] at s1;obtain⟨S',hw,hB⟩:=Qb1 hct h8 hsh s1 hnext;have hq8:=Yyd hw;have hf:=Y0c (a:=S'.hd) (b:=S.hd) (by unfold shB at hB;rw[Bool.and_eq_true] at hB;exact hB.1);have hfo':¬ Ydk (Ydb done) S'=false:=by
   unfold Ydk at hfo ⊢;rw[hf.1,hf.2];exact hfo
  obtain⟨T,e1,e2,r',e3,e4,e5⟩:=Ysb hct rest n q (done++[S']) hq8 (by rw[List.length_append];simp only[List.length_cons,List.length_nil];omega) (by omega) (by rw[List.length_append];simp only[List.length_cons,List.length_nil];omega)
   (by rw[Yrg,hf.1];exact hE) s2
  refine⟨T,?_,e2,S'::r',by rw[e3];simp,by rw[List.length_cons,List.length_cons,e4],by rw[List.zip_cons_cons,List.all_cons,hB,e5];rfl⟩;rw[hw];simp only;rw[if_neg (by decide),if_neg (by omega),if_neg hfo'];exact e1
theorem Yui {ct:CelT}{l:List UInt8}{T:StrP}(hct:Yf7 ct (Yad l))(hT:Yek T=0)(hl:l.length≤262144)(hs:Yad l=Ybi T.sheets T.fin):∃T',Ybj ct l=(T',0,0)∧Qjz T' T=true:=by
 unfold Yek at hT;by_cases h0:T.sheets.length=0∨64<T.sheets.length
 ·rw[if_pos h0] at hT;exact absurd hT (by decide)
 rw[if_neg h0] at hT;have hseg:Seg (Yad l) 0 (8*l.length) (Ybi T.sheets T.fin):=⟨Nat.zero_le _,by rw[Yag];exact Nat.le_refl _,by rw[List.drop_zero,Nat.sub_zero,←Yag,List.take_length,hs]⟩;obtain⟨T',e1,e2,r',e3,e4,e5⟩:=Ysb hct T.sheets 65 0 [] rfl (by simp only[List.length_nil];omega) (by omega) (by simp only[List.length_nil];omega) hT hseg;refine⟨T',by unfold Ybj;rw[if_neg (by omega)];exact e1,?_⟩
 rw[List.nil_append] at e3;unfold Qjz;rw[e2,e3,e4];simp[e5]
theorem Yrs {l:List UInt8}(h:l.length%8=0):Y6o l=l:=by
 unfold Y6o;rw[show (8-l.length%8)%8=0 by omega];exact List.append_nil l
theorem Y5r (l:List ShP):Yax (l.flatMap (Ybm 0))=true:=by
 induction l with
 |nil=>rfl
 |cons S l ih=>rw[List.flatMap_cons,Yar,Yya,ih];rfl
theorem Yxj (l:List ShP):(l.flatMap (Ybm 0)).length%8=0:=by
 induction l with
 |nil=>rfl
 |cons S l ih=>
  have h:=Yrn [] S;rw[Qel] at h;rw[List.flatMap_cons,List.length_append];omega
theorem Qdq (b:Bool):Yax (Qhm b)=true:=by cases b <;> decide +kernel
theorem Ymo (l:List ShP)(b:Bool):Yax (Ybi l b)=true:=by
 unfold Ybi;rw[Yar,Y5r,Qdq];rfl
theorem Yia (l:List ShP)(b:Bool):(Ybi l b).length%8=0:=by
 have h:=Yxj l;unfold Ybi;rw[List.length_append];cases b with
 |false=>exact h
 |true=>
  have e:(Qhm true).length=24:=by decide +kernel
  rw[e];omega
theorem Qbo {l:List UInt8}{s:List ShP}{b:Bool}(h:Yad l=Ybi s b):l=Ygg (Ybi s b):=by
 apply Ypo;rw[Ypp _ (Ymo s b),Yrs (Yia s b),h]
theorem Yxz {s:List ShP}{b:Bool}:Yad (Ygg (Ybi s b))=Ybi s b:=by rw[Ypp _ (Ymo s b),Yrs (Yia s b)]
theorem Yup (s:List ShP)(b:Bool):8*(Ygg (Ybi s b)).length=(Ybi s b).length:=by rw[←Yag,Yxz]
def Yd4 (r:List UInt8)(l:List ShP):List UInt8:=l.foldl Yu4 r
theorem Y13:∀(l:List ShP) (r:List UInt8),r.length%8=0→Yd4 r l=r++l.flatMap (Ybm 0)
 |[],r,_=>(List.append_nil r).symm
 |S::l,r,h=>by
  show Yd4 (Yu4 r S) l=_;rw[Y13 l (Yu4 r S) (Yrn r S),Y9p h,List.flatMap_cons,List.append_assoc]
theorem Yo4 (l:List ShP):Yd4 [] l=Ybi l false:=by
 rw[Y13 l [] rfl];unfold Ybi Qhm;rw[if_neg (by decide),List.append_nil];rfl
theorem Y40 (r:List UInt8)(l:List ShP)(S:ShP):Yd4 r (l++[S])=Yu4 (Yd4 r l) S:=by unfold Yd4;rw[List.foldl_append];rfl
theorem Qem (l:List ShP):Yc3 (Yd4 [] l) 31++List.replicate (gap (Yc3 (Yd4 [] l) 31).length) 48=Ybi l true:=by
 have h8:=Yia l false;rw[Yo4];have hg:gap (Ybi l false).length=0:=by unfold gap;omega
 unfold Yc3;rw[hg,List.replicate_zero,List.append_nil];rw[show gap (Ybi l false++Ybq 31).length=2 by rw[List.length_append,Ybb];unfold gap;omega];unfold Ybi;rw[show Qhm true=Ybq 31++List.replicate 2 48 from rfl,show Qhm false=[] from rfl];simp only[List.append_nil,List.append_assoc]
theorem Ykx {ct:CelT}{l:List UInt8}{p:Nat}{done:List ShP}(n:Nat)(h:p=8*l.length):Ykw ct l (n+1) p done=if done.length=0 then (Ynj,p / 8,2) else (⟨done,false⟩,0,0):=by rw[Ykw,if_pos h]
theorem Yps {ct:CelT}{l:List UInt8}{p:Nat}{done:List ShP}(n:Nat)(h:p≠8*l.length)(hm:0<done.length∧(Yaz l p).2=0∧(Yaz l p).1=31):
  Ykw ct l (n+1) p done=if 8*l.length=p+24∧Ya3 l (p+22) 2=0 then (⟨done,true⟩,0,0) else (Ynj,p / 8,5):=by rw[Ykw,if_neg h,if_pos hm]
theorem Yit {ct:CelT}{l:List UInt8}{p q:Nat}{f:Int}{S:ShP}{done:List ShP}(n:Nat)(h:p≠8*l.length)(hm:¬ (0<done.length∧(Yaz l p).2=0∧(Yaz l p).1=31))(hw:wtk ct l p=(S,q,f)):
  Ykw ct l (n+1) p done=if f≠0 then (Ynj,p / 8,f) else if 64≤done.length then (Ynj,p / 8,13) else if Ydk (Ydb done) S=false then (Ynj,p / 8,11) else Ykw ct l n q (done++[S]):=by rw[Ykw,if_neg h,if_neg hm,hw]
theorem Y2p {ct:CelT}{l:List UInt8}(hct:Yfa ct (Yad l)):∀(n p:Nat) (done:List ShP),p≤8*l.length→(Ykw ct l n p done).2.2≠0→(Ykw ct l n p done).1=Ynj∧(Ykw ct l n p done).2.1≤l.length
 |0,p,done,hp,_=>⟨rfl,show p / 8≤l.length by omega⟩
 |n+1,p,done,hp,h=>by
  by_cases he:p=8*l.length
  ·rw[Ykx n he] at h ⊢;by_cases h0:done.length=0
   ·rw[if_pos h0];exact⟨rfl,by simp only;omega⟩
   ·rw[if_neg h0] at h;exact absurd rfl h
  by_cases hm:0<done.length∧(Yaz l p).2=0∧(Yaz l p).1=31
  ·rw[Yps n he hm] at h ⊢;by_cases hx:8*l.length=p+24∧Ya3 l (p+22) 2=0
   ·rw[if_pos hx] at h;exact absurd rfl h
   ·rw[if_neg hx];exact⟨rfl,by simp only;omega⟩
  obtain⟨⟨S,q,f⟩,hw⟩:∃r,wtk ct l p=r:=⟨_,rfl⟩;rw[Yit n he hm hw] at h ⊢;by_cases hf:f=0
  case neg=>rw[if_pos hf];exact⟨rfl,by simp only;omega⟩
  rw[if_neg (fun x=>x hf)] at h ⊢;by_cases h64:64≤done.length
  ·rw[if_pos h64];exact⟨rfl,by simp only;omega⟩
  rw[if_neg h64] at h ⊢;by_cases hfo:Ydk (Ydb done) S=false
  ·rw[if_pos hfo];exact⟨rfl,by simp only;omega⟩
  rw[if_neg hfo] at h ⊢;subst hf;have hq:=(Ynm hct hw).2.2.2.2.2.2.1;rw[Yag] at hq;exact Y2p hct n q _ hq h
theorem Ypt {ct:CelT}{l:List UInt8}(hct:Yfa ct (Yad l))(h:(Ybj ct l).2.2≠0):(Ybj ct l).1=Ynj∧(Ybj ct l).2.1≤l.length:=by
 unfold Ybj at h ⊢;by_cases hl:262144<l.length
 ·rw[if_pos hl];exact⟨rfl,Nat.zero_le _⟩
 ·rw[if_neg hl] at h ⊢;exact Y2p hct 65 0 [] (Nat.zero_le _) h
def Qj0 (S:ShP):Prop:=∀c∈Ygv S,∀i,(c.ev i).length≤65
theorem Y2q {ct:CelT}(hct:Yq0 ct){l:List UInt8}:∀(n p:Nat) (done:List ShP),(∀S∈done,Qj0 S)→∀S∈(Ykw ct l n p done).1.sheets,Qj0 S
 |0,p,done,_=>fun S h=>by rw[Ykw] at h;cases h
 |n+1,p,done,hd=>by
  intro S h;by_cases he:p=8*l.length
  ·rw[Ykx n he] at h;by_cases h0:done.length=0
   ·rw[if_pos h0] at h;cases h
   ·rw[if_neg h0] at h;exact hd S h
  by_cases hm:0<done.length∧(Yaz l p).2=0∧(Yaz l p).1=31
  ·rw[Yps n he hm] at h;by_cases hx:8*l.length=p+24∧Ya3 l (p+22) 2=0
   ·rw[if_pos hx] at h;exact hd S h
   ·rw[if_neg hx] at h;cases h
  obtain⟨⟨S1,q,f⟩,hw⟩:∃r,wtk ct l p=r:=⟨_,rfl⟩;rw[Yit n he hm hw] at h;by_cases hf:f=0
  case neg=>rw[if_pos hf] at h;cases h
  rw[if_neg (fun x=>x hf)] at h;by_cases h64:64≤done.length
  ·rw[if_pos h64] at h;cases h
  rw[if_neg h64] at h;by_cases hfo:Ydk (Ydb done) S1=false
  ·rw[if_pos hfo] at h;cases h
  rw[if_neg hfo] at h;refine Y2q hct n q (done++[S1]) (fun S2 h2=>?_) S h;rcases List.mem_append.1 h2 with h2|h2
  ·exact hd S2 h2
  ·rw[List.mem_singleton.1 h2];have h3:=Qiz hct (l:=l) (p:=p);rw[hw] at h3;exact h3
theorem Y0k {ct:CelT}(hct:Yq0 ct)(l:List UInt8):∀S∈(Ybj ct l).1.sheets,Qj0 S:=by
 unfold Ybj;by_cases hl:262144<l.length
 ·rw[if_pos hl];intro S h;cases h
 ·rw[if_neg hl];exact Y2q hct 65 0 [] fun S h=>by cases h
theorem Yuh:∀(a b:List ShP) (pr:Option Int),Yjs pr (a++b)=if Yjs pr a≠0 then Yjs pr a else Yjs (if a.length=0 then pr else Ydb a) b
 |[],b,pr=>by simp[Yjs]
 |S::a,b,pr=>by
  have h0:∀r,Yjs pr (S::r)=if Yd5 S≠0 then Yd5 S else if Ydk pr S=false then 11 else Yjs (some S.hd.fmt) r:=fun r=>by rw[Yjs]
  rw[List.cons_append,h0,h0];by_cases h1:Yd5 S=0
  case neg=>simp[h1]
  by_cases h2:Ydk pr S=false
  ·simp[h1,h2]
  have h3:=Yuh a b (some S.hd.fmt);simp only[h1,h2,ne_eq,not_true_eq_false,if_false,List.length_cons,Nat.add_one_ne_zero] at h3 ⊢;rw[h3];cases a with
  |nil=>simp[Yjs,Ydb]
  |cons U a=>simp[Ydb]
theorem Qa9 {a:List ShP}{S:ShP}(h:Yjs none a=0):Yjs none (a++[S])=if Yd5 S≠0 then Yd5 S else if Ydk (Ydb a) S=false then 11 else 0:=by
 rw[Yuh,if_neg (fun x=>x h)];cases a with
 |nil=>rfl
 |cons U a=>rfl
theorem Qfn {a b:List ShP}(h:Yjs none a≠0):Yjs none (a++b)=Yjs none a:=by rw[Yuh,if_pos h]
theorem Ysa {T:StrP}(h:Yek T=0):(0<T.sheets.length∧T.sheets.length≤64)∧Yjs none T.sheets=0:=by
 unfold Yek at h;by_cases h0:T.sheets.length=0∨64<T.sheets.length
 ·rw[if_pos h0] at h;exact absurd h (by decide)
 ·rw[if_neg h0] at h;exact⟨by omega,h⟩
theorem Yjt:∀{l:List ShP} {pr:Option Int},Yjs pr l=0→∀S∈l,Yd5 S=0
 |[],_,_,S,hS=>by cases hS
 |U::l,pr,h,S,hS=>by
  rw[Yjs] at h;by_cases h1:Yd5 U=0
  case neg=>rw[if_pos h1] at h;exact absurd h h1
  rw[if_neg (fun x=>x h1)] at h;by_cases h2:Ydk pr U=false
  ·rw[if_pos h2] at h;exact absurd h (by decide)
  rw[if_neg h2] at h;rcases List.mem_cons.1 hS with rfl|hS
  ·exact h1
  ·exact Yjt h S hS
theorem Yro:∀(l:List ShP) (r:List UInt8),r.length≤(Yd4 r l).length
 |[],r=>Nat.le_refl _
 |S::l,r=>by
  have h:=Yro l (Yu4 r S);have h2:r.length≤(Yu4 r S).length:=by unfold Yu4;rw[List.length_append];omega
  show _≤(Yd4 (Yu4 r S) l).length;omega
theorem Y4z (a b:List ShP)(f:Bool):(Yd4 [] a).length≤(Ybi (a++b) f).length:=by
 have h:Yd4 [] (a++b)=Yd4 (Yd4 [] a) b:=by unfold Yd4;rw[List.foldl_append]
 have h1:=Yro b (Yd4 [] a);rw[←h,Yo4 (a++b)] at h1;unfold Ybi at h1 ⊢;rw[List.length_append] at h1 ⊢;have:(Qhm false).length=0:=rfl;omega
theorem Y0j {a b:StrP}(h:Qjz a b=true):a.sheets.length=b.sheets.length∧a.fin=b.fin:=by
 unfold Qjz at h;simp only[Bool.and_eq_true,beq_iff_eq,decide_eq_true_iff] at h;exact⟨h.2.1,h.1⟩
theorem Qiy (ct:CelT)(l:List UInt8):wtk ct l (8*l.length)=(Qa0,8*l.length,2):=by
 have hm:Yaz l ((8*l.length:Nat):Int)=(0,2):=Yen (Nat.le_refl _) (by omega);have h1:Ycc l (8*l.length)=2:=by
  unfold Ycc;rw[if_neg (by omega),hm];rfl
 have h2:=Ynh (l:=l) (p:=8*l.length) (by rw[h1];decide);rw[h1] at h2;unfold wtk;rw[h2];rfl
theorem Qbb {ct:CelT}{l:List UInt8}{p q:Nat}{f:Int}{S:ShP}{done:List ShP}(n:Nat)(h:done.length≠0→p≠8*l.length∧¬ ((Yaz l p).2=0∧(Yaz l p).1=31))(hw:wtk ct l p=(S,q,f)):
  Ykw ct l (n+1) p done=if f≠0 then (Ynj,p / 8,f) else if 64≤done.length then (Ynj,p / 8,13) else if Ydk (Ydb done) S=false then (Ynj,p / 8,11) else Ykw ct l n q (done++[S]):=by
 by_cases h0:done.length=0
 ·by_cases he:p=8*l.length
  ·rw[Ykx n he,if_pos h0];rw[he,Qiy] at hw;injection hw with _ hw;injection hw with _ hw;rw[←hw,if_pos (by decide)]
  ·exact Yit n he (by omega) hw
 ·exact Yit n (h h0).1 (fun x=>(h h0).2 x.2) hw
def Yp1 (f:Int)(n:Nat)(fo:Bool):Int:=if f≠0 then f else if 64≤n then 13 else if fo=false then 11 else 0
theorem Qbd {ct:CelT}{l:List UInt8}{p q:Nat}{f:Int}{S:ShP}{done:List ShP}(n:Nat)(h:done.length≠0→p≠8*l.length∧¬ ((Yaz l p).2=0∧(Yaz l p).1=31))(hw:wtk ct l p=(S,q,f)):
  Ykw ct l (n+1) p done=if Yp1 f done.length (Ydk (Ydb done) S)≠0 then (Ynj,p / 8,Yp1 f done.length (Ydk (Ydb done) S)) else Ykw ct l n q (done++[S]):=by
 rw[Qbb n h hw];unfold Yp1;by_cases hf:f=0
 ·subst hf;by_cases h1:64≤done.length
  ·simp[h1]
  ·by_cases h2:Ydk (Ydb done) S=false
   ·simp[h1,h2]
   ·simp[h1,h2]
 ·simp[hf]
theorem Qbm {f:Int}{n:Nat}{fo:Bool}(h:Yp1 f n fo=0):f=0∧n<64∧fo=true:=by
 unfold Yp1 at h;by_cases hf:f=0
 ·subst hf;rw[if_neg (by decide)] at h;by_cases h1:64≤n
  ·rw[if_pos h1] at h;exact absurd h (by decide)
  ·rw[if_neg h1] at h;cases fo with
   |false=>exact absurd h (by decide)
   |true=>exact⟨rfl,by omega,rfl⟩
 ·rw[if_pos hf] at h;exact absurd h hf
theorem Qbc {ct:CelT}{l:List UInt8}{p:Nat}{done:List ShP}(n:Nat)(h:p=8*l.length)(h0:done.length≠0):Ykw ct l (n+1) p done=(⟨done,false⟩,0,0):=by rw[Ykx n h,if_neg h0]
def Qi2:List UInt8:=Ygg (Ybq 31++[48,48])
theorem Y8k:Yad Qi2=Ybq 31++[48,48]:=by decide +kernel
theorem Yzh:Qi2.length=3:=by decide +kernel
theorem Y36 {l:List UInt8}{a:Nat}(ha:a≤l.length)(hm:(Yaz l ((8*a:Nat):Int)).2=0∧(Yaz l ((8*a:Nat):Int)).1=31):l.drop a=Qi2↔8*l.length=8*a+24∧Ya3 l (8*a+22) 2=0:=by
 constructor
 ·intro h;have hl:=congrArg List.length h;rw[List.length_drop,Yzh] at hl;refine⟨by omega,?_⟩;have h1:=Yly l a 3 (by omega);rw[←show (l.drop a).take 3=l.drop a from List.take_of_length_le (by rw[List.length_drop];omega)] at h;rw[h,Y8k] at h1;have hs:Seg (Yad l) (8*a) (8*a+24) (Ybq 31++[48,48]):=⟨by omega,by rw[Yag];omega,by rw[show 8*a+24-8*a=8*3 by omega];exact h1.symm⟩;obtain⟨z,s1,s2⟩:=hs.cut
  have hz:=s1.len;rw[Ybb] at hz;subst hz;have s3:Seg (Yad l) (8*a+22) (8*a+24) (Yav 0 2):=by rw[Ydc];exact s2
  exact(Ybv s3 (by decide)).1
 ·rintro⟨h1,h2⟩;have ht:Ya3 l (8*a) 22=32+31:=by
   rw[Ye4 (by omega)] at hm;by_cases ht:Ya3 l (8*a) 22 / 32=1
   ·rw[if_pos ht] at hm;simp only at hm;omega
   ·rw[if_neg ht] at hm;exact absurd hm.1 (by decide)
  have s1:=Yce (l:=l) (p:=8*a) (n:=22) (by omega);rw[ht] at s1;have s2:=Ygi (l:=l) (p:=8*a+22) (n:=2) (by omega) h2;have s3:=s1.app s2;rw[show 8*a+22+2=8*(a+3) by omega] at s3;have h3:=Qfc s3;rw[show a+3-a=3 by omega,List.take_of_length_le (by rw[List.length_drop];omega)] at h3;exact h3.symm
theorem Qba {l:List ShP}{i:Nat}(hi:i<l.length)(h:Yjs none (l.take i)=0):Yjs none (l.take (i+1))=if Yd5 l[i]≠0 then Yd5 l[i] else if Ydk (Ydb (l.take i)) l[i]=false then 11 else 0:=by
 rw[List.take_succ_eq_append_getElem hi];exact Qa9 h
theorem Qa8 {l:List ShP}{i:Nat}(h:Yjs none (l.take i)≠0):Yjs none l=Yjs none (l.take i):=by
 have h1:=Qfn (b:=l.drop i) h;rw[List.take_append_drop] at h1;exact h1
def Qgt (T:StrP):List UInt8×Int:=if Yek T≠0 then ([],Yek T) else if 262144<(Ygg (Ybi T.sheets T.fin)).length then ([],13) else (Ygg (Ybi T.sheets T.fin),0)
theorem Qfo {T:StrP}(h:Yek T≠0):Qgt T=([],Yek T):=if_pos h
theorem Qbf {T:StrP}(h:Yek T=0)(h1:2097152<(Ybi T.sheets T.fin).length):Qgt T=([],13):=by
 unfold Qgt;rw[if_neg (fun x=>x h),if_pos (by have:=Yup T.sheets T.fin;omega)]
theorem Y0m {T:StrP}(h:Yek T=0)(h1:(Ybi T.sheets T.fin).length≤2097152):Qgt T=(Ygg (Ybi T.sheets T.fin),0):=by
 unfold Qgt;rw[if_neg (fun x=>x h),if_neg (by have:=Yup T.sheets T.fin;omega)]
theorem Qcq (l:List UInt8):Yf7 ctk (Yad l):=fun _ _ _ _ _ _ h hm=>Y73 h hm
end Go.Proofs.YtjjmalchelniiaaGreatDoor