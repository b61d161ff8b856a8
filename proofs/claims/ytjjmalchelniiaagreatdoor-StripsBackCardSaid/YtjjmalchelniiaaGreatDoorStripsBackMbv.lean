/- Part 48 of StripsBack. No condition. -/
import Derived.Test.YtjjmalchelniiaaGreatDoorStripsBackMz
import Derived.Test.YtjjmalchelniiaaGreatDoorStripsBackMbl
import Derived.Test.YtjjmalchelniiaaGreatDoorStripsBackMbm
import Derived.Test.YtjjmalchelniiaaGreatDoorStripsBackMbu
namespace Go.Proofs.YtjjmalchelniiaaGreatDoor
open Go.RowKit
def Yrb (ct:CelT):Prop:=∀inter S x y p i,((ct inter S x y p).1.ev i).length≤65
theorem Qi0:Yrb ctk:=Y86
theorem Yvy {ct:CelT}(hct:Yrb ct){l:List UInt8}{inter:Bool}{k first:Int}:∀(n p:Nat) (vs:List (Int×Int)) (c:Cel) (i:Nat),c∈(Ydo ct l inter k first n p vs).1→(c.ev i).length≤65
 |0,p,vs,c,i,h=>by rw[Ydo] at h;cases h
 |n+1,p,vs,c,i,h=>by
  rw[Ydo] at h;have h0:=hct inter (Yae l) (Yd7 vs (Yd4 k) first).1 (Yd7 vs (Yd4 k) first).2 p i;obtain⟨⟨c1,z,f⟩,hc⟩:∃r,ct inter (Yae l) (Yd7 vs (Yd4 k) first).1 (Yd7 vs (Yd4 k) first).2 p=r:=⟨_,rfl⟩;rw[hc] at h h0;simp only at h h0
  split at h
  ·cases h
  ·split at h
   ·cases h
   ·obtain⟨⟨cs',y,g⟩,hr⟩:∃r,Ydo ct l inter k first n z (vs++[(c1.mx,c1.my)])=r:=⟨_,rfl⟩
    rw[hr] at h;simp only at h
    split at h
    ·cases h
    ·rcases List.mem_cons.1 h with rfl|h
     ·exact h0
     ·exact Yvy hct n z _ c i (by rw[hr];exact h)
theorem Y26 {ct:CelT}(hct:Yrb ct){l:List UInt8}{inter:Bool}{k:Int}:∀(n j p:Nat) (vs:List (Int×Int)) (first:Int) (c:Cel) (i:Nat),c∈(Yiy ct l inter k n j p vs first).1.flatMap (·.cels)→(c.ev i).length≤65
 |0,j,p,vs,first,c,i,h=>by rw[Yiy] at h;cases h
 |n+1,j,p,vs,first,c,i,h=>by
  rw[Yiy] at h;obtain⟨⟨hd,id,qu,z,fs,f⟩,hh⟩:∃r,Yi9 l k j p first=r:=⟨_,rfl⟩
  rw[hh] at h;simp only at h
  split at h
  ·cases h
  ·have h0:=Yvy hct (l:=l) (inter:=inter) (k:=k) (first:=fs) (Ygf k).toNat z vs c i;obtain⟨⟨cs,y,g⟩,hc⟩:∃r,Ydo ct l inter k fs (Ygf k).toNat z vs=r:=⟨_,rfl⟩;rw[hc] at h h0;simp only at h h0
   split at h
   ·cases h
   ·obtain⟨⟨rs',q',e⟩,hr⟩:∃r,Yiy ct l inter k n (j+1) y (vs++Ydq cs) fs=r:=⟨_,rfl⟩;rw[hr] at h;simp only at h
    split at h
    ·cases h
    ·simp only[List.flatMap_cons,List.mem_append] at h;rcases h with h|h
     ·exact h0 h
     ·exact Y26 hct n (j+1) y _ fs c i (by rw[hr];exact h)
theorem Qka {ct:CelT}(hct:Yrb ct){l:List UInt8}{p:Nat}:∀c∈Yes (wtk ct l p).1,∀i,(c.ev i).length≤65:=by
 intro c h i;unfold wtk at h;obtain⟨⟨hd,q,f⟩,hk⟩:∃r,shk l p=r:=⟨_,rfl⟩;rw[hk] at h;simp only at h
 split at h
 ·cases h
 ·have h0:=Y26 hct (l:=l) (inter:=hd.inter) (k:=hd.fmt) (Yh5 hd.fmt).toNat 0 q [] 0 c i;obtain⟨⟨rs,z,g⟩,hr⟩:∃r,Yiy ct l hd.inter hd.fmt (Yh5 hd.fmt).toNat 0 q [] 0=r:=⟨_,rfl⟩;rw[hr] at h h0;simp only at h h0
  split at h
  ·cases h
  ·split at h
   ·cases h
   ·exact h0 h
theorem Qdd {ct:CelT}{l:List UInt8}{p q:Nat}{S:ShP}(hct:Yfi ct (Yae l))(h:wtk ct l p=(S,q,0)):S.zeros≤l.length:=by
 obtain⟨-,-,-,-,h0,hs⟩:=Ynu hct h;have h1:=hs.len;have h2:=hs.2.1;rw[Yah] at h2;unfold Ybm at h1;simp only[List.length_append,List.length_replicate] at h1;omega
theorem Yyv {ct:CelT}{l:List UInt8}{p q:Nat}{S:ShP}(h:wtk ct l p=(S,q,0)):q%8=0:=by
 unfold wtk at h;obtain⟨⟨hd,z0,f⟩,hk⟩:∃r,shk l p=r:=⟨_,rfl⟩;rw[hk] at h;simp only at h;by_cases hf:f=0
 case neg=>rw[if_pos hf] at h;injection h with _ h;injection h with _ h;exact absurd h hf
 rw[if_neg (fun x=>x hf)] at h;obtain⟨⟨rs,z,g⟩,hr⟩:∃r,Yiy ct l hd.inter hd.fmt (Yh5 hd.fmt).toNat 0 z0 [] 0=r:=⟨_,rfl⟩;rw[hr] at h;simp only at h;by_cases hg:g=0
 case neg=>rw[if_pos hg] at h;injection h with _ h;injection h with _ h;exact absurd h hg
 rw[if_neg (fun x=>x hg)] at h;by_cases h0:Ya5 l z (gap z)=0
 case neg=>rw[if_pos h0] at h;injection h with _ h;injection h with _ h;cases h
 rw[if_neg (fun x=>x h0)] at h;injection h with _ h;injection h with h _;rw[←h];unfold gap;omega
structure StrP where
 sheets:List ShP
 fin:Bool
def Ynr:StrP:=⟨[],false⟩
def Ydp (pr:Option Int)(S:ShP):Bool:=!S.hd.inter || pr==some S.hd.fmt
def Yj1:Option Int→List ShP→Int
 |_,[]=>0
 |pr,S::r=>if Yd9 S≠0 then Yd9 S else if Ydp pr S=false then 11 else Yj1 (some S.hd.fmt) r
def Ydf (t:StrP):Int:=if t.sheets.length=0∨64<t.sheets.length then 12 else Yj1 none t.sheets
def Qjx (a b:StrP):Bool:=a.fin==b.fin&&(decide (a.sheets.length=b.sheets.length)&&(a.sheets.zip b.sheets).all fun p=>shB p.1 p.2)
def Ydd (l:List ShP):Option Int:=l.getLast?.map (·.hd.fmt)
theorem Yrr (l:List ShP)(S:ShP):Ydd (l++[S])=some S.hd.fmt:=by unfold Ydd;rw[List.getLast?_concat];rfl
def Yk5 (ct:CelT)(l:List UInt8):Nat→Nat→List ShP→StrP×Nat×Int
 |0,p,_=>(Ynr,p / 8,13)
 |n+1,p,done=>
  if p=8*l.length then (if done.length=0 then (Ynr,p / 8,2) else (⟨done,false⟩,0,0))
  else if 0<done.length∧(Yaz l p).2=0∧(Yaz l p).1=31 then (if 8*l.length=p+24∧Ya5 l (p+22) 2=0 then (⟨done,true⟩,0,0) else (Ynr,p / 8,5))
  else match wtk ct l p with
   |(S,q,f)=>if f≠0 then (Ynr,p / 8,f) else if 64≤done.length then (Ynr,p / 8,13) else if Ydp (Ydd done) S=false then (Ynr,p / 8,11) else Yk5 ct l n q (done++[S])
def Ybn (ct:CelT)(l:List UInt8):StrP×Nat×Int:=if 262144<l.length then (Ynr,0,13) else Yk5 ct l 65 0 []
def Qiv (b:Bool):List UInt8:=if b then Ybr 31++[48,48] else []
def Ybj (l:List ShP)(b:Bool):List UInt8:=l.flatMap (Ybm 0)++Qiv b
theorem Yx8 {ct:CelT}{l:List UInt8}(hct:Yfi ct (Yae l))(hl:l.length≤262144):∀(n p:Nat) (done:List ShP) (T:StrP) (a:Nat),p≤8*l.length→done.length≤64→Yk5 ct l n p done=(T,a,0)→
  a=0∧∃rest,T.sheets=done++rest∧Seg (Yae l) p (8*l.length) (Ybj rest T.fin)∧Yj1 (Ydd done) rest=0∧(0<T.sheets.length∧T.sheets.length≤64)
 |0,p,done,T,a,_,_,h=>by rw[Yk5] at h;cases h
 |n+1,p,done,T,a,hp,hd,h=>by
  rw[Yk5] at h;by_cases he:p=8*l.length
  ·rw[if_pos he] at h;by_cases h0:done.length=0
   ·rw[if_pos h0] at h;cases h
   ·rw[if_neg h0] at h;injection h with e1 h;injection h with e2 _;subst e1 e2;exact⟨rfl,[],by simp,by rw[he];exact Seg.nil (by rw[Yah];exact Nat.le_refl _),rfl,by simp only;omega,hd⟩
  rw[if_neg he] at h;by_cases hm:0<done.length∧(Yaz l p).2=0∧(Yaz l p).1=31
  ·rw[if_pos hm] at h;by_cases hx:8*l.length=p+24∧Ya5 l (p+22) 2=0
   ·rw[if_pos hx] at h;injection h with e1 h;injection h with e2 _;subst e1 e2;refine⟨rfl,[],by simp,?_,rfl,hm.1,hd⟩;have ht:Ya5 l p 22=32+31:=by
     have h2:=hm.2;rw[Yfb (by omega)] at h2;by_cases ht:Ya5 l p 22 / 32=1
     ·rw[if_pos ht] at h2;simp only at h2;omega
     ·rw[if_neg ht] at h2;exact absurd h2.1 (by decide)
    have s1:=Ycf (l:=l) (p:=p) (n:=22) (by omega);rw[ht] at s1;have s2:=Ygr (l:=l) (p:=p+22) (n:=2) (by omega) hx.2;have s3:=s1.app s2;rw[show p+22+2=8*l.length by omega] at s3;exact s3
   ·rw[if_neg hx] at h;cases h
  ·rw[if_neg hm] at h;obtain⟨⟨S,q,f⟩,hw⟩:∃r,wtk ct l p=r:=⟨_,rfl⟩;rw[hw] at h;simp only at h;by_cases hf:f=0
   case neg=>rw[if_pos hf] at h;injection h with _ h;injection h with _ h;exact absurd h hf
   rw[if_neg (fun x=>x hf)] at h;subst hf;by_cases h64:64≤done.length
   ·rw[if_pos h64] at h;cases h
   rw[if_neg h64] at h;by_cases hfo:Ydp (Ydd done) S=false
   ·rw[if_pos hfo] at h;cases h
   rw[if_neg hfo] at h;obtain⟨p8,q8,hpq,hsh,h0,hs⟩:=Ynu hct hw;have hz:=Qdd hct hw;have hq:=hs.2.1;rw[Yah] at hq;obtain⟨ea,rest,e1,s1,e2,e3⟩:=Yx8 hct hl n q (done++[S]) T a hq (by rw[List.length_append];simp only[List.length_cons,List.length_nil];omega) h;refine⟨ea,S::rest,by rw[e1];simp,?_,?_,e3⟩
   ·unfold Ybj;rw[List.flatMap_cons,List.append_assoc];rw[Yik (p:=p) (q:=0) (by omega)] at hs;exact hs.app s1
   ·rw[Yj1,if_neg (fun x=>x (hsh (by omega))),if_neg hfo];rw[Yrr] at e2;exact e2
theorem Yx9 {ct:CelT}{l:List UInt8}{T:StrP}{a:Nat}(hct:Yfi ct (Yae l))(h:Ybn ct l=(T,a,0)):a=0∧l.length≤262144∧Ydf T=0∧Yae l=Ybj T.sheets T.fin:=by
 unfold Ybn at h;by_cases hl:262144<l.length
 ·rw[if_pos hl] at h;cases h
 rw[if_neg hl] at h;obtain⟨ea,rest,e1,s1,e2,e3⟩:=Yx8 hct (by omega) 65 0 [] T a (Nat.zero_le _) (Nat.zero_le _) h;rw[List.nil_append] at e1;subst e1;refine⟨ea,by omega,?_,?_⟩
 ·unfold Ydf;rw[if_neg (by omega)];exact e2
 ·obtain⟨-,-,s3⟩:=s1;rw[List.drop_zero,Nat.sub_zero,←Yah,List.take_length] at s3;exact s3
theorem Y00 {a b:Shd}(h:Qk4 a b=true):a.fmt=b.fmt∧a.inter=b.inter:=by
 unfold Qk4 at h;simp only[Bool.and_eq_true,beq_iff_eq] at h;exact⟨h.2.2.1,h.2.2.2.1⟩
theorem Ylw {l:List UInt8}{p q n:Nat}(hn:n<32)(h:Seg (Yae l) p q (Ybr n)):(Yaz l p).2=0∧(Yaz l p).1=n∧q=p+22:=by
 obtain⟨a,e,b⟩:=Ybw (v:=32+n) (n:=22) h (by show 32+n<4194304;omega);rw[Yfb b,a,if_pos (by omega)];exact⟨rfl,by simp only;omega,e⟩
theorem Ysu {l:List UInt8}{p q:Nat}{S:ShP}{r:List UInt8}(h:Seg (Yae l) p q (Ybm 0 S++r)):(Yaz l p).2=0∧(Yaz l p).1=0:=by
 unfold Ybm at h;simp only[List.append_assoc] at h;obtain⟨z,h1,-⟩:=h.cut;obtain⟨a,b,-⟩:=Ylw (n:=0) (by decide) h1;exact⟨a,b⟩
theorem Ysl {ct:CelT}{l:List UInt8}{b:Bool}(hct:Ygh ct (Yae l)):∀(rest:List ShP) (n p:Nat) (done:List ShP),p%8=0→done.length+rest.length≤64→rest.length<n→0<done.length+rest.length→Yj1 (Ydd done) rest=0→
  Seg (Yae l) p (8*l.length) (Ybj rest b)→∃T,Yk5 ct l n p done=(T,0,0)∧T.fin=b∧∃r',T.sheets=done++r'∧r'.length=rest.length∧((r'.zip rest).all fun p=>shB p.1 p.2)=true
 |[],0,p,done,_,_,hn,_,_,_=>by cases hn
 |[],n+1,p,done,_,_,_,h0,_,hs=>by
  rw[Yk5];have h0:0<done.length:=h0;cases b with
  |false=>
   have e:8*l.length=p:=hs.len;rw[if_pos e.symm,if_neg (by omega)];exact⟨⟨done,false⟩,rfl,rfl,[],by simp,rfl,rfl⟩
  |true=>
   have hs':Seg (Yae l) p (8*l.length) (Ybr 31++[48,48]):=hs;have hlen:=hs'.len;rw[List.length_append,Ybd] at hlen;have hlen:8*l.length=p+24:=hlen;obtain⟨z,s1,s2⟩:=hs'.cut;obtain⟨m1,m2,ez⟩:=Ylw (n:=31) (by decide) s1;subst ez;have s3:Seg (Yae l) (p+22) (8*l.length) (Yav 0 2):=by rw[Yde];exact s2
   obtain⟨t,-,-⟩:=Ybw s3 (by decide);rw[if_neg (by omega),if_pos ⟨h0,m1,m2⟩,if_pos ⟨hlen,t⟩];exact⟨⟨done,true⟩,rfl,rfl,[],by simp,rfl,rfl⟩
 |S::rest,0,p,done,_,_,hn,_,_,_=>by cases hn
 |S::rest,n+1,p,done,h8,h64,hn,h0,hE,hs=>by
  rw[Yk5];rw[List.length_cons] at h64 hn;rw[Yj1] at hE;by_cases hsh:Yd9 S=0
  case neg=>rw[if_pos hsh] at hE;exact absurd hE hsh
  rw[if_neg (fun x=>x hsh)] at hE;by_cases hfo:Ydp (Ydd done) S=false
  ·rw[if_pos hfo] at hE;exact absurd hE (by decide)
  rw[if_neg hfo] at hE;have hs':Seg (Yae l) p (8*l.length) (Ybm 0 S++Ybj rest b):=by
   unfold Ybj at hs ⊢;rw[List.flatMap_cons,List.append_assoc] at hs;exact hs
  obtain⟨m1,m2⟩:=Ysu hs';obtain⟨q,s1,s2⟩:=hs'.cut;have hlong:=Yu7 0 S;have elen:=s1.len;have hq:=s1.2.1;rw[Yah] at hq;rw[if_neg (by omega),if_neg (fun x=>by rw[m2] at x;exact absurd x.2.2 (by decide))];have hnext:q=8*l.length∨(Yaz l q).2=0:=by
   cases rest with
   |cons S2 r2=>
    right
    have h2:Seg (Yae l) q (8*l.length) (Ybm 0 S2++Ybj r2 b):=by
     unfold Ybj at s2 ⊢;rw[List.flatMap_cons,List.append_assoc] at s2;exact s2
    exact(Ysu h2).1
   |nil=>
    cases b with
    |false=>
     left
     have e:8*l.length=q:=s2.len;exact e.symm
    |true=>
     right
     have h2:Seg (Yae l) q (8*l.length) (Ybr 31++[48,48]):=s2;obtain⟨z,h3,-⟩:=h2.cut;exact(Ylw (n:=31) (by decide) h3).1
  rw[Yik (p:=0) (q:=p) (by omega)] at s1;obtain⟨S',hw,hB⟩:=Qdc hct h8 hsh s1 hnext;have hq8:=Yyv hw;have hf:=Y00 (a:=S'.hd) (b:=S.hd) (by unfold shB at hB;rw[Bool.and_eq_true] at hB;exact hB.1);have hfo':¬ Ydp (Ydd done) S'=false:=by
   unfold Ydp at hfo ⊢;rw[hf.1,hf.2];exact hfo
  obtain⟨T,e1,e2,r',e3,e4,e5⟩:=Ysl hct rest n q (done++[S']) hq8 (by rw[List.length_append];simp only[List.length_cons,List.length_nil];omega) (by omega) (by rw[List.length_append];simp only[List.length_cons,List.length_nil];omega)
   (by rw[Yrr,hf.1];exact hE) s2
  refine⟨T,?_,e2,S'::r',by rw[e3];simp,by rw[List.length_cons,List.length_cons,e4],by rw[List.zip_cons_cons,List.all_cons,hB,e5];rfl⟩;rw[hw];simp only;rw[if_neg (by decide),if_neg (by omega),if_neg hfo'];exact e1
theorem Yk7 {ct:CelT}{l:List UInt8}{T:StrP}(hct:Ygh ct (Yae l))(hT:Ydf T=0)(hl:l.length≤262144)(hs:Yae l=Ybj T.sheets T.fin):∃T',Ybn ct l=(T',0,0)∧Qjx T' T=true:=by
 unfold Ydf at hT;by_cases h0:T.sheets.length=0∨64<T.sheets.length
 ·rw[if_pos h0] at hT;exact absurd hT (by decide)
 rw[if_neg h0] at hT;have hseg:Seg (Yae l) 0 (8*l.length) (Ybj T.sheets T.fin):=⟨Nat.zero_le _,by rw[Yah];exact Nat.le_refl _,by rw[List.drop_zero,Nat.sub_zero,←Yah,List.take_length,hs]⟩;obtain⟨T',e1,e2,r',e3,e4,e5⟩:=Ysl hct T.sheets 65 0 [] rfl (by simp only[List.length_nil];omega) (by omega) (by simp only[List.length_nil];omega) hT hseg;refine⟨T',by unfold Ybn;rw[if_neg (by omega)];exact e1,?_⟩
 rw[List.nil_append] at e3;unfold Qjx;rw[e2,e3,e4];simp[e5]
theorem Y5x {l:List UInt8}(h:l.length%8=0):Y7o l=l:=by
 unfold Y7o;rw[show (8-l.length%8)%8=0 by omega];exact List.append_nil l
theorem Y6p (l:List ShP):Yax (l.flatMap (Ybm 0))=true:=by
 induction l with
 |nil=>rfl
 |cons S l ih=>rw[List.flatMap_cons,Yar,Yys,ih];rfl
theorem Yxx (l:List ShP):(l.flatMap (Ybm 0)).length%8=0:=by
 induction l with
 |nil=>rfl
 |cons S l ih=>
  have h:=Yry [] S;rw[Qfx] at h;rw[List.flatMap_cons,List.length_append];omega
theorem Qe1 (b:Bool):Yax (Qiv b)=true:=by cases b <;> decide +kernel
theorem Yx7 (l:List ShP)(b:Bool):Yax (Ybj l b)=true:=by
 unfold Ybj;rw[Yar,Y6p,Qe1];rfl
theorem Ymx (l:List ShP)(b:Bool):(Ybj l b).length%8=0:=by
 have h:=Yxx l;unfold Ybj;rw[List.length_append];cases b with
 |false=>exact h
 |true=>
  have e:(Qiv true).length=24:=by decide +kernel
  rw[e];omega
theorem Yp7 {s:List ShP}{b:Bool}:Yae (Yf2 (Ybj s b))=Ybj s b:=by rw[Yxz _ (Yx7 s b),Y5x (Ymx s b)]
theorem Yuy (s:List ShP)(b:Bool):8*(Yf2 (Ybj s b)).length=(Ybj s b).length:=by rw[←Yah,Yp7]
def Yd8 (r:List UInt8)(l:List ShP):List UInt8:=l.foldl Yvg r
theorem Y2w:∀(l:List ShP) (r:List UInt8),r.length%8=0→Yd8 r l=r++l.flatMap (Ybm 0)
 |[],r,_=>(List.append_nil r).symm
 |S::l,r,h=>by
  show Yd8 (Yvg r S) l=_;rw[Y2w l (Yvg r S) (Yry r S),Qa0 h,List.flatMap_cons,List.append_assoc]
theorem Ypc (l:List ShP):Yd8 [] l=Ybj l false:=by
 rw[Y2w l [] rfl];unfold Ybj Qiv;rw[if_neg (by decide),List.append_nil];rfl
theorem Y5w (r:List UInt8)(l:List ShP)(S:ShP):Yd8 r (l++[S])=Yvg (Yd8 r l) S:=by unfold Yd8;rw[List.foldl_append];rfl
theorem Qfy (l:List ShP):Yc5 (Yd8 [] l) 31++List.replicate (gap (Yc5 (Yd8 [] l) 31).length) 48=Ybj l true:=by
 have h8:=Ymx l false;rw[Ypc];have hg:gap (Ybj l false).length=0:=by unfold gap;omega
 unfold Yc5;rw[hg,List.replicate_zero,List.append_nil];rw[show gap (Ybj l false++Ybr 31).length=2 by rw[List.length_append,Ybd];unfold gap;omega];unfold Ybj;rw[show Qiv true=Ybr 31++List.replicate 2 48 from rfl,show Qiv false=[] from rfl];simp only[List.append_nil,List.append_assoc]
theorem Yk6 {ct:CelT}{l:List UInt8}{p:Nat}{done:List ShP}(n:Nat)(h:p=8*l.length):Yk5 ct l (n+1) p done=if done.length=0 then (Ynr,p / 8,2) else (⟨done,false⟩,0,0):=by rw[Yk5,if_pos h]
theorem Ypy {ct:CelT}{l:List UInt8}{p:Nat}{done:List ShP}(n:Nat)(h:p≠8*l.length)(hm:0<done.length∧(Yaz l p).2=0∧(Yaz l p).1=31):
  Yk5 ct l (n+1) p done=if 8*l.length=p+24∧Ya5 l (p+22) 2=0 then (⟨done,true⟩,0,0) else (Ynr,p / 8,5):=by rw[Yk5,if_neg h,if_pos hm]
theorem Yi0 {ct:CelT}{l:List UInt8}{p q:Nat}{f:Int}{S:ShP}{done:List ShP}(n:Nat)(h:p≠8*l.length)(hm:¬ (0<done.length∧(Yaz l p).2=0∧(Yaz l p).1=31))(hw:wtk ct l p=(S,q,f)):
  Yk5 ct l (n+1) p done=if f≠0 then (Ynr,p / 8,f) else if 64≤done.length then (Ynr,p / 8,13) else if Ydp (Ydd done) S=false then (Ynr,p / 8,11) else Yk5 ct l n q (done++[S]):=by rw[Yk5,if_neg h,if_neg hm,hw]
theorem Y3i {ct:CelT}{l:List UInt8}(hct:Yfi ct (Yae l)):∀(n p:Nat) (done:List ShP),p≤8*l.length→(Yk5 ct l n p done).2.2≠0→(Yk5 ct l n p done).1=Ynr∧(Yk5 ct l n p done).2.1≤l.length
 |0,p,done,hp,_=>⟨rfl,show p / 8≤l.length by omega⟩
 |n+1,p,done,hp,h=>by
  by_cases he:p=8*l.length
  ·rw[Yk6 n he] at h ⊢;by_cases h0:done.length=0
   ·rw[if_pos h0];exact⟨rfl,by simp only;omega⟩
   ·rw[if_neg h0] at h;exact absurd rfl h
  by_cases hm:0<done.length∧(Yaz l p).2=0∧(Yaz l p).1=31
  ·rw[Ypy n he hm] at h ⊢;by_cases hx:8*l.length=p+24∧Ya5 l (p+22) 2=0
   ·rw[if_pos hx] at h;exact absurd rfl h
   ·rw[if_neg hx];exact⟨rfl,by simp only;omega⟩
  obtain⟨⟨S,q,f⟩,hw⟩:∃r,wtk ct l p=r:=⟨_,rfl⟩;rw[Yi0 n he hm hw] at h ⊢;by_cases hf:f=0
  case neg=>rw[if_pos hf];exact⟨rfl,by simp only;omega⟩
  rw[if_neg (fun x=>x hf)] at h ⊢;by_cases h64:64≤done.length
  ·rw[if_pos h64];exact⟨rfl,by simp only;omega⟩
  rw[if_neg h64] at h ⊢;by_cases hfo:Ydp (Ydd done) S=false
  ·rw[if_pos hfo];exact⟨rfl,by simp only;omega⟩
  rw[if_neg hfo] at h ⊢;subst hf;have hq:=(Ynu hct hw).2.2.2.2.2.2.1;rw[Yah] at hq;exact Y3i hct n q _ hq h
theorem Y1a {ct:CelT}{l:List UInt8}(hct:Yfi ct (Yae l))(h:(Ybn ct l).2.2≠0):(Ybn ct l).1=Ynr∧(Ybn ct l).2.1≤l.length:=by
 unfold Ybn at h ⊢;by_cases hl:262144<l.length
 ·rw[if_pos hl];exact⟨rfl,Nat.zero_le _⟩
 ·rw[if_neg hl] at h ⊢;exact Y3i hct 65 0 [] (Nat.zero_le _) h
def Qlb (S:ShP):Prop:=∀c∈Yes S,∀i,(c.ev i).length≤65
theorem Y3j {ct:CelT}(hct:Yrb ct){l:List UInt8}:∀(n p:Nat) (done:List ShP),(∀S∈done,Qlb S)→∀S∈(Yk5 ct l n p done).1.sheets,Qlb S
 |0,p,done,_=>fun S h=>by rw[Yk5] at h;cases h
 |n+1,p,done,hd=>by
  intro S h;by_cases he:p=8*l.length
  ·rw[Yk6 n he] at h;by_cases h0:done.length=0
   ·rw[if_pos h0] at h;cases h
   ·rw[if_neg h0] at h;exact hd S h
  by_cases hm:0<done.length∧(Yaz l p).2=0∧(Yaz l p).1=31
  ·rw[Ypy n he hm] at h;by_cases hx:8*l.length=p+24∧Ya5 l (p+22) 2=0
   ·rw[if_pos hx] at h;exact hd S h
   ·rw[if_neg hx] at h;cases h
  obtain⟨⟨S1,q,f⟩,hw⟩:∃r,wtk ct l p=r:=⟨_,rfl⟩;rw[Yi0 n he hm hw] at h;by_cases hf:f=0
  case neg=>rw[if_pos hf] at h;cases h
  rw[if_neg (fun x=>x hf)] at h;by_cases h64:64≤done.length
  ·rw[if_pos h64] at h;cases h
  rw[if_neg h64] at h;by_cases hfo:Ydp (Ydd done) S1=false
  ·rw[if_pos hfo] at h;cases h
  rw[if_neg hfo] at h;refine Y3j hct n q (done++[S1]) (fun S2 h2=>?_) S h;rcases List.mem_append.1 h2 with h2|h2
  ·exact hd S2 h2
  ·rw[List.mem_singleton.1 h2];have h3:=Qka hct (l:=l) (p:=p);rw[hw] at h3;exact h3
theorem Y1b {ct:CelT}(hct:Yrb ct)(l:List UInt8):∀S∈(Ybn ct l).1.sheets,Qlb S:=by
 unfold Ybn;by_cases hl:262144<l.length
 ·rw[if_pos hl];intro S h;cases h
 ·rw[if_neg hl];exact Y3j hct 65 0 [] fun S h=>by cases h
theorem Yur:∀(a b:List ShP) (pr:Option Int),Yj1 pr (a++b)=if Yj1 pr a≠0 then Yj1 pr a else Yj1 (if a.length=0 then pr else Ydd a) b
 |[],b,pr=>by simp[Yj1]
 |S::a,b,pr=>by
  have h0:∀r,Yj1 pr (S::r)=if Yd9 S≠0 then Yd9 S else if Ydp pr S=false then 11 else Yj1 (some S.hd.fmt) r:=fun r=>by rw[Yj1]
  rw[List.cons_append,h0,h0];by_cases h1:Yd9 S=0
  case neg=>simp[h1]
  by_cases h2:Ydp pr S=false
  ·simp[h1,h2]
  have h3:=Yur a b (some S.hd.fmt);simp only[h1,h2,ne_eq,not_true_eq_false,if_false,List.length_cons,Nat.add_one_ne_zero] at h3 ⊢;rw[h3];cases a with
  |nil=>simp[Yj1,Ydd]
  |cons U a=>simp[Ydd]
theorem Qcj {a:List ShP}{S:ShP}(h:Yj1 none a=0):Yj1 none (a++[S])=if Yd9 S≠0 then Yd9 S else if Ydp (Ydd a) S=false then 11 else 0:=by
 rw[Yur,if_neg (fun x=>x h)];cases a with
 |nil=>rfl
 |cons U a=>rfl
theorem Qgz {a b:List ShP}(h:Yj1 none a≠0):Yj1 none (a++b)=Yj1 none a:=by rw[Yur,if_pos h]
theorem Ysk {T:StrP}(h:Ydf T=0):(0<T.sheets.length∧T.sheets.length≤64)∧Yj1 none T.sheets=0:=by
 unfold Ydf at h;by_cases h0:T.sheets.length=0∨64<T.sheets.length
 ·rw[if_pos h0] at h;exact absurd h (by decide)
 ·rw[if_neg h0] at h;exact⟨by omega,h⟩
theorem Yj2:∀{l:List ShP} {pr:Option Int},Yj1 pr l=0→∀S∈l,Yd9 S=0
 |[],_,_,S,hS=>by cases hS
 |U::l,pr,h,S,hS=>by
  rw[Yj1] at h;by_cases h1:Yd9 U=0
  case neg=>rw[if_pos h1] at h;exact absurd h h1
  rw[if_neg (fun x=>x h1)] at h;by_cases h2:Ydp pr U=false
  ·rw[if_pos h2] at h;exact absurd h (by decide)
  rw[if_neg h2] at h;rcases List.mem_cons.1 hS with rfl|hS
  ·exact h1
  ·exact Yj2 h S hS
theorem Yrz:∀(l:List ShP) (r:List UInt8),r.length≤(Yd8 r l).length
 |[],r=>Nat.le_refl _
 |S::l,r=>by
  have h:=Yrz l (Yvg r S);have h2:r.length≤(Yvg r S).length:=by unfold Yvg;rw[List.length_append];omega
  show _≤(Yd8 (Yvg r S) l).length;omega
theorem Y5v (a b:List ShP)(f:Bool):(Yd8 [] a).length≤(Ybj (a++b) f).length:=by
 have h:Yd8 [] (a++b)=Yd8 (Yd8 [] a) b:=by unfold Yd8;rw[List.foldl_append]
 have h1:=Yrz b (Yd8 [] a);rw[←h,Ypc (a++b)] at h1;unfold Ybj at h1 ⊢;rw[List.length_append] at h1 ⊢;have:(Qiv false).length=0:=rfl;omega
theorem Y09 {a b:StrP}(h:Qjx a b=true):a.sheets.length=b.sheets.length∧a.fin=b.fin:=by
 unfold Qjx at h;simp only[Bool.and_eq_true,beq_iff_eq,decide_eq_true_iff] at h;exact⟨h.2.1,h.1⟩
theorem Qj9 (ct:CelT)(l:List UInt8):wtk ct l (8*l.length)=(Qcc,8*l.length,2):=by
 have hm:Yaz l ((8*l.length:Nat):Int)=(0,2):=Yet (Nat.le_refl _) (by omega);have h1:Ycd l (8*l.length)=2:=by
  unfold Ycd;rw[if_neg (by omega),hm];rfl
 have h2:=Yno (l:=l) (p:=8*l.length) (by rw[h1];decide);rw[h1] at h2;unfold wtk;rw[h2];rfl
theorem Qcl {ct:CelT}{l:List UInt8}{p q:Nat}{f:Int}{S:ShP}{done:List ShP}(n:Nat)(h:done.length≠0→p≠8*l.length∧¬ ((Yaz l p).2=0∧(Yaz l p).1=31))(hw:wtk ct l p=(S,q,f)):
  Yk5 ct l (n+1) p done=if f≠0 then (Ynr,p / 8,f) else if 64≤done.length then (Ynr,p / 8,13) else if Ydp (Ydd done) S=false then (Ynr,p / 8,11) else Yk5 ct l n q (done++[S]):=by
 by_cases h0:done.length=0
 ·by_cases he:p=8*l.length
  ·rw[Yk6 n he,if_pos h0];rw[he,Qj9] at hw;injection hw with _ hw;injection hw with _ hw;rw[←hw,if_pos (by decide)]
  ·exact Yi0 n he (by omega) hw
 ·exact Yi0 n (h h0).1 (fun x=>(h h0).2 x.2) hw
def Yp8 (f:Int)(n:Nat)(fo:Bool):Int:=if f≠0 then f else if 64≤n then 13 else if fo=false then 11 else 0
theorem Qcn {ct:CelT}{l:List UInt8}{p q:Nat}{f:Int}{S:ShP}{done:List ShP}(n:Nat)(h:done.length≠0→p≠8*l.length∧¬ ((Yaz l p).2=0∧(Yaz l p).1=31))(hw:wtk ct l p=(S,q,f)):
  Yk5 ct l (n+1) p done=if Yp8 f done.length (Ydp (Ydd done) S)≠0 then (Ynr,p / 8,Yp8 f done.length (Ydp (Ydd done) S)) else Yk5 ct l n q (done++[S]):=by
 rw[Qcl n h hw];unfold Yp8;by_cases hf:f=0
 ·subst hf;by_cases h1:64≤done.length
  ·simp[h1]
  ·by_cases h2:Ydp (Ydd done) S=false
   ·simp[h1,h2]
   ·simp[h1,h2]
 ·simp[hf]
theorem Qcy {f:Int}{n:Nat}{fo:Bool}(h:Yp8 f n fo=0):f=0∧n<64∧fo=true:=by
 unfold Yp8 at h;by_cases hf:f=0
 ·subst hf;rw[if_neg (by decide)] at h;by_cases h1:64≤n
  ·rw[if_pos h1] at h;exact absurd h (by decide)
  ·rw[if_neg h1] at h;cases fo with
   |false=>exact absurd h (by decide)
   |true=>exact⟨rfl,by omega,rfl⟩
 ·rw[if_pos hf] at h;exact absurd h hf
theorem Qcm {ct:CelT}{l:List UInt8}{p:Nat}{done:List ShP}(n:Nat)(h:p=8*l.length)(h0:done.length≠0):Yk5 ct l (n+1) p done=(⟨done,false⟩,0,0):=by rw[Yk6 n h,if_neg h0]
def Qkd:List UInt8:=Yf2 (Ybr 31++[48,48])
theorem Y9o:Yae Qkd=Ybr 31++[48,48]:=by decide +kernel
theorem Yz2:Qkd.length=3:=by decide +kernel
theorem Y4z {l:List UInt8}{a:Nat}(ha:a≤l.length)(hm:(Yaz l ((8*a:Nat):Int)).2=0∧(Yaz l ((8*a:Nat):Int)).1=31):l.drop a=Qkd↔8*l.length=8*a+24∧Ya5 l (8*a+22) 2=0:=by
 constructor
 ·intro h;have hl:=congrArg List.length h;rw[List.length_drop,Yz2] at hl;refine⟨by omega,?_⟩;have h1:=Yl7 l a 3 (by omega);rw[←show (l.drop a).take 3=l.drop a from List.take_of_length_le (by rw[List.length_drop];omega)] at h;rw[h,Y9o] at h1;have hs:Seg (Yae l) (8*a) (8*a+24) (Ybr 31++[48,48]):=⟨by omega,by rw[Yah];omega,by rw[show 8*a+24-8*a=8*3 by omega];exact h1.symm⟩;obtain⟨z,s1,s2⟩:=hs.cut
  have hz:=s1.len;rw[Ybd] at hz;subst hz;have s3:Seg (Yae l) (8*a+22) (8*a+24) (Yav 0 2):=by rw[Yde];exact s2
  exact(Ybw s3 (by decide)).1
 ·rintro⟨h1,h2⟩;have ht:Ya5 l (8*a) 22=32+31:=by
   rw[Yfb (by omega)] at hm;by_cases ht:Ya5 l (8*a) 22 / 32=1
   ·rw[if_pos ht] at hm;simp only at hm;omega
   ·rw[if_neg ht] at hm;exact absurd hm.1 (by decide)
  have s1:=Ycf (l:=l) (p:=8*a) (n:=22) (by omega);rw[ht] at s1;have s2:=Ygr (l:=l) (p:=8*a+22) (n:=2) (by omega) h2;have s3:=s1.app s2;rw[show 8*a+22+2=8*(a+3) by omega] at s3;have h3:=Qgo s3;rw[show a+3-a=3 by omega,List.take_of_length_le (by rw[List.length_drop];omega)] at h3;exact h3.symm
theorem Qck {l:List ShP}{i:Nat}(hi:i<l.length)(h:Yj1 none (l.take i)=0):Yj1 none (l.take (i+1))=if Yd9 l[i]≠0 then Yd9 l[i] else if Ydp (Ydd (l.take i)) l[i]=false then 11 else 0:=by
 rw[List.take_succ_eq_append_getElem hi];exact Qcj h
theorem Qci {l:List ShP}{i:Nat}(h:Yj1 none (l.take i)≠0):Yj1 none l=Yj1 none (l.take i):=by
 have h1:=Qgz (b:=l.drop i) h;rw[List.take_append_drop] at h1;exact h1
def Y63 (T:StrP):List UInt8×Int:=if Ydf T≠0 then ([],Ydf T) else if 262144<(Yf2 (Ybj T.sheets T.fin)).length then ([],13) else (Yf2 (Ybj T.sheets T.fin),0)
theorem Qg0 {T:StrP}(h:Ydf T≠0):Y63 T=([],Ydf T):=if_pos h
theorem Qcp {T:StrP}(h:Ydf T=0)(h1:2097152<(Ybj T.sheets T.fin).length):Y63 T=([],13):=by
 unfold Y63;rw[if_neg (fun x=>x h),if_pos (by have:=Yuy T.sheets T.fin;omega)]
theorem Qcq {T:StrP}(h:Ydf T=0)(h1:(Ybj T.sheets T.fin).length≤2097152):Y63 T=(Yf2 (Ybj T.sheets T.fin),0):=by
 unfold Y63;rw[if_neg (fun x=>x h),if_neg (by have:=Yuy T.sheets T.fin;omega)]
theorem Qg1 {T:StrP}{P:List UInt8}{c:Int}(h:Y63 T=(P,c))(hc:c≠0):P=[]∧(c=13∨c=Ydf T):=by
 unfold Y63 at h;by_cases h0:Ydf T=0
 ·rw[if_neg (fun x=>x h0)] at h;by_cases h1:262144<(Yf2 (Ybj T.sheets T.fin)).length
  ·rw[if_pos h1] at h;injection h with e1 e2;exact⟨e1.symm,.inl e2.symm⟩
  ·rw[if_neg h1] at h;injection h with e1 e2;exact absurd e2.symm hc
 ·rw[if_pos h0] at h;injection h with e1 e2;exact⟨e1.symm,.inr e2.symm⟩
theorem Qcr {T:StrP}{P:List UInt8}(h:Y63 T=(P,0)):Ydf T=0∧P=Yf2 (Ybj T.sheets T.fin)∧P.length≤262144:=by
 unfold Y63 at h;by_cases h0:Ydf T=0
 ·rw[if_neg (fun x=>x h0)] at h;by_cases h1:262144<(Yf2 (Ybj T.sheets T.fin)).length
  ·rw[if_pos h1] at h;injection h with e1 e2;exact absurd e2 (by decide)
  ·rw[if_neg h1] at h;injection h with e1 e2;exact⟨h0,e1.symm,by rw[←e1];omega⟩
 ·rw[if_pos h0] at h;injection h with e1 e2;exact absurd e2 h0
theorem Y1w (l:List UInt8):Ygh ctk (Yae l):=fun _ _ _ _ _ _ h hm=>Y87 h hm
end Go.Proofs.YtjjmalchelniiaaGreatDoor