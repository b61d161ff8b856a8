/- Part 26 of StripsOnce. No condition. -/
import Derived.Test.YtjjmalchelniiaaGreatDoorStripsOnceMg
import Derived.Test.YtjjmalchelniiaaGreatDoorStripsOnceMk
import Derived.Test.YtjjmalchelniiaaGreatDoorStripsOnceMq
import Derived.Test.YtjjmalchelniiaaGreatDoorStripsOnceMx
import Derived.Test.YtjjmalchelniiaaGreatDoorStripsOnceMy
namespace Go.Proofs.YtjjmalchelniiaaGreatDoor
open Go.RowKit
def Yde {α:Type}(f:Nat→α→Bool):Nat→List α→Bool
 |_,[]=>true
 |i,a::l=>f i a&&Yde f (i+1) l
theorem Yih {α:Type}{f:Nat→α→Bool}:∀{i:Nat} {l:List α},Yde f i l=true↔∀j,(h:j<l.length)→f (i+j) l[j]=true
 |_,[]=>⟨fun _ j h=>absurd h (Nat.not_lt_zero j),fun _=>rfl⟩
 |i,a::l=>by
  rw[Yde,Bool.and_eq_true,Yih];constructor
  ·rintro⟨h0,h1⟩ j hj;cases j with
   |zero=>exact h0
   |succ j=>
    have:=h1 j (by simpa using hj);rw[show i+(j+1)=i+1+j by omega];exact this
  ·intro h;refine⟨h 0 (by simp),fun j hj=>?_⟩;have:=h (j+1) (by simpa using hj);rw[show i+(j+1)=i+1+j by omega] at this;exact this
theorem Yvd {α:Type}{f:Nat→α→Bool}:∀(i:Nat) (l:List α) (a:α),Yde f i (l++[a])=(Yde f i l&&f (i+l.length) a)
 |i,[],a=>by simp[Yde]
 |i,b::l,a=>by
  rw[List.cons_append,Yde,Yvd (i+1) l a,Yde,Bool.and_assoc,List.length_cons,show i+(l.length+1)=i+1+l.length by omega]
theorem Ygs {α:Type}{f:Nat→α→Bool}:∀(i:Nat) (l m:List α),Yde f i (l++m)=(Yde f i l&&Yde f (i+l.length) m)
 |i,[],m=>by simp[Yde]
 |i,b::l,m=>by
  rw[List.cons_append,Yde,Ygs (i+1) l m,Yde,Bool.and_assoc,List.length_cons,show i+(l.length+1)=i+1+l.length by omega]
theorem Y6y {α:Type}{f:Nat→α→Bool}{l:List α}{j:Nat}(hj:j<l.length)(h1:f j l[j]=false):Yde f 0 l=false:=by
 cases h:Yde f 0 l with
 |false=>rfl
 |true=>
  have:=Yih.1 h j hj;rw[Nat.zero_add,h1] at this;cases this
def Yed (inter:Bool)(n:Int)(i:Nat)(r:RowP):Bool:=
 decide ((r.cels.length:Int)=n)&&((if r.head then decide (i≠0∧0≤r.id∧r.id≤3∧1≤r.quant∧r.quant≤31) else decide (r.id=0∧r.quant=0))&&r.cels.all (Ybp inter))
def Yf6 (k:Int):Int:=Yd0 k*Yjv k
def Ye8 (S:ShP):Bool:=
 Yej S.hd&&(decide (0≤S.zeros∧S.zeros≤262144)&&(decide ((S.rows.length:Int)=Yhx S.hd.fmt)&&Yde (Yed S.hd.inter (Yf6 S.hd.fmt)) 0 S.rows))
def Ygv (S:ShP):List Cel:=S.rows.flatMap (·.cels)
def Ycm (k:Int)(n:Nat)(c:Cel):Bool:=Yas c.kind || Y9c k (n:Int) c.mx c.my
def Yd5 (S:ShP):Int:=if Ye8 S=true then (if Yde (Ycm S.hd.fmt) 0 (Ygv S)=true then 0 else 8) else 12
theorem Y5k {S:ShP}(h:Ye8 S=false):Yd5 S=12:=by unfold Yd5;rw[if_neg (by rw[h];decide)]
theorem Yxh {S:ShP}(h:Ye8 S=true)(h1:Yde (Ycm S.hd.fmt) 0 (Ygv S)=false):Yd5 S=8:=by unfold Yd5;rw[if_pos h,if_neg (by rw[h1];decide)]
theorem Y2h {S:ShP}(h:Ye8 S=true)(h1:Yde (Ycm S.hd.fmt) 0 (Ygv S)=true):Yd5 S=0:=by unfold Yd5;rw[if_pos h,if_pos h1]
theorem Yr4 {S:ShP}(h:Yd5 S=0):Ye8 S=true∧Yde (Ycm S.hd.fmt) 0 (Ygv S)=true:=by
 unfold Yd5 at h;cases h1:Ye8 S with
 |false=>rw[h1] at h;cases h
 |true=>
  cases h2:Yde (Ycm S.hd.fmt) 0 (Ygv S) with
  |false=>rw[h1,h2] at h;cases h
  |true=>exact⟨rfl,rfl⟩
def Qjr (a b:Shd):Bool:=a.ref==b.ref&&(a.flags==b.flags&&(a.fmt==b.fmt&&(a.inter==b.inter&&(a.quant==b.quant&&decide (a.supp=b.supp)))))
def rwB (a b:RowP):Bool:=(a.head==b.head&&(a.id==b.id&&a.quant==b.quant))&&(decide (a.cels.length=b.cels.length)&&(a.cels.zip b.cels).all fun p=>Qgi p.1 p.2)
def shB (a b:ShP):Bool:=Qjr a.hd b.hd&&(a.zeros==b.zeros&&(decide (a.rows.length=b.rows.length)&&(a.rows.zip b.rows).all fun p=>rwB p.1 p.2))
theorem Qaw (a:Shd):Qjr a a=true:=by simp[Qjr]
theorem Ydc (n:Nat):Yav 0 n=List.replicate n 48:=by
 have h:=Yg3 (List.replicate n 48) (Yd9 n);rw[Y9l,List.length_replicate] at h;exact h
theorem Ygi {l:List UInt8}{p n:Nat}(h:p+n≤8*l.length)(h0:Ya3 l p n=0):Seg (Yad l) p (p+n) (List.replicate n 48):=by
 have:=Yce (l:=l) h;rw[h0,Ydc] at this;exact this
theorem Qdy {l:List UInt8}{p n z:Nat}{id q:Int}(h:hdk l p (n:Int)=(id,q,z,0)):(0≤id∧id≤3∧1≤q∧q≤31)∧Seg (Yad l) p z (Yd8 p n id.toNat q.toNat):=by
 by_cases h1:(Ya6 l p).2=false
 ·rw[Y1p h1] at h;cases h
 have h1':(Ya6 l p).2=true:=by simpa using h1
 by_cases h2:(Ya6 l p).1=(n:Int)
 case neg=>rw[Ywh h1' h2] at h;cases h
 by_cases h3:8*l.length<p+gap p+22+7
 ·rw[Ywj h1' h2 h3] at h;cases h
 by_cases h4:Ya3 l (p+gap p+22+2) 5=0
 ·rw[Ywi h1' h2 (by omega) h4] at h;cases h
 rw[Y8w h1' h2 (by omega) h4] at h;injection h with e1 h;injection h with e2 h;injection h with e3 _;have hg:=Ytz h1';have l2:=Ycg l (p+gap p+22) 2;have l5:=Ycg l (p+gap p+22+2) 5;have l2':Ya3 l (p+gap p+22) 2<4:=l2;have l5':Ya3 l (p+gap p+22+2) 5<32:=l5;have hm:Ya3 l (p+gap p) 22=32+n:=by
  rw[Yow (by omega) hg,Ye4 (by omega)] at h1' h2;by_cases ht:Ya3 l (p+gap p) 22 / 32=1
  ·rw[if_pos ht] at h2;simp only at h2;omega
  ·rw[if_neg ht] at h1';exact absurd h1' (by decide)
 have s0:=Ygi (l:=l) (p:=p) (n:=gap p) (by omega) hg;have s1:=Yce (l:=l) (p:=p+gap p) (n:=22) (by omega);have s2:=Yce (l:=l) (p:=p+gap p+22) (n:=2) (by omega);have s3:=Yce (l:=l) (p:=p+gap p+22+2) (n:=5) (by omega);rw[hm] at s1;subst e1 e2 e3;refine⟨by omega,?_⟩;unfold Yd8 Yfo;rw[Int.toNat_natCast,Int.toNat_natCast,List.append_assoc];exact s0.app (s1.app (s2.app s3))
def CelT:=Bool→List UInt8→Int→Int→Nat→Cel×Nat×Int
def Yfa (ct:CelT)(S:List UInt8):Prop:=∀inter x y p c q,p≤S.length→ct inter S x y p=(c,q,0)→Seg S p q (Yc4 inter x y c)∧Ybp inter c=true
def Ydl (cs:List Cel):List (Int×Int):=cs.map fun c=>(c.mx,c.my)
def Yd3 (vs:List (Int×Int))(across first:Int):Int×Int:=Qi5 (fun i=>vs.getD i (0,0)) vs.length across first
def Ydj (ct:CelT)(l:List UInt8)(inter:Bool)(k first:Int):Nat→Nat→List (Int×Int)→List Cel×Nat×Int
 |0,p,_=>([],p,0)
 |n+1,p,vs=>
  match ct inter (Yad l) (Yd3 vs (Yd0 k) first).1 (Yd3 vs (Yd0 k) first).2 p with
  |(c,q,f)=>if f≠0 then ([],p,f) else if Ycm k vs.length c=false then ([],p,8) else
   match Ydj ct l inter k first n q (vs++[(c.mx,c.my)]) with
   |(cs,z,g)=>if g≠0 then ([],p,g) else (c::cs,z,0)
def Yc9 (inter:Bool)(k first:Int):List (Int×Int)→List Cel→List UInt8
 |_,[]=>[]
 |vs,c::cs=>Yc4 inter (Yd3 vs (Yd0 k) first).1 (Yd3 vs (Yd0 k) first).2 c++Yc9 inter k first (vs++[(c.mx,c.my)]) cs
theorem Yq6 {ct:CelT}{l:List UInt8}{inter:Bool}{k first:Int}(hct:Yfa ct (Yad l)):∀(n p:Nat) (vs:List (Int×Int)) (cs:List Cel) (q:Nat),p≤8*l.length→Ydj ct l inter k first n p vs=(cs,q,0)→
  Seg (Yad l) p q (Yc9 inter k first vs cs)∧cs.length=n∧cs.all (Ybp inter)=true∧Yde (Ycm k) vs.length cs=true
 |0,p,vs,cs,q,hp,h=>by
  rw[Ydj] at h;injection h with e1 h;injection h with e2 _;subst e1 e2;exact⟨Seg.nil (by rw[Yag];exact hp),rfl,rfl,rfl⟩
 |n+1,p,vs,cs,q,hp,h=>by
  rw[Ydj] at h;obtain⟨⟨c,z,f⟩,hc⟩:∃r,ct inter (Yad l) (Yd3 vs (Yd0 k) first).1 (Yd3 vs (Yd0 k) first).2 p=r:=⟨_,rfl⟩;rw[hc] at h;simp only at h;by_cases hf:f=0
  case neg=>
   rw[if_pos hf] at h;injection h with _ h;injection h with _ h;exact absurd h hf
  rw[if_neg (fun x=>x hf)] at h;subst hf;cases hv:Ycm k vs.length c with
  |false=>rw[hv,if_pos rfl] at h;cases h
  |true=>
   rw[hv,if_neg (by decide)] at h;obtain⟨⟨cs',y,g⟩,hr⟩:∃r,Ydj ct l inter k first n z (vs++[(c.mx,c.my)])=r:=⟨_,rfl⟩
   rw[hr] at h;simp only at h;by_cases hg:g=0
   case neg=>
    rw[if_pos hg] at h;injection h with _ h;injection h with _ h;exact absurd h hg
   rw[if_neg (fun x=>x hg)] at h;subst hg;injection h with e1 h;injection h with e2 _;subst e1 e2;obtain⟨s1,m1⟩:=hct inter _ _ p c z (by rw[Yag];exact hp) hc;have hz:z≤8*l.length:=by have:=s1.2.1;rwa [Yag] at this
   obtain⟨s2,m2,m3,m4⟩:=Yq6 hct n z (vs++[(c.mx,c.my)]) cs' y hz hr;rw[List.length_append] at m4;refine⟨s1.app s2,by rw[List.length_cons,m2],by rw[List.all_cons,m1,m3];rfl,?_⟩;rw[Yde,hv];exact m4
def Y6m (l:List UInt8)(i p:Nat):Bool:=decide (0<i)&&((Ya6 l p).2&&((Ya6 l p).1 != 0&&(Ya6 l p).1 != 31))
def Yi2 (l:List UInt8)(k:Int)(i p:Nat)(first:Int):Bool×Int×Int×Nat×Int×Int:=
 if Y6m l i p=true then (true,(hdk l p i).1,(hdk l p i).2.1,(hdk l p i).2.2.1,(i:Int)*Yjv k,(hdk l p i).2.2.2) else (false,0,0,p,first,0)
def Yir (ct:CelT)(l:List UInt8)(inter:Bool)(k:Int):Nat→Nat→Nat→List (Int×Int)→Int→List RowP×Nat×Int
 |0,_,p,_,_=>([],p,0)
 |n+1,i,p,vs,first=>
  match Yi2 l k i p first with
  |(h,id,qu,z,fs,f)=>if f≠0 then ([],p,f) else
   match Ydj ct l inter k fs (Yf6 k).toNat z vs with
   |(cs,q,g)=>if g≠0 then ([],p,g) else
    match Yir ct l inter k n (i+1) q (vs++Ydl cs) fs with
    |(rs,y,e)=>if e≠0 then ([],p,e) else (⟨h,id,qu,cs⟩::rs,y,0)
def Yg2 (i p:Nat)(r:RowP):List UInt8:=if r.head then Yd8 p i r.id.toNat r.quant.toNat else []
def Yqj (k:Int)(i:Nat)(first:Int)(r:RowP):Int:=if r.head then (i:Int)*Yjv k else first
def Ycp (inter:Bool)(k:Int):Nat→Nat→List (Int×Int)→Int→List RowP→List UInt8
 |_,_,_,_,[]=>[]
 |i,p,vs,first,r::rs=>Yg2 i p r++(Yc9 inter k (Yqj k i first r) vs r.cels++Ycp inter k (i+1) (p+(Yg2 i p r).length+(Yc9 inter k (Yqj k i first r) vs r.cels).length) (vs++Ydl r.cels) (Yqj k i first r) rs)
theorem Y5b {l:List UInt8}{k:Int}{i p z:Nat}{first id qu fs:Int}{h:Bool}(hp:p≤8*l.length)(e:Yi2 l k i p first=(h,id,qu,z,fs,0))(cs:List Cel):
  Seg (Yad l) p z (Yg2 i p ⟨h,id,qu,cs⟩)∧fs=Yqj k i first ⟨h,id,qu,cs⟩∧(if h then decide (i≠0∧0≤id∧id≤3∧1≤qu∧qu≤31) else decide (id=0∧qu=0))=true:=by
 unfold Yi2 at e;cases hh:Y6m l i p with
 |true=>
  rw[hh,if_pos rfl] at e;injection e with e1 e;injection e with e2 e;injection e with e3 e;injection e with e4 e;injection e with e5 e6;subst e1 e5;obtain⟨m,s⟩:=Qdy (l:=l) (p:=p) (n:=i) (id:=id) (q:=qu) (z:=z) (by rw[←e2,←e3,←e4,←e6]);refine⟨s,rfl,?_⟩;unfold Y6m at hh;rw[Bool.and_eq_true,decide_eq_true_iff] at hh;rw[if_pos rfl,decide_eq_true_iff];exact⟨by omega,m⟩
 |false=>
  rw[hh,if_neg (by decide)] at e;injection e with e1 e;injection e with e2 e;injection e with e3 e;injection e with e4 e;injection e with e5 _;subst e1 e2 e3 e4 e5;exact⟨Seg.nil (by rw[Yag];exact hp),rfl,rfl⟩
theorem Yxg {ct:CelT}{l:List UInt8}{inter:Bool}{k:Int}(hct:Yfa ct (Yad l))(hk:0≤Yf6 k):∀(n i p:Nat) (vs:List (Int×Int)) (first:Int) (rs:List RowP) (q:Nat),p≤8*l.length→Yir ct l inter k n i p vs first=(rs,q,0)→
  Seg (Yad l) p q (Ycp inter k i p vs first rs)∧rs.length=n∧Yde (Yed inter (Yf6 k)) i rs=true∧Yde (Ycm k) vs.length (rs.flatMap (·.cels))=true
 |0,i,p,vs,first,rs,q,hp,h=>by
  rw[Yir] at h;injection h with e1 h;injection h with e2 _;subst e1 e2;exact⟨Seg.nil (by rw[Yag];exact hp),rfl,rfl,rfl⟩
 |n+1,i,p,vs,first,rs,q,hp,h=>by
  rw[Yir] at h;obtain⟨⟨hd,id,qu,z,fs,f⟩,hh⟩:∃r,Yi2 l k i p first=r:=⟨_,rfl⟩
  rw[hh] at h;simp only at h;by_cases hf:f=0
  case neg=>
   rw[if_pos hf] at h;injection h with _ h;injection h with _ h;exact absurd h hf
  rw[if_neg (fun x=>x hf)] at h;subst hf;obtain⟨⟨cs,y,g⟩,hc⟩:∃r,Ydj ct l inter k fs (Yf6 k).toNat z vs=r:=⟨_,rfl⟩;rw[hc] at h;simp only at h;by_cases hg:g=0
  case neg=>
   rw[if_pos hg] at h;injection h with _ h;injection h with _ h;exact absurd h hg
  rw[if_neg (fun x=>x hg)] at h;subst hg;obtain⟨⟨rs',q',e⟩,hr⟩:∃r,Yir ct l inter k n (i+1) y (vs++Ydl cs) fs=r:=⟨_,rfl⟩;rw[hr] at h;simp only at h;by_cases he:e=0
  case neg=>
   rw[if_pos he] at h;injection h with _ h;injection h with _ h;exact absurd h he
  rw[if_neg (fun x=>x he)] at h;subst he;injection h with e1 h;injection h with e2 _;subst e1 e2;obtain⟨s1,f1,m1⟩:=Y5b hp hh cs;have hz:z≤8*l.length:=by have:=s1.2.1;rwa [Yag] at this
  obtain⟨s2,n2,m2,v2⟩:=Yq6 hct _ z vs cs y hz hc;have hy:y≤8*l.length:=by have:=s2.2.1;rwa [Yag] at this
  obtain⟨s3,n3,m3,v3⟩:=Yxg hct hk n (i+1) y (vs++Ydl cs) fs rs' q' hy hr;have ey:y=p+(Yg2 i p ⟨hd,id,qu,cs⟩).length+(Yc9 inter k fs vs cs).length:=by have:=s1.len;have:=s2.len;omega
  refine⟨?_,by rw[List.length_cons,n3],?_,?_⟩
  ·rw[Ycp];show Seg (Yad l) p q' (Yg2 i p ⟨hd,id,qu,cs⟩++(Yc9 inter k (Yqj k i first ⟨hd,id,qu,cs⟩) vs cs++Ycp inter k (i+1) (p+(Yg2 i p ⟨hd,id,qu,cs⟩).length+(Yc9 inter k (Yqj k i first ⟨hd,id,qu,cs⟩) vs cs).length) (vs++Ydl cs) (Yqj k i first ⟨hd,id,qu,cs⟩) rs'));rw[←f1,←ey];exact s1.app (s2.app s3)
  ·rw[Yde,m3,Bool.and_true];unfold Yed;simp only;rw[n2,Int.toNat_of_nonneg hk,m1,m2];simp
  ·rw[List.flatMap_cons,Ygs,v2,Bool.true_and];simp only;rw[List.length_append] at v3;unfold Ydl at v3;rw[List.length_map] at v3;exact v3
def Y25 (l:List UInt8):Nat→Nat→Option Nat
 |0,p=>if (Yaz l p).2=0∨p=8*l.length then some 0 else none
 |n+1,p=>if (Yaz l p).2=0∨p=8*l.length then some 0 else if p+8≤8*l.length∧Ya3 l p 8=0 then (Y25 l n (p+8)).map (· + 1) else none
def Y6h (l:List UInt8)(p:Nat):Nat:=(Y25 l l.length p).getD 0
theorem Yyf {l:List UInt8}:∀(n p z:Nat),p≤8*l.length→Y25 l n p=some z→Seg (Yad l) p (p+8*z) (List.replicate (8*z) 48)
 |0,p,z,hp,h=>by
  rw[Y25] at h
  split at h
  ·injection h with h;subst h;exact Seg.nil (by rw[Yag];exact hp)
  ·cases h
 |n+1,p,z,hp,h=>by
  rw[Y25] at h
  split at h
  ·injection h with h;subst h;exact Seg.nil (by rw[Yag];exact hp)
  ·split at h
   ·rename_i h8
    obtain⟨y,hy,rfl⟩:=Option.map_eq_some_iff.1 h;have s1:=Ygi (l:=l) (p:=p) (n:=8) h8.1 h8.2;have s2:=Yyf n (p+8) y h8.1 hy;have:=s1.app s2;rw[List.replicate_append_replicate] at this;rw[show p+8*(y+1)=p+8+8*y by omega,show 8*(y+1)=8+8*y by omega];exact this
   ·cases h
theorem Yye {l:List UInt8}{p:Nat}(hp:p≤8*l.length):Seg (Yad l) p (p+8*Y6h l p) (List.replicate (8*Y6h l p) 48):=by
 unfold Y6h;cases h:Y25 l l.length p with
 |none=>exact Seg.nil (by rw[Yag];exact hp)
 |some z=>exact Yyf _ p z hp h
def Qa0:ShP:=⟨Yt9,[],0⟩
def wtk (ct:CelT)(l:List UInt8)(p:Nat):ShP×Nat×Int:=
 match shk l p with
 |(h,q,f)=>if f≠0 then (Qa0,p,f) else
  match Yir ct l h.inter h.fmt (Yhx h.fmt).toNat 0 q [] 0 with
  |(rs,z,g)=>if g≠0 then (Qa0,p,g) else if Ya3 l z (gap z)≠0 then (Qa0,p,5) else (⟨h,rs,(Y6h l (z+gap z):Nat)⟩,z+gap z+8*Y6h l (z+gap z),0)
def Yg4 (p:Nat)(S:ShP):List UInt8:=Ycp S.hd.inter S.hd.fmt 0 p [] 0 S.rows
def Yqi (p:Nat):List UInt8:=List.replicate (gap p) 48
def Ybm (p:Nat)(S:ShP):List UInt8:=
 (Ybq 0++Ydi S.hd)++(Yg4 (p+(Ybq 0++Ydi S.hd).length) S++(Yqi (p+(Ybq 0++Ydi S.hd).length+(Yg4 (p+(Ybq 0++Ydi S.hd).length) S).length)++List.replicate (8*S.zeros.toNat) 48))
theorem Y1l (k:Int):0≤Yf6 k∧0≤Yhx k:=by
 unfold Yf6 Yd0;rcases Yd7 k with rfl|rfl|rfl|rfl|rfl|rfl|⟨h,hv⟩
 case _|_|_|_|_|_=>decide +kernel
 unfold Yhx Yjv Y8r;rw[hv]
 decide
theorem Ynm {ct:CelT}{l:List UInt8}{p q:Nat}{S:ShP}(hct:Yfa ct (Yad l))(h:wtk ct l p=(S,q,0)):
  p%8=0∧q%8=0∧p<q∧(S.zeros≤262144→Yd5 S=0)∧0≤S.zeros∧Seg (Yad l) p q (Ybm p S):=by
 unfold wtk at h;obtain⟨⟨hd,z0,f⟩,hh⟩:∃r,shk l p=r:=⟨_,rfl⟩;rw[hh] at h;simp only at h;by_cases hf:f=0
 case neg=>
  rw[if_pos hf] at h;injection h with _ h;injection h with _ h;exact absurd h hf
 rw[if_neg (fun x=>x hf)] at h;subst hf;obtain⟨⟨rs,z,g⟩,hr⟩:∃r,Yir ct l hd.inter hd.fmt (Yhx hd.fmt).toNat 0 z0 [] 0=r:=⟨_,rfl⟩;rw[hr] at h;simp only at h;by_cases hg:g=0
 case neg=>
  rw[if_pos hg] at h;injection h with _ h;injection h with _ h;exact absurd h hg
 rw[if_neg (fun x=>x hg)] at h;subst hg;by_cases h0:Ya3 l z (gap z)=0
 case neg=>
  rw[if_pos h0] at h;injection h with _ h;injection h with _ h;cases h
 rw[if_neg (fun x=>x h0)] at h;injection h with e1 h;injection h with e2 _;obtain⟨p8,hm,s0⟩:=Y2j hh;obtain⟨k1,k2⟩:=Y1l hd.fmt;have hz0:z0≤8*l.length:=by have:=s0.2.1;rwa [Yag] at this
 obtain⟨s1,n1,m1,v1⟩:=Yxg hct k1 _ 0 z0 [] 0 rs z hz0 hr;have hz:z≤8*l.length:=by have:=s1.2.1;rwa [Yag] at this
 have hgf:z+gap z≤8*l.length:=by unfold gap;omega
 have s2:=Ygi (l:=l) (p:=z) (n:=gap z) hgf h0;have s3:=Yye (l:=l) (p:=z+gap z) hgf;have l0:=s0.len;have l1:=s1.len;have hl22:(Ybq 0++Ydi hd).length=50+9*hd.supp.length:=by rw[List.length_append,Ybb,Yff];omega
 subst e1 e2;refine⟨p8,by unfold gap;omega,by omega,fun hzz=>?_,by simp,?_⟩
 ·refine Y2h ?_ ?_
  ·unfold Ye8;simp only[Bool.and_eq_true,decide_eq_true_iff];refine⟨hm,⟨by simp,hzz⟩,?_,m1⟩;rw[n1,Int.toNat_of_nonneg k2]
  ·exact v1
 ·unfold Ybm Yg4 Yqi;simp only[Int.toNat_natCast];rw[←l0,←l1];exact s0.app (s1.app (s2.app s3))
theorem Yp0 {α:Type}{a:α}{n:Nat}{A B:List α}(h:a∈A.take n):a∈(A++B).take n:=by
 rw[List.take_append];exact List.mem_append_left _ h
theorem Qbg:∀inter:Bool,(49:UInt8)∈(Yi9 inter).take 10:=by decide +kernel
theorem Qd5:∀(inter:Bool) (k:Fin 6) (c:Fin 4),Ykm inter (k.val:Nat)=true→(49:UInt8)∈(Qb4 inter++(Yby inter (k.val:Nat) (c.val:Nat)).data.toList).take 10:=by decide +kernel
theorem Qd4 {inter:Bool}{k:Int}(h:Ykm inter k=true):∃n:Nat,n<6∧k=n:=by
 unfold Ykm at h;simp only[Bool.or_eq_true,Bool.and_eq_true,beq_iff_eq] at h;exact⟨k.toNat,by omega,by omega⟩
theorem Y3p {inter:Bool}{x y:Int}{c:Cel}(h:Ybp inter c=true):(49:UInt8)∈(Yc4 inter x y c).take 10:=by
 unfold Ybp at h;rw[Bool.and_eq_true] at h;unfold Yc4;cases hn:c.stuff.toNat with
 |succ n=>
  rw[Ydd,List.append_assoc];exact Yp0 (Qbg inter)
 |zero=>
  show _∈List.take 10 ([]++_);rw[List.nil_append];cases hs:c.skip with
  |true=>
   rw[if_pos rfl]
   decide
  |false=>
   rw[if_neg (by decide)];have h2:=h.2;rw[hs,if_neg (by decide),Bool.and_eq_true,Bool.and_eq_true] at h2;obtain⟨n,hn6,hk⟩:=Qd4 h2.1.1;have hkk:=h2.1.1;rw[hk] at hkk;have h1:=Qd5 inter ⟨n,hn6⟩ ⟨Ykd c,(Y7x c).2.1⟩ hkk;rw[hk];simp only[List.append_assoc];rw[←List.append_assoc];exact Yp0 h1
theorem Qig {S:List UInt8}{p q j:Nat}{r:List UInt8}(h:Seg S p q r)(hj:j<r.length):S[p+j]? =r[j]?:=by
 have e:=h.at;have:(S.drop p)[j]? =(r++S.drop q)[j]?:=by rw[e]
 rw[List.getElem?_drop,List.getElem?_append_left hj] at this;exact this
theorem Y4t {l:List UInt8}{p q:Nat}{r:List UInt8}(h:Seg (Yad l) p q r)(h1:(49:UInt8)∈r.take 10):(Ya6 l p).2=false:=by
 cases hn:(Ya6 l p).2 with
 |false=>rfl
 |true=>
  have hg:=Ytz hn;have hin:=Yox hn;rw[Yow (by omega) hg,Ye4 (by omega)] at hn;have ht:Ya3 l (p+gap p) 22 / 32=1:=by
   by_cases ht:Ya3 l (p+gap p) 22 / 32=1
   ·exact ht
   ·rw[if_neg ht] at hn;exact absurd hn (by decide)
  have e:=Yee l (p+gap p) 16 6 (by omega);have e':Ya3 l (p+gap p) 22=Ya3 l (p+gap p) 16*64+Ya3 l (p+gap p+16) 6:=e;have h16:Ya3 l (p+gap p) 16=0:=by omega
  obtain⟨j,hj,hv⟩:=List.mem_iff_getElem.1 h1;have hj2:=hj;rw[List.length_take] at hj2;have hs:=Qig h (j:=j) (by omega);rw[List.getElem_take] at hv;rw[List.getElem?_eq_getElem (show j<r.length by omega),hv] at hs;by_cases hjg:j<gap p
  ·have:=(Yci l p (gap p) (by omega)).1 hg j hjg;rw[this] at hs;exact absurd hs (by decide)
  ·have:=(Yci l (p+gap p) 16 (by omega)).1 h16 (j-gap p) (by omega);rw[show p+gap p+(j-gap p)=p+j by omega] at this;rw[this] at hs;exact absurd hs (by decide)
theorem Qht {l:List UInt8}{p z n id q:Nat}(hn:n<32)(hi:id<4)(h1:1≤q)(hq:q<32)(h:Seg (Yad l) p z (Yd8 p n id q)):hdk l p (n:Int)=((id:Int),(q:Int),z,0)∧Ya6 l p=((n:Int),true):=by
 unfold Yd8 Yfo at h;rw[←Ydc,List.append_assoc] at h;obtain⟨p0,g0,h⟩:=h.cut;obtain⟨p1,g1,h⟩:=h.cut;obtain⟨p2,g2,g3⟩:=h.cut;have g1':Seg (Yad l) p0 p1 (Yav (32+n) 22):=g1;obtain⟨a0,e0,b0⟩:=Ybv g0 (Nat.two_pow_pos _);obtain⟨a1,e1,b1⟩:=Ybv g1' (by show 32+n<4194304;omega);obtain⟨a2,e2,b2⟩:=Ybv g2 (by show id<4;omega);obtain⟨a3,e3,b3⟩:=Ybv g3 (by show q<32;omega);subst e0 e1 e2 e3
 have hx:Ya6 l p=((n:Int),true):=by
  rw[Yow (by omega) a0,Ye4 (by omega),a1,if_pos (by omega)];have:(32+n)%32=n:=by omega
  rw[this];rfl
 refine⟨?_,hx⟩;rw[Y8w (by rw[hx]) (by rw[hx]) (by omega) (by rw[a3];omega),a2,a3]
def Yf7 (ct:CelT)(S:List UInt8):Prop:=∀inter x y p q c,Seg S p q (Yc4 inter x y c)→Ybp inter c=true→∃c',ct inter S x y p=(c',q,0)∧Qgi c' c=true
theorem Y7h {c d:Cel}(h:Qgi c d=true):c.kind=d.kind∧c.mx=d.mx∧c.my=d.my:=by
 unfold Qgi Qj6 at h;simp only[Bool.and_eq_true,beq_iff_eq] at h;exact⟨h.2.1.1.1.2,h.2.1.2.1,h.2.1.2.2⟩
theorem Yn5 {ct:CelT}{l:List UInt8}{inter:Bool}{k first:Int}(hct:Yf7 ct (Yad l)):∀(cs:List Cel) (p:Nat) (vs:List (Int×Int)) (q:Nat),Seg (Yad l) p q (Yc9 inter k first vs cs)→cs.all (Ybp inter)=true→Yde (Ycm k) vs.length cs=true→
  ∃cs',Ydj ct l inter k first cs.length p vs=(cs',q,0)∧Ydl cs'=Ydl cs∧cs'.length=cs.length∧((cs'.zip cs).all fun p=>Qgi p.1 p.2)=true
 |[],p,vs,q,h,_,_=>by
  have e:q=p:=h.len;subst e;exact⟨[],rfl,rfl,rfl,rfl⟩
 |c::cs,p,vs,q,h,hm,hv=>by
  rw[Yc9] at h;obtain⟨z,h1,h2⟩:=h.cut;rw[List.all_cons,Bool.and_eq_true] at hm;rw[Yde,Bool.and_eq_true] at hv;obtain⟨c',hc,hb⟩:=hct inter _ _ p z c h1 hm.1;obtain⟨n1,n2,n3⟩:=Y7h hb;have hv1:Ycm k vs.length c'=true:=by
   have:=hv.1;unfold Ycm at this ⊢;rw[n1,n2,n3];exact this
  obtain⟨cs',e1,e2,e3,e4⟩:=Yn5 hct cs z (vs++[(c.mx,c.my)]) q h2 hm.2 (by rw[List.length_append];exact hv.2);refine⟨c'::cs',?_,?_,by rw[List.length_cons,List.length_cons,e3],?_⟩
  ·rw[List.length_cons,Ydj,hc];simp only;rw[if_neg (by decide),hv1,if_neg (by decide),n2,n3,e1];simp
  ·show (c'.mx,c'.my)::Ydl cs'=(c.mx,c.my)::Ydl cs;rw[n2,n3,e2]
  ·rw[List.zip_cons_cons,List.all_cons,hb,e4];rfl
theorem Yr2 {ct:CelT}{l:List UInt8}{inter:Bool}{k:Int}(hct:Yf7 ct (Yad l))(hk:0<Yf6 k):∀(rs:List RowP) (i p:Nat) (vs:List (Int×Int)) (first:Int) (q:Nat),Seg (Yad l) p q (Ycp inter k i p vs first rs)→i+rs.length≤31→
  Yde (Yed inter (Yf6 k)) i rs=true→Yde (Ycm k) vs.length (rs.flatMap (·.cels))=true→
  ∃rs',Yir ct l inter k rs.length i p vs first=(rs',q,0)∧rs'.length=rs.length∧((rs'.zip rs).all fun p=>rwB p.1 p.2)=true
 |[],i,p,vs,first,q,h,_,_,_=>by
  have e:q=p:=h.len;subst e;exact⟨[],rfl,rfl,rfl⟩
 |r::rs,i,p,vs,first,q,h,hi,hm,hv=>by
  rw[Ycp] at h;obtain⟨z,h1,h⟩:=h.cut;obtain⟨y,h2,h3⟩:=h.cut;rw[List.length_cons] at hi;rw[Yde,Bool.and_eq_true] at hm;rw[List.flatMap_cons,Ygs,Bool.and_eq_true] at hv;have hr:=hm.1;unfold Yed at hr;rw[Bool.and_eq_true,decide_eq_true_iff,Bool.and_eq_true] at hr;obtain⟨hc,hh,ha⟩:=hr;have ez:=h1.len;have ey:=h2.len;rw[←ez,←ey] at h3;obtain⟨cs',e1,e2,e3,e4⟩:=Yn5 hct r.cels z vs y h2 ha hv.1
  obtain⟨rs',f1,f2,f3⟩:=Yr2 hct hk rs (i+1) y (vs++Ydl r.cels) (Yqj k i first r) q h3 (by omega) hm.2 (by
   rw[List.length_append];unfold Ydl;rw[List.length_map];exact hv.2)
  have hN:(Yf6 k).toNat=r.cels.length:=by omega
  have hR:Yi2 l k i p first=(r.head,r.id,r.quant,z,Yqj k i first r,0):=by
   unfold Yi2 Yqj;unfold Yg2 at h1;cases hd:r.head with
   |true=>
    rw[hd,if_pos rfl] at hh h1;rw[decide_eq_true_iff] at hh;obtain⟨g1,g2⟩:=Qht (by omega) (by omega) (by omega) (by omega) h1;have hI:Y6m l i p=true:=by
     unfold Y6m;rw[g2];simp only[Bool.and_eq_true,decide_eq_true_iff,bne_iff_ne,true_and];omega
    rw[hI,if_pos rfl,if_pos rfl,g1];simp only[Prod.mk.injEq,true_and,and_true];omega
   |false=>
    rw[hd,if_neg (by decide)] at hh h1;rw[decide_eq_true_iff] at hh;have e:z=p:=h1.len;subst e;have hI:Y6m l i z=false:=by
     unfold Y6m;by_cases h0:0<i
     ·cases hcs:r.cels with
      |nil=>rw[hcs] at hc;simp at hc;omega
      |cons c cs=>
       rw[hcs] at h2 ha;rw[Yc9] at h2;rw[List.all_cons,Bool.and_eq_true] at ha;rw[Y4t h2 (Yp0 (Y3p ha.1))];simp
     ·rw[decide_eq_false h0];rfl
    rw[hI,if_neg (by decide),if_neg (by decide),hh.1,hh.2]
  refine⟨⟨r.head,r.id,r.quant,cs'⟩::rs',?_,by rw[List.length_cons,List.length_cons,f2],?_⟩
  ·rw[List.length_cons,Yir,hR];simp only;rw[if_neg (by decide),hN,e1];simp only;rw[if_neg (by decide),e2,f1];simp
  ·rw[List.zip_cons_cons,List.all_cons,f3];unfold rwB;simp only[beq_self_eq_true,Bool.true_and,Bool.and_true,Bool.and_eq_true,decide_eq_true_iff];exact⟨e3,e4⟩
theorem Ysp {l:List UInt8}:∀(z n p q:Nat),z≤n→q=p+8*z→q≤8*l.length→Seg (Yad l) p q (List.replicate (8*z) 48)→(q=8*l.length∨(Yaz l q).2=0)→Y25 l n p=some z
 |0,n,p,q,_,hq,_,_,hf=>by
  have e:q=p:=by omega
  subst e;have hc:(Yaz l q).2=0∨q=8*l.length:=hf.symm;cases n with
  |zero=>rw[Y25,if_pos hc]
  |succ n=>rw[Y25,if_pos hc]
 |z+1,0,p,q,h,_,_,_,_=>by omega
 |z+1,n+1,p,q,h,hq,hin,hs,hf=>by
  have hs':=hs;rw[show 8*(z+1)=8+8*z by omega,←List.replicate_append_replicate] at hs';obtain⟨m,s1,s2⟩:=hs'.cut;have em:m=p+8:=by have:=s1.len;rw[List.length_replicate] at this;exact this
  subst em;rw[←Ydc] at s1 hs;obtain⟨t8,_,b8⟩:=Ybv s1 (by decide);obtain⟨tA,_,bA⟩:=Ybv hs (Nat.two_pow_pos _);have hno:¬ ((Yaz l p).2=0∨p=8*l.length):=by
   rintro(h0|h0)
   ·by_cases h22:p+22≤8*l.length
    ·rw[Ye4 h22] at h0;have ht:Ya3 l p 22 / 32=1:=by
      by_cases ht:Ya3 l p 22 / 32=1
      ·exact ht
      ·rw[if_neg ht] at h0;exact absurd h0 (by decide)
     have hz:∀i,i<22→(Yad l)[p+i]? =some 48:=by
      intro i hi;by_cases h8:i<8*(z+1)
      ·exact(Yci l p (8*(z+1)) (by omega)).1 tA i h8
      ·rcases hf with hf|hf
       ·omega
       ·have hq22:q+22≤8*l.length:=by
         by_cases hx:q+22≤8*l.length
         ·exact hx
         ·rw[Yen (by omega) (by omega)] at hf;exact absurd hf (by decide)
        rw[Ye4 hq22] at hf;have htq:Ya3 l q 22 / 32=1:=by
         by_cases ht:Ya3 l q 22 / 32=1
         ·exact ht
         ·rw[if_neg ht] at hf;exact absurd hf (by decide)
        have e:Ya3 l q 22=Ya3 l q 16*64+Ya3 l (q+16) 6:=Yee l q 16 6 (by omega);have h16:Ya3 l q 16=0:=by omega
        have:=(Yci l q 16 (by omega)).1 h16 (i-8*(z+1)) (by omega);rw[show q+(i-8*(z+1))=p+i by omega] at this;exact this
     have:=(Yci l p 22 h22).2 hz;omega
    ·rw[Yen (by omega) (by omega)] at h0;exact absurd h0 (by decide)
   ·omega
  rw[Y25,if_neg hno,if_pos ⟨b8,t8⟩,Ysp z n (p+8) q (by omega) (by omega) hin s2 hf]
  rfl
theorem Qb1 {ct:CelT}{l:List UInt8}{p q:Nat}{S:ShP}(hct:Yf7 ct (Yad l))(hp:p%8=0)(hS:Yd5 S=0)(h:Seg (Yad l) p q (Ybm p S))(hf:q=8*l.length∨(Yaz l q).2=0):
  ∃S',wtk ct l p=(S',q,0)∧shB S' S=true:=by
 obtain⟨h1,h2⟩:=Yr4 hS;unfold Ye8 at h1;simp only[Bool.and_eq_true,decide_eq_true_iff] at h1;obtain⟨hm,⟨z0,z1⟩,hn,hr⟩:=h1;obtain⟨hd,rows,zeros⟩:=S;dsimp only at hm z0 z1 hn hr h2;unfold Ybm Yg4 Yqi at h;dsimp only at h;obtain⟨a,s0,h⟩:=h.cut;obtain⟨b,s1,h⟩:=h.cut;obtain⟨c,s2,s3⟩:=h.cut;have ea:=s0.len;have eb:=s1.len;have ec:=s2.len;have eq:=s3.len;rw[←ea] at s1 s2 eb ec;rw[←eb] at s2 ec
 rw[List.length_replicate] at ec eq;have hin:q≤8*l.length:=by have:=s3.2.1;rwa [Yag] at this
 have hfm:=(Yd2.1 hm).2.1;have hkN:0<Yf6 hd.fmt∧Yhx hd.fmt≤18:=by
  have h6:hd.fmt=1∨hd.fmt=2∨hd.fmt=3∨hd.fmt=4∨hd.fmt=5∨hd.fmt=6:=by omega
  rcases h6 with h6|h6|h6|h6|h6|h6 <;> rw[h6] <;> decide +kernel
 have hk:=Qax hp hm s0;obtain⟨rs',f1,f2,f3⟩:=Yr2 hct hkN.1 rows 0 a [] 0 b s1 (by omega) hr h2;have hR:(Yhx hd.fmt).toNat=rows.length:=by omega
 have hfill:Ya3 l b (gap b)=0:=by
  rw[←Ydc] at s2;exact(Ybv s2 (Nat.two_pow_pos _)).1
 have hz:Y25 l l.length (b+gap b)=some zeros.toNat:=by
  rw[ec] at s3;exact Ysp zeros.toNat l.length (b+gap b) q (by omega) (by omega) hin s3 hf
 have hz':Y6h l (b+gap b)=zeros.toNat:=by unfold Y6h;rw[hz];rfl
 refine⟨⟨hd,rs',zeros⟩,?_,?_⟩
 ·unfold wtk;rw[hk];simp only;rw[if_neg (by decide),hR,f1];simp only;rw[if_neg (by decide),if_neg (fun x=>x hfill),hz'];have e1:((zeros.toNat:Nat):Int)=zeros:=by omega
  have e2:b+gap b+8*zeros.toNat=q:=by omega
  rw[e1,e2]
 ·unfold shB;rw[Qaw];simp only[beq_self_eq_true,Bool.true_and,Bool.and_eq_true,decide_eq_true_iff];exact⟨f2,f3⟩
theorem Y8u {p q:Nat}(h:p%8=q%8):gap p=gap q:=by unfold gap;rw[h]
theorem Yzn {p q:Nat}(h:p%8=q%8)(n a b:Nat):Yd8 p n a b=Yd8 q n a b:=by unfold Yd8;rw[Y8u h]
theorem Ypi {inter:Bool}{k:Int}:∀(rs:List RowP) (i p q:Nat) (vs:List (Int×Int)) (first:Int),p%8=q%8→Ycp inter k i p vs first rs=Ycp inter k i q vs first rs
 |[],_,_,_,_,_,_=>rfl
 |r::rs,i,p,q,vs,first,h=>by
  have hh:Yg2 i p r=Yg2 i q r:=by unfold Yg2;rw[Yzn h]
  rw[Ycp,Ycp,hh]
  congr 2
  exact Ypi rs _ _ _ _ _ (by omega)
theorem Yie {p q:Nat}(h:p%8=q%8)(S:ShP):Ybm p S=Ybm q S:=by
 unfold Ybm Yg4;have e1:∀a:Nat,Ycp S.hd.inter S.hd.fmt 0 (p+a) [] 0 S.rows=Ycp S.hd.inter S.hd.fmt 0 (q+a) [] 0 S.rows:=fun a=>Ypi _ _ _ _ _ _ (by omega);rw[e1];have e2:∀a b:Nat,Yqi (p+a+b)=Yqi (q+a+b):=fun a b=>by unfold Yqi;rw[Y8u (p:=p+a+b) (q:=q+a+b) (by omega)]
 rw[e2]
theorem Yux (p:Nat)(S:ShP):50≤(Ybm p S).length:=by
 unfold Ybm;rw[List.length_append,List.length_append,Ybb,Yff];omega
theorem Ypo:∀{l m:List UInt8},Yad l=Yad m→l=m
 |[],[],_=>rfl
 |[],c::m,h=>by have:=congrArg List.length h;rw[Yag,Yag] at this;simp at this
 |c::l,[],h=>by have:=congrArg List.length h;rw[Yag,Yag] at this;simp at this
 |c::l,d::m,h=>by
  rw[Yis,Yis] at h;obtain⟨h1,h2⟩:=List.append_inj h (by rw[Yal,Yal]);have h3:=congrArg num h1;rw[Ycw,Ycw] at h3;have hc:=c.toNat_lt;have hd:=d.toNat_lt;have e:c=d:=UInt8.toNat_inj.1 (by omega);rw[e,Ypo h2]
theorem Qfc {l:List UInt8}{a b:Nat}{r:List UInt8}(h:Seg (Yad l) (8*a) (8*b) r):Ygg r=(l.drop a).take (b-a):=by
 obtain⟨h1,h2,h3⟩:=h;rw[Yag] at h2;have hp:=Yly l a (b-a) (by omega);rw[show 8*(b-a)=8*b-8*a by omega,h3] at hp;have hr:Yax r=true:=by rw[←hp];exact Yds _
 apply Ypo;rw[Ypp r hr,hp];unfold Y6o;have hl:r.length%8=0:=by rw[←hp,Yag];omega
 rw[show (8-r.length%8)%8=0 by omega];exact List.append_nil r
def Yu4 (r:List UInt8)(S:ShP):List UInt8:=r++(Yqi r.length++Ybm (r.length+gap r.length) S)
def Y4w (r:List UInt8)(S:ShP):List UInt8:=Yc3 r 0++Ydi S.hd
def Y12 (r:List UInt8)(S:ShP):List UInt8:=Y4w r S++Yg4 (Y4w r S).length S
theorem Ygz (r:List UInt8)(S:ShP):(Y4w r S).length=r.length+gap r.length+(Ybq 0++Ydi S.hd).length:=by
 unfold Y4w;rw[List.length_append,Ygu,List.length_append,Ybb];omega
theorem Ylq (r:List UInt8)(S:ShP):Yu4 r S=(Y12 r S++List.replicate (gap (Y12 r S).length) 48)++List.replicate (8*S.zeros.toNat) 48:=by
 have hl:(Y12 r S).length=r.length+gap r.length+(Ybq 0++Ydi S.hd).length+(Yg4 (r.length+gap r.length+(Ybq 0++Ydi S.hd).length) S).length:=by
  unfold Y12;rw[List.length_append,Ygz]
 rw[hl];unfold Yu4 Ybm Y12;rw[Ygz];unfold Y4w Yc3 Yqi;simp only[List.append_assoc]
def Ye1 (inter:Bool)(k:Int)(i:Nat)(R:List UInt8)(vs:List (Int×Int))(first:Int)(rs:List RowP):List UInt8:=R++Ycp inter k i R.length vs first rs
def Yhd (inter:Bool)(k first:Int)(R:List UInt8)(vs:List (Int×Int))(cs:List Cel):List UInt8:=R++Yc9 inter k first vs cs
theorem Y3t (inter:Bool)(k first:Int)(R:List UInt8)(vs:List (Int×Int)):Yhd inter k first R vs []=R:=List.append_nil R
theorem Yy3 (inter:Bool)(k first:Int)(R:List UInt8)(vs:List (Int×Int))(c:Cel)(cs:List Cel):
  Yhd inter k first R vs (c::cs)=Yhd inter k first (R++Yc4 inter (Yd3 vs (Yd0 k) first).1 (Yd3 vs (Yd0 k) first).2 c) (vs++[(c.mx,c.my)]) cs:=by
 unfold Yhd;rw[Yc9,List.append_assoc]
theorem Y5e (inter:Bool)(k:Int)(i:Nat)(R:List UInt8)(vs:List (Int×Int))(first:Int):Ye1 inter k i R vs first []=R:=List.append_nil R
theorem Yz8 (inter:Bool)(k:Int)(i:Nat)(R:List UInt8)(vs:List (Int×Int))(first:Int)(r:RowP)(rs:List RowP):
  Ye1 inter k i R vs first (r::rs)=Ye1 inter k (i+1) (Yhd inter k (Yqj k i first r) (R++Yg2 i R.length r) vs r.cels) (vs++Ydl r.cels) (Yqj k i first r) rs:=by
 unfold Ye1 Yhd;rw[Ycp];simp only[List.length_append,List.append_assoc,Nat.add_assoc]
theorem Yr1 (r:List UInt8)(S:ShP):Ye1 S.hd.inter S.hd.fmt 0 (Y4w r S) [] 0 S.rows=Y12 r S:=rfl
theorem Yrn (r:List UInt8)(S:ShP):(Yu4 r S).length%8=0:=by
 rw[Ylq];simp only[List.length_append,List.length_replicate];unfold gap;omega
theorem Qel (S:ShP):Yu4 [] S=Ybm 0 S:=rfl
theorem Y9p {r:List UInt8}(h:r.length%8=0)(S:ShP):Yu4 r S=r++Ybm 0 S:=by
 unfold Yu4 Yqi;have hg:gap r.length=0:=by unfold gap;omega
 rw[hg,Yie (q:=0) (by omega)]
 rfl
def Ycu {α:Type}(E:List α×Nat×Int)(d:List α)(T:List α×Nat×Int):Prop:=(T.2.2≠0→E.2.2=T.2.2)∧(T.2.2=0→E=(d++T.1,T.2.1,0))
theorem Ycu.start {α:Type}(E:List α×Nat×Int):Ycu E [] E:=⟨fun _=>rfl,fun h=>by obtain⟨a,b,c⟩:=E;simp only at h;subst h;rfl⟩
theorem Ycu.bad {α:Type}{E T:List α×Nat×Int}{d:List α}{f:Int}(h:Ycu E d T)(hf:T.2.2=f)(h0:f≠0):E.2.2=f:=by
 subst hf;exact h.1 h0
theorem Ycu.done {α:Type}{E:List α×Nat×Int}{d:List α}{p:Nat}(h:Ycu E d ([],p,0)):E=(d,p,0):=by
 have:=h.2 rfl;rwa [List.append_nil] at this
theorem Ycu.step {α:Type}{E T T':List α×Nat×Int}{d:List α}{a:α}(h:Ycu E d T)(e:T=(if T'.2.2≠0 then ([],T.2.1,T'.2.2) else (a::T'.1,T'.2.1,0))):Ycu E (d++[a]) T':=by
 by_cases h0:T'.2.2=0
 ·rw[if_neg (fun x=>x h0)] at e;refine⟨fun h1=>absurd h0 h1,fun _=>?_⟩;have:=h.2 (by rw[e]);rw[this,e,List.append_assoc]
  rfl
 ·rw[if_pos h0] at e;exact⟨fun _=>h.bad (by rw[e]) h0,fun h1=>absurd h1 h0⟩
section
variable {ct:CelT}{l:List UInt8}{inter:Bool}{k first:Int}{n p:Nat}{vs:List (Int×Int)}
theorem Y7p {E:List Cel×Nat×Int}{d:List Cel}{c:Cel}{q:Nat}{f:Int}(h:Ycu E d (Ydj ct l inter k first (n+1) p vs))(hc:ct inter (Yad l) (Yd3 vs (Yd0 k) first).1 (Yd3 vs (Yd0 k) first).2 p=(c,q,f))(hf:f≠0):E.2.2=f:=by
 refine h.bad ?_ hf;rw[Ydj,hc];simp only;rw[if_pos hf]
theorem Y7q {E:List Cel×Nat×Int}{d:List Cel}{c:Cel}{q:Nat}(h:Ycu E d (Ydj ct l inter k first (n+1) p vs))(hc:ct inter (Yad l) (Yd3 vs (Yd0 k) first).1 (Yd3 vs (Yd0 k) first).2 p=(c,q,0))(hv:Ycm k vs.length c=false):E.2.2=8:=by
 refine h.bad ?_ (by decide);rw[Ydj,hc];simp only;rw[if_neg (fun x=>x rfl),hv,if_pos rfl]
theorem Y3s {E:List Cel×Nat×Int}{d:List Cel}{c:Cel}{q:Nat}(h:Ycu E d (Ydj ct l inter k first (n+1) p vs))(hc:ct inter (Yad l) (Yd3 vs (Yd0 k) first).1 (Yd3 vs (Yd0 k) first).2 p=(c,q,0))(hv:Ycm k vs.length c=true):Ycu E (d++[c]) (Ydj ct l inter k first n q (vs++[(c.mx,c.my)])):=by
 refine h.step ?_;rw[Ydj,hc];simp only;rw[if_neg (fun x=>x rfl),hv,if_neg (by decide)];obtain⟨⟨cs,z,g⟩,hr⟩:∃r,Ydj ct l inter k first n q (vs++[(c.mx,c.my)])=r:=⟨_,rfl⟩
 rw[hr];by_cases hg:g=0
 ·subst hg
  rfl
 ·simp only;rw[if_pos hg,if_pos hg]
theorem Qaq {i:Nat}{E:List RowP×Nat×Int}{d:List RowP}{hd:Bool}{id qu fs f:Int}{z:Nat}(h:Ycu E d (Yir ct l inter k (n+1) i p vs first))(hh:Yi2 l k i p first=(hd,id,qu,z,fs,f))(hf:f≠0):E.2.2=f:=by
 refine h.bad ?_ hf;rw[Yir,hh];simp only;rw[if_pos hf]
theorem Qap {i:Nat}{E:List RowP×Nat×Int}{d:List RowP}{hd:Bool}{id qu fs g:Int}{z q:Nat}{cs:List Cel}(h:Ycu E d (Yir ct l inter k (n+1) i p vs first))(hh:Yi2 l k i p first=(hd,id,qu,z,fs,0))(hc:Ydj ct l inter k fs (Yf6 k).toNat z vs=(cs,q,g))(hg:g≠0):E.2.2=g:=by
 refine h.bad ?_ hg;rw[Yir,hh];simp only;rw[if_neg (fun x=>x rfl),hc];simp only;rw[if_pos hg]
theorem Qar {i:Nat}{E:List RowP×Nat×Int}{d:List RowP}{hd:Bool}{id qu fs:Int}{z q:Nat}{cs:List Cel}(h:Ycu E d (Yir ct l inter k (n+1) i p vs first))(hh:Yi2 l k i p first=(hd,id,qu,z,fs,0))(hc:Ydj ct l inter k fs (Yf6 k).toNat z vs=(cs,q,0)):
  Ycu E (d++[⟨hd,id,qu,cs⟩]) (Yir ct l inter k n (i+1) q (vs++Ydl cs) fs):=by
 refine h.step ?_;rw[Yir,hh];simp only;rw[if_neg (fun x=>x rfl),hc];simp only;rw[if_neg (fun x=>x rfl)];obtain⟨⟨rs,y,e⟩,hr⟩:∃r,Yir ct l inter k n (i+1) q (vs++Ydl cs) fs=r:=⟨_,rfl⟩;rw[hr];by_cases he:e=0
 ·subst he
  rfl
 ·simp only;rw[if_pos he,if_pos he]
end
section
variable {ct:CelT}{l:List UInt8}{p q z:Nat}{h:Shd}{rs:List RowP}{f g:Int}
theorem Qf5 (hh:shk l p=(h,q,f))(hf:f≠0):wtk ct l p=(Qa0,p,f):=by
 unfold wtk;rw[hh];simp only;rw[if_pos hf]
theorem Qf6 (hh:shk l p=(h,q,0))(hr:(Yir ct l h.inter h.fmt (Yhx h.fmt).toNat 0 q [] 0).2.2=g)(hg:g≠0):wtk ct l p=(Qa0,p,g):=by
 unfold wtk;rw[hh];simp only;rw[if_neg (fun x=>x rfl)];obtain⟨⟨rs,z,e⟩,h2⟩:∃r,Yir ct l h.inter h.fmt (Yhx h.fmt).toNat 0 q [] 0=r:=⟨_,rfl⟩;rw[h2] at hr ⊢;simp only at hr ⊢;subst hr;rw[if_pos hg]
theorem Qf4 (hh:shk l p=(h,q,0))(hr:Yir ct l h.inter h.fmt (Yhx h.fmt).toNat 0 q [] 0=(rs,z,0))(h0:Ya3 l z (gap z)≠0):wtk ct l p=(Qa0,p,5):=by
 unfold wtk;rw[hh];simp only;rw[if_neg (fun x=>x rfl),hr];simp only;rw[if_neg (fun x=>x rfl),if_pos h0]
theorem Qju (hh:shk l p=(h,q,0))(hr:Yir ct l h.inter h.fmt (Yhx h.fmt).toNat 0 q [] 0=(rs,z,0))(h0:Ya3 l z (gap z)=0):wtk ct l p=(⟨h,rs,(Y6h l (z+gap z):Nat)⟩,z+gap z+8*Y6h l (z+gap z),0):=by
 unfold wtk;rw[hh];simp only;rw[if_neg (fun x=>x rfl),hr];simp only;rw[if_neg (fun x=>x rfl),if_neg (fun x=>x h0)]
end
theorem Y84:∀(L:List UInt8),(∀i,i<(L.takeWhile (· == 48)).length→L[i]? =some 48)∧L[(L.takeWhile (· == 48)).length]?≠some 48
 |[]=>⟨fun i hi=>by simp at hi,by simp⟩
 |c::L=>by
  by_cases hc:c=48
  ·obtain⟨h1,h2⟩:=Y84 L;rw[List.takeWhile_cons_of_pos (by simpa using hc),List.length_cons];refine⟨fun i hi=>?_,by simpa using h2⟩
   match i,hi with
   |0,_=>rw[hc];rfl
   |i+1,hi=>simpa using h1 i (by omega)
  ·rw[List.takeWhile_cons_of_neg (by simpa using hc)];refine⟨fun i hi=>by simp at hi,?_⟩
   simpa using hc
theorem Yio (l:List UInt8)(p:Nat):(∀i,i<Ya8 l p→(Yad l)[p+i]? =some 48)∧(Yad l)[p+Ya8 l p]?≠some 48:=by
 have h:=Y84 ((Yad l).drop p);unfold Ya8;rw[if_neg (by omega),Int.toNat_natCast];refine⟨fun i hi=>?_,?_⟩
 ·have:=h.1 i hi;rwa [List.getElem?_drop] at this
 ·have:=h.2;rwa [List.getElem?_drop] at this
theorem Ylp {l:List UInt8}{p:Nat}(hp:p≤8*l.length):p+Ya8 l p≤8*l.length:=by
 rcases Nat.lt_or_ge (8*l.length) (p+Ya8 l p) with h|h
 ·have:=(Yio l p).1 (8*l.length-p) (by omega);rw[List.getElem?_eq_none (by rw[Yag];omega)] at this;cases this
 ·exact h
theorem Ylo {l:List UInt8}{p n:Nat}(h:p+n≤8*l.length):Ya3 l p n=0↔n≤Ya8 l p:=by
 rw[Yci l p n h];constructor
 ·intro h0;rcases Nat.lt_or_ge (Ya8 l p) n with h1|h1
  ·exact absurd (h0 _ h1) (Yio l p).2
  ·exact h1
 ·exact fun h1 i hi=>(Yio l p).1 i (by omega)
theorem Ywz {l:List UInt8}{p n:Nat}(h:n≤Ya8 l p):Ya8 l ((p+n:Nat):Int)=Ya8 l p-n:=by
 obtain⟨h1,h2⟩:=Yio l p;refine Yjq (fun i hi=>?_) ?_
 ·rw[Nat.add_assoc];exact h1 (n+i) (by omega)
 ·rw[show p+n+(Ya8 l p-n)=p+Ya8 l p by omega];exact h2
theorem Ywr {l:List UInt8}{p:Nat}(hp:p≤8*l.length):(Yaz l (p:Int)).2=0↔p+22≤8*l.length∧Ya8 l p=16:=by
 rcases Nat.lt_or_ge (8*l.length) (p+22) with h|h
 ·rw[Yen hp h];constructor
  ·intro h;cases h
  ·omega
 ·rw[Ye4 h];have e:=Yee l p 16 6 (by omega);have e2:=Yee l p 17 5 (by omega);have e3:=Yee l p 16 1 (by omega);have l5:=Ycg l (p+17) 5;have l1:=Ycg l (p+16) 1;have g16:=Ylo (l:=l) (p:=p) (n:=16) (by omega);have g17:=Ylo (l:=l) (p:=p) (n:=17) (by omega);simp only[Nat.reduceAdd,Nat.reducePow] at e e2 e3 l5 l1;constructor
  ·intro h1;by_cases ht:Ya3 l p 22 / 32=1
   ·have h17:Ya3 l p 17=1:=by omega
    have h16:Ya3 l p 16=0:=by omega
    have:=g16.1 h16;have:=fun h=>g17.2 h;refine⟨h,?_⟩;omega
   ·rw[if_neg ht] at h1;cases h1
  ·rintro⟨_,h1⟩;have h16:Ya3 l p 16=0:=g16.2 (by omega);have h17:Ya3 l p 17≠0:=fun h0=>by have:=g17.1 h0;omega
   rw[if_pos (by omega)]
def Qgl (n left:Nat):Nat:=if n=left then n / 8 else if n%8=0∧16≤n then (n-16) / 8 else 0
theorem Yso (l:List UInt8):∀(m p:Nat),p≤8*l.length→p%8=0→8*l.length-p≤8*m→
  Y25 l m p=if Ya8 l p=8*l.length-p then some (Ya8 l p / 8) else if Ya8 l p%8=0∧16≤Ya8 l p then some ((Ya8 l p-16) / 8) else none
 |0,p,hp,h8,hm=>by
  have hn:=Ylp hp;rw[Y25,if_pos (.inr (by omega)),if_pos (by omega)];rw[show Ya8 l p=0 by omega]
 |m+1,p,hp,h8,hm=>by
  have hn:=Ylp hp;have hk:=Ywr hp;rw[Y25];by_cases h1:(Yaz l (p:Int)).2=0∨p=8*l.length
  ·rw[if_pos h1];rcases h1 with h1|h1
   ·obtain⟨a,b⟩:=hk.1 h1;rw[b,if_neg (by omega),if_pos (by omega)]
   ·rw[show Ya8 l p=0 by omega,if_pos (by omega)]
  ·rw[if_neg h1];have h2:¬ (p+22≤8*l.length∧Ya8 l p=16):=fun h=>h1 (.inl (hk.2 h));have h3:p+8≤8*l.length:=by
    have:p≠8*l.length:=fun h=>h1 (.inr h);omega
   have hg:=Ylo h3;by_cases h4:Ya3 l p 8=0
   ·rw[if_pos ⟨h3,h4⟩];have h5:=hg.1 h4;rw[Yso l m (p+8) h3 (by omega) (by omega),Ywz h5];by_cases h6:Ya8 l p=8*l.length-p
    ·rw[if_pos h6,if_pos (by omega),Option.map_some]
     congr 1
     omega
    ·rw[if_neg h6,if_neg (by omega)];by_cases h7:Ya8 l p%8=0∧16≤Ya8 l p
     ·rw[if_pos h7,if_pos (by omega),Option.map_some]
      congr 1
      omega
     ·rw[if_neg h7,if_neg (by omega)]
      rfl
   ·rw[if_neg (fun h=>h4 h.2)];have h5:Ya8 l p<8:=by
     rcases Nat.lt_or_ge (Ya8 l p) 8 with h|h
     ·exact h
     ·exact absurd (hg.2 h) h4
    rw[if_neg (by omega),if_neg (by omega)]
theorem Y6i {l:List UInt8}{p:Nat}(hp:p≤8*l.length)(h8:p%8=0):Y6h l p=Qgl (Ya8 l p) (8*l.length-p):=by
 unfold Y6h Qgl;rw[Yso l l.length p hp h8 (by omega)]
 split
 ·rfl
 ·split <;> rfl
end Go.Proofs.YtjjmalchelniiaaGreatDoor