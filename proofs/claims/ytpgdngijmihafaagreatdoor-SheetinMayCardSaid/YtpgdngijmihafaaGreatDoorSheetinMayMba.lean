/- Texts that SheetinMay's proof stands on, part 27 of 52. No condition of its own. -/
import Derived.Test.YtpgdngijmihafaaGreatDoorSheetinMayMf
import Derived.Test.YtpgdngijmihafaaGreatDoorSheetinMayMk
import Derived.Test.YtpgdngijmihafaaGreatDoorSheetinMayMq
import Derived.Test.YtpgdngijmihafaaGreatDoorSheetinMayMy
import Derived.Test.YtpgdngijmihafaaGreatDoorSheetinMayMz
namespace Go.Proofs.YtpgdngijmihafaaGreatDoor
open Go.RowKit
def Ycx {α:Type} (f:Nat→α→Bool):Nat→List α→Bool
 | _,[]=> true
 | i,a::l=> f i a&&Ycx f (i+1) l
theorem Yhi {α:Type} {f:Nat→α→Bool}:∀{i:Nat} {l:List α},Ycx f i l=true↔∀j,(h:j<l.length)→f (i+j) l[j]=true
 | _,[]=> ⟨fun _ j h=> absurd h (Nat.not_lt_zero j),fun _=> rfl⟩
 | i,a::l=> by
  rw [Ycx,Bool.and_eq_true,Yhi]
  constructor
  ·rintro ⟨h0,h1⟩ j hj
   cases j with
   | zero=> exact h0
   | succ j=>
    have:=h1 j (by simpa using hj)
    rw [show i+(j+1)=i+1+j by omega]
    exact this
  ·intro h
   refine ⟨h 0 (by simp),fun j hj=> ?_⟩
   have:=h (j+1) (by simpa using hj)
   rw [show i+(j+1)=i+1+j by omega] at this
   exact this
theorem Yqd {α:Type} {f:Nat→α→Bool}:∀(i:Nat) (l:List α) (a:α),Ycx f i (l ++ [a])=(Ycx f i l&&f (i+l.length) a)
 | i,[],a=> by simp [Ycx]
 | i,b::l,a=> by
  rw [List.cons_append,Ycx,Yqd (i+1) l a,Ycx,Bool.and_assoc,List.length_cons,show i+(l.length+1)=i+1+l.length by omega]
theorem Yg7 {α:Type} {f:Nat→α→Bool}:∀(i:Nat) (l m:List α),Ycx f i (l++m)=(Ycx f i l&&Ycx f (i+l.length) m)
 | i,[],m=> by simp [Ycx]
 | i,b::l,m=> by
  rw [List.cons_append,Ycx,Yg7 (i+1) l m,Ycx,Bool.and_assoc,List.length_cons,show i+(l.length+1)=i+1+l.length by omega]
theorem Y1q {α:Type} {f:Nat→α→Bool} {l:List α} {j:Nat} (hj:j<l.length) (h1:f j l[j]=false):Ycx f 0 l=false:=by
 cases h:Ycx f 0 l with
 | false=> rfl
 | true=>
  have:=Yhi.1 h j hj
  rw [Nat.zero_add,h1] at this
  cases this
def Yfu (inter:Bool) (n:Int) (i:Nat) (r:RowP):Bool:=
 decide ((r.cels.length:Int)=n)&&((if r.head then decide (i≠0∧0≤r.id∧r.id≤3∧1≤r.quant∧r.quant≤31) else decide (r.id=0∧r.quant=0))&&r.cels.all (Yco inter))
def Ygj (k:Int):Int:=Yd0 k*Yje k
def Yd4 (S:ShP):Bool:=
 Ydr S.hd&&(decide (0≤S.zeros∧S.zeros≤262144)&&(decide ((S.rows.length:Int)=Yhg S.hd.fmt)&&Ycx (Yfu S.hd.inter (Ygj S.hd.fmt)) 0 S.rows))
def Yg0 (S:ShP):List Cel:=S.rows.flatMap (·.cels)
def Yca (k:Int) (n:Nat) (c:Cel):Bool:=Yaq c.kind || Y2g k (n:Int) c.mx c.my
def Yju (S:ShP):Int:=if Yd4 S=true then (if Ycx (Yca S.hd.fmt) 0 (Yg0 S)=true then 0 else 8) else 12
theorem Yxj {S:ShP} (h:Yd4 S=false):Yju S=12:=by unfold Yju;rw [if_neg (by rw [h];decide)]
theorem Ysi {S:ShP} (h:Yd4 S=true) (h1:Ycx (Yca S.hd.fmt) 0 (Yg0 S)=false):Yju S=8:=by unfold Yju;rw [if_pos h,if_neg (by rw [h1];decide)]
theorem Yvy {S:ShP} (h:Yd4 S=true) (h1:Ycx (Yca S.hd.fmt) 0 (Yg0 S)=true):Yju S=0:=by unfold Yju;rw [if_pos h,if_pos h1]
theorem Yyz {S:ShP} (h:Yju S=0):Yd4 S=true∧Ycx (Yca S.hd.fmt) 0 (Yg0 S)=true:=by
 unfold Yju at h
 cases h1:Yd4 S with
 | false=> rw [h1] at h;cases h
 | true=>
  cases h2:Ycx (Yca S.hd.fmt) 0 (Yg0 S) with
  | false=> rw [h1,h2] at h;cases h
  | true=> exact ⟨rfl,rfl⟩
theorem Yrj (n:Nat):Yau 0 n=List.replicate n 48:=by
 have h:=Yg1 (List.replicate n 48) (Yoh n)
 rw [Y3a,List.length_replicate] at h
 exact h
theorem Yiw {l:List UInt8} {p n:Nat} (h:p+n≤8*l.length) (h0:Ya1 l p n=0):Seg (Yac l) p (p+n) (List.replicate n 48):=by
 have:=Yby (l:=l) h
 rw [h0,Yrj] at this
 exact this
theorem Y4g {l:List UInt8} {p n z:Nat} {id q:Int} (h:hdk l p (n:Int)=(id,q,z,0)):(0≤id∧id≤3∧1≤q∧q≤31)∧Seg (Yac l) p z (Yuc p n id.toNat q.toNat):=by
 by_cases h1:(Ya4 l p).2=false
 ·rw [Ywf h1] at h;cases h
 have h1':(Ya4 l p).2=true:=by simpa using h1
 by_cases h2:(Ya4 l p).1=(n:Int)
 case neg=> rw [Yqw h1' h2] at h;cases h
 by_cases h3:8*l.length<p+gap p+22+7
 ·rw [Ysb h1' h2 h3] at h;cases h
 by_cases h4:Ya1 l (p+gap p+22+2) 5=0
 ·rw [Ysa h1' h2 (by omega) h4] at h;cases h
 rw [Y7k h1' h2 (by omega) h4] at h
 injection h with e1 h
 injection h with e2 h
 injection h with e3 _
 have hg:=Yvk h1'
 have l2:=Ybu l (p+gap p+22) 2
 have l5:=Ybu l (p+gap p+22+2) 5
 have l2':Ya1 l (p+gap p+22) 2<4:=l2
 have l5':Ya1 l (p+gap p+22+2) 5<32:=l5
 have hm:Ya1 l (p+gap p) 22=32+n:=by
  rw [Yts (by omega) hg,Yo5 (by omega)] at h1' h2
  by_cases ht:Ya1 l (p+gap p) 22 / 32=1
  ·rw [if_pos ht] at h2
   simp only at h2
   omega
  ·rw [if_neg ht] at h1'
   exact absurd h1' (by decide)
 have s0:=Yiw (l:=l) (p:=p) (n:=gap p) (by omega) hg
 have s1:=Yby (l:=l) (p:=p+gap p) (n:=22) (by omega)
 have s2:=Yby (l:=l) (p:=p+gap p+22) (n:=2) (by omega)
 have s3:=Yby (l:=l) (p:=p+gap p+22+2) (n:=5) (by omega)
 rw [hm] at s1
 subst e1 e2 e3
 refine ⟨by omega,?_⟩
 unfold Yuc Y0k
 rw [Int.toNat_natCast,Int.toNat_natCast,List.append_assoc]
 exact s0.app (s1.app (s2.app s3))
def CelT:=Bool→List UInt8→Int→Int→Nat→Cel×Nat×Int
def Yhp (ct:CelT) (S:List UInt8):Prop:=∀inter x y p c q,p≤S.length→ct inter S x y p=(c,q,0)→Seg S p q (Yr7 inter x y c)∧Yco inter c=true
def Yf3 (cs:List Cel):List (Int×Int):=cs.map fun c=> (c.mx,c.my)
def Yeb (vs:List (Int×Int)) (across first:Int):Int×Int:=Qae (fun i=> vs.getD i (0,0)) vs.length across first
def Ycs (ct:CelT) (l:List UInt8) (inter:Bool) (k first:Int):Nat→Nat→List (Int×Int)→List Cel×Nat×Int
 | 0,p,_=> ([],p,0)
 | n+1,p,vs=>
  match ct inter (Yac l) (Yeb vs (Yd0 k) first).1 (Yeb vs (Yd0 k) first).2 p with
  | (c,q,f)=> if f≠0 then ([],p,f) else if Yca k vs.length c=false then ([],p,8) else
   match Ycs ct l inter k first n q (vs ++ [(c.mx,c.my)]) with
   | (cs,z,g)=> if g≠0 then ([],p,g) else (c::cs,z,0)
def Yg6 (inter:Bool) (k first:Int):List (Int×Int)→List Cel→List UInt8
 | _,[]=> []
 | vs,c::cs=> Yr7 inter (Yeb vs (Yd0 k) first).1 (Yeb vs (Yd0 k) first).2 c++Yg6 inter k first (vs ++ [(c.mx,c.my)]) cs
theorem Yno {ct:CelT} {l:List UInt8} {inter:Bool} {k first:Int} (hct:Yhp ct (Yac l)):∀(n p:Nat) (vs:List (Int×Int)) (cs:List Cel) (q:Nat),p≤8*l.length→Ycs ct l inter k first n p vs=(cs,q,0)→
  Seg (Yac l) p q (Yg6 inter k first vs cs)∧cs.length=n∧cs.all (Yco inter)=true∧Ycx (Yca k) vs.length cs=true
 | 0,p,vs,cs,q,hp,h=> by
  rw [Ycs] at h
  injection h with e1 h
  injection h with e2 _
  subst e1 e2
  exact ⟨Seg.nil (by rw [Yag];exact hp),rfl,rfl,rfl⟩
 | n+1,p,vs,cs,q,hp,h=> by
  rw [Ycs] at h
  obtain ⟨⟨c,z,f⟩,hc⟩:∃r,ct inter (Yac l) (Yeb vs (Yd0 k) first).1 (Yeb vs (Yd0 k) first).2 p=r:=⟨_,rfl⟩
  rw [hc] at h
  simp only at h
  by_cases hf:f=0
  case neg=>
   rw [if_pos hf] at h
   injection h with _ h
   injection h with _ h
   exact absurd h hf
  rw [if_neg (fun x=> x hf)] at h
  subst hf
  cases hv:Yca k vs.length c with
  | false=> rw [hv,if_pos rfl] at h;cases h
  | true=>
   rw [hv,if_neg (by decide)] at h
   obtain ⟨⟨cs',y,g⟩,hr⟩:∃r,Ycs ct l inter k first n z (vs ++ [(c.mx,c.my)])=r:=⟨_,rfl⟩
   rw [hr] at h
   simp only at h
   by_cases hg:g=0
   case neg=>
    rw [if_pos hg] at h
    injection h with _ h
    injection h with _ h
    exact absurd h hg
   rw [if_neg (fun x=> x hg)] at h
   subst hg
   injection h with e1 h
   injection h with e2 _
   subst e1 e2
   obtain ⟨s1,m1⟩:=hct inter _ _ p c z (by rw [Yag];exact hp) hc
   have hz:z≤8*l.length:=by have:=s1.2.1;rwa [Yag] at this
   obtain ⟨s2,m2,m3,m4⟩:=Yno hct n z (vs ++ [(c.mx,c.my)]) cs' y hz hr
   rw [List.length_append] at m4
   refine ⟨s1.app s2,by rw [List.length_cons,m2],by rw [List.all_cons,m1,m3];rfl,?_⟩
   rw [Ycx,hv]
   exact m4
def Y7i (l:List UInt8) (i p:Nat):Bool:=decide (0<i)&&((Ya4 l p).2&&((Ya4 l p).1 != 0&&(Ya4 l p).1 != 31))
def Yhq (l:List UInt8) (k:Int) (i p:Nat) (first:Int):Bool×Int×Int×Nat×Int×Int:=
 if Y7i l i p=true then (true,(hdk l p i).1,(hdk l p i).2.1,(hdk l p i).2.2.1,(i:Int)*Yje k,(hdk l p i).2.2.2) else (false,0,0,p,first,0)
def Yg4 (ct:CelT) (l:List UInt8) (inter:Bool) (k:Int):Nat→Nat→Nat→List (Int×Int)→Int→List RowP×Nat×Int
 | 0,_,p,_,_=> ([],p,0)
 | n+1,i,p,vs,first=>
  match Yhq l k i p first with
  | (h,id,qu,z,fs,f)=> if f≠0 then ([],p,f) else
   match Ycs ct l inter k fs (Ygj k).toNat z vs with
   | (cs,q,g)=> if g≠0 then ([],p,g) else
    match Yg4 ct l inter k n (i+1) q (vs++Yf3 cs) fs with
    | (rs,y,e)=> if e≠0 then ([],p,e) else (⟨h,id,qu,cs⟩::rs,y,0)
def Yzg (i p:Nat) (r:RowP):List UInt8:=if r.head then Yuc p i r.id.toNat r.quant.toNat else []
def Y9l (k:Int) (i:Nat) (first:Int) (r:RowP):Int:=if r.head then (i:Int)*Yje k else first
def Yll (inter:Bool) (k:Int):Nat→Nat→List (Int×Int)→Int→List RowP→List UInt8
 | _,_,_,_,[]=> []
 | i,p,vs,first,r::rs=> Yzg i p r++(Yg6 inter k (Y9l k i first r) vs r.cels++Yll inter k (i+1) (p+(Yzg i p r).length+(Yg6 inter k (Y9l k i first r) vs r.cels).length) (vs++Yf3 r.cels) (Y9l k i first r) rs)
theorem Yx0 {l:List UInt8} {k:Int} {i p z:Nat} {first id qu fs:Int} {h:Bool} (hp:p≤8*l.length) (e:Yhq l k i p first=(h,id,qu,z,fs,0)) (cs:List Cel):
  Seg (Yac l) p z (Yzg i p ⟨h,id,qu,cs⟩)∧fs=Y9l k i first ⟨h,id,qu,cs⟩∧(if h then decide (i≠0∧0≤id∧id≤3∧1≤qu∧qu≤31) else decide (id=0∧qu=0))=true:=by
 unfold Yhq at e
 cases hh:Y7i l i p with
 | true=>
  rw [hh,if_pos rfl] at e
  injection e with e1 e
  injection e with e2 e
  injection e with e3 e
  injection e with e4 e
  injection e with e5 e6
  subst e1 e5
  obtain ⟨m,s⟩:=Y4g (l:=l) (p:=p) (n:=i) (id:=id) (q:=qu) (z:=z) (by rw [←e2,←e3,←e4,←e6])
  refine ⟨s,rfl,?_⟩
  unfold Y7i at hh
  rw [Bool.and_eq_true,decide_eq_true_iff] at hh
  rw [if_pos rfl,decide_eq_true_iff]
  exact ⟨by omega,m⟩
 | false=>
  rw [hh,if_neg (by decide)] at e
  injection e with e1 e
  injection e with e2 e
  injection e with e3 e
  injection e with e4 e
  injection e with e5 _
  subst e1 e2 e3 e4 e5
  exact ⟨Seg.nil (by rw [Yag];exact hp),rfl,rfl⟩
theorem Yrg {ct:CelT} {l:List UInt8} {inter:Bool} {k:Int} (hct:Yhp ct (Yac l)) (hk:0≤Ygj k):∀(n i p:Nat) (vs:List (Int×Int)) (first:Int) (rs:List RowP) (q:Nat),p≤8*l.length→Yg4 ct l inter k n i p vs first=(rs,q,0)→
  Seg (Yac l) p q (Yll inter k i p vs first rs)∧rs.length=n∧Ycx (Yfu inter (Ygj k)) i rs=true∧Ycx (Yca k) vs.length (rs.flatMap (·.cels))=true
 | 0,i,p,vs,first,rs,q,hp,h=> by
  rw [Yg4] at h
  injection h with e1 h
  injection h with e2 _
  subst e1 e2
  exact ⟨Seg.nil (by rw [Yag];exact hp),rfl,rfl,rfl⟩
 | n+1,i,p,vs,first,rs,q,hp,h=> by
  rw [Yg4] at h
  obtain ⟨⟨hd,id,qu,z,fs,f⟩,hh⟩:∃r,Yhq l k i p first=r:=⟨_,rfl⟩
  rw [hh] at h
  simp only at h
  by_cases hf:f=0
  case neg=>
   rw [if_pos hf] at h
   injection h with _ h
   injection h with _ h
   exact absurd h hf
  rw [if_neg (fun x=> x hf)] at h
  subst hf
  obtain ⟨⟨cs,y,g⟩,hc⟩:∃r,Ycs ct l inter k fs (Ygj k).toNat z vs=r:=⟨_,rfl⟩
  rw [hc] at h
  simp only at h
  by_cases hg:g=0
  case neg=>
   rw [if_pos hg] at h
   injection h with _ h
   injection h with _ h
   exact absurd h hg
  rw [if_neg (fun x=> x hg)] at h
  subst hg
  obtain ⟨⟨rs',q',e⟩,hr⟩:∃r,Yg4 ct l inter k n (i+1) y (vs++Yf3 cs) fs=r:=⟨_,rfl⟩
  rw [hr] at h
  simp only at h
  by_cases he:e=0
  case neg=>
   rw [if_pos he] at h
   injection h with _ h
   injection h with _ h
   exact absurd h he
  rw [if_neg (fun x=> x he)] at h
  subst he
  injection h with e1 h
  injection h with e2 _
  subst e1 e2
  obtain ⟨s1,f1,m1⟩:=Yx0 hp hh cs
  have hz:z≤8*l.length:=by have:=s1.2.1;rwa [Yag] at this
  obtain ⟨s2,n2,m2,v2⟩:=Yno hct _ z vs cs y hz hc
  have hy:y≤8*l.length:=by have:=s2.2.1;rwa [Yag] at this
  obtain ⟨s3,n3,m3,v3⟩:=Yrg hct hk n (i+1) y (vs++Yf3 cs) fs rs' q' hy hr
  have ey:y=p+(Yzg i p ⟨hd,id,qu,cs⟩).length+(Yg6 inter k fs vs cs).length:=by have:=s1.len;have:=s2.len;omega
  refine ⟨?_,by rw [List.length_cons,n3],?_,?_⟩
  ·rw [Yll]
   show Seg (Yac l) p q' (Yzg i p ⟨hd,id,qu,cs⟩++(Yg6 inter k (Y9l k i first ⟨hd,id,qu,cs⟩) vs cs++Yll inter k (i+1) (p+(Yzg i p ⟨hd,id,qu,cs⟩).length+(Yg6 inter k (Y9l k i first ⟨hd,id,qu,cs⟩) vs cs).length) (vs++Yf3 cs) (Y9l k i first ⟨hd,id,qu,cs⟩) rs'))
   rw [←f1,←ey]
   exact s1.app (s2.app s3)
  ·rw [Ycx,m3,Bool.and_true]
   unfold Yfu
   simp only
   rw [n2,Int.toNat_of_nonneg hk,m1,m2]
   simp
  ·rw [List.flatMap_cons,Yg7,v2,Bool.true_and]
   simp only
   rw [List.length_append] at v3
   unfold Yf3 at v3
   rw [List.length_map] at v3
   exact v3
def Y31 (l:List UInt8):Nat→Nat→Option Nat
 | 0,p=> if (Ybj l p).2=0∨p=8*l.length then some 0 else none
 | n+1,p=> if (Ybj l p).2=0∨p=8*l.length then some 0 else if p+8≤8*l.length∧Ya1 l p 8=0 then (Y31 l n (p+8)).map (· + 1) else none
def Y02 (l:List UInt8) (p:Nat):Nat:=(Y31 l l.length p).getD 0
theorem Yrd {l:List UInt8}:∀(n p z:Nat),p≤8*l.length→Y31 l n p=some z→Seg (Yac l) p (p+8*z) (List.replicate (8*z) 48)
 | 0,p,z,hp,h=> by
  rw [Y31] at h
  split at h
  ·injection h with h
   subst h
   exact Seg.nil (by rw [Yag];exact hp)
  ·cases h
 | n+1,p,z,hp,h=> by
  rw [Y31] at h
  split at h
  ·injection h with h
   subst h
   exact Seg.nil (by rw [Yag];exact hp)
  ·split at h
   ·rename_i h8
    obtain ⟨y,hy,rfl⟩:=Option.map_eq_some_iff.1 h
    have s1:=Yiw (l:=l) (p:=p) (n:=8) h8.1 h8.2
    have s2:=Yrd n (p+8) y h8.1 hy
    have:=s1.app s2
    rw [List.replicate_append_replicate] at this
    rw [show p+8*(y+1)=p+8+8*y by omega,show 8*(y+1)=8+8*y by omega]
    exact this
   ·cases h
theorem Yql {l:List UInt8} {p:Nat} (hp:p≤8*l.length):Seg (Yac l) p (p+8*Y02 l p) (List.replicate (8*Y02 l p) 48):=by
 unfold Y02
 cases h:Y31 l l.length p with
 | none=> exact Seg.nil (by rw [Yag];exact hp)
 | some z=> exact Yrd _ p z hp h
def Y6a:ShP:=⟨Yn2,[],0⟩
def wtk (ct:CelT) (l:List UInt8) (p:Nat):ShP×Nat×Int:=
 match shk l p with
 | (h,q,f)=> if f≠0 then (Y6a,p,f) else
  match Yg4 ct l h.inter h.fmt (Yhg h.fmt).toNat 0 q [] 0 with
  | (rs,z,g)=> if g≠0 then (Y6a,p,g) else if Ya1 l z (gap z)≠0 then (Y6a,p,5) else (⟨h,rs,(Y02 l (z+gap z):Nat)⟩,z+gap z+8*Y02 l (z+gap z),0)
def Yuk (p:Nat) (S:ShP):List UInt8:=Yll S.hd.inter S.hd.fmt 0 p [] 0 S.rows
def Qar (p:Nat):List UInt8:=List.replicate (gap p) 48
def Yo6 (p:Nat) (S:ShP):List UInt8:=
 (Ydk 0++Yer S.hd)++(Yuk (p+(Ydk 0++Yer S.hd).length) S++(Qar (p+(Ydk 0++Yer S.hd).length+(Yuk (p+(Ydk 0++Yer S.hd).length) S).length)++List.replicate (8*S.zeros.toNat) 48))
theorem Yvh (k:Int):0≤Ygj k∧0≤Yhg k:=by
 unfold Ygj Yd0
 rcases Yc2 k with rfl | rfl | rfl | rfl | rfl | rfl | ⟨h,hv⟩
 case _ | _ | _ | _ | _ | _=> decide +kernel
 unfold Yhg Yje Y0v
 rw [hv]
 decide
theorem Yu3 {ct:CelT} {l:List UInt8} {p q:Nat} {S:ShP} (hct:Yhp ct (Yac l)) (h:wtk ct l p=(S,q,0)):
  p%8=0∧q%8=0∧p<q∧(S.zeros≤262144→Yju S=0)∧0≤S.zeros∧Seg (Yac l) p q (Yo6 p S):=by
 unfold wtk at h
 obtain ⟨⟨hd,z0,f⟩,hh⟩:∃r,shk l p=r:=⟨_,rfl⟩
 rw [hh] at h
 simp only at h
 by_cases hf:f=0
 case neg=>
  rw [if_pos hf] at h
  injection h with _ h
  injection h with _ h
  exact absurd h hf
 rw [if_neg (fun x=> x hf)] at h
 subst hf
 obtain ⟨⟨rs,z,g⟩,hr⟩:∃r,Yg4 ct l hd.inter hd.fmt (Yhg hd.fmt).toNat 0 z0 [] 0=r:=⟨_,rfl⟩
 rw [hr] at h
 simp only at h
 by_cases hg:g=0
 case neg=>
  rw [if_pos hg] at h
  injection h with _ h
  injection h with _ h
  exact absurd h hg
 rw [if_neg (fun x=> x hg)] at h
 subst hg
 by_cases h0:Ya1 l z (gap z)=0
 case neg=>
  rw [if_pos h0] at h
  injection h with _ h
  injection h with _ h
  cases h
 rw [if_neg (fun x=> x h0)] at h
 injection h with e1 h
 injection h with e2 _
 obtain ⟨p8,hm,s0⟩:=Ywo hh
 obtain ⟨k1,k2⟩:=Yvh hd.fmt
 have hz0:z0≤8*l.length:=by have:=s0.2.1;rwa [Yag] at this
 obtain ⟨s1,n1,m1,v1⟩:=Yrg hct k1 _ 0 z0 [] 0 rs z hz0 hr
 have hz:z≤8*l.length:=by have:=s1.2.1;rwa [Yag] at this
 have hgf:z+gap z≤8*l.length:=by unfold gap;omega
 have s2:=Yiw (l:=l) (p:=z) (n:=gap z) hgf h0
 have s3:=Yql (l:=l) (p:=z+gap z) hgf
 have l0:=s0.len
 have l1:=s1.len
 have hl22:(Ydk 0++Yer hd).length=50+9*hd.supp.length:=by rw [List.length_append,Ygu,Yo1];omega
 subst e1 e2
 refine ⟨p8,by unfold gap;omega,by omega,fun hzz=> ?_,by simp,?_⟩
 ·refine Yvy ?_ ?_
  ·unfold Yd4
   simp only [Bool.and_eq_true,decide_eq_true_iff]
   refine ⟨hm,⟨by simp,hzz⟩,?_,m1⟩
   rw [n1,Int.toNat_of_nonneg k2]
  ·exact v1
 ·unfold Yo6 Yuk Qar
  simp only [Int.toNat_natCast]
  rw [←l0,←l1]
  exact s0.app (s1.app (s2.app s3))
def Yb5 {α:Type} (E:List α×Nat×Int) (d:List α) (T:List α×Nat×Int):Prop:=(T.2.2≠0→E.2.2=T.2.2)∧(T.2.2=0→E=(d++T.1,T.2.1,0))
theorem Yb5.start {α:Type} (E:List α×Nat×Int):Yb5 E [] E:=⟨fun _=> rfl,fun h=> by obtain ⟨a,b,c⟩:=E;simp only at h;subst h;rfl⟩
theorem Yb5.bad {α:Type} {E T:List α×Nat×Int} {d:List α} {f:Int} (h:Yb5 E d T) (hf:T.2.2=f) (h0:f≠0):E.2.2=f:=by
 subst hf
 exact h.1 h0
theorem Yb5.done {α:Type} {E:List α×Nat×Int} {d:List α} {p:Nat} (h:Yb5 E d ([],p,0)):E=(d,p,0):=by
 have:=h.2 rfl
 rwa [List.append_nil] at this
theorem Yb5.step {α:Type} {E T T':List α×Nat×Int} {d:List α} {a:α} (h:Yb5 E d T) (e:T=(if T'.2.2≠0 then ([],T.2.1,T'.2.2) else (a::T'.1,T'.2.1,0))):Yb5 E (d ++ [a]) T':=by
 by_cases h0:T'.2.2=0
 ·rw [if_neg (fun x=> x h0)] at e
  refine ⟨fun h1=> absurd h0 h1,fun _=> ?_⟩
  have:=h.2 (by rw [e])
  rw [this,e,List.append_assoc]
  rfl
 ·rw [if_pos h0] at e
  exact ⟨fun _=> h.bad (by rw [e]) h0,fun h1=> absurd h1 h0⟩
section
variable {ct:CelT} {l:List UInt8} {inter:Bool} {k first:Int} {n p:Nat} {vs:List (Int×Int)}
theorem Y1e {E:List Cel×Nat×Int} {d:List Cel} {c:Cel} {q:Nat} {f:Int} (h:Yb5 E d (Ycs ct l inter k first (n+1) p vs)) (hc:ct inter (Yac l) (Yeb vs (Yd0 k) first).1 (Yeb vs (Yd0 k) first).2 p=(c,q,f)) (hf:f≠0):E.2.2=f:=by
 refine h.bad ?_ hf
 rw [Ycs,hc]
 simp only
 rw [if_pos hf]
theorem Y1i {E:List Cel×Nat×Int} {d:List Cel} {c:Cel} {q:Nat} (h:Yb5 E d (Ycs ct l inter k first (n+1) p vs)) (hc:ct inter (Yac l) (Yeb vs (Yd0 k) first).1 (Yeb vs (Yd0 k) first).2 p=(c,q,0)) (hv:Yca k vs.length c=false):E.2.2=8:=by
 refine h.bad ?_ (by decide)
 rw [Ycs,hc]
 simp only
 rw [if_neg (fun x=> x rfl),hv,if_pos rfl]
theorem Yx8 {E:List Cel×Nat×Int} {d:List Cel} {c:Cel} {q:Nat} (h:Yb5 E d (Ycs ct l inter k first (n+1) p vs)) (hc:ct inter (Yac l) (Yeb vs (Yd0 k) first).1 (Yeb vs (Yd0 k) first).2 p=(c,q,0)) (hv:Yca k vs.length c=true):Yb5 E (d ++ [c]) (Ycs ct l inter k first n q (vs ++ [(c.mx,c.my)])):=by
 refine h.step ?_
 rw [Ycs,hc]
 simp only
 rw [if_neg (fun x=> x rfl),hv,if_neg (by decide)]
 obtain ⟨⟨cs,z,g⟩,hr⟩:∃r,Ycs ct l inter k first n q (vs ++ [(c.mx,c.my)])=r:=⟨_,rfl⟩
 rw [hr]
 by_cases hg:g=0
 ·subst hg
  rfl
 ·simp only
  rw [if_pos hg,if_pos hg]
theorem Y1w {i:Nat} {E:List RowP×Nat×Int} {d:List RowP} {hd:Bool} {id qu fs f:Int} {z:Nat} (h:Yb5 E d (Yg4 ct l inter k (n+1) i p vs first)) (hh:Yhq l k i p first=(hd,id,qu,z,fs,f)) (hf:f≠0):E.2.2=f:=by
 refine h.bad ?_ hf
 rw [Yg4,hh]
 simp only
 rw [if_pos hf]
theorem Y0n {i:Nat} {E:List RowP×Nat×Int} {d:List RowP} {hd:Bool} {id qu fs g:Int} {z q:Nat} {cs:List Cel} (h:Yb5 E d (Yg4 ct l inter k (n+1) i p vs first)) (hh:Yhq l k i p first=(hd,id,qu,z,fs,0)) (hc:Ycs ct l inter k fs (Ygj k).toNat z vs=(cs,q,g)) (hg:g≠0):E.2.2=g:=by
 refine h.bad ?_ hg
 rw [Yg4,hh]
 simp only
 rw [if_neg (fun x=> x rfl),hc]
 simp only
 rw [if_pos hg]
theorem Y0q {i:Nat} {E:List RowP×Nat×Int} {d:List RowP} {hd:Bool} {id qu fs:Int} {z q:Nat} {cs:List Cel} (h:Yb5 E d (Yg4 ct l inter k (n+1) i p vs first)) (hh:Yhq l k i p first=(hd,id,qu,z,fs,0)) (hc:Ycs ct l inter k fs (Ygj k).toNat z vs=(cs,q,0)):
  Yb5 E (d ++ [⟨hd,id,qu,cs⟩]) (Yg4 ct l inter k n (i+1) q (vs++Yf3 cs) fs):=by
 refine h.step ?_
 rw [Yg4,hh]
 simp only
 rw [if_neg (fun x=> x rfl),hc]
 simp only
 rw [if_neg (fun x=> x rfl)]
 obtain ⟨⟨rs,y,e⟩,hr⟩:∃r,Yg4 ct l inter k n (i+1) q (vs++Yf3 cs) fs=r:=⟨_,rfl⟩
 rw [hr]
 by_cases he:e=0
 ·subst he
  rfl
 ·simp only
  rw [if_pos he,if_pos he]
end
section
variable {ct:CelT} {l:List UInt8} {p q z:Nat} {h:Shd} {rs:List RowP} {f g:Int}
theorem Y6b (hh:shk l p=(h,q,f)) (hf:f≠0):wtk ct l p=(Y6a,p,f):=by
 unfold wtk
 rw [hh]
 simp only
 rw [if_pos hf]
theorem Y36 (hh:shk l p=(h,q,0)) (hr:(Yg4 ct l h.inter h.fmt (Yhg h.fmt).toNat 0 q [] 0).2.2=g) (hg:g≠0):wtk ct l p=(Y6a,p,g):=by
 unfold wtk
 rw [hh]
 simp only
 rw [if_neg (fun x=> x rfl)]
 obtain ⟨⟨rs,z,e⟩,h2⟩:∃r,Yg4 ct l h.inter h.fmt (Yhg h.fmt).toNat 0 q [] 0=r:=⟨_,rfl⟩
 rw [h2] at hr ⊢
 simp only at hr ⊢
 subst hr
 rw [if_pos hg]
theorem Y5m (hh:shk l p=(h,q,0)) (hr:Yg4 ct l h.inter h.fmt (Yhg h.fmt).toNat 0 q [] 0=(rs,z,0)) (h0:Ya1 l z (gap z)≠0):wtk ct l p=(Y6a,p,5):=by
 unfold wtk
 rw [hh]
 simp only
 rw [if_neg (fun x=> x rfl),hr]
 simp only
 rw [if_neg (fun x=> x rfl),if_pos h0]
theorem Qaq (hh:shk l p=(h,q,0)) (hr:Yg4 ct l h.inter h.fmt (Yhg h.fmt).toNat 0 q [] 0=(rs,z,0)) (h0:Ya1 l z (gap z)=0):wtk ct l p=(⟨h,rs,(Y02 l (z+gap z):Nat)⟩,z+gap z+8*Y02 l (z+gap z),0):=by
 unfold wtk
 rw [hh]
 simp only
 rw [if_neg (fun x=> x rfl),hr]
 simp only
 rw [if_neg (fun x=> x rfl),if_neg (fun x=> x h0)]
end
theorem Y0e:∀(L:List UInt8),(∀i,i<(L.takeWhile (· == 48)).length→L[i]? = some 48)∧L[(L.takeWhile (· == 48)).length]?≠some 48
 | []=> ⟨fun i hi=> by simp at hi,by simp⟩
 | c::L=> by
  by_cases hc:c=48
  ·obtain ⟨h1,h2⟩:=Y0e L
   rw [List.takeWhile_cons_of_pos (by simpa using hc),List.length_cons]
   refine ⟨fun i hi=> ?_,by simpa using h2⟩
   match i,hi with
   | 0,_=> rw [hc];rfl
   | i+1,hi=> simpa using h1 i (by omega)
  ·rw [List.takeWhile_cons_of_neg (by simpa using hc)]
   refine ⟨fun i hi=> by simp at hi,?_⟩
   simpa using hc
theorem Ygh (l:List UInt8) (p:Nat):(∀i,i<Ya0 l p→(Yac l)[p+i]? = some 48)∧(Yac l)[p+Ya0 l p]?≠some 48:=by
 have h:=Y0e ((Yac l).drop p)
 unfold Ya0
 rw [if_neg (by omega),Int.toNat_natCast]
 refine ⟨fun i hi=> ?_,?_⟩
 ·have:=h.1 i hi
  rwa [List.getElem?_drop] at this
 ·have:=h.2
  rwa [List.getElem?_drop] at this
theorem Yiu {l:List UInt8} {p:Nat} (hp:p≤8*l.length):p+Ya0 l p≤8*l.length:=by
 rcases Nat.lt_or_ge (8*l.length) (p+Ya0 l p) with h | h
 ·have:=(Ygh l p).1 (8*l.length-p) (by omega)
  rw [List.getElem?_eq_none (by rw [Yag];omega)] at this
  cases this
 ·exact h
theorem Yio {l:List UInt8} {p n:Nat} (h:p+n≤8*l.length):Ya1 l p n=0↔n≤Ya0 l p:=by
 rw [Yel l p n h]
 constructor
 ·intro h0
  rcases Nat.lt_or_ge (Ya0 l p) n with h1 | h1
  ·exact absurd (h0 _ h1) (Ygh l p).2
  ·exact h1
 ·exact fun h1 i hi=> (Ygh l p).1 i (by omega)
theorem Yse {l:List UInt8} {p n:Nat} (h:n≤Ya0 l p):Ya0 l ((p+n:Nat):Int)=Ya0 l p-n:=by
 obtain ⟨h1,h2⟩:=Ygh l p
 refine Yhd (fun i hi=> ?_) ?_
 ·rw [Nat.add_assoc];exact h1 (n+i) (by omega)
 ·rw [show p+n+(Ya0 l p-n)=p+Ya0 l p by omega];exact h2
theorem Yq0 {l:List UInt8} {p:Nat} (hp:p≤8*l.length):(Ybj l (p:Int)).2=0↔p+22≤8*l.length∧Ya0 l p=16:=by
 rcases Nat.lt_or_ge (8*l.length) (p+22) with h | h
 ·rw [Ygo hp h]
  constructor
  ·intro h;cases h
  ·omega
 ·rw [Yo5 h]
  have e:=Yea l p 16 6 (by omega)
  have e2:=Yea l p 17 5 (by omega)
  have e3:=Yea l p 16 1 (by omega)
  have l5:=Ybu l (p+17) 5
  have l1:=Ybu l (p+16) 1
  have g16:=Yio (l:=l) (p:=p) (n:=16) (by omega)
  have g17:=Yio (l:=l) (p:=p) (n:=17) (by omega)
  simp only [Nat.reduceAdd,Nat.reducePow] at e e2 e3 l5 l1
  constructor
  ·intro h1
   by_cases ht:Ya1 l p 22 / 32=1
   ·have h17:Ya1 l p 17=1:=by omega
    have h16:Ya1 l p 16=0:=by omega
    have:=g16.1 h16
    have:=fun h=> g17.2 h
    refine ⟨h,?_⟩
    omega
   ·rw [if_neg ht] at h1;cases h1
  ·rintro ⟨_,h1⟩
   have h16:Ya1 l p 16=0:=g16.2 (by omega)
   have h17:Ya1 l p 17≠0:=fun h0=> by have:=g17.1 h0;omega
   rw [if_pos (by omega)]
def Y7h (n left:Nat):Nat:=if n=left then n / 8 else if n%8=0∧16≤n then (n-16) / 8 else 0
theorem Ynd (l:List UInt8):∀(m p:Nat),p≤8*l.length→p%8=0→8*l.length-p≤8*m→
  Y31 l m p=if Ya0 l p=8*l.length-p then some (Ya0 l p / 8) else if Ya0 l p%8=0∧16≤Ya0 l p then some ((Ya0 l p-16) / 8) else none
 | 0,p,hp,h8,hm=> by
  have hn:=Yiu hp
  rw [Y31,if_pos (.inr (by omega)),if_pos (by omega)]
  rw [show Ya0 l p=0 by omega]
 | m+1,p,hp,h8,hm=> by
  have hn:=Yiu hp
  have hk:=Yq0 hp
  rw [Y31]
  by_cases h1:(Ybj l (p:Int)).2=0∨p=8*l.length
  ·rw [if_pos h1]
   rcases h1 with h1 | h1
   ·obtain ⟨a,b⟩:=hk.1 h1
    rw [b,if_neg (by omega),if_pos (by omega)]
   ·rw [show Ya0 l p=0 by omega,if_pos (by omega)]
  ·rw [if_neg h1]
   have h2:¬ (p+22≤8*l.length∧Ya0 l p=16):=fun h=> h1 (.inl (hk.2 h))
   have h3:p+8≤8*l.length:=by
    have:p≠8*l.length:=fun h=> h1 (.inr h)
    omega
   have hg:=Yio h3
   by_cases h4:Ya1 l p 8=0
   ·rw [if_pos ⟨h3,h4⟩]
    have h5:=hg.1 h4
    rw [Ynd l m (p+8) h3 (by omega) (by omega),Yse h5]
    by_cases h6:Ya0 l p=8*l.length-p
    ·rw [if_pos h6,if_pos (by omega),Option.map_some]
     congr 1
     omega
    ·rw [if_neg h6,if_neg (by omega)]
     by_cases h7:Ya0 l p%8=0∧16≤Ya0 l p
     ·rw [if_pos h7,if_pos (by omega),Option.map_some]
      congr 1
      omega
     ·rw [if_neg h7,if_neg (by omega)]
      rfl
   ·rw [if_neg (fun h=> h4 h.2)]
    have h5:Ya0 l p<8:=by
     rcases Nat.lt_or_ge (Ya0 l p) 8 with h | h
     ·exact h
     ·exact absurd (hg.2 h) h4
    rw [if_neg (by omega),if_neg (by omega)]
theorem Yzf {l:List UInt8} {p:Nat} (hp:p≤8*l.length) (h8:p%8=0):Y02 l p=Y7h (Ya0 l p) (8*l.length-p):=by
 unfold Y02 Y7h
 rw [Ynd l l.length p hp h8 (by omega)]
 split
 ·rfl
 ·split <;> rfl
end Go.Proofs.YtpgdngijmihafaaGreatDoor