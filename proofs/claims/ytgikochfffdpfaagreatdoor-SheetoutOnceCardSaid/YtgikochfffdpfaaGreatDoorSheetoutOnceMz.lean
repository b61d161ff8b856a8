/- Texts that SheetoutOnce's proof stands on, part 26 of 52. No condition of its own. -/
import Derived.Test.YtgikochfffdpfaaGreatDoorSheetoutOnceMf
import Derived.Test.YtgikochfffdpfaaGreatDoorSheetoutOnceMj
import Derived.Test.YtgikochfffdpfaaGreatDoorSheetoutOnceMp
import Derived.Test.YtgikochfffdpfaaGreatDoorSheetoutOnceMx
import Derived.Test.YtgikochfffdpfaaGreatDoorSheetoutOnceMy
namespace Go.Proofs.YtgikochfffdpfaaGreatDoor
open Go.RowKit
def Yc0 {α:Type} (f:Nat→α→Bool):Nat→List α→Bool
 | _,[]=> true
 | i,a::l=> f i a&&Yc0 f (i+1) l
theorem Yhq {α:Type} {f:Nat→α→Bool}:∀{i:Nat} {l:List α},Yc0 f i l=true↔∀j,(h:j<l.length)→f (i+j) l[j]=true
 | _,[]=> ⟨fun _ j h=> absurd h (Nat.not_lt_zero j),fun _=> rfl⟩
 | i,a::l=> by
  rw [Yc0,Bool.and_eq_true,Yhq]
  constructor
  ·rintro ⟨h0,h1⟩ j hj
   cases j with
   | zero=> exact h0
   | succ j=>
    have:=h1 j (by simpa using hj)
    rw [show i+(j+1)=i+1+j by omega]
    exact this
  ·intro h
   refine ⟨h 0 (by simp),fun j hj=> ?_⟩
   have:=h (j+1) (by simpa using hj)
   rw [show i+(j+1)=i+1+j by omega] at this
   exact this
theorem Ysp {α:Type} {f:Nat→α→Bool}:∀(i:Nat) (l:List α) (a:α),Yc0 f i (l ++ [a])=(Yc0 f i l&&f (i+l.length) a)
 | i,[],a=> by simp [Yc0]
 | i,b::l,a=> by
  rw [List.cons_append,Yc0,Ysp (i+1) l a,Yc0,Bool.and_assoc,List.length_cons,show i+(l.length+1)=i+1+l.length by omega]
theorem Yii {α:Type} {f:Nat→α→Bool}:∀(i:Nat) (l m:List α),Yc0 f i (l++m)=(Yc0 f i l&&Yc0 f (i+l.length) m)
 | i,[],m=> by simp [Yc0]
 | i,b::l,m=> by
  rw [List.cons_append,Yc0,Yii (i+1) l m,Yc0,Bool.and_assoc,List.length_cons,show i+(l.length+1)=i+1+l.length by omega]
theorem Y26 {α:Type} {f:Nat→α→Bool} {l:List α} {j:Nat} (hj:j<l.length) (h1:f j l[j]=false):Yc0 f 0 l=false:=by
 cases h:Yc0 f 0 l with
 | false=> rfl
 | true=>
  have:=Yhq.1 h j hj
  rw [Nat.zero_add,h1] at this
  cases this
def Yd5 (inter:Bool) (n:Int) (i:Nat) (r:RowP):Bool:=
 decide ((r.cels.length:Int)=n)&&((if r.head then decide (i≠0∧0≤r.id∧r.id≤3∧1≤r.quant∧r.quant≤31) else decide (r.id=0∧r.quant=0))&&r.cels.all (Ybv inter))
def Ygn (k:Int):Int:=Ydf k*Yiy k
def Yey (S:ShP):Bool:=
 Yd7 S.hd&&(decide (0≤S.zeros∧S.zeros≤262144)&&(decide ((S.rows.length:Int)=Yib S.hd.fmt)&&Yc0 (Yd5 S.hd.inter (Ygn S.hd.fmt)) 0 S.rows))
def Yf4 (S:ShP):List Cel:=S.rows.flatMap (·.cels)
def Ycq (k:Int) (n:Nat) (c:Cel):Bool:=Yaq c.kind || Y48 k (n:Int) c.mx c.my
def Ydm (S:ShP):Int:=if Yey S=true then (if Yc0 (Ycq S.hd.fmt) 0 (Yf4 S)=true then 0 else 8) else 12
theorem Y1x {S:ShP} (h:Yey S=false):Ydm S=12:=by unfold Ydm;rw [if_neg (by rw [h];decide)]
theorem Yuw {S:ShP} (h:Yey S=true) (h1:Yc0 (Ycq S.hd.fmt) 0 (Yf4 S)=false):Ydm S=8:=by unfold Ydm;rw [if_pos h,if_neg (by rw [h1];decide)]
theorem Yy8 {S:ShP} (h:Yey S=true) (h1:Yc0 (Ycq S.hd.fmt) 0 (Yf4 S)=true):Ydm S=0:=by unfold Ydm;rw [if_pos h,if_pos h1]
theorem Y1y {S:ShP} (h:Ydm S=0):Yey S=true∧Yc0 (Ycq S.hd.fmt) 0 (Yf4 S)=true:=by
 unfold Ydm at h
 cases h1:Yey S with
 | false=> rw [h1] at h;cases h
 | true=>
  cases h2:Yc0 (Ycq S.hd.fmt) 0 (Yf4 S) with
  | false=> rw [h1,h2] at h;cases h
  | true=> exact ⟨rfl,rfl⟩
theorem Yk9 (n:Nat):Yau 0 n=List.replicate n 48:=by
 have h:=Yhi (List.replicate n 48) (Yjm n)
 rw [Y5i,List.length_replicate] at h
 exact h
theorem Ykq {l:List UInt8} {p n:Nat} (h:p+n≤8*l.length) (h0:Ya2 l p n=0):Seg (Yad l) p (p+n) (List.replicate n 48):=by
 have:=Yca (l:=l) h
 rw [h0,Yk9] at this
 exact this
theorem Y9a {l:List UInt8} {p n z:Nat} {id q:Int} (h:hdk l p (n:Int)=(id,q,z,0)):(0≤id∧id≤3∧1≤q∧q≤31)∧Seg (Yad l) p z (Yfd p n id.toNat q.toNat):=by
 by_cases h1:(Ya5 l p).2=false
 ·rw [Yyh h1] at h;cases h
 have h1':(Ya5 l p).2=true:=by simpa using h1
 by_cases h2:(Ya5 l p).1=(n:Int)
 case neg=> rw [Ytw h1' h2] at h;cases h
 by_cases h3:8*l.length<p+gap p+22+7
 ·rw [Yty h1' h2 h3] at h;cases h
 by_cases h4:Ya2 l (p+gap p+22+2) 5=0
 ·rw [Ytx h1' h2 (by omega) h4] at h;cases h
 rw [Qbp h1' h2 (by omega) h4] at h
 injection h with e1 h
 injection h with e2 h
 injection h with e3 _
 have hg:=Yyu h1'
 have l2:=Yb6 l (p+gap p+22) 2
 have l5:=Yb6 l (p+gap p+22+2) 5
 have l2':Ya2 l (p+gap p+22) 2<4:=l2
 have l5':Ya2 l (p+gap p+22+2) 5<32:=l5
 have hm:Ya2 l (p+gap p) 22=32+n:=by
  rw [Yw1 (by omega) hg,Yrd (by omega)] at h1' h2
  by_cases ht:Ya2 l (p+gap p) 22 / 32=1
  ·rw [if_pos ht] at h2
   simp only at h2
   omega
  ·rw [if_neg ht] at h1'
   exact absurd h1' (by decide)
 have s0:=Ykq (l:=l) (p:=p) (n:=gap p) (by omega) hg
 have s1:=Yca (l:=l) (p:=p+gap p) (n:=22) (by omega)
 have s2:=Yca (l:=l) (p:=p+gap p+22) (n:=2) (by omega)
 have s3:=Yca (l:=l) (p:=p+gap p+22+2) (n:=5) (by omega)
 rw [hm] at s1
 subst e1 e2 e3
 refine ⟨by omega,?_⟩
 unfold Yfd Yg5
 rw [Int.toNat_natCast,Int.toNat_natCast,List.append_assoc]
 exact s0.app (s1.app (s2.app s3))
def CelT:=Bool→List UInt8→Int→Int→Nat→Cel×Nat×Int
def Yi4 (ct:CelT) (S:List UInt8):Prop:=∀inter x y p c q,p≤S.length→ct inter S x y p=(c,q,0)→Seg S p q (Ydz inter x y c)∧Ybv inter c=true
def Ydv (cs:List Cel):List (Int×Int):=cs.map fun c=> (c.mx,c.my)
def Ydh (vs:List (Int×Int)) (across first:Int):Int×Int:=Qd7 (fun i=> vs.getD i (0,0)) vs.length across first
def Ydc (ct:CelT) (l:List UInt8) (inter:Bool) (k first:Int):Nat→Nat→List (Int×Int)→List Cel×Nat×Int
 | 0,p,_=> ([],p,0)
 | n+1,p,vs=>
  match ct inter (Yad l) (Ydh vs (Ydf k) first).1 (Ydh vs (Ydf k) first).2 p with
  | (c,q,f)=> if f≠0 then ([],p,f) else if Ycq k vs.length c=false then ([],p,8) else
   match Ydc ct l inter k first n q (vs ++ [(c.mx,c.my)]) with
   | (cs,z,g)=> if g≠0 then ([],p,g) else (c::cs,z,0)
def Yec (inter:Bool) (k first:Int):List (Int×Int)→List Cel→List UInt8
 | _,[]=> []
 | vs,c::cs=> Ydz inter (Ydh vs (Ydf k) first).1 (Ydh vs (Ydf k) first).2 c++Yec inter k first (vs ++ [(c.mx,c.my)]) cs
theorem Yos {ct:CelT} {l:List UInt8} {inter:Bool} {k first:Int} (hct:Yi4 ct (Yad l)):∀(n p:Nat) (vs:List (Int×Int)) (cs:List Cel) (q:Nat),p≤8*l.length→Ydc ct l inter k first n p vs=(cs,q,0)→
  Seg (Yad l) p q (Yec inter k first vs cs)∧cs.length=n∧cs.all (Ybv inter)=true∧Yc0 (Ycq k) vs.length cs=true
 | 0,p,vs,cs,q,hp,h=> by
  rw [Ydc] at h
  injection h with e1 h
  injection h with e2 _
  subst e1 e2
  exact ⟨Seg.nil (by rw [Yai];exact hp),rfl,rfl,rfl⟩
 | n+1,p,vs,cs,q,hp,h=> by
  rw [Ydc] at h
  obtain ⟨⟨c,z,f⟩,hc⟩:∃r,ct inter (Yad l) (Ydh vs (Ydf k) first).1 (Ydh vs (Ydf k) first).2 p=r:=⟨_,rfl⟩
  rw [hc] at h
  simp only at h
  by_cases hf:f=0
  case neg=>
   rw [if_pos hf] at h
   injection h with _ h
   injection h with _ h
   exact absurd h hf
  rw [if_neg (fun x=> x hf)] at h
  subst hf
  cases hv:Ycq k vs.length c with
  | false=> rw [hv,if_pos rfl] at h;cases h
  | true=>
   rw [hv,if_neg (by decide)] at h
   obtain ⟨⟨cs',y,g⟩,hr⟩:∃r,Ydc ct l inter k first n z (vs ++ [(c.mx,c.my)])=r:=⟨_,rfl⟩
   rw [hr] at h
   simp only at h
   by_cases hg:g=0
   case neg=>
    rw [if_pos hg] at h
    injection h with _ h
    injection h with _ h
    exact absurd h hg
   rw [if_neg (fun x=> x hg)] at h
   subst hg
   injection h with e1 h
   injection h with e2 _
   subst e1 e2
   obtain ⟨s1,m1⟩:=hct inter _ _ p c z (by rw [Yai];exact hp) hc
   have hz:z≤8*l.length:=by have:=s1.2.1;rwa [Yai] at this
   obtain ⟨s2,m2,m3,m4⟩:=Yos hct n z (vs ++ [(c.mx,c.my)]) cs' y hz hr
   rw [List.length_append] at m4
   refine ⟨s1.app s2,by rw [List.length_cons,m2],by rw [List.all_cons,m1,m3];rfl,?_⟩
   rw [Yc0,hv]
   exact m4
def Qbq (l:List UInt8) (i p:Nat):Bool:=decide (0<i)&&((Ya5 l p).2&&((Ya5 l p).1 != 0&&(Ya5 l p).1 != 31))
def Yjw (l:List UInt8) (k:Int) (i p:Nat) (first:Int):Bool×Int×Int×Nat×Int×Int:=
 if Qbq l i p=true then (true,(hdk l p i).1,(hdk l p i).2.1,(hdk l p i).2.2.1,(i:Int)*Yiy k,(hdk l p i).2.2.2) else (false,0,0,p,first,0)
def Yiw (ct:CelT) (l:List UInt8) (inter:Bool) (k:Int):Nat→Nat→Nat→List (Int×Int)→Int→List RowP×Nat×Int
 | 0,_,p,_,_=> ([],p,0)
 | n+1,i,p,vs,first=>
  match Yjw l k i p first with
  | (h,id,qu,z,fs,f)=> if f≠0 then ([],p,f) else
   match Ydc ct l inter k fs (Ygn k).toNat z vs with
   | (cs,q,g)=> if g≠0 then ([],p,g) else
    match Yiw ct l inter k n (i+1) q (vs++Ydv cs) fs with
    | (rs,y,e)=> if e≠0 then ([],p,e) else (⟨h,id,qu,cs⟩::rs,y,0)
def Yhf (i p:Nat) (r:RowP):List UInt8:=if r.head then Yfd p i r.id.toNat r.quant.toNat else []
def Ysg (k:Int) (i:Nat) (first:Int) (r:RowP):Int:=if r.head then (i:Int)*Yiy k else first
def Ycy (inter:Bool) (k:Int):Nat→Nat→List (Int×Int)→Int→List RowP→List UInt8
 | _,_,_,_,[]=> []
 | i,p,vs,first,r::rs=> Yhf i p r++(Yec inter k (Ysg k i first r) vs r.cels++Ycy inter k (i+1) (p+(Yhf i p r).length+(Yec inter k (Ysg k i first r) vs r.cels).length) (vs++Ydv r.cels) (Ysg k i first r) rs)
theorem Y1q {l:List UInt8} {k:Int} {i p z:Nat} {first id qu fs:Int} {h:Bool} (hp:p≤8*l.length) (e:Yjw l k i p first=(h,id,qu,z,fs,0)) (cs:List Cel):
  Seg (Yad l) p z (Yhf i p ⟨h,id,qu,cs⟩)∧fs=Ysg k i first ⟨h,id,qu,cs⟩∧(if h then decide (i≠0∧0≤id∧id≤3∧1≤qu∧qu≤31) else decide (id=0∧qu=0))=true:=by
 unfold Yjw at e
 cases hh:Qbq l i p with
 | true=>
  rw [hh,if_pos rfl] at e
  injection e with e1 e
  injection e with e2 e
  injection e with e3 e
  injection e with e4 e
  injection e with e5 e6
  subst e1 e5
  obtain ⟨m,s⟩:=Y9a (l:=l) (p:=p) (n:=i) (id:=id) (q:=qu) (z:=z) (by rw [←e2,←e3,←e4,←e6])
  refine ⟨s,rfl,?_⟩
  unfold Qbq at hh
  rw [Bool.and_eq_true,decide_eq_true_iff] at hh
  rw [if_pos rfl,decide_eq_true_iff]
  exact ⟨by omega,m⟩
 | false=>
  rw [hh,if_neg (by decide)] at e
  injection e with e1 e
  injection e with e2 e
  injection e with e3 e
  injection e with e4 e
  injection e with e5 _
  subst e1 e2 e3 e4 e5
  exact ⟨Seg.nil (by rw [Yai];exact hp),rfl,rfl⟩
theorem Yuv {ct:CelT} {l:List UInt8} {inter:Bool} {k:Int} (hct:Yi4 ct (Yad l)) (hk:0≤Ygn k):∀(n i p:Nat) (vs:List (Int×Int)) (first:Int) (rs:List RowP) (q:Nat),p≤8*l.length→Yiw ct l inter k n i p vs first=(rs,q,0)→
  Seg (Yad l) p q (Ycy inter k i p vs first rs)∧rs.length=n∧Yc0 (Yd5 inter (Ygn k)) i rs=true∧Yc0 (Ycq k) vs.length (rs.flatMap (·.cels))=true
 | 0,i,p,vs,first,rs,q,hp,h=> by
  rw [Yiw] at h
  injection h with e1 h
  injection h with e2 _
  subst e1 e2
  exact ⟨Seg.nil (by rw [Yai];exact hp),rfl,rfl,rfl⟩
 | n+1,i,p,vs,first,rs,q,hp,h=> by
  rw [Yiw] at h
  obtain ⟨⟨hd,id,qu,z,fs,f⟩,hh⟩:∃r,Yjw l k i p first=r:=⟨_,rfl⟩
  rw [hh] at h
  simp only at h
  by_cases hf:f=0
  case neg=>
   rw [if_pos hf] at h
   injection h with _ h
   injection h with _ h
   exact absurd h hf
  rw [if_neg (fun x=> x hf)] at h
  subst hf
  obtain ⟨⟨cs,y,g⟩,hc⟩:∃r,Ydc ct l inter k fs (Ygn k).toNat z vs=r:=⟨_,rfl⟩
  rw [hc] at h
  simp only at h
  by_cases hg:g=0
  case neg=>
   rw [if_pos hg] at h
   injection h with _ h
   injection h with _ h
   exact absurd h hg
  rw [if_neg (fun x=> x hg)] at h
  subst hg
  obtain ⟨⟨rs',q',e⟩,hr⟩:∃r,Yiw ct l inter k n (i+1) y (vs++Ydv cs) fs=r:=⟨_,rfl⟩
  rw [hr] at h
  simp only at h
  by_cases he:e=0
  case neg=>
   rw [if_pos he] at h
   injection h with _ h
   injection h with _ h
   exact absurd h he
  rw [if_neg (fun x=> x he)] at h
  subst he
  injection h with e1 h
  injection h with e2 _
  subst e1 e2
  obtain ⟨s1,f1,m1⟩:=Y1q hp hh cs
  have hz:z≤8*l.length:=by have:=s1.2.1;rwa [Yai] at this
  obtain ⟨s2,n2,m2,v2⟩:=Yos hct _ z vs cs y hz hc
  have hy:y≤8*l.length:=by have:=s2.2.1;rwa [Yai] at this
  obtain ⟨s3,n3,m3,v3⟩:=Yuv hct hk n (i+1) y (vs++Ydv cs) fs rs' q' hy hr
  have ey:y=p+(Yhf i p ⟨hd,id,qu,cs⟩).length+(Yec inter k fs vs cs).length:=by have:=s1.len;have:=s2.len;omega
  refine ⟨?_,by rw [List.length_cons,n3],?_,?_⟩
  ·rw [Ycy]
   show Seg (Yad l) p q' (Yhf i p ⟨hd,id,qu,cs⟩++(Yec inter k (Ysg k i first ⟨hd,id,qu,cs⟩) vs cs++Ycy inter k (i+1) (p+(Yhf i p ⟨hd,id,qu,cs⟩).length+(Yec inter k (Ysg k i first ⟨hd,id,qu,cs⟩) vs cs).length) (vs++Ydv cs) (Ysg k i first ⟨hd,id,qu,cs⟩) rs'))
   rw [←f1,←ey]
   exact s1.app (s2.app s3)
  ·rw [Yc0,m3,Bool.and_true]
   unfold Yd5
   simp only
   rw [n2,Int.toNat_of_nonneg hk,m1,m2]
   simp
  ·rw [List.flatMap_cons,Yii,v2,Bool.true_and]
   simp only
   rw [List.length_append] at v3
   unfold Ydv at v3
   rw [List.length_map] at v3
   exact v3
def Qa6 (l:List UInt8):Nat→Nat→Option Nat
 | 0,p=> if (Ybr l p).2=0∨p=8*l.length then some 0 else none
 | n+1,p=> if (Ybr l p).2=0∨p=8*l.length then some 0 else if p+8≤8*l.length∧Ya2 l p 8=0 then (Qa6 l n (p+8)).map (· + 1) else none
def Y7h (l:List UInt8) (p:Nat):Nat:=(Qa6 l l.length p).getD 0
theorem Yvv {l:List UInt8}:∀(n p z:Nat),p≤8*l.length→Qa6 l n p=some z→Seg (Yad l) p (p+8*z) (List.replicate (8*z) 48)
 | 0,p,z,hp,h=> by
  rw [Qa6] at h
  split at h
  ·injection h with h
   subst h
   exact Seg.nil (by rw [Yai];exact hp)
  ·cases h
 | n+1,p,z,hp,h=> by
  rw [Qa6] at h
  split at h
  ·injection h with h
   subst h
   exact Seg.nil (by rw [Yai];exact hp)
  ·split at h
   ·rename_i h8
    obtain ⟨y,hy,rfl⟩:=Option.map_eq_some_iff.1 h
    have s1:=Ykq (l:=l) (p:=p) (n:=8) h8.1 h8.2
    have s2:=Yvv n (p+8) y h8.1 hy
    have:=s1.app s2
    rw [List.replicate_append_replicate] at this
    rw [show p+8*(y+1)=p+8+8*y by omega,show 8*(y+1)=8+8*y by omega]
    exact this
   ·cases h
theorem Yvu {l:List UInt8} {p:Nat} (hp:p≤8*l.length):Seg (Yad l) p (p+8*Y7h l p) (List.replicate (8*Y7h l p) 48):=by
 unfold Y7h
 cases h:Qa6 l l.length p with
 | none=> exact Seg.nil (by rw [Yai];exact hp)
 | some z=> exact Yvv _ p z hp h
def Qai:ShP:=⟨Yrt,[],0⟩
def wtk (ct:CelT) (l:List UInt8) (p:Nat):ShP×Nat×Int:=
 match shk l p with
 | (h,q,f)=> if f≠0 then (Qai,p,f) else
  match Yiw ct l h.inter h.fmt (Yib h.fmt).toNat 0 q [] 0 with
  | (rs,z,g)=> if g≠0 then (Qai,p,g) else if Ya2 l z (gap z)≠0 then (Qai,p,5) else (⟨h,rs,(Y7h l (z+gap z):Nat)⟩,z+gap z+8*Y7h l (z+gap z),0)
def Yiv (p:Nat) (S:ShP):List UInt8:=Ycy S.hd.inter S.hd.fmt 0 p [] 0 S.rows
def Ywm (p:Nat):List UInt8:=List.replicate (gap p) 48
def Ydb (p:Nat) (S:ShP):List UInt8:=
 (Ydd 0++Ydr S.hd)++(Yiv (p+(Ydd 0++Ydr S.hd).length) S++(Ywm (p+(Ydd 0++Ydr S.hd).length+(Yiv (p+(Ydd 0++Ydr S.hd).length) S).length)++List.replicate (8*S.zeros.toNat) 48))
theorem Yyd (k:Int):0≤Ygn k∧0≤Yib k:=by
 unfold Ygn Ydf
 rcases Ydj k with rfl | rfl | rfl | rfl | rfl | rfl | ⟨h,hv⟩
 case _ | _ | _ | _ | _ | _=> decide +kernel
 unfold Yib Yiy Y4q
 rw [hv]
 decide
theorem Yzs {ct:CelT} {l:List UInt8} {p q:Nat} {S:ShP} (hct:Yi4 ct (Yad l)) (h:wtk ct l p=(S,q,0)):
  p%8=0∧q%8=0∧p<q∧(S.zeros≤262144→Ydm S=0)∧0≤S.zeros∧Seg (Yad l) p q (Ydb p S):=by
 unfold wtk at h
 obtain ⟨⟨hd,z0,f⟩,hh⟩:∃r,shk l p=r:=⟨_,rfl⟩
 rw [hh] at h
 simp only at h
 by_cases hf:f=0
 case neg=>
  rw [if_pos hf] at h
  injection h with _ h
  injection h with _ h
  exact absurd h hf
 rw [if_neg (fun x=> x hf)] at h
 subst hf
 obtain ⟨⟨rs,z,g⟩,hr⟩:∃r,Yiw ct l hd.inter hd.fmt (Yib hd.fmt).toNat 0 z0 [] 0=r:=⟨_,rfl⟩
 rw [hr] at h
 simp only at h
 by_cases hg:g=0
 case neg=>
  rw [if_pos hg] at h
  injection h with _ h
  injection h with _ h
  exact absurd h hg
 rw [if_neg (fun x=> x hg)] at h
 subst hg
 by_cases h0:Ya2 l z (gap z)=0
 case neg=>
  rw [if_pos h0] at h
  injection h with _ h
  injection h with _ h
  cases h
 rw [if_neg (fun x=> x h0)] at h
 injection h with e1 h
 injection h with e2 _
 obtain ⟨p8,hm,s0⟩:=Yy9 hh
 obtain ⟨k1,k2⟩:=Yyd hd.fmt
 have hz0:z0≤8*l.length:=by have:=s0.2.1;rwa [Yai] at this
 obtain ⟨s1,n1,m1,v1⟩:=Yuv hct k1 _ 0 z0 [] 0 rs z hz0 hr
 have hz:z≤8*l.length:=by have:=s1.2.1;rwa [Yai] at this
 have hgf:z+gap z≤8*l.length:=by unfold gap;omega
 have s2:=Ykq (l:=l) (p:=z) (n:=gap z) hgf h0
 have s3:=Yvu (l:=l) (p:=z+gap z) hgf
 have l0:=s0.len
 have l1:=s1.len
 have hl22:(Ydd 0++Ydr hd).length=50+9*hd.supp.length:=by rw [List.length_append,Yck,Ygc];omega
 subst e1 e2
 refine ⟨p8,by unfold gap;omega,by omega,fun hzz=> ?_,by simp,?_⟩
 ·refine Yy8 ?_ ?_
  ·unfold Yey
   simp only [Bool.and_eq_true,decide_eq_true_iff]
   refine ⟨hm,⟨by simp,hzz⟩,?_,m1⟩
   rw [n1,Int.toNat_of_nonneg k2]
  ·exact v1
 ·unfold Ydb Yiv Ywm
  simp only [Int.toNat_natCast]
  rw [←l0,←l1]
  exact s0.app (s1.app (s2.app s3))
theorem Y4r {p q:Nat} (h:p%8=q%8):gap p=gap q:=by unfold gap;rw [h]
theorem Ywr {p q:Nat} (h:p%8=q%8) (n a b:Nat):Yfd p n a b=Yfd q n a b:=by unfold Yfd;rw [Y4r h]
theorem Yni {inter:Bool} {k:Int}:∀(rs:List RowP) (i p q:Nat) (vs:List (Int×Int)) (first:Int),p%8=q%8→Ycy inter k i p vs first rs=Ycy inter k i q vs first rs
 | [],_,_,_,_,_,_=> rfl
 | r::rs,i,p,q,vs,first,h=> by
  have hh:Yhf i p r=Yhf i q r:=by unfold Yhf;rw [Ywr h]
  rw [Ycy,Ycy,hh]
  congr 2
  exact Yni rs _ _ _ _ _ (by omega)
theorem Yvr {p q:Nat} (h:p%8=q%8) (S:ShP):Ydb p S=Ydb q S:=by
 unfold Ydb Yiv
 have e1:∀a:Nat,Ycy S.hd.inter S.hd.fmt 0 (p+a) [] 0 S.rows=Ycy S.hd.inter S.hd.fmt 0 (q+a) [] 0 S.rows:=fun a=> Yni _ _ _ _ _ _ (by omega)
 rw [e1]
 have e2:∀a b:Nat,Ywm (p+a+b)=Ywm (q+a+b):=fun a b=> by unfold Ywm;rw [Y4r (p:=p+a+b) (q:=q+a+b) (by omega)]
 rw [e2]
theorem Yuz:∀{l m:List UInt8},Yad l=Yad m→l=m
 | [],[],_=> rfl
 | [],c::m,h=> by have:=congrArg List.length h;rw [Yai,Yai] at this;simp at this
 | c::l,[],h=> by have:=congrArg List.length h;rw [Yai,Yai] at this;simp at this
 | c::l,d::m,h=> by
  rw [Yh2,Yh2] at h
  obtain ⟨h1,h2⟩:=List.append_inj h (by rw [Yam,Yam])
  have h3:=congrArg num h1
  rw [Yev,Yev] at h3
  have hc:=c.toNat_lt
  have hd:=d.toNat_lt
  have e:c=d:=UInt8.toNat_inj.1 (by omega)
  rw [e,Yuz h2]
theorem Qaf {l:List UInt8} {a b:Nat} {r:List UInt8} (h:Seg (Yad l) (8*a) (8*b) r):Ym7 r=(l.drop a).take (b-a):=by
 obtain ⟨h1,h2,h3⟩:=h
 rw [Yai] at h2
 have hp:=Yps l a (b-a) (by omega)
 rw [show 8*(b-a)=8*b-8*a by omega,h3] at hp
 have hr:Yav r=true:=by rw [←hp];exact Yc7 _
 apply Yuz
 rw [Y6r r hr,hp]
 unfold Y7m
 have hl:r.length%8=0:=by rw [←hp,Yai];omega
 rw [show (8-r.length%8)%8=0 by omega]
 exact List.append_nil r
def Y7l (r:List UInt8) (S:ShP):List UInt8:=r++(Ywm r.length++Ydb (r.length+gap r.length) S)
def Y1e (r:List UInt8) (S:ShP):List UInt8:=Ygh r 0++Ydr S.hd
def Yyx (r:List UInt8) (S:ShP):List UInt8:=Y1e r S++Yiv (Y1e r S).length S
theorem Yf7 (r:List UInt8) (S:ShP):(Y1e r S).length=r.length+gap r.length+(Ydd 0++Ydr S.hd).length:=by
 unfold Y1e
 rw [List.length_append,Yf0,List.length_append,Yck];omega
theorem Ypa (r:List UInt8) (S:ShP):Y7l r S=(Yyx r S++List.replicate (gap (Yyx r S).length) 48)++List.replicate (8*S.zeros.toNat) 48:=by
 have hl:(Yyx r S).length=r.length+gap r.length+(Ydd 0++Ydr S.hd).length+(Yiv (r.length+gap r.length+(Ydd 0++Ydr S.hd).length) S).length:=by
  unfold Yyx
  rw [List.length_append,Yf7]
 rw [hl]
 unfold Y7l Ydb Yyx
 rw [Yf7]
 unfold Y1e Ygh Ywm
 simp only [List.append_assoc]
def Yd6 (inter:Bool) (k:Int) (i:Nat) (R:List UInt8) (vs:List (Int×Int)) (first:Int) (rs:List RowP):List UInt8:=R++Ycy inter k i R.length vs first rs
def Ygl (inter:Bool) (k first:Int) (R:List UInt8) (vs:List (Int×Int)) (cs:List Cel):List UInt8:=R++Yec inter k first vs cs
theorem Y0d (inter:Bool) (k first:Int) (R:List UInt8) (vs:List (Int×Int)):Ygl inter k first R vs []=R:=List.append_nil R
theorem Yv9 (inter:Bool) (k first:Int) (R:List UInt8) (vs:List (Int×Int)) (c:Cel) (cs:List Cel):
  Ygl inter k first R vs (c::cs)=Ygl inter k first (R++Ydz inter (Ydh vs (Ydf k) first).1 (Ydh vs (Ydf k) first).2 c) (vs ++ [(c.mx,c.my)]) cs:=by
 unfold Ygl
 rw [Yec,List.append_assoc]
theorem Y1s (inter:Bool) (k:Int) (i:Nat) (R:List UInt8) (vs:List (Int×Int)) (first:Int):Yd6 inter k i R vs first []=R:=List.append_nil R
theorem Yw9 (inter:Bool) (k:Int) (i:Nat) (R:List UInt8) (vs:List (Int×Int)) (first:Int) (r:RowP) (rs:List RowP):
  Yd6 inter k i R vs first (r::rs)=Yd6 inter k (i+1) (Ygl inter k (Ysg k i first r) (R++Yhf i R.length r) vs r.cels) (vs++Ydv r.cels) (Ysg k i first r) rs:=by
 unfold Yd6 Ygl
 rw [Ycy]
 simp only [List.length_append,List.append_assoc,Nat.add_assoc]
theorem Ypn (r:List UInt8) (S:ShP):Yd6 S.hd.inter S.hd.fmt 0 (Y1e r S) [] 0 S.rows=Yyx r S:=rfl
theorem Yyw (S:ShP):Y7l [] S=Ydb 0 S:=rfl
def Ycg {α:Type} (E:List α×Nat×Int) (d:List α) (T:List α×Nat×Int):Prop:=(T.2.2≠0→E.2.2=T.2.2)∧(T.2.2=0→E=(d++T.1,T.2.1,0))
theorem Ycg.start {α:Type} (E:List α×Nat×Int):Ycg E [] E:=⟨fun _=> rfl,fun h=> by obtain ⟨a,b,c⟩:=E;simp only at h;subst h;rfl⟩
theorem Ycg.bad {α:Type} {E T:List α×Nat×Int} {d:List α} {f:Int} (h:Ycg E d T) (hf:T.2.2=f) (h0:f≠0):E.2.2=f:=by
 subst hf
 exact h.1 h0
theorem Ycg.done {α:Type} {E:List α×Nat×Int} {d:List α} {p:Nat} (h:Ycg E d ([],p,0)):E=(d,p,0):=by
 have:=h.2 rfl
 rwa [List.append_nil] at this
theorem Ycg.step {α:Type} {E T T':List α×Nat×Int} {d:List α} {a:α} (h:Ycg E d T) (e:T=(if T'.2.2≠0 then ([],T.2.1,T'.2.2) else (a::T'.1,T'.2.1,0))):Ycg E (d ++ [a]) T':=by
 by_cases h0:T'.2.2=0
 ·rw [if_neg (fun x=> x h0)] at e
  refine ⟨fun h1=> absurd h0 h1,fun _=> ?_⟩
  have:=h.2 (by rw [e])
  rw [this,e,List.append_assoc]
  rfl
 ·rw [if_pos h0] at e
  exact ⟨fun _=> h.bad (by rw [e]) h0,fun h1=> absurd h1 h0⟩
section
variable {ct:CelT} {l:List UInt8} {inter:Bool} {k first:Int} {n p:Nat} {vs:List (Int×Int)}
theorem Y3v {E:List Cel×Nat×Int} {d:List Cel} {c:Cel} {q:Nat} {f:Int} (h:Ycg E d (Ydc ct l inter k first (n+1) p vs)) (hc:ct inter (Yad l) (Ydh vs (Ydf k) first).1 (Ydh vs (Ydf k) first).2 p=(c,q,f)) (hf:f≠0):E.2.2=f:=by
 refine h.bad ?_ hf
 rw [Ydc,hc]
 simp only
 rw [if_pos hf]
theorem Y3w {E:List Cel×Nat×Int} {d:List Cel} {c:Cel} {q:Nat} (h:Ycg E d (Ydc ct l inter k first (n+1) p vs)) (hc:ct inter (Yad l) (Ydh vs (Ydf k) first).1 (Ydh vs (Ydf k) first).2 p=(c,q,0)) (hv:Ycq k vs.length c=false):E.2.2=8:=by
 refine h.bad ?_ (by decide)
 rw [Ydc,hc]
 simp only
 rw [if_neg (fun x=> x rfl),hv,if_pos rfl]
theorem Y0c {E:List Cel×Nat×Int} {d:List Cel} {c:Cel} {q:Nat} (h:Ycg E d (Ydc ct l inter k first (n+1) p vs)) (hc:ct inter (Yad l) (Ydh vs (Ydf k) first).1 (Ydh vs (Ydf k) first).2 p=(c,q,0)) (hv:Ycq k vs.length c=true):Ycg E (d ++ [c]) (Ydc ct l inter k first n q (vs ++ [(c.mx,c.my)])):=by
 refine h.step ?_
 rw [Ydc,hc]
 simp only
 rw [if_neg (fun x=> x rfl),hv,if_neg (by decide)]
 obtain ⟨⟨cs,z,g⟩,hr⟩:∃r,Ydc ct l inter k first n q (vs ++ [(c.mx,c.my)])=r:=⟨_,rfl⟩
 rw [hr]
 by_cases hg:g=0
 ·subst hg
  rfl
 ·simp only
  rw [if_pos hg,if_pos hg]
theorem Y6h {i:Nat} {E:List RowP×Nat×Int} {d:List RowP} {hd:Bool} {id qu fs f:Int} {z:Nat} (h:Ycg E d (Yiw ct l inter k (n+1) i p vs first)) (hh:Yjw l k i p first=(hd,id,qu,z,fs,f)) (hf:f≠0):E.2.2=f:=by
 refine h.bad ?_ hf
 rw [Yiw,hh]
 simp only
 rw [if_pos hf]
theorem Y6g {i:Nat} {E:List RowP×Nat×Int} {d:List RowP} {hd:Bool} {id qu fs g:Int} {z q:Nat} {cs:List Cel} (h:Ycg E d (Yiw ct l inter k (n+1) i p vs first)) (hh:Yjw l k i p first=(hd,id,qu,z,fs,0)) (hc:Ydc ct l inter k fs (Ygn k).toNat z vs=(cs,q,g)) (hg:g≠0):E.2.2=g:=by
 refine h.bad ?_ hg
 rw [Yiw,hh]
 simp only
 rw [if_neg (fun x=> x rfl),hc]
 simp only
 rw [if_pos hg]
theorem Y6i {i:Nat} {E:List RowP×Nat×Int} {d:List RowP} {hd:Bool} {id qu fs:Int} {z q:Nat} {cs:List Cel} (h:Ycg E d (Yiw ct l inter k (n+1) i p vs first)) (hh:Yjw l k i p first=(hd,id,qu,z,fs,0)) (hc:Ydc ct l inter k fs (Ygn k).toNat z vs=(cs,q,0)):
  Ycg E (d ++ [⟨hd,id,qu,cs⟩]) (Yiw ct l inter k n (i+1) q (vs++Ydv cs) fs):=by
 refine h.step ?_
 rw [Yiw,hh]
 simp only
 rw [if_neg (fun x=> x rfl),hc]
 simp only
 rw [if_neg (fun x=> x rfl)]
 obtain ⟨⟨rs,y,e⟩,hr⟩:∃r,Yiw ct l inter k n (i+1) q (vs++Ydv cs) fs=r:=⟨_,rfl⟩
 rw [hr]
 by_cases he:e=0
 ·subst he
  rfl
 ·simp only
  rw [if_pos he,if_pos he]
end
section
variable {ct:CelT} {l:List UInt8} {p q z:Nat} {h:Shd} {rs:List RowP} {f g:Int}
theorem Qa4 (hh:shk l p=(h,q,f)) (hf:f≠0):wtk ct l p=(Qai,p,f):=by
 unfold wtk
 rw [hh]
 simp only
 rw [if_pos hf]
theorem Qa5 (hh:shk l p=(h,q,0)) (hr:(Yiw ct l h.inter h.fmt (Yib h.fmt).toNat 0 q [] 0).2.2=g) (hg:g≠0):wtk ct l p=(Qai,p,g):=by
 unfold wtk
 rw [hh]
 simp only
 rw [if_neg (fun x=> x rfl)]
 obtain ⟨⟨rs,z,e⟩,h2⟩:∃r,Yiw ct l h.inter h.fmt (Yib h.fmt).toNat 0 q [] 0=r:=⟨_,rfl⟩
 rw [h2] at hr ⊢
 simp only at hr ⊢
 subst hr
 rw [if_pos hg]
theorem Qa3 (hh:shk l p=(h,q,0)) (hr:Yiw ct l h.inter h.fmt (Yib h.fmt).toNat 0 q [] 0=(rs,z,0)) (h0:Ya2 l z (gap z)≠0):wtk ct l p=(Qai,p,5):=by
 unfold wtk
 rw [hh]
 simp only
 rw [if_neg (fun x=> x rfl),hr]
 simp only
 rw [if_neg (fun x=> x rfl),if_pos h0]
theorem Qev (hh:shk l p=(h,q,0)) (hr:Yiw ct l h.inter h.fmt (Yib h.fmt).toNat 0 q [] 0=(rs,z,0)) (h0:Ya2 l z (gap z)=0):wtk ct l p=(⟨h,rs,(Y7h l (z+gap z):Nat)⟩,z+gap z+8*Y7h l (z+gap z),0):=by
 unfold wtk
 rw [hh]
 simp only
 rw [if_neg (fun x=> x rfl),hr]
 simp only
 rw [if_neg (fun x=> x rfl),if_neg (fun x=> x h0)]
end
theorem Y40:∀(L:List UInt8),(∀i,i<(L.takeWhile (· == 48)).length→L[i]? = some 48)∧L[(L.takeWhile (· == 48)).length]?≠some 48
 | []=> ⟨fun i hi=> by simp at hi,by simp⟩
 | c::L=> by
  by_cases hc:c=48
  ·obtain ⟨h1,h2⟩:=Y40 L
   rw [List.takeWhile_cons_of_pos (by simpa using hc),List.length_cons]
   refine ⟨fun i hi=> ?_,by simpa using h2⟩
   match i,hi with
   | 0,_=> rw [hc];rfl
   | i+1,hi=> simpa using h1 i (by omega)
  ·rw [List.takeWhile_cons_of_neg (by simpa using hc)]
   refine ⟨fun i hi=> by simp at hi,?_⟩
   simpa using hc
theorem Yh0 (l:List UInt8) (p:Nat):(∀i,i<Ya1 l p→(Yad l)[p+i]? = some 48)∧(Yad l)[p+Ya1 l p]?≠some 48:=by
 have h:=Y40 ((Yad l).drop p)
 unfold Ya1
 rw [if_neg (by omega),Int.toNat_natCast]
 refine ⟨fun i hi=> ?_,?_⟩
 ·have:=h.1 i hi
  rwa [List.getElem?_drop] at this
 ·have:=h.2
  rwa [List.getElem?_drop] at this
theorem Ykk {l:List UInt8} {p:Nat} (hp:p≤8*l.length):p+Ya1 l p≤8*l.length:=by
 rcases Nat.lt_or_ge (8*l.length) (p+Ya1 l p) with h | h
 ·have:=(Yh0 l p).1 (8*l.length-p) (by omega)
  rw [List.getElem?_eq_none (by rw [Yai];omega)] at this
  cases this
 ·exact h
theorem Ykj {l:List UInt8} {p n:Nat} (h:p+n≤8*l.length):Ya2 l p n=0↔n≤Ya1 l p:=by
 rw [Yfb l p n h]
 constructor
 ·intro h0
  rcases Nat.lt_or_ge (Ya1 l p) n with h1 | h1
  ·exact absurd (h0 _ h1) (Yh0 l p).2
  ·exact h1
 ·exact fun h1 i hi=> (Yh0 l p).1 i (by omega)
theorem Yue {l:List UInt8} {p n:Nat} (h:n≤Ya1 l p):Ya1 l ((p+n:Nat):Int)=Ya1 l p-n:=by
 obtain ⟨h1,h2⟩:=Yh0 l p
 refine Yit (fun i hi=> ?_) ?_
 ·rw [Nat.add_assoc];exact h1 (n+i) (by omega)
 ·rw [show p+n+(Ya1 l p-n)=p+Ya1 l p by omega];exact h2
theorem Yt5 {l:List UInt8} {p:Nat} (hp:p≤8*l.length):(Ybr l (p:Int)).2=0↔p+22≤8*l.length∧Ya1 l p=16:=by
 rcases Nat.lt_or_ge (8*l.length) (p+22) with h | h
 ·rw [Yhy hp h]
  constructor
  ·intro h;cases h
  ·omega
 ·rw [Yrd h]
  have e:=Ye1 l p 16 6 (by omega)
  have e2:=Ye1 l p 17 5 (by omega)
  have e3:=Ye1 l p 16 1 (by omega)
  have l5:=Yb6 l (p+17) 5
  have l1:=Yb6 l (p+16) 1
  have g16:=Ykj (l:=l) (p:=p) (n:=16) (by omega)
  have g17:=Ykj (l:=l) (p:=p) (n:=17) (by omega)
  simp only [Nat.reduceAdd,Nat.reducePow] at e e2 e3 l5 l1
  constructor
  ·intro h1
   by_cases ht:Ya2 l p 22 / 32=1
   ·have h17:Ya2 l p 17=1:=by omega
    have h16:Ya2 l p 16=0:=by omega
    have:=g16.1 h16
    have:=fun h=> g17.2 h
    refine ⟨h,?_⟩
    omega
   ·rw [if_neg ht] at h1;cases h1
  ·rintro ⟨_,h1⟩
   have h16:Ya2 l p 16=0:=g16.2 (by omega)
   have h17:Ya2 l p 17≠0:=fun h0=> by have:=g17.1 h0;omega
   rw [if_pos (by omega)]
def Qbk (n left:Nat):Nat:=if n=left then n / 8 else if n%8=0∧16≤n then (n-16) / 8 else 0
theorem Yp7 (l:List UInt8):∀(m p:Nat),p≤8*l.length→p%8=0→8*l.length-p≤8*m→
  Qa6 l m p=if Ya1 l p=8*l.length-p then some (Ya1 l p / 8) else if Ya1 l p%8=0∧16≤Ya1 l p then some ((Ya1 l p-16) / 8) else none
 | 0,p,hp,h8,hm=> by
  have hn:=Ykk hp
  rw [Qa6,if_pos (.inr (by omega)),if_pos (by omega)]
  rw [show Ya1 l p=0 by omega]
 | m+1,p,hp,h8,hm=> by
  have hn:=Ykk hp
  have hk:=Yt5 hp
  rw [Qa6]
  by_cases h1:(Ybr l (p:Int)).2=0∨p=8*l.length
  ·rw [if_pos h1]
   rcases h1 with h1 | h1
   ·obtain ⟨a,b⟩:=hk.1 h1
    rw [b,if_neg (by omega),if_pos (by omega)]
   ·rw [show Ya1 l p=0 by omega,if_pos (by omega)]
  ·rw [if_neg h1]
   have h2:¬ (p+22≤8*l.length∧Ya1 l p=16):=fun h=> h1 (.inl (hk.2 h))
   have h3:p+8≤8*l.length:=by
    have:p≠8*l.length:=fun h=> h1 (.inr h)
    omega
   have hg:=Ykj h3
   by_cases h4:Ya2 l p 8=0
   ·rw [if_pos ⟨h3,h4⟩]
    have h5:=hg.1 h4
    rw [Yp7 l m (p+8) h3 (by omega) (by omega),Yue h5]
    by_cases h6:Ya1 l p=8*l.length-p
    ·rw [if_pos h6,if_pos (by omega),Option.map_some]
     congr 1
     omega
    ·rw [if_neg h6,if_neg (by omega)]
     by_cases h7:Ya1 l p%8=0∧16≤Ya1 l p
     ·rw [if_pos h7,if_pos (by omega),Option.map_some]
      congr 1
      omega
     ·rw [if_neg h7,if_neg (by omega)]
      rfl
   ·rw [if_neg (fun h=> h4 h.2)]
    have h5:Ya1 l p<8:=by
     rcases Nat.lt_or_ge (Ya1 l p) 8 with h | h
     ·exact h
     ·exact absurd (hg.2 h) h4
    rw [if_neg (by omega),if_neg (by omega)]
theorem Y2r {l:List UInt8} {p:Nat} (hp:p≤8*l.length) (h8:p%8=0):Y7h l p=Qbk (Ya1 l p) (8*l.length-p):=by
 unfold Y7h Qbk
 rw [Yp7 l l.length p hp h8 (by omega)]
 split
 ·rfl
 ·split <;> rfl
end Go.Proofs.YtgikochfffdpfaaGreatDoor