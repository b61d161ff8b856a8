/- Texts that SheetinMay's proof stands on, part 27 of 52. No condition of its own. -/
import Derived.Test.YtpgdngijmihafaaGreatDoorSheetinMayMf
import Derived.Test.YtpgdngijmihafaaGreatDoorSheetinMayMk
import Derived.Test.YtpgdngijmihafaaGreatDoorSheetinMayMq
import Derived.Test.YtpgdngijmihafaaGreatDoorSheetinMayMy
import Derived.Test.YtpgdngijmihafaaGreatDoorSheetinMayMz
namespace Go.Proofs.YtpgdngijmihafaaGreatDoor
open Go.RowKit
def Ycx {α:Type} (f:Nat→α→Bool):Nat→List α→Bool
 | _,[]=> true
 | i,a::l=> f i a&&Ycx f (i+1) l
theorem Yhn {α:Type} {f:Nat→α→Bool}:∀{i:Nat} {l:List α},Ycx f i l=true↔∀j,(h:j<l.length)→f (i+j) l[j]=true
 | _,[]=> ⟨fun _ j h=> absurd h (Nat.not_lt_zero j),fun _=> rfl⟩
 | i,a::l=> by
  rw [Ycx,Bool.and_eq_true,Yhn]
  constructor
  ·rintro ⟨h0,h1⟩ j hj
   cases j with
   | zero=> exact h0
   | succ j=>
    have:=h1 j (by simpa using hj)
    rw [show i+(j+1)=i+1+j by omega]
    exact this
  ·intro h
   refine ⟨h 0 (by simp),fun j hj=> ?_⟩
   have:=h (j+1) (by simpa using hj)
   rw [show i+(j+1)=i+1+j by omega] at this
   exact this
theorem Yqb {α:Type} {f:Nat→α→Bool}:∀(i:Nat) (l:List α) (a:α),Ycx f i (l ++ [a])=(Ycx f i l&&f (i+l.length) a)
 | i,[],a=> by simp [Ycx]
 | i,b::l,a=> by
  rw [List.cons_append,Ycx,Yqb (i+1) l a,Ycx,Bool.and_assoc,List.length_cons,show i+(l.length+1)=i+1+l.length by omega]
theorem Ygy {α:Type} {f:Nat→α→Bool}:∀(i:Nat) (l m:List α),Ycx f i (l++m)=(Ycx f i l&&Ycx f (i+l.length) m)
 | i,[],m=> by simp [Ycx]
 | i,b::l,m=> by
  rw [List.cons_append,Ycx,Ygy (i+1) l m,Ycx,Bool.and_assoc,List.length_cons,show i+(l.length+1)=i+1+l.length by omega]
theorem Yzu {α:Type} {f:Nat→α→Bool} {l:List α} {j:Nat} (hj:j<l.length) (h1:f j l[j]=false):Ycx f 0 l=false:=by
 cases h:Ycx f 0 l with
 | false=> rfl
 | true=>
  have:=Yhn.1 h j hj
  rw [Nat.zero_add,h1] at this
  cases this
def Yf9 (inter:Bool) (n:Int) (i:Nat) (r:RowP):Bool:=
 decide ((r.cels.length:Int)=n)&&((if r.head then decide (i≠0∧0≤r.id∧r.id≤3∧1≤r.quant∧r.quant≤31) else decide (r.id=0∧r.quant=0))&&r.cels.all (Ycj inter))
def Ygn (k:Int):Int:=Yd0 k*Yjg k
def Yea (S:ShP):Bool:=
 Yds S.hd&&(decide (0≤S.zeros∧S.zeros≤262144)&&(decide ((S.rows.length:Int)=Yhg S.hd.fmt)&&Ycx (Yf9 S.hd.inter (Ygn S.hd.fmt)) 0 S.rows))
def Yg3 (S:ShP):List Cel:=S.rows.flatMap (·.cels)
def Ycb (k:Int) (n:Nat) (c:Cel):Bool:=Yaq c.kind || Y1u k (n:Int) c.mx c.my
def Yjw (S:ShP):Int:=if Yea S=true then (if Ycx (Ycb S.hd.fmt) 0 (Yg3 S)=true then 0 else 8) else 12
theorem Yyp {S:ShP} (h:Yea S=false):Yjw S=12:=by unfold Yjw;rw [if_neg (by rw [h];decide)]
theorem Yr9 {S:ShP} (h:Yea S=true) (h1:Ycx (Ycb S.hd.fmt) 0 (Yg3 S)=false):Yjw S=8:=by unfold Yjw;rw [if_pos h,if_neg (by rw [h1];decide)]
theorem Ywe {S:ShP} (h:Yea S=true) (h1:Ycx (Ycb S.hd.fmt) 0 (Yg3 S)=true):Yjw S=0:=by unfold Yjw;rw [if_pos h,if_pos h1]
theorem Yyq {S:ShP} (h:Yjw S=0):Yea S=true∧Ycx (Ycb S.hd.fmt) 0 (Yg3 S)=true:=by
 unfold Yjw at h
 cases h1:Yea S with
 | false=> rw [h1] at h;cases h
 | true=>
  cases h2:Ycx (Ycb S.hd.fmt) 0 (Yg3 S) with
  | false=> rw [h1,h2] at h;cases h
  | true=> exact ⟨rfl,rfl⟩
theorem Yr6 (n:Nat):Yau 0 n=List.replicate n 48:=by
 have h:=Yhc (List.replicate n 48) (Yos n)
 rw [Y13,List.length_replicate] at h
 exact h
theorem Yi0 {l:List UInt8} {p n:Nat} (h:p+n≤8*l.length) (h0:Ya1 l p n=0):Seg (Yac l) p (p+n) (List.replicate n 48):=by
 have:=Ybz (l:=l) h
 rw [h0,Yr6] at this
 exact this
theorem Y5j {l:List UInt8} {p n z:Nat} {id q:Int} (h:hdk l p (n:Int)=(id,q,z,0)):(0≤id∧id≤3∧1≤q∧q≤31)∧Seg (Yac l) p z (Yt3 p n id.toNat q.toNat):=by
 by_cases h1:(Ya3 l p).2=false
 ·rw [Yvq h1] at h;cases h
 have h1':(Ya3 l p).2=true:=by simpa using h1
 by_cases h2:(Ya3 l p).1=(n:Int)
 case neg=> rw [Yri h1' h2] at h;cases h
 by_cases h3:8*l.length<p+gap p+22+7
 ·rw [Yrk h1' h2 h3] at h;cases h
 by_cases h4:Ya1 l (p+gap p+22+2) 5=0
 ·rw [Yrj h1' h2 (by omega) h4] at h;cases h
 rw [Y7t h1' h2 (by omega) h4] at h
 injection h with e1 h
 injection h with e2 h
 injection h with e3 _
 have hg:=Yv3 h1'
 have l2:=Ybv l (p+gap p+22) 2
 have l5:=Ybv l (p+gap p+22+2) 5
 have l2':Ya1 l (p+gap p+22) 2<4:=l2
 have l5':Ya1 l (p+gap p+22+2) 5<32:=l5
 have hm:Ya1 l (p+gap p) 22=32+n:=by
  rw [Yuc (by omega) hg,Yoz (by omega)] at h1' h2
  by_cases ht:Ya1 l (p+gap p) 22 / 32=1
  ·rw [if_pos ht] at h2
   simp only at h2
   omega
  ·rw [if_neg ht] at h1'
   exact absurd h1' (by decide)
 have s0:=Yi0 (l:=l) (p:=p) (n:=gap p) (by omega) hg
 have s1:=Ybz (l:=l) (p:=p+gap p) (n:=22) (by omega)
 have s2:=Ybz (l:=l) (p:=p+gap p+22) (n:=2) (by omega)
 have s3:=Ybz (l:=l) (p:=p+gap p+22+2) (n:=5) (by omega)
 rw [hm] at s1
 subst e1 e2 e3
 refine ⟨by omega,?_⟩
 unfold Yt3 Y1j
 rw [Int.toNat_natCast,Int.toNat_natCast,List.append_assoc]
 exact s0.app (s1.app (s2.app s3))
def CelT:=Bool→List UInt8→Int→Int→Nat→Cel×Nat×Int
def Yhl (ct:CelT) (S:List UInt8):Prop:=∀inter x y p c q,p≤S.length→ct inter S x y p=(c,q,0)→Seg S p q (Yqk inter x y c)∧Ycj inter c=true
def Yge (cs:List Cel):List (Int×Int):=cs.map fun c=> (c.mx,c.my)
def Yd7 (vs:List (Int×Int)) (across first:Int):Int×Int:=Qaq (fun i=> vs.getD i (0,0)) vs.length across first
def Ycs (ct:CelT) (l:List UInt8) (inter:Bool) (k first:Int):Nat→Nat→List (Int×Int)→List Cel×Nat×Int
 | 0,p,_=> ([],p,0)
 | n+1,p,vs=>
  match ct inter (Yac l) (Yd7 vs (Yd0 k) first).1 (Yd7 vs (Yd0 k) first).2 p with
  | (c,q,f)=> if f≠0 then ([],p,f) else if Ycb k vs.length c=false then ([],p,8) else
   match Ycs ct l inter k first n q (vs ++ [(c.mx,c.my)]) with
   | (cs,z,g)=> if g≠0 then ([],p,g) else (c::cs,z,0)
def Yg4 (inter:Bool) (k first:Int):List (Int×Int)→List Cel→List UInt8
 | _,[]=> []
 | vs,c::cs=> Yqk inter (Yd7 vs (Yd0 k) first).1 (Yd7 vs (Yd0 k) first).2 c++Yg4 inter k first (vs ++ [(c.mx,c.my)]) cs
theorem Ymq {ct:CelT} {l:List UInt8} {inter:Bool} {k first:Int} (hct:Yhl ct (Yac l)):∀(n p:Nat) (vs:List (Int×Int)) (cs:List Cel) (q:Nat),p≤8*l.length→Ycs ct l inter k first n p vs=(cs,q,0)→
  Seg (Yac l) p q (Yg4 inter k first vs cs)∧cs.length=n∧cs.all (Ycj inter)=true∧Ycx (Ycb k) vs.length cs=true
 | 0,p,vs,cs,q,hp,h=> by
  rw [Ycs] at h
  injection h with e1 h
  injection h with e2 _
  subst e1 e2
  exact ⟨Seg.nil (by rw [Yah];exact hp),rfl,rfl,rfl⟩
 | n+1,p,vs,cs,q,hp,h=> by
  rw [Ycs] at h
  obtain ⟨⟨c,z,f⟩,hc⟩:∃r,ct inter (Yac l) (Yd7 vs (Yd0 k) first).1 (Yd7 vs (Yd0 k) first).2 p=r:=⟨_,rfl⟩
  rw [hc] at h
  simp only at h
  by_cases hf:f=0
  case neg=>
   rw [if_pos hf] at h
   injection h with _ h
   injection h with _ h
   exact absurd h hf
  rw [if_neg (fun x=> x hf)] at h
  subst hf
  cases hv:Ycb k vs.length c with
  | false=> rw [hv,if_pos rfl] at h;cases h
  | true=>
   rw [hv,if_neg (by decide)] at h
   obtain ⟨⟨cs',y,g⟩,hr⟩:∃r,Ycs ct l inter k first n z (vs ++ [(c.mx,c.my)])=r:=⟨_,rfl⟩
   rw [hr] at h
   simp only at h
   by_cases hg:g=0
   case neg=>
    rw [if_pos hg] at h
    injection h with _ h
    injection h with _ h
    exact absurd h hg
   rw [if_neg (fun x=> x hg)] at h
   subst hg
   injection h with e1 h
   injection h with e2 _
   subst e1 e2
   obtain ⟨s1,m1⟩:=hct inter _ _ p c z (by rw [Yah];exact hp) hc
   have hz:z≤8*l.length:=by have:=s1.2.1;rwa [Yah] at this
   obtain ⟨s2,m2,m3,m4⟩:=Ymq hct n z (vs ++ [(c.mx,c.my)]) cs' y hz hr
   rw [List.length_append] at m4
   refine ⟨s1.app s2,by rw [List.length_cons,m2],by rw [List.all_cons,m1,m3];rfl,?_⟩
   rw [Ycx,hv]
   exact m4
def Y7u (l:List UInt8) (i p:Nat):Bool:=decide (0<i)&&((Ya3 l p).2&&((Ya3 l p).1 != 0&&(Ya3 l p).1 != 31))
def Yh7 (l:List UInt8) (k:Int) (i p:Nat) (first:Int):Bool×Int×Int×Nat×Int×Int:=
 if Y7u l i p=true then (true,(hdk l p i).1,(hdk l p i).2.1,(hdk l p i).2.2.1,(i:Int)*Yjg k,(hdk l p i).2.2.2) else (false,0,0,p,first,0)
def Yhd (ct:CelT) (l:List UInt8) (inter:Bool) (k:Int):Nat→Nat→Nat→List (Int×Int)→Int→List RowP×Nat×Int
 | 0,_,p,_,_=> ([],p,0)
 | n+1,i,p,vs,first=>
  match Yh7 l k i p first with
  | (h,id,qu,z,fs,f)=> if f≠0 then ([],p,f) else
   match Ycs ct l inter k fs (Ygn k).toNat z vs with
   | (cs,q,g)=> if g≠0 then ([],p,g) else
    match Yhd ct l inter k n (i+1) q (vs++Yge cs) fs with
    | (rs,y,e)=> if e≠0 then ([],p,e) else (⟨h,id,qu,cs⟩::rs,y,0)
def Yyh (i p:Nat) (r:RowP):List UInt8:=if r.head then Yt3 p i r.id.toNat r.quant.toNat else []
def Y8x (k:Int) (i:Nat) (first:Int) (r:RowP):Int:=if r.head then (i:Int)*Yjg k else first
def Ylo (inter:Bool) (k:Int):Nat→Nat→List (Int×Int)→Int→List RowP→List UInt8
 | _,_,_,_,[]=> []
 | i,p,vs,first,r::rs=> Yyh i p r++(Yg4 inter k (Y8x k i first r) vs r.cels++Ylo inter k (i+1) (p+(Yyh i p r).length+(Yg4 inter k (Y8x k i first r) vs r.cels).length) (vs++Yge r.cels) (Y8x k i first r) rs)
theorem Yyi {l:List UInt8} {k:Int} {i p z:Nat} {first id qu fs:Int} {h:Bool} (hp:p≤8*l.length) (e:Yh7 l k i p first=(h,id,qu,z,fs,0)) (cs:List Cel):
  Seg (Yac l) p z (Yyh i p ⟨h,id,qu,cs⟩)∧fs=Y8x k i first ⟨h,id,qu,cs⟩∧(if h then decide (i≠0∧0≤id∧id≤3∧1≤qu∧qu≤31) else decide (id=0∧qu=0))=true:=by
 unfold Yh7 at e
 cases hh:Y7u l i p with
 | true=>
  rw [hh,if_pos rfl] at e
  injection e with e1 e
  injection e with e2 e
  injection e with e3 e
  injection e with e4 e
  injection e with e5 e6
  subst e1 e5
  obtain ⟨m,s⟩:=Y5j (l:=l) (p:=p) (n:=i) (id:=id) (q:=qu) (z:=z) (by rw [←e2,←e3,←e4,←e6])
  refine ⟨s,rfl,?_⟩
  unfold Y7u at hh
  rw [Bool.and_eq_true,decide_eq_true_iff] at hh
  rw [if_pos rfl,decide_eq_true_iff]
  exact ⟨by omega,m⟩
 | false=>
  rw [hh,if_neg (by decide)] at e
  injection e with e1 e
  injection e with e2 e
  injection e with e3 e
  injection e with e4 e
  injection e with e5 _
  subst e1 e2 e3 e4 e5
  exact ⟨Seg.nil (by rw [Yah];exact hp),rfl,rfl⟩
theorem Yr8 {ct:CelT} {l:List UInt8} {inter:Bool} {k:Int} (hct:Yhl ct (Yac l)) (hk:0≤Ygn k):∀(n i p:Nat) (vs:List (Int×Int)) (first:Int) (rs:List RowP) (q:Nat),p≤8*l.length→Yhd ct l inter k n i p vs first=(rs,q,0)→
  Seg (Yac l) p q (Ylo inter k i p vs first rs)∧rs.length=n∧Ycx (Yf9 inter (Ygn k)) i rs=true∧Ycx (Ycb k) vs.length (rs.flatMap (·.cels))=true
 | 0,i,p,vs,first,rs,q,hp,h=> by
  rw [Yhd] at h
  injection h with e1 h
  injection h with e2 _
  subst e1 e2
  exact ⟨Seg.nil (by rw [Yah];exact hp),rfl,rfl,rfl⟩
 | n+1,i,p,vs,first,rs,q,hp,h=> by
  rw [Yhd] at h
  obtain ⟨⟨hd,id,qu,z,fs,f⟩,hh⟩:∃r,Yh7 l k i p first=r:=⟨_,rfl⟩
  rw [hh] at h
  simp only at h
  by_cases hf:f=0
  case neg=>
   rw [if_pos hf] at h
   injection h with _ h
   injection h with _ h
   exact absurd h hf
  rw [if_neg (fun x=> x hf)] at h
  subst hf
  obtain ⟨⟨cs,y,g⟩,hc⟩:∃r,Ycs ct l inter k fs (Ygn k).toNat z vs=r:=⟨_,rfl⟩
  rw [hc] at h
  simp only at h
  by_cases hg:g=0
  case neg=>
   rw [if_pos hg] at h
   injection h with _ h
   injection h with _ h
   exact absurd h hg
  rw [if_neg (fun x=> x hg)] at h
  subst hg
  obtain ⟨⟨rs',q',e⟩,hr⟩:∃r,Yhd ct l inter k n (i+1) y (vs++Yge cs) fs=r:=⟨_,rfl⟩
  rw [hr] at h
  simp only at h
  by_cases he:e=0
  case neg=>
   rw [if_pos he] at h
   injection h with _ h
   injection h with _ h
   exact absurd h he
  rw [if_neg (fun x=> x he)] at h
  subst he
  injection h with e1 h
  injection h with e2 _
  subst e1 e2
  obtain ⟨s1,f1,m1⟩:=Yyi hp hh cs
  have hz:z≤8*l.length:=by have:=s1.2.1;rwa [Yah] at this
  obtain ⟨s2,n2,m2,v2⟩:=Ymq hct _ z vs cs y hz hc
  have hy:y≤8*l.length:=by have:=s2.2.1;rwa [Yah] at this
  obtain ⟨s3,n3,m3,v3⟩:=Yr8 hct hk n (i+1) y (vs++Yge cs) fs rs' q' hy hr
  have ey:y=p+(Yyh i p ⟨hd,id,qu,cs⟩).length+(Yg4 inter k fs vs cs).length:=by have:=s1.len;have:=s2.len;omega
  refine ⟨?_,by rw [List.length_cons,n3],?_,?_⟩
  ·rw [Ylo]
   show Seg (Yac l) p q' (Yyh i p ⟨hd,id,qu,cs⟩++(Yg4 inter k (Y8x k i first ⟨hd,id,qu,cs⟩) vs cs++Ylo inter k (i+1) (p+(Yyh i p ⟨hd,id,qu,cs⟩).length+(Yg4 inter k (Y8x k i first ⟨hd,id,qu,cs⟩) vs cs).length) (vs++Yge cs) (Y8x k i first ⟨hd,id,qu,cs⟩) rs'))
   rw [←f1,←ey]
   exact s1.app (s2.app s3)
  ·rw [Ycx,m3,Bool.and_true]
   unfold Yf9
   simp only
   rw [n2,Int.toNat_of_nonneg hk,m1,m2]
   simp
  ·rw [List.flatMap_cons,Ygy,v2,Bool.true_and]
   simp only
   rw [List.length_append] at v3
   unfold Yge at v3
   rw [List.length_map] at v3
   exact v3
def Y7b (l:List UInt8):Nat→Nat→Option Nat
 | 0,p=> if (Ybj l p).2=0∨p=8*l.length then some 0 else none
 | n+1,p=> if (Ybj l p).2=0∨p=8*l.length then some 0 else if p+8≤8*l.length∧Ya1 l p 8=0 then (Y7b l n (p+8)).map (· + 1) else none
def Y3t (l:List UInt8) (p:Nat):Nat:=(Y7b l l.length p).getD 0
theorem Ys7 {l:List UInt8}:∀(n p z:Nat),p≤8*l.length→Y7b l n p=some z→Seg (Yac l) p (p+8*z) (List.replicate (8*z) 48)
 | 0,p,z,hp,h=> by
  rw [Y7b] at h
  split at h
  ·injection h with h
   subst h
   exact Seg.nil (by rw [Yah];exact hp)
  ·cases h
 | n+1,p,z,hp,h=> by
  rw [Y7b] at h
  split at h
  ·injection h with h
   subst h
   exact Seg.nil (by rw [Yah];exact hp)
  ·split at h
   ·rename_i h8
    obtain ⟨y,hy,rfl⟩:=Option.map_eq_some_iff.1 h
    have s1:=Yi0 (l:=l) (p:=p) (n:=8) h8.1 h8.2
    have s2:=Ys7 n (p+8) y h8.1 hy
    have:=s1.app s2
    rw [List.replicate_append_replicate] at this
    rw [show p+8*(y+1)=p+8+8*y by omega,show 8*(y+1)=8+8*y by omega]
    exact this
   ·cases h
theorem Ys6 {l:List UInt8} {p:Nat} (hp:p≤8*l.length):Seg (Yac l) p (p+8*Y3t l p) (List.replicate (8*Y3t l p) 48):=by
 unfold Y3t
 cases h:Y7b l l.length p with
 | none=> exact Seg.nil (by rw [Yah];exact hp)
 | some z=> exact Ys7 _ p z hp h
def Y6p:ShP:=⟨Ype,[],0⟩
def wtk (ct:CelT) (l:List UInt8) (p:Nat):ShP×Nat×Int:=
 match shk l p with
 | (h,q,f)=> if f≠0 then (Y6p,p,f) else
  match Yhd ct l h.inter h.fmt (Yhg h.fmt).toNat 0 q [] 0 with
  | (rs,z,g)=> if g≠0 then (Y6p,p,g) else if Ya1 l z (gap z)≠0 then (Y6p,p,5) else (⟨h,rs,(Y3t l (z+gap z):Nat)⟩,z+gap z+8*Y3t l (z+gap z),0)
def Yug (p:Nat) (S:ShP):List UInt8:=Ylo S.hd.inter S.hd.fmt 0 p [] 0 S.rows
def Qak (p:Nat):List UInt8:=List.replicate (gap p) 48
def Ypw (p:Nat) (S:ShP):List UInt8:=
 (Ydl 0++Ye0 S.hd)++(Yug (p+(Ydl 0++Ye0 S.hd).length) S++(Qak (p+(Ydl 0++Ye0 S.hd).length+(Yug (p+(Ydl 0++Ye0 S.hd).length) S).length)++List.replicate (8*S.zeros.toNat) 48))
theorem Yvn (k:Int):0≤Ygn k∧0≤Yhg k:=by
 unfold Ygn Yd0
 rcases Yc0 k with rfl | rfl | rfl | rfl | rfl | rfl | ⟨h,hv⟩
 case _ | _ | _ | _ | _ | _=> decide +kernel
 unfold Yhg Yjg Y1f
 rw [hv]
 decide
theorem Ywx {ct:CelT} {l:List UInt8} {p q:Nat} {S:ShP} (hct:Yhl ct (Yac l)) (h:wtk ct l p=(S,q,0)):
  p%8=0∧q%8=0∧p<q∧(S.zeros≤262144→Yjw S=0)∧0≤S.zeros∧Seg (Yac l) p q (Ypw p S):=by
 unfold wtk at h
 obtain ⟨⟨hd,z0,f⟩,hh⟩:∃r,shk l p=r:=⟨_,rfl⟩
 rw [hh] at h
 simp only at h
 by_cases hf:f=0
 case neg=>
  rw [if_pos hf] at h
  injection h with _ h
  injection h with _ h
  exact absurd h hf
 rw [if_neg (fun x=> x hf)] at h
 subst hf
 obtain ⟨⟨rs,z,g⟩,hr⟩:∃r,Yhd ct l hd.inter hd.fmt (Yhg hd.fmt).toNat 0 z0 [] 0=r:=⟨_,rfl⟩
 rw [hr] at h
 simp only at h
 by_cases hg:g=0
 case neg=>
  rw [if_pos hg] at h
  injection h with _ h
  injection h with _ h
  exact absurd h hg
 rw [if_neg (fun x=> x hg)] at h
 subst hg
 by_cases h0:Ya1 l z (gap z)=0
 case neg=>
  rw [if_pos h0] at h
  injection h with _ h
  injection h with _ h
  cases h
 rw [if_neg (fun x=> x h0)] at h
 injection h with e1 h
 injection h with e2 _
 obtain ⟨p8,hm,s0⟩:=Ywf hh
 obtain ⟨k1,k2⟩:=Yvn hd.fmt
 have hz0:z0≤8*l.length:=by have:=s0.2.1;rwa [Yah] at this
 obtain ⟨s1,n1,m1,v1⟩:=Yr8 hct k1 _ 0 z0 [] 0 rs z hz0 hr
 have hz:z≤8*l.length:=by have:=s1.2.1;rwa [Yah] at this
 have hgf:z+gap z≤8*l.length:=by unfold gap;omega
 have s2:=Yi0 (l:=l) (p:=z) (n:=gap z) hgf h0
 have s3:=Ys6 (l:=l) (p:=z+gap z) hgf
 have l0:=s0.len
 have l1:=s1.len
 have hl22:(Ydl 0++Ye0 hd).length=50+9*hd.supp.length:=by rw [List.length_append,Ygt,Ypd];omega
 subst e1 e2
 refine ⟨p8,by unfold gap;omega,by omega,fun hzz=> ?_,by simp,?_⟩
 ·refine Ywe ?_ ?_
  ·unfold Yea
   simp only [Bool.and_eq_true,decide_eq_true_iff]
   refine ⟨hm,⟨by simp,hzz⟩,?_,m1⟩
   rw [n1,Int.toNat_of_nonneg k2]
  ·exact v1
 ·unfold Ypw Yug Qak
  simp only [Int.toNat_natCast]
  rw [←l0,←l1]
  exact s0.app (s1.app (s2.app s3))
def Yb4 {α:Type} (E:List α×Nat×Int) (d:List α) (T:List α×Nat×Int):Prop:=(T.2.2≠0→E.2.2=T.2.2)∧(T.2.2=0→E=(d++T.1,T.2.1,0))
theorem Yb4.start {α:Type} (E:List α×Nat×Int):Yb4 E [] E:=⟨fun _=> rfl,fun h=> by obtain ⟨a,b,c⟩:=E;simp only at h;subst h;rfl⟩
theorem Yb4.bad {α:Type} {E T:List α×Nat×Int} {d:List α} {f:Int} (h:Yb4 E d T) (hf:T.2.2=f) (h0:f≠0):E.2.2=f:=by
 subst hf
 exact h.1 h0
theorem Yb4.done {α:Type} {E:List α×Nat×Int} {d:List α} {p:Nat} (h:Yb4 E d ([],p,0)):E=(d,p,0):=by
 have:=h.2 rfl
 rwa [List.append_nil] at this
theorem Yb4.step {α:Type} {E T T':List α×Nat×Int} {d:List α} {a:α} (h:Yb4 E d T) (e:T=(if T'.2.2≠0 then ([],T.2.1,T'.2.2) else (a::T'.1,T'.2.1,0))):Yb4 E (d ++ [a]) T':=by
 by_cases h0:T'.2.2=0
 ·rw [if_neg (fun x=> x h0)] at e
  refine ⟨fun h1=> absurd h0 h1,fun _=> ?_⟩
  have:=h.2 (by rw [e])
  rw [this,e,List.append_assoc]
  rfl
 ·rw [if_pos h0] at e
  exact ⟨fun _=> h.bad (by rw [e]) h0,fun h1=> absurd h1 h0⟩
section
variable {ct:CelT} {l:List UInt8} {inter:Bool} {k first:Int} {n p:Nat} {vs:List (Int×Int)}
theorem Y0k {E:List Cel×Nat×Int} {d:List Cel} {c:Cel} {q:Nat} {f:Int} (h:Yb4 E d (Ycs ct l inter k first (n+1) p vs)) (hc:ct inter (Yac l) (Yd7 vs (Yd0 k) first).1 (Yd7 vs (Yd0 k) first).2 p=(c,q,f)) (hf:f≠0):E.2.2=f:=by
 refine h.bad ?_ hf
 rw [Ycs,hc]
 simp only
 rw [if_pos hf]
theorem Y0l {E:List Cel×Nat×Int} {d:List Cel} {c:Cel} {q:Nat} (h:Yb4 E d (Ycs ct l inter k first (n+1) p vs)) (hc:ct inter (Yac l) (Yd7 vs (Yd0 k) first).1 (Yd7 vs (Yd0 k) first).2 p=(c,q,0)) (hv:Ycb k vs.length c=false):E.2.2=8:=by
 refine h.bad ?_ (by decide)
 rw [Ycs,hc]
 simp only
 rw [if_neg (fun x=> x rfl),hv,if_pos rfl]
theorem Yxd {E:List Cel×Nat×Int} {d:List Cel} {c:Cel} {q:Nat} (h:Yb4 E d (Ycs ct l inter k first (n+1) p vs)) (hc:ct inter (Yac l) (Yd7 vs (Yd0 k) first).1 (Yd7 vs (Yd0 k) first).2 p=(c,q,0)) (hv:Ycb k vs.length c=true):Yb4 E (d ++ [c]) (Ycs ct l inter k first n q (vs ++ [(c.mx,c.my)])):=by
 refine h.step ?_
 rw [Ycs,hc]
 simp only
 rw [if_neg (fun x=> x rfl),hv,if_neg (by decide)]
 obtain ⟨⟨cs,z,g⟩,hr⟩:∃r,Ycs ct l inter k first n q (vs ++ [(c.mx,c.my)])=r:=⟨_,rfl⟩
 rw [hr]
 by_cases hg:g=0
 ·subst hg
  rfl
 ·simp only
  rw [if_pos hg,if_pos hg]
theorem Y2y {i:Nat} {E:List RowP×Nat×Int} {d:List RowP} {hd:Bool} {id qu fs f:Int} {z:Nat} (h:Yb4 E d (Yhd ct l inter k (n+1) i p vs first)) (hh:Yh7 l k i p first=(hd,id,qu,z,fs,f)) (hf:f≠0):E.2.2=f:=by
 refine h.bad ?_ hf
 rw [Yhd,hh]
 simp only
 rw [if_pos hf]
theorem Y2x {i:Nat} {E:List RowP×Nat×Int} {d:List RowP} {hd:Bool} {id qu fs g:Int} {z q:Nat} {cs:List Cel} (h:Yb4 E d (Yhd ct l inter k (n+1) i p vs first)) (hh:Yh7 l k i p first=(hd,id,qu,z,fs,0)) (hc:Ycs ct l inter k fs (Ygn k).toNat z vs=(cs,q,g)) (hg:g≠0):E.2.2=g:=by
 refine h.bad ?_ hg
 rw [Yhd,hh]
 simp only
 rw [if_neg (fun x=> x rfl),hc]
 simp only
 rw [if_pos hg]
theorem Y2z {i:Nat} {E:List RowP×Nat×Int} {d:List RowP} {hd:Bool} {id qu fs:Int} {z q:Nat} {cs:List Cel} (h:Yb4 E d (Yhd ct l inter k (n+1) i p vs first)) (hh:Yh7 l k i p first=(hd,id,qu,z,fs,0)) (hc:Ycs ct l inter k fs (Ygn k).toNat z vs=(cs,q,0)):
  Yb4 E (d ++ [⟨hd,id,qu,cs⟩]) (Yhd ct l inter k n (i+1) q (vs++Yge cs) fs):=by
 refine h.step ?_
 rw [Yhd,hh]
 simp only
 rw [if_neg (fun x=> x rfl),hc]
 simp only
 rw [if_neg (fun x=> x rfl)]
 obtain ⟨⟨rs,y,e⟩,hr⟩:∃r,Yhd ct l inter k n (i+1) q (vs++Yge cs) fs=r:=⟨_,rfl⟩
 rw [hr]
 by_cases he:e=0
 ·subst he
  rfl
 ·simp only
  rw [if_pos he,if_pos he]
end
section
variable {ct:CelT} {l:List UInt8} {p q z:Nat} {h:Shd} {rs:List RowP} {f g:Int}
theorem Y69 (hh:shk l p=(h,q,f)) (hf:f≠0):wtk ct l p=(Y6p,p,f):=by
 unfold wtk
 rw [hh]
 simp only
 rw [if_pos hf]
theorem Y7a (hh:shk l p=(h,q,0)) (hr:(Yhd ct l h.inter h.fmt (Yhg h.fmt).toNat 0 q [] 0).2.2=g) (hg:g≠0):wtk ct l p=(Y6p,p,g):=by
 unfold wtk
 rw [hh]
 simp only
 rw [if_neg (fun x=> x rfl)]
 obtain ⟨⟨rs,z,e⟩,h2⟩:∃r,Yhd ct l h.inter h.fmt (Yhg h.fmt).toNat 0 q [] 0=r:=⟨_,rfl⟩
 rw [h2] at hr ⊢
 simp only at hr ⊢
 subst hr
 rw [if_pos hg]
theorem Y68 (hh:shk l p=(h,q,0)) (hr:Yhd ct l h.inter h.fmt (Yhg h.fmt).toNat 0 q [] 0=(rs,z,0)) (h0:Ya1 l z (gap z)≠0):wtk ct l p=(Y6p,p,5):=by
 unfold wtk
 rw [hh]
 simp only
 rw [if_neg (fun x=> x rfl),hr]
 simp only
 rw [if_neg (fun x=> x rfl),if_pos h0]
theorem Qay (hh:shk l p=(h,q,0)) (hr:Yhd ct l h.inter h.fmt (Yhg h.fmt).toNat 0 q [] 0=(rs,z,0)) (h0:Ya1 l z (gap z)=0):wtk ct l p=(⟨h,rs,(Y3t l (z+gap z):Nat)⟩,z+gap z+8*Y3t l (z+gap z),0):=by
 unfold wtk
 rw [hh]
 simp only
 rw [if_neg (fun x=> x rfl),hr]
 simp only
 rw [if_neg (fun x=> x rfl),if_neg (fun x=> x h0)]
end
theorem Y1n:∀(L:List UInt8),(∀i,i<(L.takeWhile (· == 48)).length→L[i]? = some 48)∧L[(L.takeWhile (· == 48)).length]?≠some 48
 | []=> ⟨fun i hi=> by simp at hi,by simp⟩
 | c::L=> by
  by_cases hc:c=48
  ·obtain ⟨h1,h2⟩:=Y1n L
   rw [List.takeWhile_cons_of_pos (by simpa using hc),List.length_cons]
   refine ⟨fun i hi=> ?_,by simpa using h2⟩
   match i,hi with
   | 0,_=> rw [hc];rfl
   | i+1,hi=> simpa using h1 i (by omega)
  ·rw [List.takeWhile_cons_of_neg (by simpa using hc)]
   refine ⟨fun i hi=> by simp at hi,?_⟩
   simpa using hc
theorem Ygm (l:List UInt8) (p:Nat):(∀i,i<Ya0 l p→(Yac l)[p+i]? = some 48)∧(Yac l)[p+Ya0 l p]?≠some 48:=by
 have h:=Y1n ((Yac l).drop p)
 unfold Ya0
 rw [if_neg (by omega),Int.toNat_natCast]
 refine ⟨fun i hi=> ?_,?_⟩
 ·have:=h.1 i hi
  rwa [List.getElem?_drop] at this
 ·have:=h.2
  rwa [List.getElem?_drop] at this
theorem Yiv {l:List UInt8} {p:Nat} (hp:p≤8*l.length):p+Ya0 l p≤8*l.length:=by
 rcases Nat.lt_or_ge (8*l.length) (p+Ya0 l p) with h | h
 ·have:=(Ygm l p).1 (8*l.length-p) (by omega)
  rw [List.getElem?_eq_none (by rw [Yah];omega)] at this
  cases this
 ·exact h
theorem Yiu {l:List UInt8} {p n:Nat} (h:p+n≤8*l.length):Ya1 l p n=0↔n≤Ya0 l p:=by
 rw [Yem l p n h]
 constructor
 ·intro h0
  rcases Nat.lt_or_ge (Ya0 l p) n with h1 | h1
  ·exact absurd (h0 _ h1) (Ygm l p).2
  ·exact h1
 ·exact fun h1 i hi=> (Ygm l p).1 i (by omega)
theorem Yry {l:List UInt8} {p n:Nat} (h:n≤Ya0 l p):Ya0 l ((p+n:Nat):Int)=Ya0 l p-n:=by
 obtain ⟨h1,h2⟩:=Ygm l p
 refine Yha (fun i hi=> ?_) ?_
 ·rw [Nat.add_assoc];exact h1 (n+i) (by omega)
 ·rw [show p+n+(Ya0 l p-n)=p+Ya0 l p by omega];exact h2
theorem Yrr {l:List UInt8} {p:Nat} (hp:p≤8*l.length):(Ybj l (p:Int)).2=0↔p+22≤8*l.length∧Ya0 l p=16:=by
 rcases Nat.lt_or_ge (8*l.length) (p+22) with h | h
 ·rw [Ygl hp h]
  constructor
  ·intro h;cases h
  ·omega
 ·rw [Yoz h]
  have e:=Yec l p 16 6 (by omega)
  have e2:=Yec l p 17 5 (by omega)
  have e3:=Yec l p 16 1 (by omega)
  have l5:=Ybv l (p+17) 5
  have l1:=Ybv l (p+16) 1
  have g16:=Yiu (l:=l) (p:=p) (n:=16) (by omega)
  have g17:=Yiu (l:=l) (p:=p) (n:=17) (by omega)
  simp only [Nat.reduceAdd,Nat.reducePow] at e e2 e3 l5 l1
  constructor
  ·intro h1
   by_cases ht:Ya1 l p 22 / 32=1
   ·have h17:Ya1 l p 17=1:=by omega
    have h16:Ya1 l p 16=0:=by omega
    have:=g16.1 h16
    have:=fun h=> g17.2 h
    refine ⟨h,?_⟩
    omega
   ·rw [if_neg ht] at h1;cases h1
  ·rintro ⟨_,h1⟩
   have h16:Ya1 l p 16=0:=g16.2 (by omega)
   have h17:Ya1 l p 17≠0:=fun h0=> by have:=g17.1 h0;omega
   rw [if_pos (by omega)]
def Y7p (n left:Nat):Nat:=if n=left then n / 8 else if n%8=0∧16≤n then (n-16) / 8 else 0
theorem Ynx (l:List UInt8):∀(m p:Nat),p≤8*l.length→p%8=0→8*l.length-p≤8*m→
  Y7b l m p=if Ya0 l p=8*l.length-p then some (Ya0 l p / 8) else if Ya0 l p%8=0∧16≤Ya0 l p then some ((Ya0 l p-16) / 8) else none
 | 0,p,hp,h8,hm=> by
  have hn:=Yiv hp
  rw [Y7b,if_pos (.inr (by omega)),if_pos (by omega)]
  rw [show Ya0 l p=0 by omega]
 | m+1,p,hp,h8,hm=> by
  have hn:=Yiv hp
  have hk:=Yrr hp
  rw [Y7b]
  by_cases h1:(Ybj l (p:Int)).2=0∨p=8*l.length
  ·rw [if_pos h1]
   rcases h1 with h1 | h1
   ·obtain ⟨a,b⟩:=hk.1 h1
    rw [b,if_neg (by omega),if_pos (by omega)]
   ·rw [show Ya0 l p=0 by omega,if_pos (by omega)]
  ·rw [if_neg h1]
   have h2:¬ (p+22≤8*l.length∧Ya0 l p=16):=fun h=> h1 (.inl (hk.2 h))
   have h3:p+8≤8*l.length:=by
    have:p≠8*l.length:=fun h=> h1 (.inr h)
    omega
   have hg:=Yiu h3
   by_cases h4:Ya1 l p 8=0
   ·rw [if_pos ⟨h3,h4⟩]
    have h5:=hg.1 h4
    rw [Ynx l m (p+8) h3 (by omega) (by omega),Yry h5]
    by_cases h6:Ya0 l p=8*l.length-p
    ·rw [if_pos h6,if_pos (by omega),Option.map_some]
     congr 1
     omega
    ·rw [if_neg h6,if_neg (by omega)]
     by_cases h7:Ya0 l p%8=0∧16≤Ya0 l p
     ·rw [if_pos h7,if_pos (by omega),Option.map_some]
      congr 1
      omega
     ·rw [if_neg h7,if_neg (by omega)]
      rfl
   ·rw [if_neg (fun h=> h4 h.2)]
    have h5:Ya0 l p<8:=by
     rcases Nat.lt_or_ge (Ya0 l p) 8 with h | h
     ·exact h
     ·exact absurd (hg.2 h) h4
    rw [if_neg (by omega),if_neg (by omega)]
theorem Yzg {l:List UInt8} {p:Nat} (hp:p≤8*l.length) (h8:p%8=0):Y3t l p=Y7p (Ya0 l p) (8*l.length-p):=by
 unfold Y3t Y7p
 rw [Ynx l l.length p hp h8 (by omega)]
 split
 ·rfl
 ·split <;> rfl
end Go.Proofs.YtpgdngijmihafaaGreatDoor