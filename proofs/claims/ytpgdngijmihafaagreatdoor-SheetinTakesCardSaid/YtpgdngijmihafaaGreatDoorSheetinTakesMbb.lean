/- Texts that SheetinTakes's proof stands on, part 28 of 52. No condition of its own. -/
import Derived.Test.YtpgdngijmihafaaGreatDoorSheetinTakesMf
import Derived.Test.YtpgdngijmihafaaGreatDoorSheetinTakesMk
import Derived.Test.YtpgdngijmihafaaGreatDoorSheetinTakesMl
import Derived.Test.YtpgdngijmihafaaGreatDoorSheetinTakesMo
import Derived.Test.YtpgdngijmihafaaGreatDoorSheetinTakesMy
import Derived.Test.YtpgdngijmihafaaGreatDoorSheetinTakesMba
import Derived.RegionTactic
namespace Go.Proofs.YtpgdngijmihafaaGreatDoor
open Go.RowKit
def Yvy {α:Type} (f:Nat→α→Bool):Nat→List α→Bool
 | _,[]=> true
 | i,a::l=> f i a&&Yvy f (i+1) l
theorem Ymy {α:Type} {f:Nat→α→Bool}:∀(i:Nat) (l m:List α),Yvy f i (l++m)=(Yvy f i l&&Yvy f (i+l.length) m)
 | i,[],m=> by simp [Yvy]
 | i,b::l,m=> by
  rw [List.cons_append,Yvy,Ymy (i+1) l m,Yvy,Bool.and_assoc,List.length_cons,show i+(l.length+1)=i+1+l.length by omega]
def Y3m (inter:Bool) (n:Int) (i:Nat) (r:RowP):Bool:=
 decide ((r.cels.length:Int)=n)&&((if r.head then decide (i≠0∧0≤r.id∧r.id≤3∧1≤r.quant∧r.quant≤31) else decide (r.id=0∧r.quant=0))&&r.cels.all (Yk3 inter))
def Ylo (k:Int):Int:=Yej k*Yf6 k
def Y18 (S:ShP):Bool:=
 Yw5 S.hd&&(decide (0≤S.zeros∧S.zeros≤262144)&&(decide ((S.rows.length:Int)=Yfo S.hd.fmt)&&Yvy (Y3m S.hd.inter (Ylo S.hd.fmt)) 0 S.rows))
def Yzh (S:ShP):List Cel:=S.rows.flatMap (·.cels)
def Ydw (k:Int) (n:Nat) (c:Cel):Bool:=Yak c.kind || Y02 k (n:Int) c.mx c.my
def Qas (S:ShP):Int:=if Y18 S=true then (if Yvy (Ydw S.hd.fmt) 0 (Yzh S)=true then 0 else 8) else 12
theorem Y51 {S:ShP} (h:Y18 S=true) (h1:Yvy (Ydw S.hd.fmt) 0 (Yzh S)=true):Qas S=0:=by unfold Qas;rw [if_pos h,if_pos h1]
def Y7w (a b:Shd):Bool:=a.ref==b.ref&&(a.flags==b.flags&&(a.fmt==b.fmt&&(a.inter==b.inter&&(a.quant==b.quant&&decide (a.supp=b.supp)))))
def rwB (a b:RowP):Bool:=(a.head==b.head&&(a.id==b.id&&a.quant==b.quant))&&(decide (a.cels.length=b.cels.length)&&(a.cels.zip b.cels).all fun p=> Yyr p.1 p.2)
def shB (a b:ShP):Bool:=Y7w a.hd b.hd&&(a.zeros==b.zeros&&(decide (a.rows.length=b.rows.length)&&(a.rows.zip b.rows).all fun p=> rwB p.1 p.2))
theorem Yp1 {α:Type} {f:α→α→Bool} (hf:∀a,f a a=true):∀l:List α,((l.zip l).all fun p=> f p.1 p.2)=true
 | []=> rfl
 | a::l=> by rw [List.zip_cons_cons,List.all_cons,hf,Yp1 hf l];rfl
theorem Y37 (a:Shd):Y7w a a=true:=by simp [Y7w]
theorem Y63 (a:RowP):rwB a a=true:=by simp [rwB,Yp1 Y1s]
theorem Y5w (a:ShP):shB a a=true:=by simp [shB,Y37,Yp1 Y63]
theorem Yxu {α:Type} {f:α→α→Bool} {l m:List α} {j:Nat} (hl:j<l.length) (hm:j<m.length) (h:(((l.take j).zip (m.take j)).all fun p=> f p.1 p.2)=true) (h1:f l[j] m[j]=true):(((l.take (j+1)).zip (m.take (j+1))).all fun p=> f p.1 p.2)=true:=by
 rw [List.take_succ_eq_append_getElem hl,List.take_succ_eq_append_getElem hm,List.zip_append (by simp;omega),List.all_append,h]
 simp [h1]
theorem Yx0 {α:Type} {f:α→α→Bool} {l m:List α} {j:Nat} (hl:j<l.length) (hm:j<m.length) (h1:f l[j] m[j]=false):((l.zip m).all fun p=> f p.1 p.2)=false:=by
 rw [List.all_eq_false]
 refine ⟨(l[j],m[j]),?_,by rw [h1];decide⟩
 have hz:j<(l.zip m).length:=by rw [List.length_zip];omega
 have e:(l.zip m)[j]=(l[j],m[j]):=List.getElem_zip
 rw [←e]
 exact List.getElem_mem hz
theorem Yta (n:Nat):Ybg 0 n=List.replicate n 48:=by
 have h:=Ygv (List.replicate n 48) (Ypy n)
 rw [Y2q,List.length_replicate] at h
 exact h
theorem Yh3 {l:List UInt8} {p n:Nat} (h:p+n≤8*l.length) (h0:Ya0 l p n=0):Seg (Yac l) p (p+n) (List.replicate n 48):=by
 have:=Yb3 (l:=l) h
 rw [h0,Yta] at this
 exact this
theorem Yxl {l:List UInt8} {p n z:Nat} {id q:Int} (h:hdk l p (n:Int)=(id,q,z,0)):(0≤id∧id≤3∧1≤q∧q≤31)∧Seg (Yac l) p z (Ywn p n id.toNat q.toNat):=by
 by_cases h1:(Ya4 l p).2=false
 ·rw [Yqk h1] at h;cases h
 have h1':(Ya4 l p).2=true:=by simpa using h1
 by_cases h2:(Ya4 l p).1=(n:Int)
 case neg=> rw [Ynw h1' h2] at h;cases h
 by_cases h3:8*l.length<p+gap p+22+7
 ·rw [Ynk h1' h2 h3] at h;cases h
 by_cases h4:Ya0 l (p+gap p+22+2) 5=0
 ·rw [Ymv h1' h2 (by omega) h4] at h;cases h
 rw [Y4q h1' h2 (by omega) h4] at h
 injection h with e1 h
 injection h with e2 h
 injection h with e3 _
 have hg:=Yxp h1'
 have l2:=Ybr l (p+gap p+22) 2
 have l5:=Ybr l (p+gap p+22+2) 5
 have l2':Ya0 l (p+gap p+22) 2<4:=l2
 have l5':Ya0 l (p+gap p+22+2) 5<32:=l5
 have hm:Ya0 l (p+gap p) 22=32+n:=by
  rw [Yqn (by omega) hg,Ymd (by omega)] at h1' h2
  by_cases ht:Ya0 l (p+gap p) 22 / 32=1
  ·rw [if_pos ht] at h2
   simp only at h2
   omega
  ·rw [if_neg ht] at h1'
   exact absurd h1' (by decide)
 have s0:=Yh3 (l:=l) (p:=p) (n:=gap p) (by omega) hg
 have s1:=Yb3 (l:=l) (p:=p+gap p) (n:=22) (by omega)
 have s2:=Yb3 (l:=l) (p:=p+gap p+22) (n:=2) (by omega)
 have s3:=Yb3 (l:=l) (p:=p+gap p+22+2) (n:=5) (by omega)
 rw [hm] at s1
 subst e1 e2 e3
 refine ⟨by omega,?_⟩
 unfold Ywn Y1x
 rw [Int.toNat_natCast,Int.toNat_natCast,List.append_assoc]
 exact s0.app (s1.app (s2.app s3))
def CelT:=Bool→List UInt8→Int→Int→Nat→Cel×Nat×Int
def Yi1 (ct:CelT) (S:List UInt8):Prop:=∀inter x y p c q,p≤S.length→ct inter S x y p=(c,q,0)→Seg S p q (Yt9 inter x y c)∧Yk3 inter c=true
def Yf0 (cs:List Cel):List (Int×Int):=cs.map fun c=> (c.mx,c.my)
def Yei (vs:List (Int×Int)) (across first:Int):Int×Int:=Y6j (fun i=> vs.getD i (0,0)) vs.length across first
def Yct (ct:CelT) (l:List UInt8) (inter:Bool) (k first:Int):Nat→Nat→List (Int×Int)→List Cel×Nat×Int
 | 0,p,_=> ([],p,0)
 | n+1,p,vs=>
  match ct inter (Yac l) (Yei vs (Yej k) first).1 (Yei vs (Yej k) first).2 p with
  | (c,q,f)=> if f≠0 then ([],p,f) else if Ydw k vs.length c=false then ([],p,8) else
   match Yct ct l inter k first n q (vs ++ [(c.mx,c.my)]) with
   | (cs,z,g)=> if g≠0 then ([],p,g) else (c::cs,z,0)
def Yif (inter:Bool) (k first:Int):List (Int×Int)→List Cel→List UInt8
 | _,[]=> []
 | vs,c::cs=> Yt9 inter (Yei vs (Yej k) first).1 (Yei vs (Yej k) first).2 c++Yif inter k first (vs ++ [(c.mx,c.my)]) cs
theorem Ypb {ct:CelT} {l:List UInt8} {inter:Bool} {k first:Int} (hct:Yi1 ct (Yac l)):∀(n p:Nat) (vs:List (Int×Int)) (cs:List Cel) (q:Nat),p≤8*l.length→Yct ct l inter k first n p vs=(cs,q,0)→
  Seg (Yac l) p q (Yif inter k first vs cs)∧cs.length=n∧cs.all (Yk3 inter)=true∧Yvy (Ydw k) vs.length cs=true
 | 0,p,vs,cs,q,hp,h=> by
  rw [Yct] at h
  injection h with e1 h
  injection h with e2 _
  subst e1 e2
  exact ⟨Seg.nil (by rw [Yah];exact hp),rfl,rfl,rfl⟩
 | n+1,p,vs,cs,q,hp,h=> by
  rw [Yct] at h
  obtain ⟨⟨c,z,f⟩,hc⟩:∃r,ct inter (Yac l) (Yei vs (Yej k) first).1 (Yei vs (Yej k) first).2 p=r:=⟨_,rfl⟩
  rw [hc] at h
  simp only at h
  by_cases hf:f=0
  case neg=>
   rw [if_pos hf] at h
   injection h with _ h
   injection h with _ h
   exact absurd h hf
  rw [if_neg (fun x=> x hf)] at h
  subst hf
  cases hv:Ydw k vs.length c with
  | false=> rw [hv,if_pos rfl] at h;cases h
  | true=>
   rw [hv,if_neg (by decide)] at h
   obtain ⟨⟨cs',y,g⟩,hr⟩:∃r,Yct ct l inter k first n z (vs ++ [(c.mx,c.my)])=r:=⟨_,rfl⟩
   rw [hr] at h
   simp only at h
   by_cases hg:g=0
   case neg=>
    rw [if_pos hg] at h
    injection h with _ h
    injection h with _ h
    exact absurd h hg
   rw [if_neg (fun x=> x hg)] at h
   subst hg
   injection h with e1 h
   injection h with e2 _
   subst e1 e2
   obtain ⟨s1,m1⟩:=hct inter _ _ p c z (by rw [Yah];exact hp) hc
   have hz:z≤8*l.length:=by have:=s1.2.1;rwa [Yah] at this
   obtain ⟨s2,m2,m3,m4⟩:=Ypb hct n z (vs ++ [(c.mx,c.my)]) cs' y hz hr
   rw [List.length_append] at m4
   refine ⟨s1.app s2,by rw [List.length_cons,m2],by rw [List.all_cons,m1,m3];rfl,?_⟩
   rw [Yvy,hv]
   exact m4
def Y3e (l:List UInt8) (i p:Nat):Bool:=decide (0<i)&&((Ya4 l p).2&&((Ya4 l p).1 != 0&&(Ya4 l p).1 != 31))
def Ygk (l:List UInt8) (k:Int) (i p:Nat) (first:Int):Bool×Int×Int×Nat×Int×Int:=
 if Y3e l i p=true then (true,(hdk l p i).1,(hdk l p i).2.1,(hdk l p i).2.2.1,(i:Int)*Yf6 k,(hdk l p i).2.2.2) else (false,0,0,p,first,0)
def Ygu (ct:CelT) (l:List UInt8) (inter:Bool) (k:Int):Nat→Nat→Nat→List (Int×Int)→Int→List RowP×Nat×Int
 | 0,_,p,_,_=> ([],p,0)
 | n+1,i,p,vs,first=>
  match Ygk l k i p first with
  | (h,id,qu,z,fs,f)=> if f≠0 then ([],p,f) else
   match Yct ct l inter k fs (Ylo k).toNat z vs with
   | (cs,q,g)=> if g≠0 then ([],p,g) else
    match Ygu ct l inter k n (i+1) q (vs++Yf0 cs) fs with
    | (rs,y,e)=> if e≠0 then ([],p,e) else (⟨h,id,qu,cs⟩::rs,y,0)
def Y0v (i p:Nat) (r:RowP):List UInt8:=if r.head then Ywn p i r.id.toNat r.quant.toNat else []
def Y9e (k:Int) (i:Nat) (first:Int) (r:RowP):Int:=if r.head then (i:Int)*Yf6 k else first
def Ymx (inter:Bool) (k:Int):Nat→Nat→List (Int×Int)→Int→List RowP→List UInt8
 | _,_,_,_,[]=> []
 | i,p,vs,first,r::rs=> Y0v i p r++(Yif inter k (Y9e k i first r) vs r.cels++Ymx inter k (i+1) (p+(Y0v i p r).length+(Yif inter k (Y9e k i first r) vs r.cels).length) (vs++Yf0 r.cels) (Y9e k i first r) rs)
theorem Y0c {l:List UInt8} {k:Int} {i p z:Nat} {first id qu fs:Int} {h:Bool} (hp:p≤8*l.length) (e:Ygk l k i p first=(h,id,qu,z,fs,0)) (cs:List Cel):
  Seg (Yac l) p z (Y0v i p ⟨h,id,qu,cs⟩)∧fs=Y9e k i first ⟨h,id,qu,cs⟩∧(if h then decide (i≠0∧0≤id∧id≤3∧1≤qu∧qu≤31) else decide (id=0∧qu=0))=true:=by
 unfold Ygk at e
 cases hh:Y3e l i p with
 | true=>
  rw [hh,if_pos rfl] at e
  injection e with e1 e
  injection e with e2 e
  injection e with e3 e
  injection e with e4 e
  injection e with e5 e6
  subst e1 e5
  obtain ⟨m,s⟩:=Yxl (l:=l) (p:=p) (n:=i) (id:=id) (q:=qu) (z:=z) (by rw [←e2,←e3,←e4,←e6])
  refine ⟨s,rfl,?_⟩
  unfold Y3e at hh
  rw [Bool.and_eq_true,decide_eq_true_iff] at hh
  rw [if_pos rfl,decide_eq_true_iff]
  exact ⟨by omega,m⟩
 | false=>
  rw [hh,if_neg (by decide)] at e
  injection e with e1 e
  injection e with e2 e
  injection e with e3 e
  injection e with e4 e
  injection e with e5 _
  subst e1 e2 e3 e4 e5
  exact ⟨Seg.nil (by rw [Yah];exact hp),rfl,rfl⟩
theorem Yse {ct:CelT} {l:List UInt8} {inter:Bool} {k:Int} (hct:Yi1 ct (Yac l)) (hk:0≤Ylo k):∀(n i p:Nat) (vs:List (Int×Int)) (first:Int) (rs:List RowP) (q:Nat),p≤8*l.length→Ygu ct l inter k n i p vs first=(rs,q,0)→
  Seg (Yac l) p q (Ymx inter k i p vs first rs)∧rs.length=n∧Yvy (Y3m inter (Ylo k)) i rs=true∧Yvy (Ydw k) vs.length (rs.flatMap (·.cels))=true
 | 0,i,p,vs,first,rs,q,hp,h=> by
  rw [Ygu] at h
  injection h with e1 h
  injection h with e2 _
  subst e1 e2
  exact ⟨Seg.nil (by rw [Yah];exact hp),rfl,rfl,rfl⟩
 | n+1,i,p,vs,first,rs,q,hp,h=> by
  rw [Ygu] at h
  obtain ⟨⟨hd,id,qu,z,fs,f⟩,hh⟩:∃r,Ygk l k i p first=r:=⟨_,rfl⟩
  rw [hh] at h
  simp only at h
  by_cases hf:f=0
  case neg=>
   rw [if_pos hf] at h
   injection h with _ h
   injection h with _ h
   exact absurd h hf
  rw [if_neg (fun x=> x hf)] at h
  subst hf
  obtain ⟨⟨cs,y,g⟩,hc⟩:∃r,Yct ct l inter k fs (Ylo k).toNat z vs=r:=⟨_,rfl⟩
  rw [hc] at h
  simp only at h
  by_cases hg:g=0
  case neg=>
   rw [if_pos hg] at h
   injection h with _ h
   injection h with _ h
   exact absurd h hg
  rw [if_neg (fun x=> x hg)] at h
  subst hg
  obtain ⟨⟨rs',q',e⟩,hr⟩:∃r,Ygu ct l inter k n (i+1) y (vs++Yf0 cs) fs=r:=⟨_,rfl⟩
  rw [hr] at h
  simp only at h
  by_cases he:e=0
  case neg=>
   rw [if_pos he] at h
   injection h with _ h
   injection h with _ h
   exact absurd h he
  rw [if_neg (fun x=> x he)] at h
  subst he
  injection h with e1 h
  injection h with e2 _
  subst e1 e2
  obtain ⟨s1,f1,m1⟩:=Y0c hp hh cs
  have hz:z≤8*l.length:=by have:=s1.2.1;rwa [Yah] at this
  obtain ⟨s2,n2,m2,v2⟩:=Ypb hct _ z vs cs y hz hc
  have hy:y≤8*l.length:=by have:=s2.2.1;rwa [Yah] at this
  obtain ⟨s3,n3,m3,v3⟩:=Yse hct hk n (i+1) y (vs++Yf0 cs) fs rs' q' hy hr
  have ey:y=p+(Y0v i p ⟨hd,id,qu,cs⟩).length+(Yif inter k fs vs cs).length:=by have:=s1.len;have:=s2.len;omega
  refine ⟨?_,by rw [List.length_cons,n3],?_,?_⟩
  ·rw [Ymx]
   show Seg (Yac l) p q' (Y0v i p ⟨hd,id,qu,cs⟩++(Yif inter k (Y9e k i first ⟨hd,id,qu,cs⟩) vs cs++Ymx inter k (i+1) (p+(Y0v i p ⟨hd,id,qu,cs⟩).length+(Yif inter k (Y9e k i first ⟨hd,id,qu,cs⟩) vs cs).length) (vs++Yf0 cs) (Y9e k i first ⟨hd,id,qu,cs⟩) rs'))
   rw [←f1,←ey]
   exact s1.app (s2.app s3)
  ·rw [Yvy,m3,Bool.and_true]
   unfold Y3m
   simp only
   rw [n2,Int.toNat_of_nonneg hk,m1,m2]
   simp
  ·rw [List.flatMap_cons,Ymy,v2,Bool.true_and]
   simp only
   rw [List.length_append] at v3
   unfold Yf0 at v3
   rw [List.length_map] at v3
   exact v3
def Yn7 (l:List UInt8):Nat→Nat→Option Nat
 | 0,p=> if (Ya2 l p).2=0∨p=8*l.length then some 0 else none
 | n+1,p=> if (Ya2 l p).2=0∨p=8*l.length then some 0 else if p+8≤8*l.length∧Ya0 l p 8=0 then (Yn7 l n (p+8)).map (· + 1) else none
def Ys5 (l:List UInt8) (p:Nat):Nat:=(Yn7 l l.length p).getD 0
theorem Ytp {l:List UInt8}:∀(n p z:Nat),p≤8*l.length→Yn7 l n p=some z→Seg (Yac l) p (p+8*z) (List.replicate (8*z) 48)
 | 0,p,z,hp,h=> by
  rw [Yn7] at h
  split at h
  ·injection h with h
   subst h
   exact Seg.nil (by rw [Yah];exact hp)
  ·cases h
 | n+1,p,z,hp,h=> by
  rw [Yn7] at h
  split at h
  ·injection h with h
   subst h
   exact Seg.nil (by rw [Yah];exact hp)
  ·split at h
   ·rename_i h8
    obtain ⟨y,hy,rfl⟩:=Option.map_eq_some_iff.1 h
    have s1:=Yh3 (l:=l) (p:=p) (n:=8) h8.1 h8.2
    have s2:=Ytp n (p+8) y h8.1 hy
    have:=s1.app s2
    rw [List.replicate_append_replicate] at this
    rw [show p+8*(y+1)=p+8+8*y by omega,show 8*(y+1)=8+8*y by omega]
    exact this
   ·cases h
theorem Yma {l:List UInt8} {p:Nat} (hp:p≤8*l.length):Seg (Yac l) p (p+8*Ys5 l p) (List.replicate (8*Ys5 l p) 48):=by
 unfold Ys5
 cases h:Yn7 l l.length p with
 | none=> exact Seg.nil (by rw [Yah];exact hp)
 | some z=> exact Ytp _ p z hp h
def Ywq:ShP:=⟨Yl8,[],0⟩
def wtk (ct:CelT) (l:List UInt8) (p:Nat):ShP×Nat×Int:=
 match shk l p with
 | (h,q,f)=> if f≠0 then (Ywq,p,f) else
  match Ygu ct l h.inter h.fmt (Yfo h.fmt).toNat 0 q [] 0 with
  | (rs,z,g)=> if g≠0 then (Ywq,p,g) else if Ya0 l z (gap z)≠0 then (Ywq,p,5) else (⟨h,rs,(Ys5 l (z+gap z):Nat)⟩,z+gap z+8*Ys5 l (z+gap z),0)
def Yuv (p:Nat) (S:ShP):List UInt8:=Ymx S.hd.inter S.hd.fmt 0 p [] 0 S.rows
def Qbk (p:Nat):List UInt8:=List.replicate (gap p) 48
def Yrj (p:Nat) (S:ShP):List UInt8:=
 (Yhf 0++Yjk S.hd)++(Yuv (p+(Yhf 0++Yjk S.hd).length) S++(Qbk (p+(Yhf 0++Yjk S.hd).length+(Yuv (p+(Yhf 0++Yjk S.hd).length) S).length)++List.replicate (8*S.zeros.toNat) 48))
theorem Ypq (k:Int):0≤Ylo k∧0≤Yfo k:=by
 unfold Ylo Yej
 rcases Yc8 k with rfl | rfl | rfl | rfl | rfl | rfl | ⟨h,hv⟩
 case _ | _ | _ | _ | _ | _=> decide +kernel
 unfold Yfo Yf6 Yix
 rw [hv]
 decide
theorem Yyn {ct:CelT} {l:List UInt8} {p q:Nat} {S:ShP} (hct:Yi1 ct (Yac l)) (h:wtk ct l p=(S,q,0)):
  p%8=0∧q%8=0∧p<q∧(S.zeros≤262144→Qas S=0)∧0≤S.zeros∧Seg (Yac l) p q (Yrj p S):=by
 unfold wtk at h
 obtain ⟨⟨hd,z0,f⟩,hh⟩:∃r,shk l p=r:=⟨_,rfl⟩
 rw [hh] at h
 simp only at h
 by_cases hf:f=0
 case neg=>
  rw [if_pos hf] at h
  injection h with _ h
  injection h with _ h
  exact absurd h hf
 rw [if_neg (fun x=> x hf)] at h
 subst hf
 obtain ⟨⟨rs,z,g⟩,hr⟩:∃r,Ygu ct l hd.inter hd.fmt (Yfo hd.fmt).toNat 0 z0 [] 0=r:=⟨_,rfl⟩
 rw [hr] at h
 simp only at h
 by_cases hg:g=0
 case neg=>
  rw [if_pos hg] at h
  injection h with _ h
  injection h with _ h
  exact absurd h hg
 rw [if_neg (fun x=> x hg)] at h
 subst hg
 by_cases h0:Ya0 l z (gap z)=0
 case neg=>
  rw [if_pos h0] at h
  injection h with _ h
  injection h with _ h
  cases h
 rw [if_neg (fun x=> x h0)] at h
 injection h with e1 h
 injection h with e2 _
 obtain ⟨p8,hm,s0⟩:=Ylg hh
 obtain ⟨k1,k2⟩:=Ypq hd.fmt
 have hz0:z0≤8*l.length:=by have:=s0.2.1;rwa [Yah] at this
 obtain ⟨s1,n1,m1,v1⟩:=Yse hct k1 _ 0 z0 [] 0 rs z hz0 hr
 have hz:z≤8*l.length:=by have:=s1.2.1;rwa [Yah] at this
 have hgf:z+gap z≤8*l.length:=by unfold gap;omega
 have s2:=Yh3 (l:=l) (p:=z) (n:=gap z) hgf h0
 have s3:=Yma (l:=l) (p:=z+gap z) hgf
 have l0:=s0.len
 have l1:=s1.len
 have hl22:(Yhf 0++Yjk hd).length=50+9*hd.supp.length:=by rw [List.length_append,Yn9,Yp5];omega
 subst e1 e2
 refine ⟨p8,by unfold gap;omega,by omega,fun hzz=> ?_,by simp,?_⟩
 ·refine Y51 ?_ ?_
  ·unfold Y18
   simp only [Bool.and_eq_true,decide_eq_true_iff]
   refine ⟨hm,⟨by simp,hzz⟩,?_,m1⟩
   rw [n1,Int.toNat_of_nonneg k2]
  ·exact v1
 ·unfold Yrj Yuv Qbk
  simp only [Int.toNat_natCast]
  rw [←l0,←l1]
  exact s0.app (s1.app (s2.app s3))
def Ybo {α:Type} (E:List α×Nat×Int) (d:List α) (T:List α×Nat×Int):Prop:=(T.2.2≠0→E.2.2=T.2.2)∧(T.2.2=0→E=(d++T.1,T.2.1,0))
theorem Ybo.start {α:Type} (E:List α×Nat×Int):Ybo E [] E:=⟨fun _=> rfl,fun h=> by obtain ⟨a,b,c⟩:=E;simp only at h;subst h;rfl⟩
theorem Ybo.bad {α:Type} {E T:List α×Nat×Int} {d:List α} {f:Int} (h:Ybo E d T) (hf:T.2.2=f) (h0:f≠0):E.2.2=f:=by
 subst hf
 exact h.1 h0
theorem Ybo.done {α:Type} {E:List α×Nat×Int} {d:List α} {p:Nat} (h:Ybo E d ([],p,0)):E=(d,p,0):=by
 have:=h.2 rfl
 rwa [List.append_nil] at this
theorem Ybo.step {α:Type} {E T T':List α×Nat×Int} {d:List α} {a:α} (h:Ybo E d T) (e:T=(if T'.2.2≠0 then ([],T.2.1,T'.2.2) else (a::T'.1,T'.2.1,0))):Ybo E (d ++ [a]) T':=by
 by_cases h0:T'.2.2=0
 ·rw [if_neg (fun x=> x h0)] at e
  refine ⟨fun h1=> absurd h0 h1,fun _=> ?_⟩
  have:=h.2 (by rw [e])
  rw [this,e,List.append_assoc]
  rfl
 ·rw [if_pos h0] at e
  exact ⟨fun _=> h.bad (by rw [e]) h0,fun h1=> absurd h1 h0⟩
section
variable {ct:CelT} {l:List UInt8} {inter:Bool} {k first:Int} {n p:Nat} {vs:List (Int×Int)}
theorem Ys2 {E:List Cel×Nat×Int} {d:List Cel} {c:Cel} {q:Nat} {f:Int} (h:Ybo E d (Yct ct l inter k first (n+1) p vs)) (hc:ct inter (Yac l) (Yei vs (Yej k) first).1 (Yei vs (Yej k) first).2 p=(c,q,f)) (hf:f≠0):E.2.2=f:=by
 refine h.bad ?_ hf
 rw [Yct,hc]
 simp only
 rw [if_pos hf]
theorem Ysr {E:List Cel×Nat×Int} {d:List Cel} {c:Cel} {q:Nat} (h:Ybo E d (Yct ct l inter k first (n+1) p vs)) (hc:ct inter (Yac l) (Yei vs (Yej k) first).1 (Yei vs (Yej k) first).2 p=(c,q,0)) (hv:Ydw k vs.length c=false):E.2.2=8:=by
 refine h.bad ?_ (by decide)
 rw [Yct,hc]
 simp only
 rw [if_neg (fun x=> x rfl),hv,if_pos rfl]
theorem Ypk {E:List Cel×Nat×Int} {d:List Cel} {c:Cel} {q:Nat} (h:Ybo E d (Yct ct l inter k first (n+1) p vs)) (hc:ct inter (Yac l) (Yei vs (Yej k) first).1 (Yei vs (Yej k) first).2 p=(c,q,0)) (hv:Ydw k vs.length c=true):Ybo E (d ++ [c]) (Yct ct l inter k first n q (vs ++ [(c.mx,c.my)])):=by
 refine h.step ?_
 rw [Yct,hc]
 simp only
 rw [if_neg (fun x=> x rfl),hv,if_neg (by decide)]
 obtain ⟨⟨cs,z,g⟩,hr⟩:∃r,Yct ct l inter k first n q (vs ++ [(c.mx,c.my)])=r:=⟨_,rfl⟩
 rw [hr]
 by_cases hg:g=0
 ·subst hg
  rfl
 ·simp only
  rw [if_pos hg,if_pos hg]
theorem Yuc {i:Nat} {E:List RowP×Nat×Int} {d:List RowP} {hd:Bool} {id qu fs f:Int} {z:Nat} (h:Ybo E d (Ygu ct l inter k (n+1) i p vs first)) (hh:Ygk l k i p first=(hd,id,qu,z,fs,f)) (hf:f≠0):E.2.2=f:=by
 refine h.bad ?_ hf
 rw [Ygu,hh]
 simp only
 rw [if_pos hf]
theorem Ytq {i:Nat} {E:List RowP×Nat×Int} {d:List RowP} {hd:Bool} {id qu fs g:Int} {z q:Nat} {cs:List Cel} (h:Ybo E d (Ygu ct l inter k (n+1) i p vs first)) (hh:Ygk l k i p first=(hd,id,qu,z,fs,0)) (hc:Yct ct l inter k fs (Ylo k).toNat z vs=(cs,q,g)) (hg:g≠0):E.2.2=g:=by
 refine h.bad ?_ hg
 rw [Ygu,hh]
 simp only
 rw [if_neg (fun x=> x rfl),hc]
 simp only
 rw [if_pos hg]
theorem Ytv {i:Nat} {E:List RowP×Nat×Int} {d:List RowP} {hd:Bool} {id qu fs:Int} {z q:Nat} {cs:List Cel} (h:Ybo E d (Ygu ct l inter k (n+1) i p vs first)) (hh:Ygk l k i p first=(hd,id,qu,z,fs,0)) (hc:Yct ct l inter k fs (Ylo k).toNat z vs=(cs,q,0)):
  Ybo E (d ++ [⟨hd,id,qu,cs⟩]) (Ygu ct l inter k n (i+1) q (vs++Yf0 cs) fs):=by
 refine h.step ?_
 rw [Ygu,hh]
 simp only
 rw [if_neg (fun x=> x rfl),hc]
 simp only
 rw [if_neg (fun x=> x rfl)]
 obtain ⟨⟨rs,y,e⟩,hr⟩:∃r,Ygu ct l inter k n (i+1) q (vs++Yf0 cs) fs=r:=⟨_,rfl⟩
 rw [hr]
 by_cases he:e=0
 ·subst he
  rfl
 ·simp only
  rw [if_pos he,if_pos he]
end
section
variable {ct:CelT} {l:List UInt8} {p q z:Nat} {h:Shd} {rs:List RowP} {f g:Int}
theorem Yyb (hh:shk l p=(h,q,f)) (hf:f≠0):wtk ct l p=(Ywq,p,f):=by
 unfold wtk
 rw [hh]
 simp only
 rw [if_pos hf]
theorem Yq0 (hh:shk l p=(h,q,0)) (hr:(Ygu ct l h.inter h.fmt (Yfo h.fmt).toNat 0 q [] 0).2.2=g) (hg:g≠0):wtk ct l p=(Ywq,p,g):=by
 unfold wtk
 rw [hh]
 simp only
 rw [if_neg (fun x=> x rfl)]
 obtain ⟨⟨rs,z,e⟩,h2⟩:∃r,Ygu ct l h.inter h.fmt (Yfo h.fmt).toNat 0 q [] 0=r:=⟨_,rfl⟩
 rw [h2] at hr ⊢
 simp only at hr ⊢
 subst hr
 rw [if_pos hg]
theorem Yyf (hh:shk l p=(h,q,0)) (hr:Ygu ct l h.inter h.fmt (Yfo h.fmt).toNat 0 q [] 0=(rs,z,0)) (h0:Ya0 l z (gap z)≠0):wtk ct l p=(Ywq,p,5):=by
 unfold wtk
 rw [hh]
 simp only
 rw [if_neg (fun x=> x rfl),hr]
 simp only
 rw [if_neg (fun x=> x rfl),if_pos h0]
theorem Y8n (hh:shk l p=(h,q,0)) (hr:Ygu ct l h.inter h.fmt (Yfo h.fmt).toNat 0 q [] 0=(rs,z,0)) (h0:Ya0 l z (gap z)=0):wtk ct l p=(⟨h,rs,(Ys5 l (z+gap z):Nat)⟩,z+gap z+8*Ys5 l (z+gap z),0):=by
 unfold wtk
 rw [hh]
 simp only
 rw [if_neg (fun x=> x rfl),hr]
 simp only
 rw [if_neg (fun x=> x rfl),if_neg (fun x=> x h0)]
end
theorem Y4y {l:List UInt8} {p:Nat} (h:(Ya2 l p).2=0∨p=8*l.length):∀n,Yn7 l n p=some 0
 | 0=> by rw [Yn7,if_pos h]
 | n+1=> by rw [Yn7,if_pos h]
theorem Y3r {l:List UInt8} {p n:Nat} (h:¬ ((Ya2 l p).2=0∨p=8*l.length)) (h8:p+8≤8*l.length∧Ya0 l p 8=0):Yn7 l (n+1) p=(Yn7 l n (p+8)).map (· + 1):=by rw [Yn7,if_neg h,if_pos h8]
theorem Y2p {l:List UInt8} {p:Nat} (h:¬ ((Ya2 l p).2=0∨p=8*l.length)) (h8:¬ (p+8≤8*l.length∧Ya0 l p 8=0)):∀n,Yn7 l n p=none
 | 0=> by rw [Yn7,if_neg h]
 | n+1=> by rw [Yn7,if_neg h,if_neg h8]
def Ymi (l:List UInt8) (p n:Nat):Prop:=p+8*n≤8*l.length∧n≤l.length∧Yn7 l l.length p=(Yn7 l (l.length-n) (p+8*n)).map (· + n)
theorem Ymi.start {l:List UInt8} {p:Nat} (hp:p≤8*l.length):Ymi l p 0:=⟨by omega,Nat.zero_le _,by rw [Nat.sub_zero,Nat.mul_zero,Nat.add_zero];cases Yn7 l l.length p <;> rfl⟩
theorem Ymi.stop {l:List UInt8} {p n:Nat} (h:Ymi l p n) (h0:(Ya2 l ((p+8*n:Nat):Int)).2=0∨p+8*n=8*l.length):Ys5 l p=n:=by
 unfold Ys5
 rw [h.2.2,Y4y h0]
 simp
theorem Ymi.none {l:List UInt8} {p n:Nat} (h:Ymi l p n) (h0:¬ ((Ya2 l ((p+8*n:Nat):Int)).2=0∨p+8*n=8*l.length)) (h8:¬ (p+8*n+8≤8*l.length∧Ya0 l (p+8*n) 8=0)):Ys5 l p=0:=by
 unfold Ys5
 rw [h.2.2,Y2p h0 h8]
 rfl
theorem Ymi.more {l:List UInt8} {p n:Nat} (h:Ymi l p n) (h0:¬ ((Ya2 l ((p+8*n:Nat):Int)).2=0∨p+8*n=8*l.length)) (h8:p+8*n+8≤8*l.length∧Ya0 l (p+8*n) 8=0):Ymi l p (n+1):=by
 have h1:=h.1
 have h2:=h.2.1
 have hl:n+1≤l.length:=by omega
 refine ⟨by omega,hl,?_⟩
 have e:l.length-n=(l.length-(n+1))+1:=by omega
 rw [h.2.2,e,Y3r h0 h8,Option.map_map,show p+8*(n+1)=p+8*n+8 by omega]
 congr 1
 funext x
 show x+1+n=x+(n+1)
 omega
theorem Y4z:∀(L:List UInt8),(∀i,i<(L.takeWhile (· == 48)).length→L[i]? = some 48)∧L[(L.takeWhile (· == 48)).length]?≠some 48
 | []=> ⟨fun i hi=> by simp at hi,by simp⟩
 | c::L=> by
  by_cases hc:c=48
  ·obtain ⟨h1,h2⟩:=Y4z L
   rw [List.takeWhile_cons_of_pos (by simpa using hc),List.length_cons]
   refine ⟨fun i hi=> ?_,by simpa using h2⟩
   match i,hi with
   | 0,_=> rw [hc];rfl
   | i+1,hi=> simpa using h1 i (by omega)
  ·rw [List.takeWhile_cons_of_neg (by simpa using hc)]
   refine ⟨fun i hi=> by simp at hi,?_⟩
   simpa using hc
theorem Yhp (l:List UInt8) (p:Nat):(∀i,i<Ya7 l p→(Yac l)[p+i]? = some 48)∧(Yac l)[p+Ya7 l p]?≠some 48:=by
 have h:=Y4z ((Yac l).drop p)
 unfold Ya7
 rw [if_neg (by omega),Int.toNat_natCast]
 refine ⟨fun i hi=> ?_,?_⟩
 ·have:=h.1 i hi
  rwa [List.getElem?_drop] at this
 ·have:=h.2
  rwa [List.getElem?_drop] at this
theorem Yj0 {l:List UInt8} {p:Nat} (hp:p≤8*l.length):p+Ya7 l p≤8*l.length:=by
 rcases Nat.lt_or_ge (8*l.length) (p+Ya7 l p) with h | h
 ·have:=(Yhp l p).1 (8*l.length-p) (by omega)
  rw [List.getElem?_eq_none (by rw [Yah];omega)] at this
  cases this
 ·exact h
theorem Ykl {l:List UInt8} {p n:Nat} (h:p+n≤8*l.length):Ya0 l p n=0↔n≤Ya7 l p:=by
 rw [Ycx l p n h]
 constructor
 ·intro h0
  rcases Nat.lt_or_ge (Ya7 l p) n with h1 | h1
  ·exact absurd (h0 _ h1) (Yhp l p).2
  ·exact h1
 ·exact fun h1 i hi=> (Yhp l p).1 i (by omega)
theorem Yt1 {l:List UInt8} {p n:Nat} (h:n≤Ya7 l p):Ya7 l ((p+n:Nat):Int)=Ya7 l p-n:=by
 obtain ⟨h1,h2⟩:=Yhp l p
 refine Yio (fun i hi=> ?_) ?_
 ·rw [Nat.add_assoc];exact h1 (n+i) (by omega)
 ·rw [show p+n+(Ya7 l p-n)=p+Ya7 l p by omega];exact h2
theorem Ys3 {l:List UInt8} {p:Nat} (hp:p≤8*l.length):(Ya2 l (p:Int)).2=0↔p+22≤8*l.length∧Ya7 l p=16:=by
 rcases Nat.lt_or_ge (8*l.length) (p+22) with h | h
 ·rw [Yfq hp h]
  constructor
  ·intro h;cases h
  ·omega
 ·rw [Ymd h]
  have e:=Yee l p 16 6 (by omega)
  have e2:=Yee l p 17 5 (by omega)
  have e3:=Yee l p 16 1 (by omega)
  have l5:=Ybr l (p+17) 5
  have l1:=Ybr l (p+16) 1
  have g16:=Ykl (l:=l) (p:=p) (n:=16) (by omega)
  have g17:=Ykl (l:=l) (p:=p) (n:=17) (by omega)
  simp only [Nat.reduceAdd,Nat.reducePow] at e e2 e3 l5 l1
  constructor
  ·intro h1
   by_cases ht:Ya0 l p 22 / 32=1
   ·have h17:Ya0 l p 17=1:=by omega
    have h16:Ya0 l p 16=0:=by omega
    have:=g16.1 h16
    have:=fun h=> g17.2 h
    refine ⟨h,?_⟩
    omega
   ·rw [if_neg ht] at h1;cases h1
  ·rintro ⟨_,h1⟩
   have h16:Ya0 l p 16=0:=g16.2 (by omega)
   have h17:Ya0 l p 17≠0:=fun h0=> by have:=g17.1 h0;omega
   rw [if_pos (by omega)]
def Y8o (n left:Nat):Nat:=if n=left then n / 8 else if n%8=0∧16≤n then (n-16) / 8 else 0
theorem Yo3 (l:List UInt8):∀(m p:Nat),p≤8*l.length→p%8=0→8*l.length-p≤8*m→
  Yn7 l m p=if Ya7 l p=8*l.length-p then some (Ya7 l p / 8) else if Ya7 l p%8=0∧16≤Ya7 l p then some ((Ya7 l p-16) / 8) else none
 | 0,p,hp,h8,hm=> by
  have hn:=Yj0 hp
  rw [Yn7,if_pos (.inr (by omega)),if_pos (by omega)]
  rw [show Ya7 l p=0 by omega]
 | m+1,p,hp,h8,hm=> by
  have hn:=Yj0 hp
  have hk:=Ys3 hp
  rw [Yn7]
  by_cases h1:(Ya2 l (p:Int)).2=0∨p=8*l.length
  ·rw [if_pos h1]
   rcases h1 with h1 | h1
   ·obtain ⟨a,b⟩:=hk.1 h1
    rw [b,if_neg (by omega),if_pos (by omega)]
   ·rw [show Ya7 l p=0 by omega,if_pos (by omega)]
  ·rw [if_neg h1]
   have h2:¬ (p+22≤8*l.length∧Ya7 l p=16):=fun h=> h1 (.inl (hk.2 h))
   have h3:p+8≤8*l.length:=by
    have:p≠8*l.length:=fun h=> h1 (.inr h)
    omega
   have hg:=Ykl h3
   by_cases h4:Ya0 l p 8=0
   ·rw [if_pos ⟨h3,h4⟩]
    have h5:=hg.1 h4
    rw [Yo3 l m (p+8) h3 (by omega) (by omega),Yt1 h5]
    by_cases h6:Ya7 l p=8*l.length-p
    ·rw [if_pos h6,if_pos (by omega),Option.map_some]
     congr 1
     omega
    ·rw [if_neg h6,if_neg (by omega)]
     by_cases h7:Ya7 l p%8=0∧16≤Ya7 l p
     ·rw [if_pos h7,if_pos (by omega),Option.map_some]
      congr 1
      omega
     ·rw [if_neg h7,if_neg (by omega)]
      rfl
   ·rw [if_neg (fun h=> h4 h.2)]
    have h5:Ya7 l p<8:=by
     rcases Nat.lt_or_ge (Ya7 l p) 8 with h | h
     ·exact h
     ·exact absurd (hg.2 h) h4
    rw [if_neg (by omega),if_neg (by omega)]
theorem Yzl {l:List UInt8} {p:Nat} (hp:p≤8*l.length) (h8:p%8=0):Ys5 l p=Y8o (Ya7 l p) (8*l.length-p):=by
 unfold Ys5 Y8o
 rw [Yo3 l l.length p hp h8 (by omega)]
 split
 ·rfl
 ·split <;> rfl
end Go.Proofs.YtpgdngijmihafaaGreatDoor
namespace Go.Proofs.YtpgdngijmihafaaGreatDoor
open Go.RowKit Go.Lib
theorem Ym0 {l:List UInt8} {p:Nat} (h:p+8≤8*l.length):(Ya0 l p 8=0→(!((Yac l).drop p).take 8 == [48,48,48,48,48,48,48,48])=false)∧(Ya0 l p 8≠0→(!((Yac l).drop p).take 8 == [48,48,48,48,48,48,48,48])=true):=by
 constructor
 ·intro h0
  have:=(Yh3 (l:=l) (p:=p) (n:=8) h h0).2.2
  rw [Nat.add_sub_cancel_left] at this
  rw [this]
  rfl
 ·intro h0
  rw [Bool.not_eq_true',beq_eq_false_iff_ne]
  intro he
  apply h0
  unfold Ya0
  rw [he]
  rfl
set_option maxHeartbeats 1000000 in
theorem Yvm (s:ByteArray) (p:Nat) (hp:p≤8*s.size) (h8:p%8=0) (hs:s.size≤1073741824) (w:World):
  Calls Tryz.prog 24 #[.string ⟨(Yac s.data.toList).toArray⟩,.int .i64 (p:Int)] w fun e w'=> e = .returned (.int .i64 (Ys5 s.data.toList p:Int))∧w=w':=by
 have hsl:s.data.toList.length=s.size:=rfl
 have hsz:=Ye3 s
 have hcut:=fun q=> Yh0 s q 8
 have cA:=fun (b:Int) w=> Ypw s b (by omega) w
 obtain ⟨l,hl⟩:∃l,s.data.toList=l:=⟨_,rfl⟩
 rw [hl] at hsl hsz ⊢
 simp only [hl] at hcut cA
 obtain ⟨S,hS⟩:∃S:ByteArray,(⟨(Yac l).toArray⟩:ByteArray)=S:=⟨_,rfl⟩
 rw [hS] at hsz ⊢
 simp only [hS] at hcut cA
 have HCUT:=Lib.hid hcut
 have HSS:=Lib.hid hsz
 have HSL:=Lib.hid hsl
 have CA:=Lib.hid cA
 have Z0:=Lib.hid (Ymi.start (l:=l) (p:=p) (by rw [hsl];exact hp))
 have hs2:s.size≤1073741824:=hs
 clear hl hS hcut cA hsz hsl hp
 go_enter Tryz.func24,Tryz.ntmps24
 go_wp2
 go_loopw [5] (fun z wr=>∃n:Nat,z = .int .i64 (n:Int)∧Hid (Ymi l p n)∧n≤s.size∧wr=w) (fun z _=> s.size-(intOf z).toNat)
 case atStart=> exact ⟨0,rfl,Z0,Nat.zero_le _,rfl⟩
 case round=>
  clear Z0
  obtain ⟨n,rfl,hz,hn,rfl⟩:=hrel
  have hb:=hz.out.1
  obtain ⟨q,hq⟩:∃q,p+8*n=q:=⟨_,rfl⟩
  have hqm:q%8=0:=by omega
  have hqs:q≤8*s.size:=by rw [←HSL.out,←hq];exact hb
  have w1:IntKind.i64.wrap (8*(n:Int))=8*(n:Int):=Yeh (by omega)
  have w2:IntKind.i64.wrap ((p:Int)+8*(n:Int))=(q:Int):=by rw [Yeh (by omega)];omega
  have w3:(p:Int)+8*(n:Int)=(q:Int):=by omega
  have HQ:=Lib.hid hq
  have ca:=CA.out (q:Int) wr
  clear w3 hb
  have b0:decide (0≤(q:Int))=true:=by simp
  by_cases hf:(Ya2 l (q:Int)).2=0
  ·have d1:((Ya2 l (q:Int)).2==0)=true:=by rw [hf];rfl
   have N:=Lib.hid (hz.out.stop (.inl (by rw [hq];exact hf)))
   generalize (Ya2 l (q:Int)).2=f at *
   generalize (Ya2 l (q:Int)).1=m at *
   clear hf hq
   go_wp2_with fail
   refine ca.mono ?_
   rintro e w2 ⟨rfl,rfl⟩
   go_wp2
   go_ret
   exact ⟨Yby (by rw [N.out]),rfl⟩
  have d1:((Ya2 l (q:Int)).2==0)=false:=by rw [beq_eq_false_iff_ne];exact hf
  by_cases hqe:q=8*s.size
  ·have d2:((q:Int)==(S.size:Int))=true:=by rw [HSS.out,hqe];simp
   have N:=Lib.hid (hz.out.stop (.inr (by rw [hq,hqe,HSL.out])))
   generalize (Ya2 l (q:Int)).2=f at *
   generalize (Ya2 l (q:Int)).1=m at *
   clear hf hq hqe
   go_wp2_with fail
   refine ca.mono ?_
   rintro e w2 ⟨rfl,rfl⟩
   go_wp2
   go_ret
   exact ⟨Yby (by rw [N.out]),rfl⟩
  have d2:((q:Int)==(S.size:Int))=false:=by rw [beq_eq_false_iff_ne];have:=HSS.out;omega
  have hno:¬ ((Ya2 l ((p+8*n:Nat):Int)).2=0∨p+8*n=8*l.length):=by
   rw [hq,HSL.out]
   exact fun h=> h.elim hf hqe
  have h8l:q+8≤8*l.length:=by rw [HSL.out];omega
  have hcu:=HCUT.out q
  have hS8:q+8≤S.size:=by rw [HSS.out];omega
  have w4:IntKind.i64.wrap ((q:Int)+8)=(q:Int)+8:=Yeh (by omega)
  have k4:((q:Int)+8).toNat=q+8:=by omega
  by_cases ht:Ya0 l q 8=0
  ·have hy:=(Ym0 h8l).1 ht
   have N:=Lib.hid (hz.out.more hno (by rw [hq];exact ⟨h8l,ht⟩))
   have hn1:n+1≤s.size:=by omega
   generalize (Ya2 l (q:Int)).2=f at *
   generalize (Ya2 l (q:Int)).1=m at *
   clear hf hq hqe hno ht hz h8l
   go_wp2_with fail
   refine ca.mono ?_
   rintro e w2 ⟨rfl,rfl⟩
   go_wp2
   go_roundw
   case rel=> exact ⟨n+1,by go_num,N,hn1,by trivial⟩
   case measure=> simp [intOf];omega
  ·have hy:=(Ym0 h8l).2 ht
   have N:=Lib.hid (hz.out.none hno (by rw [hq];exact fun h=> ht h.2))
   generalize (Ya2 l (q:Int)).2=f at *
   generalize (Ya2 l (q:Int)).1=m at *
   clear hf hq hqe hno ht hz h8l
   go_wp2_with fail
   refine ca.mono ?_
   rintro e w2 ⟨rfl,rfl⟩
   go_wp2
   go_ret
   exact ⟨Yby (by rw [N.out];rfl),rfl⟩
end Go.Proofs.YtpgdngijmihafaaGreatDoor