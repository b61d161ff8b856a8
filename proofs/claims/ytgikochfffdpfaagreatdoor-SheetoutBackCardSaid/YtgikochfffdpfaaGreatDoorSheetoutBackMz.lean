/- Texts that SheetoutBack's proof stands on, part 26 of 52. No condition of its own. -/
import Derived.Test.YtgikochfffdpfaaGreatDoorSheetoutBackMf
import Derived.Test.YtgikochfffdpfaaGreatDoorSheetoutBackMk
import Derived.Test.YtgikochfffdpfaaGreatDoorSheetoutBackMq
import Derived.Test.YtgikochfffdpfaaGreatDoorSheetoutBackMx
import Derived.Test.YtgikochfffdpfaaGreatDoorSheetoutBackMy
namespace Go.Proofs.YtgikochfffdpfaaGreatDoor
open Go.RowKit
def Ydb {α:Type} (f:Nat→α→Bool):Nat→List α→Bool
 | _,[]=> true
 | i,a::l=> f i a&&Ydb f (i+1) l
theorem Yig {α:Type} {f:Nat→α→Bool}:∀{i:Nat} {l:List α},Ydb f i l=true↔∀j,(h:j<l.length)→f (i+j) l[j]=true
 | _,[]=> ⟨fun _ j h=> absurd h (Nat.not_lt_zero j),fun _=> rfl⟩
 | i,a::l=> by
  rw [Ydb,Bool.and_eq_true,Yig]
  constructor
  ·rintro ⟨h0,h1⟩ j hj
   cases j with
   | zero=> exact h0
   | succ j=>
    have:=h1 j (by simpa using hj)
    rw [show i+(j+1)=i+1+j by omega]
    exact this
  ·intro h
   refine ⟨h 0 (by simp),fun j hj=> ?_⟩
   have:=h (j+1) (by simpa using hj)
   rw [show i+(j+1)=i+1+j by omega] at this
   exact this
theorem Yue {α:Type} {f:Nat→α→Bool}:∀(i:Nat) (l:List α) (a:α),Ydb f i (l ++ [a])=(Ydb f i l&&f (i+l.length) a)
 | i,[],a=> by simp [Ydb]
 | i,b::l,a=> by
  rw [List.cons_append,Ydb,Yue (i+1) l a,Ydb,Bool.and_assoc,List.length_cons,show i+(l.length+1)=i+1+l.length by omega]
theorem Yi8 {α:Type} {f:Nat→α→Bool}:∀(i:Nat) (l m:List α),Ydb f i (l++m)=(Ydb f i l&&Ydb f (i+l.length) m)
 | i,[],m=> by simp [Ydb]
 | i,b::l,m=> by
  rw [List.cons_append,Ydb,Yi8 (i+1) l m,Ydb,Bool.and_assoc,List.length_cons,show i+(l.length+1)=i+1+l.length by omega]
theorem Y5d {α:Type} {f:Nat→α→Bool} {l:List α} {j:Nat} (hj:j<l.length) (h1:f j l[j]=false):Ydb f 0 l=false:=by
 cases h:Ydb f 0 l with
 | false=> rfl
 | true=>
  have:=Yig.1 h j hj
  rw [Nat.zero_add,h1] at this
  cases this
def Yer (inter:Bool) (n:Int) (i:Nat) (r:RowP):Bool:=
 decide ((r.cels.length:Int)=n)&&((if r.head then decide (i≠0∧0≤r.id∧r.id≤3∧1≤r.quant∧r.quant≤31) else decide (r.id=0∧r.quant=0))&&r.cels.all (Ybo inter))
def Yg2 (k:Int):Int:=Ydt k*Yjo k
def Yfm (S:ShP):Bool:=
 Yd9 S.hd&&(decide (0≤S.zeros∧S.zeros≤262144)&&(decide ((S.rows.length:Int)=Yiw S.hd.fmt)&&Ydb (Yer S.hd.inter (Yg2 S.hd.fmt)) 0 S.rows))
def Yd3 (S:ShP):List Cel:=S.rows.flatMap (·.cels)
def Yct (k:Int) (n:Nat) (c:Cel):Bool:=Yao c.kind || Y7v k (n:Int) c.mx c.my
def Ycp (S:ShP):Int:=if Yfm S=true then (if Ydb (Yct S.hd.fmt) 0 (Yd3 S)=true then 0 else 8) else 12
theorem Y33 {S:ShP} (h:Yfm S=false):Ycp S=12:=by unfold Ycp;rw [if_neg (by rw [h];decide)]
theorem Ywk {S:ShP} (h:Yfm S=true) (h1:Ydb (Yct S.hd.fmt) 0 (Yd3 S)=false):Ycp S=8:=by unfold Ycp;rw [if_pos h,if_neg (by rw [h1];decide)]
theorem Qdj {S:ShP} (h:Yfm S=true) (h1:Ydb (Yct S.hd.fmt) 0 (Yd3 S)=true):Ycp S=0:=by unfold Ycp;rw [if_pos h,if_pos h1]
theorem Yrh {S:ShP} (h:Ycp S=0):Yfm S=true∧Ydb (Yct S.hd.fmt) 0 (Yd3 S)=true:=by
 unfold Ycp at h
 cases h1:Yfm S with
 | false=> rw [h1] at h;cases h
 | true=>
  cases h2:Ydb (Yct S.hd.fmt) 0 (Yd3 S) with
  | false=> rw [h1,h2] at h;cases h
  | true=> exact ⟨rfl,rfl⟩
def Qh4 (a b:Shd):Bool:=a.ref==b.ref&&(a.flags==b.flags&&(a.fmt==b.fmt&&(a.inter==b.inter&&(a.quant==b.quant&&decide (a.supp=b.supp)))))
def rwB (a b:RowP):Bool:=(a.head==b.head&&(a.id==b.id&&a.quant==b.quant))&&(decide (a.cels.length=b.cels.length)&&(a.cels.zip b.cels).all fun p=> Ypv p.1 p.2)
def shB (a b:ShP):Bool:=Qh4 a.hd b.hd&&(a.zeros==b.zeros&&(decide (a.rows.length=b.rows.length)&&(a.rows.zip b.rows).all fun p=> rwB p.1 p.2))
theorem Y9h (a:Shd):Qh4 a a=true:=by simp [Qh4]
theorem Y1t {α:Type} {f:α→α→Bool} {l m:List α} {j:Nat} (hl:j<l.length) (hm:j<m.length) (h:(((l.take j).zip (m.take j)).all fun p=> f p.1 p.2)=true) (h1:f l[j] m[j]=true):(((l.take (j+1)).zip (m.take (j+1))).all fun p=> f p.1 p.2)=true:=by
 rw [List.take_succ_eq_append_getElem hl,List.take_succ_eq_append_getElem hm,List.zip_append (by simp;omega),List.all_append,h]
 simp [h1]
theorem Y1s {α:Type} {f:α→α→Bool} {l m:List α} {j:Nat} (hl:j<l.length) (hm:j<m.length) (h1:f l[j] m[j]=false):((l.zip m).all fun p=> f p.1 p.2)=false:=by
 rw [List.all_eq_false]
 refine ⟨(l[j],m[j]),?_,by rw [h1];decide⟩
 have hz:j<(l.zip m).length:=by rw [List.length_zip];omega
 have e:(l.zip m)[j]=(l[j],m[j]):=List.getElem_zip
 rw [←e]
 exact List.getElem_mem hz
theorem Yes (n:Nat):Yau 0 n=List.replicate n 48:=by
 have h:=Yg3 (List.replicate n 48) (Yc6 n)
 rw [Y74,List.length_replicate] at h
 exact h
theorem Y31 {l:List UInt8} {p n:Nat} (h:p+n≤8*l.length) (h0:Ya5 l p n=0):Seg (Yac l) p (p+n) (List.replicate n 48):=by
 have:=Yc8 (l:=l) h
 rw [h0,Yes] at this
 exact this
def CelT:=Bool→List UInt8→Int→Int→Nat→Cel×Nat×Int
def Yd0 (cs:List Cel):List (Int×Int):=cs.map fun c=> (c.mx,c.my)
def Yd5 (vs:List (Int×Int)) (across first:Int):Int×Int:=Qg4 (fun i=> vs.getD i (0,0)) vs.length across first
def Yd4 (ct:CelT) (l:List UInt8) (inter:Bool) (k first:Int):Nat→Nat→List (Int×Int)→List Cel×Nat×Int
 | 0,p,_=> ([],p,0)
 | n+1,p,vs=>
  match ct inter (Yac l) (Yd5 vs (Ydt k) first).1 (Yd5 vs (Ydt k) first).2 p with
  | (c,q,f)=> if f≠0 then ([],p,f) else if Yct k vs.length c=false then ([],p,8) else
   match Yd4 ct l inter k first n q (vs ++ [(c.mx,c.my)]) with
   | (cs,z,g)=> if g≠0 then ([],p,g) else (c::cs,z,0)
def Yec (inter:Bool) (k first:Int):List (Int×Int)→List Cel→List UInt8
 | _,[]=> []
 | vs,c::cs=> Yc1 inter (Yd5 vs (Ydt k) first).1 (Yd5 vs (Ydt k) first).2 c++Yec inter k first (vs ++ [(c.mx,c.my)]) cs
def Qaf (l:List UInt8) (i p:Nat):Bool:=decide (0<i)&&((Ya9 l p).2&&((Ya9 l p).1 != 0&&(Ya9 l p).1 != 31))
def Ylt (l:List UInt8) (k:Int) (i p:Nat) (first:Int):Bool×Int×Int×Nat×Int×Int:=
 if Qaf l i p=true then (true,(hdk l p i).1,(hdk l p i).2.1,(hdk l p i).2.2.1,(i:Int)*Yjo k,(hdk l p i).2.2.2) else (false,0,0,p,first,0)
def Yk6 (ct:CelT) (l:List UInt8) (inter:Bool) (k:Int):Nat→Nat→Nat→List (Int×Int)→Int→List RowP×Nat×Int
 | 0,_,p,_,_=> ([],p,0)
 | n+1,i,p,vs,first=>
  match Ylt l k i p first with
  | (h,id,qu,z,fs,f)=> if f≠0 then ([],p,f) else
   match Yd4 ct l inter k fs (Yg2 k).toNat z vs with
   | (cs,q,g)=> if g≠0 then ([],p,g) else
    match Yk6 ct l inter k n (i+1) q (vs++Yd0 cs) fs with
    | (rs,y,e)=> if e≠0 then ([],p,e) else (⟨h,id,qu,cs⟩::rs,y,0)
def Yjl (i p:Nat) (r:RowP):List UInt8:=if r.head then Yez p i r.id.toNat r.quant.toNat else []
def Yvf (k:Int) (i:Nat) (first:Int) (r:RowP):Int:=if r.head then (i:Int)*Yjo k else first
def Yc3 (inter:Bool) (k:Int):Nat→Nat→List (Int×Int)→Int→List RowP→List UInt8
 | _,_,_,_,[]=> []
 | i,p,vs,first,r::rs=> Yjl i p r++(Yec inter k (Yvf k i first r) vs r.cels++Yc3 inter k (i+1) (p+(Yjl i p r).length+(Yec inter k (Yvf k i first r) vs r.cels).length) (vs++Yd0 r.cels) (Yvf k i first r) rs)
def Y1r (l:List UInt8):Nat→Nat→Option Nat
 | 0,p=> if (Ybi l p).2=0∨p=8*l.length then some 0 else none
 | n+1,p=> if (Ybi l p).2=0∨p=8*l.length then some 0 else if p+8≤8*l.length∧Ya5 l p 8=0 then (Y1r l n (p+8)).map (· + 1) else none
def Y4y (l:List UInt8) (p:Nat):Nat:=(Y1r l l.length p).getD 0
theorem Yxg {l:List UInt8}:∀(n p z:Nat),p≤8*l.length→Y1r l n p=some z→Seg (Yac l) p (p+8*z) (List.replicate (8*z) 48)
 | 0,p,z,hp,h=> by
  rw [Y1r] at h
  split at h
  ·injection h with h
   subst h
   exact Seg.nil (by rw [Yas];exact hp)
  ·cases h
 | n+1,p,z,hp,h=> by
  rw [Y1r] at h
  split at h
  ·injection h with h
   subst h
   exact Seg.nil (by rw [Yas];exact hp)
  ·split at h
   ·rename_i h8
    obtain ⟨y,hy,rfl⟩:=Option.map_eq_some_iff.1 h
    have s1:=Y31 (l:=l) (p:=p) (n:=8) h8.1 h8.2
    have s2:=Yxg n (p+8) y h8.1 hy
    have:=s1.app s2
    rw [List.replicate_append_replicate] at this
    rw [show p+8*(y+1)=p+8+8*y by omega,show 8*(y+1)=8+8*y by omega]
    exact this
   ·cases h
theorem Qac {l:List UInt8} {p:Nat} (hp:p≤8*l.length):Seg (Yac l) p (p+8*Y4y l p) (List.replicate (8*Y4y l p) 48):=by
 unfold Y4y
 cases h:Y1r l l.length p with
 | none=> exact Seg.nil (by rw [Yas];exact hp)
 | some z=> exact Yxg _ p z hp h
def Qdm:ShP:=⟨Yp9,[],0⟩
def wtk (ct:CelT) (l:List UInt8) (p:Nat):ShP×Nat×Int:=
 match shk l p with
 | (h,q,f)=> if f≠0 then (Qdm,p,f) else
  match Yk6 ct l h.inter h.fmt (Yiw h.fmt).toNat 0 q [] 0 with
  | (rs,z,g)=> if g≠0 then (Qdm,p,g) else if Ya5 l z (gap z)≠0 then (Qdm,p,5) else (⟨h,rs,(Y4y l (z+gap z):Nat)⟩,z+gap z+8*Y4y l (z+gap z),0)
def Yh8 (p:Nat) (S:ShP):List UInt8:=Yc3 S.hd.inter S.hd.fmt 0 p [] 0 S.rows
def Ykc (p:Nat):List UInt8:=List.replicate (gap p) 48
def Yb1 (p:Nat) (S:ShP):List UInt8:=
 (Yda 0++Ydk S.hd)++(Yh8 (p+(Yda 0++Ydk S.hd).length) S++(Ykc (p+(Yda 0++Ydk S.hd).length+(Yh8 (p+(Yda 0++Ydk S.hd).length) S).length)++List.replicate (8*S.zeros.toNat) 48))
theorem Qb9 (k:Int):0≤Yg2 k∧0≤Yiw k:=by
 unfold Yg2 Ydt
 rcases Ydv k with rfl | rfl | rfl | rfl | rfl | rfl | ⟨h,hv⟩
 case _ | _ | _ | _ | _ | _=> decide +kernel
 unfold Yiw Yjo Y66
 rw [hv]
 decide
theorem Y67 {p q:Nat} (h:p%8=q%8):gap p=gap q:=by unfold gap;rw [h]
theorem Yyi {p q:Nat} (h:p%8=q%8) (n a b:Nat):Yez p n a b=Yez q n a b:=by unfold Yez;rw [Y67 h]
theorem Yo6 {inter:Bool} {k:Int}:∀(rs:List RowP) (i p q:Nat) (vs:List (Int×Int)) (first:Int),p%8=q%8→Yc3 inter k i p vs first rs=Yc3 inter k i q vs first rs
 | [],_,_,_,_,_,_=> rfl
 | r::rs,i,p,q,vs,first,h=> by
  have hh:Yjl i p r=Yjl i q r:=by unfold Yjl;rw [Yyi h]
  rw [Yc3,Yc3,hh]
  congr 2
  exact Yo6 rs _ _ _ _ _ (by omega)
theorem Yfy {p q:Nat} (h:p%8=q%8) (S:ShP):Yb1 p S=Yb1 q S:=by
 unfold Yb1 Yh8
 have e1:∀a:Nat,Yc3 S.hd.inter S.hd.fmt 0 (p+a) [] 0 S.rows=Yc3 S.hd.inter S.hd.fmt 0 (q+a) [] 0 S.rows:=fun a=> Yo6 _ _ _ _ _ _ (by omega)
 rw [e1]
 have e2:∀a b:Nat,Ykc (p+a+b)=Ykc (q+a+b):=fun a b=> by unfold Ykc;rw [Y67 (p:=p+a+b) (q:=q+a+b) (by omega)]
 rw [e2]
def Yge (r:List UInt8) (S:ShP):List UInt8:=r++(Ykc r.length++Yb1 (r.length+gap r.length) S)
def Y3j (r:List UInt8) (S:ShP):List UInt8:=Yg7 r 0++Ydk S.hd
def Y0t (r:List UInt8) (S:ShP):List UInt8:=Y3j r S++Yh8 (Y3j r S).length S
theorem Ygz (r:List UInt8) (S:ShP):(Y3j r S).length=r.length+gap r.length+(Yda 0++Ydk S.hd).length:=by
 unfold Y3j
 rw [List.length_append,Ygr,List.length_append,Ydg];omega
theorem Ylp (r:List UInt8) (S:ShP):Yge r S=(Y0t r S++List.replicate (gap (Y0t r S).length) 48)++List.replicate (8*S.zeros.toNat) 48:=by
 have hl:(Y0t r S).length=r.length+gap r.length+(Yda 0++Ydk S.hd).length+(Yh8 (r.length+gap r.length+(Yda 0++Ydk S.hd).length) S).length:=by
  unfold Y0t
  rw [List.length_append,Ygz]
 rw [hl]
 unfold Yge Yb1 Y0t
 rw [Ygz]
 unfold Y3j Yg7 Ykc
 simp only [List.append_assoc]
def Yet (inter:Bool) (k:Int) (i:Nat) (R:List UInt8) (vs:List (Int×Int)) (first:Int) (rs:List RowP):List UInt8:=R++Yc3 inter k i R.length vs first rs
def Yhb (inter:Bool) (k first:Int) (R:List UInt8) (vs:List (Int×Int)) (cs:List Cel):List UInt8:=R++Yec inter k first vs cs
theorem Y2h (inter:Bool) (k first:Int) (R:List UInt8) (vs:List (Int×Int)):Yhb inter k first R vs []=R:=List.append_nil R
theorem Yxx (inter:Bool) (k first:Int) (R:List UInt8) (vs:List (Int×Int)) (c:Cel) (cs:List Cel):
  Yhb inter k first R vs (c::cs)=Yhb inter k first (R++Yc1 inter (Yd5 vs (Ydt k) first).1 (Yd5 vs (Ydt k) first).2 c) (vs ++ [(c.mx,c.my)]) cs:=by
 unfold Yhb
 rw [Yec,List.append_assoc]
theorem Y3w (inter:Bool) (k:Int) (i:Nat) (R:List UInt8) (vs:List (Int×Int)) (first:Int):Yet inter k i R vs first []=R:=List.append_nil R
theorem Yy3 (inter:Bool) (k:Int) (i:Nat) (R:List UInt8) (vs:List (Int×Int)) (first:Int) (r:RowP) (rs:List RowP):
  Yet inter k i R vs first (r::rs)=Yet inter k (i+1) (Yhb inter k (Yvf k i first r) (R++Yjl i R.length r) vs r.cels) (vs++Yd0 r.cels) (Yvf k i first r) rs:=by
 unfold Yet Yhb
 rw [Yc3]
 simp only [List.length_append,List.append_assoc,Nat.add_assoc]
theorem Yre (r:List UInt8) (S:ShP):Yet S.hd.inter S.hd.fmt 0 (Y3j r S) [] 0 S.rows=Y0t r S:=rfl
theorem Yq2 (r:List UInt8) (S:ShP):(Yge r S).length%8=0:=by
 rw [Ylp]
 simp only [List.length_append,List.length_replicate]
 unfold gap
 omega
theorem Y77 {r:List UInt8} (h:r.length%8=0) (S:ShP):Yge r S=r++Yb1 0 S:=by
 unfold Yge Ykc
 have hg:gap r.length=0:=by unfold gap;omega
 rw [hg,Yfy (q:=0) (by omega)]
 rfl
theorem Qgb (r:List UInt8) (S:ShP):Yge r S=(r++Ykc r.length)++Yb1 0 S:=by
 unfold Yge
 rw [List.append_assoc,Yfy (q:=0) (by unfold gap;omega)]
theorem Ypg {α:Type} {a:α} {n:Nat} {A B:List α} (h:a∈A.take n):a∈(A++B).take n:=by
 rw [List.take_append]
 exact List.mem_append_left _ h
theorem Y9s:∀inter:Bool,(49:UInt8)∈(Yi4 inter).take 10:=by decide +kernel
theorem Qci:∀(inter:Bool) (k:Fin 6) (c:Fin 4),Ykj inter (k.val:Nat)=true→(49:UInt8)∈(Qae inter++(Ybr inter (k.val:Nat) (c.val:Nat)).data.toList).take 10:=by decide +kernel
theorem Qch {inter:Bool} {k:Int} (h:Ykj inter k=true):∃n:Nat,n<6∧k=n:=by
 unfold Ykj at h
 simp only [Bool.or_eq_true,Bool.and_eq_true,beq_iff_eq] at h
 exact ⟨k.toNat,by omega,by omega⟩
theorem Y2c {inter:Bool} {x y:Int} {c:Cel} (h:Ybo inter c=true):(49:UInt8)∈(Yc1 inter x y c).take 10:=by
 unfold Ybo at h
 rw [Bool.and_eq_true] at h
 unfold Yc1
 cases hn:c.stuff.toNat with
 | succ n=>
  rw [Yc4,List.append_assoc]
  exact Ypg (Y9s inter)
 | zero=>
  show _∈List.take 10 ([]++_)
  rw [List.nil_append]
  cases hs:c.skip with
  | true=>
   rw [if_pos rfl]
   decide
  | false=>
   rw [if_neg (by decide)]
   have h2:=h.2
   rw [hs,if_neg (by decide),Bool.and_eq_true,Bool.and_eq_true] at h2
   obtain ⟨n,hn6,hk⟩:=Qch h2.1.1
   have hkk:=h2.1.1
   rw [hk] at hkk
   have h1:=Qci inter ⟨n,hn6⟩ ⟨Yj6 c,(Y6c c).2.1⟩ hkk
   rw [hk]
   simp only [List.append_assoc]
   rw [←List.append_assoc]
   exact Ypg h1
theorem Qgk {S:List UInt8} {p q j:Nat} {r:List UInt8} (h:Seg S p q r) (hj:j<r.length):S[p+j]? = r[j]?:=by
 have e:=h.at
 have:(S.drop p)[j]? = (r++S.drop q)[j]?:=by rw [e]
 rw [List.getElem?_drop,List.getElem?_append_left hj] at this
 exact this
theorem Y3g {l:List UInt8} {p q:Nat} {r:List UInt8} (h:Seg (Yac l) p q r) (h1:(49:UInt8)∈r.take 10):(Ya9 l p).2=false:=by
 cases hn:(Ya9 l p).2 with
 | false=> rfl
 | true=>
  have hg:=Y0q hn
  have hin:=Yol hn
  rw [Ys9 (by omega) hg,Ygx (by omega)] at hn
  have ht:Ya5 l (p+gap p) 22 / 32=1:=by
   by_cases ht:Ya5 l (p+gap p) 22 / 32=1
   ·exact ht
   ·rw [if_neg ht] at hn
    exact absurd hn (by decide)
  have e:=Ydz l (p+gap p) 16 6 (by omega)
  have e':Ya5 l (p+gap p) 22=Ya5 l (p+gap p) 16*64+Ya5 l (p+gap p+16) 6:=e
  have h16:Ya5 l (p+gap p) 16=0:=by omega
  obtain ⟨j,hj,hv⟩:=List.mem_iff_getElem.1 h1
  have hj2:=hj
  rw [List.length_take] at hj2
  have hs:=Qgk h (j:=j) (by omega)
  rw [List.getElem_take] at hv
  rw [List.getElem?_eq_getElem (show j<r.length by omega),hv] at hs
  by_cases hjg:j<gap p
  ·have:=(Ycb l p (gap p) (by omega)).1 hg j hjg
   rw [this] at hs
   exact absurd hs (by decide)
  ·have:=(Ycb l (p+gap p) 16 (by omega)).1 h16 (j-gap p) (by omega)
   rw [show p+gap p+(j-gap p)=p+j by omega] at this
   rw [this] at hs
   exact absurd hs (by decide)
theorem Qfw {l:List UInt8} {p z n id q:Nat} (hn:n<32) (hi:id<4) (h1:1≤q) (hq:q<32) (h:Seg (Yac l) p z (Yez p n id q)):hdk l p (n:Int)=((id:Int),(q:Int),z,0)∧Ya9 l p=((n:Int),true):=by
 unfold Yez Yf0 at h
 rw [←Yes,List.append_assoc] at h
 obtain ⟨p0,g0,h⟩:=h.cut
 obtain ⟨p1,g1,h⟩:=h.cut
 obtain ⟨p2,g2,g3⟩:=h.cut
 have g1':Seg (Yac l) p0 p1 (Yau (32+n) 22):=g1
 obtain ⟨a0,e0,b0⟩:=Yb0 g0 (Nat.two_pow_pos _)
 obtain ⟨a1,e1,b1⟩:=Yb0 g1' (by show 32+n<4194304;omega)
 obtain ⟨a2,e2,b2⟩:=Yb0 g2 (by show id<4;omega)
 obtain ⟨a3,e3,b3⟩:=Yb0 g3 (by show q<32;omega)
 subst e0 e1 e2 e3
 have hx:Ya9 l p=((n:Int),true):=by
  rw [Ys9 (by omega) a0,Ygx (by omega),a1,if_pos (by omega)]
  have:(32+n)%32=n:=by omega
  rw [this];rfl
 refine ⟨?_,hx⟩
 rw [Qer (by rw [hx]) (by rw [hx]) (by omega) (by rw [a3];omega),a2,a3]
def Yju (ct:CelT) (S:List UInt8):Prop:=∀inter x y p q c,Seg S p q (Yc1 inter x y c)→Ybo inter c=true→∃c',ct inter S x y p=(c',q,0)∧Ypv c' c=true
theorem Y5v {c d:Cel} (h:Ypv c d=true):c.kind=d.kind∧c.mx=d.mx∧c.my=d.my:=by
 unfold Ypv Qg5 at h
 simp only [Bool.and_eq_true,beq_iff_eq] at h
 exact ⟨h.2.1.1.1.2,h.2.1.2.1,h.2.1.2.2⟩
theorem Ynw {ct:CelT} {l:List UInt8} {inter:Bool} {k first:Int} (hct:Yju ct (Yac l)):∀(cs:List Cel) (p:Nat) (vs:List (Int×Int)) (q:Nat),Seg (Yac l) p q (Yec inter k first vs cs)→cs.all (Ybo inter)=true→Ydb (Yct k) vs.length cs=true→
  ∃cs',Yd4 ct l inter k first cs.length p vs=(cs',q,0)∧Yd0 cs'=Yd0 cs∧cs'.length=cs.length∧((cs'.zip cs).all fun p=> Ypv p.1 p.2)=true
 | [],p,vs,q,h,_,_=> by
  have e:q=p:=h.len
  subst e
  exact ⟨[],rfl,rfl,rfl,rfl⟩
 | c::cs,p,vs,q,h,hm,hv=> by
  rw [Yec] at h
  obtain ⟨z,h1,h2⟩:=h.cut
  rw [List.all_cons,Bool.and_eq_true] at hm
  rw [Ydb,Bool.and_eq_true] at hv
  obtain ⟨c',hc,hb⟩:=hct inter _ _ p z c h1 hm.1
  obtain ⟨n1,n2,n3⟩:=Y5v hb
  have hv1:Yct k vs.length c'=true:=by
   have:=hv.1
   unfold Yct at this ⊢
   rw [n1,n2,n3]
   exact this
  obtain ⟨cs',e1,e2,e3,e4⟩:=Ynw hct cs z (vs ++ [(c.mx,c.my)]) q h2 hm.2 (by rw [List.length_append];exact hv.2)
  refine ⟨c'::cs',?_,?_,by rw [List.length_cons,List.length_cons,e3],?_⟩
  ·rw [List.length_cons,Yd4,hc]
   simp only
   rw [if_neg (by decide),hv1,if_neg (by decide),n2,n3,e1]
   simp
  ·show (c'.mx,c'.my)::Yd0 cs'=(c.mx,c.my)::Yd0 cs
   rw [n2,n3,e2]
  ·rw [List.zip_cons_cons,List.all_cons,hb,e4];rfl
theorem Yrf {ct:CelT} {l:List UInt8} {inter:Bool} {k:Int} (hct:Yju ct (Yac l)) (hk:0<Yg2 k):∀(rs:List RowP) (i p:Nat) (vs:List (Int×Int)) (first:Int) (q:Nat),Seg (Yac l) p q (Yc3 inter k i p vs first rs)→i+rs.length≤31→
  Ydb (Yer inter (Yg2 k)) i rs=true→Ydb (Yct k) vs.length (rs.flatMap (·.cels))=true→
  ∃rs',Yk6 ct l inter k rs.length i p vs first=(rs',q,0)∧rs'.length=rs.length∧((rs'.zip rs).all fun p=> rwB p.1 p.2)=true
 | [],i,p,vs,first,q,h,_,_,_=> by
  have e:q=p:=h.len
  subst e
  exact ⟨[],rfl,rfl,rfl⟩
 | r::rs,i,p,vs,first,q,h,hi,hm,hv=> by
  rw [Yc3] at h
  obtain ⟨z,h1,h⟩:=h.cut
  obtain ⟨y,h2,h3⟩:=h.cut
  rw [List.length_cons] at hi
  rw [Ydb,Bool.and_eq_true] at hm
  rw [List.flatMap_cons,Yi8,Bool.and_eq_true] at hv
  have hr:=hm.1
  unfold Yer at hr
  rw [Bool.and_eq_true,decide_eq_true_iff,Bool.and_eq_true] at hr
  obtain ⟨hc,hh,ha⟩:=hr
  have ez:=h1.len
  have ey:=h2.len
  rw [←ez,←ey] at h3
  obtain ⟨cs',e1,e2,e3,e4⟩:=Ynw hct r.cels z vs y h2 ha hv.1
  obtain ⟨rs',f1,f2,f3⟩:=Yrf hct hk rs (i+1) y (vs++Yd0 r.cels) (Yvf k i first r) q h3 (by omega) hm.2 (by
   rw [List.length_append]
   unfold Yd0
   rw [List.length_map]
   exact hv.2)
  have hN:(Yg2 k).toNat=r.cels.length:=by omega
  have hR:Ylt l k i p first=(r.head,r.id,r.quant,z,Yvf k i first r,0):=by
   unfold Ylt Yvf
   unfold Yjl at h1
   cases hd:r.head with
   | true=>
    rw [hd,if_pos rfl] at hh h1
    rw [decide_eq_true_iff] at hh
    obtain ⟨g1,g2⟩:=Qfw (by omega) (by omega) (by omega) (by omega) h1
    have hI:Qaf l i p=true:=by
     unfold Qaf
     rw [g2]
     simp only [Bool.and_eq_true,decide_eq_true_iff,bne_iff_ne,true_and]
     omega
    rw [hI,if_pos rfl,if_pos rfl,g1]
    simp only [Prod.mk.injEq,true_and,and_true]
    omega
   | false=>
    rw [hd,if_neg (by decide)] at hh h1
    rw [decide_eq_true_iff] at hh
    have e:z=p:=h1.len
    subst e
    have hI:Qaf l i z=false:=by
     unfold Qaf
     by_cases h0:0<i
     ·cases hcs:r.cels with
      | nil=> rw [hcs] at hc;simp at hc;omega
      | cons c cs=>
       rw [hcs] at h2 ha
       rw [Yec] at h2
       rw [List.all_cons,Bool.and_eq_true] at ha
       rw [Y3g h2 (Ypg (Y2c ha.1))]
       simp
     ·rw [decide_eq_false h0];rfl
    rw [hI,if_neg (by decide),if_neg (by decide),hh.1,hh.2]
  refine ⟨⟨r.head,r.id,r.quant,cs'⟩::rs',?_,by rw [List.length_cons,List.length_cons,f2],?_⟩
  ·rw [List.length_cons,Yk6,hR]
   simp only
   rw [if_neg (by decide),hN,e1]
   simp only
   rw [if_neg (by decide),e2,f1]
   simp
  ·rw [List.zip_cons_cons,List.all_cons,f3]
   unfold rwB
   simp only [beq_self_eq_true,Bool.true_and,Bool.and_true,Bool.and_eq_true,decide_eq_true_iff]
   exact ⟨e3,e4⟩
theorem Yr0 {l:List UInt8}:∀(z n p q:Nat),z≤n→q=p+8*z→q≤8*l.length→Seg (Yac l) p q (List.replicate (8*z) 48)→(q=8*l.length∨(Ybi l q).2=0)→Y1r l n p=some z
 | 0,n,p,q,_,hq,_,_,hf=> by
  have e:q=p:=by omega
  subst e
  have hc:(Ybi l q).2=0∨q=8*l.length:=hf.symm
  cases n with
  | zero=> rw [Y1r,if_pos hc]
  | succ n=> rw [Y1r,if_pos hc]
 | z+1,0,p,q,h,_,_,_,_=> by omega
 | z+1,n+1,p,q,h,hq,hin,hs,hf=> by
  have hs':=hs
  rw [show 8*(z+1)=8+8*z by omega,←List.replicate_append_replicate] at hs'
  obtain ⟨m,s1,s2⟩:=hs'.cut
  have em:m=p+8:=by have:=s1.len;rw [List.length_replicate] at this;exact this
  subst em
  rw [←Yes] at s1 hs
  obtain ⟨t8,_,b8⟩:=Yb0 s1 (by decide)
  obtain ⟨tA,_,bA⟩:=Yb0 hs (Nat.two_pow_pos _)
  have hno:¬ ((Ybi l p).2=0∨p=8*l.length):=by
   rintro (h0 | h0)
   ·by_cases h22:p+22≤8*l.length
    ·rw [Ygx h22] at h0
     have ht:Ya5 l p 22 / 32=1:=by
      by_cases ht:Ya5 l p 22 / 32=1
      ·exact ht
      ·rw [if_neg ht] at h0
       exact absurd h0 (by decide)
     have hz:∀i,i<22→(Yac l)[p+i]? = some 48:=by
      intro i hi
      by_cases h8:i<8*(z+1)
      ·exact (Ycb l p (8*(z+1)) (by omega)).1 tA i h8
      ·rcases hf with hf | hf
       ·omega
       ·have hq22:q+22≤8*l.length:=by
         by_cases hx:q+22≤8*l.length
         ·exact hx
         ·rw [Ye9 (by omega) (by omega)] at hf
          exact absurd hf (by decide)
        rw [Ygx hq22] at hf
        have htq:Ya5 l q 22 / 32=1:=by
         by_cases ht:Ya5 l q 22 / 32=1
         ·exact ht
         ·rw [if_neg ht] at hf
          exact absurd hf (by decide)
        have e:Ya5 l q 22=Ya5 l q 16*64+Ya5 l (q+16) 6:=Ydz l q 16 6 (by omega)
        have h16:Ya5 l q 16=0:=by omega
        have:=(Ycb l q 16 (by omega)).1 h16 (i-8*(z+1)) (by omega)
        rw [show q+(i-8*(z+1))=p+i by omega] at this
        exact this
     have:=(Ycb l p 22 h22).2 hz
     omega
    ·rw [Ye9 (by omega) (by omega)] at h0
     exact absurd h0 (by decide)
   ·omega
  rw [Y1r,if_neg hno,if_pos ⟨b8,t8⟩,Yr0 z n (p+8) q (by omega) (by omega) hin s2 hf]
  rfl
theorem Yxf {ct:CelT} {l:List UInt8} {p q:Nat} {S:ShP} (hct:Yju ct (Yac l)) (hp:p%8=0) (hS:Ycp S=0) (h:Seg (Yac l) p q (Yb1 p S)) (hf:q=8*l.length∨(Ybi l q).2=0):
  ∃S',wtk ct l p=(S',q,0)∧shB S' S=true:=by
 obtain ⟨h1,h2⟩:=Yrh hS
 unfold Yfm at h1
 simp only [Bool.and_eq_true,decide_eq_true_iff] at h1
 obtain ⟨hm,⟨z0,z1⟩,hn,hr⟩:=h1
 obtain ⟨hd,rows,zeros⟩:=S
 dsimp only at hm z0 z1 hn hr h2
 unfold Yb1 Yh8 Ykc at h
 dsimp only at h
 obtain ⟨a,s0,h⟩:=h.cut
 obtain ⟨b,s1,h⟩:=h.cut
 obtain ⟨c,s2,s3⟩:=h.cut
 have ea:=s0.len
 have eb:=s1.len
 have ec:=s2.len
 have eq:=s3.len
 rw [←ea] at s1 s2 eb ec
 rw [←eb] at s2 ec
 rw [List.length_replicate] at ec eq
 have hin:q≤8*l.length:=by have:=s3.2.1;rwa [Yas] at this
 have hfm:=(Yds.1 hm).2.1
 have hkN:0<Yg2 hd.fmt∧Yiw hd.fmt≤18:=by
  have h6:hd.fmt=1∨hd.fmt=2∨hd.fmt=3∨hd.fmt=4∨hd.fmt=5∨hd.fmt=6:=by omega
  rcases h6 with h6 | h6 | h6 | h6 | h6 | h6 <;> rw [h6] <;> decide +kernel
 have hk:=Y9i hp hm s0
 obtain ⟨rs',f1,f2,f3⟩:=Yrf hct hkN.1 rows 0 a [] 0 b s1 (by omega) hr h2
 have hR:(Yiw hd.fmt).toNat=rows.length:=by omega
 have hfill:Ya5 l b (gap b)=0:=by
  rw [←Yes] at s2
  exact (Yb0 s2 (Nat.two_pow_pos _)).1
 have hz:Y1r l l.length (b+gap b)=some zeros.toNat:=by
  rw [ec] at s3
  exact Yr0 zeros.toNat l.length (b+gap b) q (by omega) (by omega) hin s3 hf
 have hz':Y4y l (b+gap b)=zeros.toNat:=by unfold Y4y;rw [hz];rfl
 refine ⟨⟨hd,rs',zeros⟩,?_,?_⟩
 ·unfold wtk
  rw [hk]
  simp only
  rw [if_neg (by decide),hR,f1]
  simp only
  rw [if_neg (by decide),if_neg (fun x=> x hfill),hz']
  have e1:((zeros.toNat:Nat):Int)=zeros:=by omega
  have e2:b+gap b+8*zeros.toNat=q:=by omega
  rw [e1,e2]
 ·unfold shB
  rw [Y9h]
  simp only [beq_self_eq_true,Bool.true_and,Bool.and_eq_true,decide_eq_true_iff]
  exact ⟨f2,f3⟩
def Ycm {α:Type} (E:List α×Nat×Int) (d:List α) (T:List α×Nat×Int):Prop:=(T.2.2≠0→E.2.2=T.2.2)∧(T.2.2=0→E=(d++T.1,T.2.1,0))
theorem Ycm.start {α:Type} (E:List α×Nat×Int):Ycm E [] E:=⟨fun _=> rfl,fun h=> by obtain ⟨a,b,c⟩:=E;simp only at h;subst h;rfl⟩
theorem Ycm.bad {α:Type} {E T:List α×Nat×Int} {d:List α} {f:Int} (h:Ycm E d T) (hf:T.2.2=f) (h0:f≠0):E.2.2=f:=by
 subst hf
 exact h.1 h0
theorem Ycm.done {α:Type} {E:List α×Nat×Int} {d:List α} {p:Nat} (h:Ycm E d ([],p,0)):E=(d,p,0):=by
 have:=h.2 rfl
 rwa [List.append_nil] at this
theorem Ycm.step {α:Type} {E T T':List α×Nat×Int} {d:List α} {a:α} (h:Ycm E d T) (e:T=(if T'.2.2≠0 then ([],T.2.1,T'.2.2) else (a::T'.1,T'.2.1,0))):Ycm E (d ++ [a]) T':=by
 by_cases h0:T'.2.2=0
 ·rw [if_neg (fun x=> x h0)] at e
  refine ⟨fun h1=> absurd h0 h1,fun _=> ?_⟩
  have:=h.2 (by rw [e])
  rw [this,e,List.append_assoc]
  rfl
 ·rw [if_pos h0] at e
  exact ⟨fun _=> h.bad (by rw [e]) h0,fun h1=> absurd h1 h0⟩
section
variable {ct:CelT} {l:List UInt8} {inter:Bool} {k first:Int} {n p:Nat} {vs:List (Int×Int)}
theorem Y55 {E:List Cel×Nat×Int} {d:List Cel} {c:Cel} {q:Nat} {f:Int} (h:Ycm E d (Yd4 ct l inter k first (n+1) p vs)) (hc:ct inter (Yac l) (Yd5 vs (Ydt k) first).1 (Yd5 vs (Ydt k) first).2 p=(c,q,f)) (hf:f≠0):E.2.2=f:=by
 refine h.bad ?_ hf
 rw [Yd4,hc]
 simp only
 rw [if_pos hf]
theorem Y56 {E:List Cel×Nat×Int} {d:List Cel} {c:Cel} {q:Nat} (h:Ycm E d (Yd4 ct l inter k first (n+1) p vs)) (hc:ct inter (Yac l) (Yd5 vs (Ydt k) first).1 (Yd5 vs (Ydt k) first).2 p=(c,q,0)) (hv:Yct k vs.length c=false):E.2.2=8:=by
 refine h.bad ?_ (by decide)
 rw [Yd4,hc]
 simp only
 rw [if_neg (fun x=> x rfl),hv,if_pos rfl]
theorem Y2g {E:List Cel×Nat×Int} {d:List Cel} {c:Cel} {q:Nat} (h:Ycm E d (Yd4 ct l inter k first (n+1) p vs)) (hc:ct inter (Yac l) (Yd5 vs (Ydt k) first).1 (Yd5 vs (Ydt k) first).2 p=(c,q,0)) (hv:Yct k vs.length c=true):Ycm E (d ++ [c]) (Yd4 ct l inter k first n q (vs ++ [(c.mx,c.my)])):=by
 refine h.step ?_
 rw [Yd4,hc]
 simp only
 rw [if_neg (fun x=> x rfl),hv,if_neg (by decide)]
 obtain ⟨⟨cs,z,g⟩,hr⟩:∃r,Yd4 ct l inter k first n q (vs ++ [(c.mx,c.my)])=r:=⟨_,rfl⟩
 rw [hr]
 by_cases hg:g=0
 ·subst hg
  rfl
 ·simp only
  rw [if_pos hg,if_pos hg]
theorem Y89 {i:Nat} {E:List RowP×Nat×Int} {d:List RowP} {hd:Bool} {id qu fs f:Int} {z:Nat} (h:Ycm E d (Yk6 ct l inter k (n+1) i p vs first)) (hh:Ylt l k i p first=(hd,id,qu,z,fs,f)) (hf:f≠0):E.2.2=f:=by
 refine h.bad ?_ hf
 rw [Yk6,hh]
 simp only
 rw [if_pos hf]
theorem Y88 {i:Nat} {E:List RowP×Nat×Int} {d:List RowP} {hd:Bool} {id qu fs g:Int} {z q:Nat} {cs:List Cel} (h:Ycm E d (Yk6 ct l inter k (n+1) i p vs first)) (hh:Ylt l k i p first=(hd,id,qu,z,fs,0)) (hc:Yd4 ct l inter k fs (Yg2 k).toNat z vs=(cs,q,g)) (hg:g≠0):E.2.2=g:=by
 refine h.bad ?_ hg
 rw [Yk6,hh]
 simp only
 rw [if_neg (fun x=> x rfl),hc]
 simp only
 rw [if_pos hg]
theorem Y9a {i:Nat} {E:List RowP×Nat×Int} {d:List RowP} {hd:Bool} {id qu fs:Int} {z q:Nat} {cs:List Cel} (h:Ycm E d (Yk6 ct l inter k (n+1) i p vs first)) (hh:Ylt l k i p first=(hd,id,qu,z,fs,0)) (hc:Yd4 ct l inter k fs (Yg2 k).toNat z vs=(cs,q,0)):
  Ycm E (d ++ [⟨hd,id,qu,cs⟩]) (Yk6 ct l inter k n (i+1) q (vs++Yd0 cs) fs):=by
 refine h.step ?_
 rw [Yk6,hh]
 simp only
 rw [if_neg (fun x=> x rfl),hc]
 simp only
 rw [if_neg (fun x=> x rfl)]
 obtain ⟨⟨rs,y,e⟩,hr⟩:∃r,Yk6 ct l inter k n (i+1) q (vs++Yd0 cs) fs=r:=⟨_,rfl⟩
 rw [hr]
 by_cases he:e=0
 ·subst he
  rfl
 ·simp only
  rw [if_pos he,if_pos he]
end
section
variable {ct:CelT} {l:List UInt8} {p q z:Nat} {h:Shd} {rs:List RowP} {f g:Int}
theorem Qd9 (hh:shk l p=(h,q,f)) (hf:f≠0):wtk ct l p=(Qdm,p,f):=by
 unfold wtk
 rw [hh]
 simp only
 rw [if_pos hf]
theorem Qea (hh:shk l p=(h,q,0)) (hr:(Yk6 ct l h.inter h.fmt (Yiw h.fmt).toNat 0 q [] 0).2.2=g) (hg:g≠0):wtk ct l p=(Qdm,p,g):=by
 unfold wtk
 rw [hh]
 simp only
 rw [if_neg (fun x=> x rfl)]
 obtain ⟨⟨rs,z,e⟩,h2⟩:∃r,Yk6 ct l h.inter h.fmt (Yiw h.fmt).toNat 0 q [] 0=r:=⟨_,rfl⟩
 rw [h2] at hr ⊢
 simp only at hr ⊢
 subst hr
 rw [if_pos hg]
theorem Qd8 (hh:shk l p=(h,q,0)) (hr:Yk6 ct l h.inter h.fmt (Yiw h.fmt).toNat 0 q [] 0=(rs,z,0)) (h0:Ya5 l z (gap z)≠0):wtk ct l p=(Qdm,p,5):=by
 unfold wtk
 rw [hh]
 simp only
 rw [if_neg (fun x=> x rfl),hr]
 simp only
 rw [if_neg (fun x=> x rfl),if_pos h0]
theorem Qhs (hh:shk l p=(h,q,0)) (hr:Yk6 ct l h.inter h.fmt (Yiw h.fmt).toNat 0 q [] 0=(rs,z,0)) (h0:Ya5 l z (gap z)=0):wtk ct l p=(⟨h,rs,(Y4y l (z+gap z):Nat)⟩,z+gap z+8*Y4y l (z+gap z),0):=by
 unfold wtk
 rw [hh]
 simp only
 rw [if_neg (fun x=> x rfl),hr]
 simp only
 rw [if_neg (fun x=> x rfl),if_neg (fun x=> x h0)]
end
theorem Y7m:∀(L:List UInt8),(∀i,i<(L.takeWhile (· == 48)).length→L[i]? = some 48)∧L[(L.takeWhile (· == 48)).length]?≠some 48
 | []=> ⟨fun i hi=> by simp at hi,by simp⟩
 | c::L=> by
  by_cases hc:c=48
  ·obtain ⟨h1,h2⟩:=Y7m L
   rw [List.takeWhile_cons_of_pos (by simpa using hc),List.length_cons]
   refine ⟨fun i hi=> ?_,by simpa using h2⟩
   match i,hi with
   | 0,_=> rw [hc];rfl
   | i+1,hi=> simpa using h1 i (by omega)
  ·rw [List.takeWhile_cons_of_neg (by simpa using hc)]
   refine ⟨fun i hi=> by simp at hi,?_⟩
   simpa using hc
theorem Yio (l:List UInt8) (p:Nat):(∀i,i<Ya6 l p→(Yac l)[p+i]? = some 48)∧(Yac l)[p+Ya6 l p]?≠some 48:=by
 have h:=Y7m ((Yac l).drop p)
 unfold Ya6
 rw [if_neg (by omega),Int.toNat_natCast]
 refine ⟨fun i hi=> ?_,?_⟩
 ·have:=h.1 i hi
  rwa [List.getElem?_drop] at this
 ·have:=h.2
  rwa [List.getElem?_drop] at this
theorem Ylo {l:List UInt8} {p:Nat} (hp:p≤8*l.length):p+Ya6 l p≤8*l.length:=by
 rcases Nat.lt_or_ge (8*l.length) (p+Ya6 l p) with h | h
 ·have:=(Yio l p).1 (8*l.length-p) (by omega)
  rw [List.getElem?_eq_none (by rw [Yas];omega)] at this
  cases this
 ·exact h
theorem Yln {l:List UInt8} {p n:Nat} (h:p+n≤8*l.length):Ya5 l p n=0↔n≤Ya6 l p:=by
 rw [Ycb l p n h]
 constructor
 ·intro h0
  rcases Nat.lt_or_ge (Ya6 l p) n with h1 | h1
  ·exact absurd (h0 _ h1) (Yio l p).2
  ·exact h1
 ·exact fun h1 i hi=> (Yio l p).1 i (by omega)
theorem Yv1 {l:List UInt8} {p n:Nat} (h:n≤Ya6 l p):Ya6 l ((p+n:Nat):Int)=Ya6 l p-n:=by
 obtain ⟨h1,h2⟩:=Yio l p
 refine Yjk (fun i hi=> ?_) ?_
 ·rw [Nat.add_assoc];exact h1 (n+i) (by omega)
 ·rw [show p+n+(Ya6 l p-n)=p+Ya6 l p by omega];exact h2
theorem Yvs {l:List UInt8} {p:Nat} (hp:p≤8*l.length):(Ybi l (p:Int)).2=0↔p+22≤8*l.length∧Ya6 l p=16:=by
 rcases Nat.lt_or_ge (8*l.length) (p+22) with h | h
 ·rw [Ye9 hp h]
  constructor
  ·intro h;cases h
  ·omega
 ·rw [Ygx h]
  have e:=Ydz l p 16 6 (by omega)
  have e2:=Ydz l p 17 5 (by omega)
  have e3:=Ydz l p 16 1 (by omega)
  have l5:=Ycg l (p+17) 5
  have l1:=Ycg l (p+16) 1
  have g16:=Yln (l:=l) (p:=p) (n:=16) (by omega)
  have g17:=Yln (l:=l) (p:=p) (n:=17) (by omega)
  simp only [Nat.reduceAdd,Nat.reducePow] at e e2 e3 l5 l1
  constructor
  ·intro h1
   by_cases ht:Ya5 l p 22 / 32=1
   ·have h17:Ya5 l p 17=1:=by omega
    have h16:Ya5 l p 16=0:=by omega
    have:=g16.1 h16
    have:=fun h=> g17.2 h
    refine ⟨h,?_⟩
    omega
   ·rw [if_neg ht] at h1;cases h1
  ·rintro ⟨_,h1⟩
   have h16:Ya5 l p 16=0:=g16.2 (by omega)
   have h17:Ya5 l p 17≠0:=fun h0=> by have:=g17.1 h0;omega
   rw [if_pos (by omega)]
def Qen (n left:Nat):Nat:=if n=left then n / 8 else if n%8=0∧16≤n then (n-16) / 8 else 0
theorem Yrz (l:List UInt8):∀(m p:Nat),p≤8*l.length→p%8=0→8*l.length-p≤8*m→
  Y1r l m p=if Ya6 l p=8*l.length-p then some (Ya6 l p / 8) else if Ya6 l p%8=0∧16≤Ya6 l p then some ((Ya6 l p-16) / 8) else none
 | 0,p,hp,h8,hm=> by
  have hn:=Ylo hp
  rw [Y1r,if_pos (.inr (by omega)),if_pos (by omega)]
  rw [show Ya6 l p=0 by omega]
 | m+1,p,hp,h8,hm=> by
  have hn:=Ylo hp
  have hk:=Yvs hp
  rw [Y1r]
  by_cases h1:(Ybi l (p:Int)).2=0∨p=8*l.length
  ·rw [if_pos h1]
   rcases h1 with h1 | h1
   ·obtain ⟨a,b⟩:=hk.1 h1
    rw [b,if_neg (by omega),if_pos (by omega)]
   ·rw [show Ya6 l p=0 by omega,if_pos (by omega)]
  ·rw [if_neg h1]
   have h2:¬ (p+22≤8*l.length∧Ya6 l p=16):=fun h=> h1 (.inl (hk.2 h))
   have h3:p+8≤8*l.length:=by
    have:p≠8*l.length:=fun h=> h1 (.inr h)
    omega
   have hg:=Yln h3
   by_cases h4:Ya5 l p 8=0
   ·rw [if_pos ⟨h3,h4⟩]
    have h5:=hg.1 h4
    rw [Yrz l m (p+8) h3 (by omega) (by omega),Yv1 h5]
    by_cases h6:Ya6 l p=8*l.length-p
    ·rw [if_pos h6,if_pos (by omega),Option.map_some]
     congr 1
     omega
    ·rw [if_neg h6,if_neg (by omega)]
     by_cases h7:Ya6 l p%8=0∧16≤Ya6 l p
     ·rw [if_pos h7,if_pos (by omega),Option.map_some]
      congr 1
      omega
     ·rw [if_neg h7,if_neg (by omega)]
      rfl
   ·rw [if_neg (fun h=> h4 h.2)]
    have h5:Ya6 l p<8:=by
     rcases Nat.lt_or_ge (Ya6 l p) 8 with h | h
     ·exact h
     ·exact absurd (hg.2 h) h4
    rw [if_neg (by omega),if_neg (by omega)]
theorem Y4z {l:List UInt8} {p:Nat} (hp:p≤8*l.length) (h8:p%8=0):Y4y l p=Qen (Ya6 l p) (8*l.length-p):=by
 unfold Y4y Qen
 rw [Yrz l l.length p hp h8 (by omega)]
 split
 ·rfl
 ·split <;> rfl
end Go.Proofs.YtgikochfffdpfaaGreatDoor