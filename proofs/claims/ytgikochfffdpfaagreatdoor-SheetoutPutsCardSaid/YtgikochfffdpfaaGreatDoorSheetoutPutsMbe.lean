/- Texts that SheetoutPuts's proof stands on, part 31 of 47. No condition of its own. -/
import Derived.Test.YtgikochfffdpfaaGreatDoorSheetoutPutsMf
import Derived.Test.YtgikochfffdpfaaGreatDoorSheetoutPutsMm
import Derived.Test.YtgikochfffdpfaaGreatDoorSheetoutPutsMt
import Derived.Test.YtgikochfffdpfaaGreatDoorSheetoutPutsMbb
import Derived.Test.YtgikochfffdpfaaGreatDoorSheetoutPutsMbd
namespace Go.Proofs.YtgikochfffdpfaaGreatDoor
open Go.RowKit
def Yb9 {α:Type} (f:Nat→α→Bool):Nat→List α→Bool
 | _,[]=> true
 | i,a::l=> f i a&&Yb9 f (i+1) l
theorem Yfj {α:Type} {f:Nat→α→Bool}:∀{i:Nat} {l:List α},Yb9 f i l=true↔∀j,(h:j<l.length)→f (i+j) l[j]=true
 | _,[]=> ⟨fun _ j h=> absurd h (Nat.not_lt_zero j),fun _=> rfl⟩
 | i,a::l=> by
  rw [Yb9,Bool.and_eq_true,Yfj]
  constructor
  ·rintro ⟨h0,h1⟩ j hj
   cases j with
   | zero=> exact h0
   | succ j=>
    have:=h1 j (by simpa using hj)
    rw [show i+(j+1)=i+1+j by omega]
    exact this
  ·intro h
   refine ⟨h 0 (by simp),fun j hj=> ?_⟩
   have:=h (j+1) (by simpa using hj)
   rw [show i+(j+1)=i+1+j by omega] at this
   exact this
theorem Yir {α:Type} {f:Nat→α→Bool}:∀(i:Nat) (l:List α) (a:α),Yb9 f i (l ++ [a])=(Yb9 f i l&&f (i+l.length) a)
 | i,[],a=> by simp [Yb9]
 | i,b::l,a=> by
  rw [List.cons_append,Yb9,Yir (i+1) l a,Yb9,Bool.and_assoc,List.length_cons,show i+(l.length+1)=i+1+l.length by omega]
theorem Yip {α:Type} {f:Nat→α→Bool}:∀(i:Nat) (l m:List α),Yb9 f i (l++m)=(Yb9 f i l&&Yb9 f (i+l.length) m)
 | i,[],m=> by simp [Yb9]
 | i,b::l,m=> by
  rw [List.cons_append,Yb9,Yip (i+1) l m,Yb9,Bool.and_assoc,List.length_cons,show i+(l.length+1)=i+1+l.length by omega]
theorem Ymj {α:Type} {f:Nat→α→Bool} {l:List α} {j:Nat} (hj:j<l.length) (h:Yb9 f 0 (l.take j)=true) (h1:f j l[j]=true):Yb9 f 0 (l.take (j+1))=true:=by
 rw [List.take_succ_eq_append_getElem hj,Yir,h,List.length_take,show 0+min j l.length=j by omega,h1];rfl
theorem Yiq {α:Type} {f:Nat→α→Bool} {l:List α} {j:Nat} (hj:j<l.length) (h1:f j l[j]=false):Yb9 f 0 l=false:=by
 cases h:Yb9 f 0 l with
 | false=> rfl
 | true=>
  have:=Yfj.1 h j hj
  rw [Nat.zero_add,h1] at this
  cases this
def Yb4 (inter:Bool) (n:Int) (i:Nat) (r:RowP):Bool:=
 decide ((r.cels.length:Int)=n)&&((if r.head then decide (i≠0∧0≤r.id∧r.id≤3∧1≤r.quant∧r.quant≤31) else decide (r.id=0∧r.quant=0))&&r.cels.all (Ya7 inter))
def Yfp (k:Int):Int:=Yex k*Yfm k
def Yck (S:ShP):Bool:=
 Yb7 S.hd&&(decide (0≤S.zeros∧S.zeros≤262144)&&(decide ((S.rows.length:Int)=Yf3 S.hd.fmt)&&Yb9 (Yb4 S.hd.inter (Yfp S.hd.fmt)) 0 S.rows))
def Ybs (S:ShP):List Cel:=S.rows.flatMap (·.cels)
def Ycw (k:Int) (n:Nat) (c:Cel):Bool:=Yaj c.kind || Yp7 k (n:Int) c.mx c.my
def Ybv (S:ShP):Int:=if Yck S=true then (if Yb9 (Ycw S.hd.fmt) 0 (Ybs S)=true then 0 else 8) else 12
theorem Yee {S:ShP} (h:Yck S=false):Ybv S=12:=by unfold Ybv;rw [if_neg (by rw [h];decide)]
theorem Yh6 {S:ShP} (h:Yck S=true) (h1:Yb9 (Ycw S.hd.fmt) 0 (Ybs S)=false):Ybv S=8:=by unfold Ybv;rw [if_pos h,if_neg (by rw [h1];decide)]
theorem Yqn {S:ShP} (h:Yck S=true) (h1:Yb9 (Ycw S.hd.fmt) 0 (Ybs S)=true):Ybv S=0:=by unfold Ybv;rw [if_pos h,if_pos h1]
theorem Ysh {S:ShP} (h:Ybv S=0):Yck S=true∧Yb9 (Ycw S.hd.fmt) 0 (Ybs S)=true:=by
 unfold Ybv at h
 cases h1:Yck S with
 | false=> rw [h1] at h;cases h
 | true=>
  cases h2:Yb9 (Ycw S.hd.fmt) 0 (Ybs S) with
  | false=> rw [h1,h2] at h;cases h
  | true=> exact ⟨rfl,rfl⟩
theorem Ynq (n:Nat):Yak 0 n=List.replicate n 48:=by
 have h:=Ypb (List.replicate n 48) (Yb8 n)
 rw [Yuf,List.length_replicate] at h
 exact h
def Ye0 (cs:List Cel):List (Int×Int):=cs.map fun c=> (c.mx,c.my)
def Yj6 (vs:List (Int×Int)) (across first:Int):Int×Int:=Ywm (fun i=> vs.getD i (0,0)) vs.length across first
def Yd5 (inter:Bool) (k first:Int):List (Int×Int)→List Cel→List UInt8
 | _,[]=> []
 | vs,c::cs=> Ybx inter (Yj6 vs (Yex k) first).1 (Yj6 vs (Yex k) first).2 c++Yd5 inter k first (vs ++ [(c.mx,c.my)]) cs
def Ygm (i p:Nat) (r:RowP):List UInt8:=if r.head then Ycc p i r.id.toNat r.quant.toNat else []
def Ylz (k:Int) (i:Nat) (first:Int) (r:RowP):Int:=if r.head then (i:Int)*Yfm k else first
def Yep (inter:Bool) (k:Int):Nat→Nat→List (Int×Int)→Int→List RowP→List UInt8
 | _,_,_,_,[]=> []
 | i,p,vs,first,r::rs=> Ygm i p r++(Yd5 inter k (Ylz k i first r) vs r.cels++Yep inter k (i+1) (p+(Ygm i p r).length+(Yd5 inter k (Ylz k i first r) vs r.cels).length) (vs++Ye0 r.cels) (Ylz k i first r) rs)
def Yhv (p:Nat) (S:ShP):List UInt8:=Yep S.hd.inter S.hd.fmt 0 p [] 0 S.rows
def Ye5 (p:Nat):List UInt8:=List.replicate (gap p) 48
def Ybo (p:Nat) (S:ShP):List UInt8:=
 (Ybb 0++Ycf S.hd)++(Yhv (p+(Ybb 0++Ycf S.hd).length) S++(Ye5 (p+(Ybb 0++Ycf S.hd).length+(Yhv (p+(Ybb 0++Ycf S.hd).length) S).length)++List.replicate (8*S.zeros.toNat) 48))
def Yje (r:List UInt8) (S:ShP):List UInt8:=r++(Ye5 r.length++Ybo (r.length+gap r.length) S)
def Yo5 (r:List UInt8) (S:ShP):List UInt8:=Ydy r 0++Ycf S.hd
def Yne (r:List UInt8) (S:ShP):List UInt8:=Yo5 r S++Yhv (Yo5 r S).length S
theorem Yen (r:List UInt8) (S:ShP):(Yo5 r S).length=r.length+gap r.length+(Ybb 0++Ycf S.hd).length:=by
 unfold Yo5
 rw [List.length_append,Yek,List.length_append,Ya9];omega
theorem Yfo (r:List UInt8) (S:ShP):Yje r S=(Yne r S++List.replicate (gap (Yne r S).length) 48)++List.replicate (8*S.zeros.toNat) 48:=by
 have hl:(Yne r S).length=r.length+gap r.length+(Ybb 0++Ycf S.hd).length+(Yhv (r.length+gap r.length+(Ybb 0++Ycf S.hd).length) S).length:=by
  unfold Yne
  rw [List.length_append,Yen]
 rw [hl]
 unfold Yje Ybo Yne
 rw [Yen]
 unfold Yo5 Ydy Ye5
 simp only [List.append_assoc]
def Yb6 (inter:Bool) (k:Int) (i:Nat) (R:List UInt8) (vs:List (Int×Int)) (first:Int) (rs:List RowP):List UInt8:=R++Yep inter k i R.length vs first rs
def Ycu (inter:Bool) (k first:Int) (R:List UInt8) (vs:List (Int×Int)) (cs:List Cel):List UInt8:=R++Yd5 inter k first vs cs
theorem Ykq (inter:Bool) (k first:Int) (R:List UInt8) (vs:List (Int×Int)):Ycu inter k first R vs []=R:=List.append_nil R
theorem Yiu (inter:Bool) (k first:Int) (R:List UInt8) (vs:List (Int×Int)) (c:Cel) (cs:List Cel):
  Ycu inter k first R vs (c::cs)=Ycu inter k first (R++Ybx inter (Yj6 vs (Yex k) first).1 (Yj6 vs (Yex k) first).2 c) (vs ++ [(c.mx,c.my)]) cs:=by
 unfold Ycu
 rw [Yd5,List.append_assoc]
theorem Yk8 (inter:Bool) (k:Int) (i:Nat) (R:List UInt8) (vs:List (Int×Int)) (first:Int):Yb6 inter k i R vs first []=R:=List.append_nil R
theorem Ypc (inter:Bool) (k:Int) (i:Nat) (R:List UInt8) (vs:List (Int×Int)) (first:Int) (r:RowP) (rs:List RowP):
  Yb6 inter k i R vs first (r::rs)=Yb6 inter k (i+1) (Ycu inter k (Ylz k i first r) (R++Ygm i R.length r) vs r.cels) (vs++Ye0 r.cels) (Ylz k i first r) rs:=by
 unfold Yb6 Ycu
 rw [Yep]
 simp only [List.length_append,List.append_assoc,Nat.add_assoc]
theorem Yhw (r:List UInt8) (S:ShP):Yb6 S.hd.inter S.hd.fmt 0 (Yo5 r S) [] 0 S.rows=Yne r S:=rfl
theorem Yr0 (r:List UInt8) (S:ShP):(Yje r S).length%8=0:=by
 rw [Yfo]
 simp only [List.length_append,List.length_replicate]
 unfold gap
 omega
end Go.Proofs.YtgikochfffdpfaaGreatDoor