/- No condition. -/
import Derived.Test.YtnamlooifcpoaaaGreatDoorScreensStillMp
import Derived.Test.YtnamlooifcpoaaaGreatDoorScreensStillMr
import Derived.Test.YtnamlooifcpoaaaGreatDoorScreensStillMt
import Derived.Test.YtnamlooifcpoaaaGreatDoorScreensStillMbg
namespace Go.Proofs.YtnamlooifcpoaaaGreatDoor
open Go.RowKit
def Ycj {α:Type}(f:Nat→α→Bool):Nat→List α→Bool
 |_,[]=>true
 |i,a::l=>f i a&&Ycj f (i+1) l
theorem Yc1 {α:Type}{f:Nat→α→Bool}:∀{i:Nat} {l:List α},Ycj f i l=true↔∀j,(h:j<l.length)→f (i+j) l[j]=true
 |_,[]=>⟨fun _ j h=>absurd h (Nat.not_lt_zero j),fun _=>rfl⟩
 |i,a::l=>by
  rw[Ycj,Bool.and_eq_true,Yc1];constructor
  ·rintro⟨h0,h1⟩ j hj;cases j with
   |zero=>exact h0
   |succ j=>
    have:=h1 j (by simpa using hj);rw[show i+(j+1)=i+1+j by omega];exact this
  ·intro h;refine⟨h 0 (by simp),fun j hj=>?_⟩;have:=h (j+1) (by simpa using hj);rw[show i+(j+1)=i+1+j by omega] at this;exact this
theorem Yk9 {α:Type}{f:Nat→α→Bool}:∀(i:Nat) (l:List α) (a:α),Ycj f i (l++[a])=(Ycj f i l&&f (i+l.length) a)
 |i,[],a=>by simp[Ycj]
 |i,b::l,a=>by
  rw[List.cons_append,Ycj,Yk9 (i+1) l a,Ycj,Bool.and_assoc,List.length_cons,show i+(l.length+1)=i+1+l.length by omega]
theorem Yg6 {α:Type}{f:Nat→α→Bool}:∀(i:Nat) (l m:List α),Ycj f i (l++m)=(Ycj f i l&&Ycj f (i+l.length) m)
 |i,[],m=>by simp[Ycj]
 |i,b::l,m=>by
  rw[List.cons_append,Ycj,Yg6 (i+1) l m,Ycj,Bool.and_assoc,List.length_cons,show i+(l.length+1)=i+1+l.length by omega]
theorem Yrq {α:Type}{f:Nat→α→Bool}{l:List α}{j:Nat}(hj:j<l.length)(h1:f j l[j]=false):Ycj f 0 l=false:=by
 cases h:Ycj f 0 l with
 |false=>rfl
 |true=>
  have:=Yc1.1 h j hj;rw[Nat.zero_add,h1] at this;cases this
def Ydw (inter:Bool)(n:Int)(i:Nat)(r:RowP):Bool:=
 decide ((r.cels.length:Int)=n)&&((if r.head then decide (i≠0∧0≤r.id∧r.id≤3∧1≤r.quant∧r.quant≤31) else decide (r.id=0∧r.quant=0))&&r.cels.all (Ybb inter))
def Ygp (k:Int):Int:=Yot k*Yxy k
def Ych (S:ShP):Bool:=
 Ycy S.hd&&(decide (0≤S.zeros∧S.zeros≤262144)&&(decide ((S.rows.length:Int)=Ym6 S.hd.fmt)&&Ycj (Ydw S.hd.inter (Ygp S.hd.fmt)) 0 S.rows))
def Yaw (S:ShP):List Cel:=S.rows.flatMap (·.cels)
def Yd0 (k:Int)(n:Nat)(c:Cel):Bool:=Ya3 c.kind || Yi6 k (n:Int) c.mx c.my
def Ybe (S:ShP):Int:=if Ych S=true then (if Ycj (Yd0 S.hd.fmt) 0 (Yaw S)=true then 0 else 8) else 12
theorem Yqy {S:ShP}(h:Ych S=false):Ybe S=12:=by unfold Ybe;rw[if_neg (by rw[h];decide)]
theorem Ymm {S:ShP}(h:Ych S=true)(h1:Ycj (Yd0 S.hd.fmt) 0 (Yaw S)=false):Ybe S=8:=by unfold Ybe;rw[if_pos h,if_neg (by rw[h1];decide)]
theorem Yo8 {S:ShP}(h:Ych S=true)(h1:Ycj (Yd0 S.hd.fmt) 0 (Yaw S)=true):Ybe S=0:=by unfold Ybe;rw[if_pos h,if_pos h1]
theorem Yjo {S:ShP}(h:Ybe S=0):Ych S=true∧Ycj (Yd0 S.hd.fmt) 0 (Yaw S)=true:=by
 unfold Ybe at h;cases h1:Ych S with
 |false=>rw[h1] at h;cases h
 |true=>
  cases h2:Ycj (Yd0 S.hd.fmt) 0 (Yaw S) with
  |false=>rw[h1,h2] at h;cases h
  |true=>exact⟨rfl,rfl⟩
theorem Yhg {inter:Bool}{n:Int}:∀(i:Nat) (l:List RowP),Ycj (Ydw inter n) i l=true→((l.flatMap (·.cels)).length:Int)=l.length*n
 |_,[],_=>by simp
 |i,r::l,h=>by
  rw[Ycj,Bool.and_eq_true] at h;have h0:=h.1;unfold Ydw at h0;rw[Bool.and_eq_true,decide_eq_true_iff] at h0;have h1:=Yhg (i+1) l h.2;rw[List.flatMap_cons,List.length_append,List.length_cons];have e:(((l.length+1:Nat):Int))*n=(l.length:Int)*n+n:=by
   rw[show ((l.length+1:Nat):Int)=(l.length:Int)+1 by omega,Int.add_mul,Int.one_mul]
  have:=h0.1;omega
theorem Yv4 (k:Int):Ym6 k*Ygp k=((Ybc k:Nat):Int):=by
 unfold Ygp;rcases Ybq k with rfl|rfl|rfl|rfl|rfl|rfl|⟨h,hv⟩
 case _|_|_|_|_|_=>decide +kernel
 rw[Yiy h];unfold Ym6 Yxy;rw[hv];simp
theorem Ylj {S:ShP}(h:Ych S=true):(Yaw S).length=Ybc S.hd.fmt:=by
 unfold Ych at h;simp only[Bool.and_eq_true,decide_eq_true_iff] at h;obtain⟨-,-,h1,h2⟩:=h;have h3:=Yhg 0 S.rows h2;rw[h1,Yv4] at h3;exact Int.ofNat.inj h3
def Yqd (q:Int)(c:Cel):Int:=if c.kind=1∨c.kind=4 then Yki q c.step else q
def Yfa (q:Int)(r:RowP):Int:=if r.head=true then r.quant else q
def Yu8 (q:Int)(l:List Cel):Int:=l.foldl Yqd q
def Ygc:Int→List Cel→List Int
 |_,[]=>[]
 |q,c::l=>Yqd q c::Ygc (Yqd q c) l
def Yzz (q:Int)(r:RowP):Int:=Yu8 (Yfa q r) r.cels
def Ynw (q:Int)(l:List RowP):Int:=l.foldl Yzz q
def Yk2:Int→List RowP→List Int
 |_,[]=>[]
 |q,r::l=>Yfa q r::Yk2 (Yzz q r) l
def Yih:Int→List RowP→List Int
 |_,[]=>[]
 |q,r::l=>Ygc (Yfa q r) r.cels++Yih (Yzz q r) l
theorem Yza {c:Cel}(q:Int)(h:c.kind=1∨c.kind=4):Yqd q c=Yki q c.step:=if_pos h
theorem Ywt {c:Cel}(q:Int)(h:¬ (c.kind=1∨c.kind=4)):Yqd q c=q:=if_neg h
theorem Ywv {r:RowP}(q:Int)(h:r.head=true):Yfa q r=r.quant:=if_pos h
theorem Yt6 {r:RowP}(q:Int)(h:r.head=false):Yfa q r=q:=if_neg (by rw[h];decide)
theorem Yt7 (q:Int)(l:List Cel)(c:Cel):Yu8 q (l++[c])=Yqd (Yu8 q l) c:=by unfold Yu8;rw[List.foldl_append];rfl
theorem Yt1 (q:Int)(l:List RowP)(r:RowP):Ynw q (l++[r])=Yzz (Ynw q l) r:=by unfold Ynw;rw[List.foldl_append];rfl
theorem Ygo:∀(q:Int) (l m:List Cel),Ygc q (l++m)=Ygc q l++Ygc (Yu8 q l) m
 |_,[],_=>rfl
 |q,c::l,m=>by rw[List.cons_append,Ygc,Ygo (Yqd q c) l m,Ygc];rfl
theorem Yht:∀(q:Int) (l m:List RowP),Yk2 q (l++m)=Yk2 q l++Yk2 (Ynw q l) m
 |_,[],_=>rfl
 |q,r::l,m=>by rw[List.cons_append,Yk2,Yht (Yzz q r) l m,Yk2];rfl
theorem Yhs:∀(q:Int) (l m:List RowP),Yih q (l++m)=Yih q l++Yih (Ynw q l) m
 |_,[],_=>rfl
 |q,r::l,m=>by rw[List.cons_append,Yih,Yhs (Yzz q r) l m,Yih,List.append_assoc];rfl
theorem Yel:∀(q:Int) (l:List Cel),(Ygc q l).length=l.length
 |_,[]=>rfl
 |q,c::l=>by rw[Ygc,List.length_cons,Yel,List.length_cons]
theorem Yhu:∀(q:Int) (l:List RowP),(Yk2 q l).length=l.length
 |_,[]=>rfl
 |q,r::l=>by rw[Yk2,List.length_cons,Yhu,List.length_cons]
theorem Ye9:∀(q:Int) (l:List RowP),(Yih q l).length=(l.flatMap (·.cels)).length
 |_,[]=>rfl
 |q,r::l=>by rw[Yih,List.length_append,Yel,Ye9,List.flatMap_cons,List.length_append]
theorem Yt5 (q:Int){l:List RowP}{i:Nat}(h:i<l.length):Yk2 q (l.take (i+1))=Yk2 q (l.take i)++[Yfa (Ynw q (l.take i)) l[i]]:=by
 rw[List.take_succ_eq_append_getElem h,Yht];rfl
theorem Yt2 (q:Int){l:List RowP}{i:Nat}(h:i<l.length):Ynw q (l.take (i+1))=Yu8 (Yfa (Ynw q (l.take i)) l[i]) l[i].cels:=by
 rw[List.take_succ_eq_append_getElem h,Yt1];rfl
theorem Yt0 (q:Int){l:List RowP}{i:Nat}(h:i<l.length):Yih q (l.take (i+1))=Yih q (l.take i)++Ygc (Yfa (Ynw q (l.take i)) l[i]) l[i].cels:=by
 rw[List.take_succ_eq_append_getElem h,Yhs];show _++(_++[])=_;rw[List.append_nil]
theorem Yt8 (q:Int){l:List Cel}{i:Nat}(h:i<l.length):Yu8 q (l.take (i+1))=Yqd (Yu8 q (l.take i)) l[i]:=by
 rw[List.take_succ_eq_append_getElem h,Yt7]
theorem Yqe (q:Int){l:List Cel}{i:Nat}(h:i<l.length):Ygc q (l.take (i+1))=Ygc q (l.take i)++[Yqd (Yu8 q (l.take i)) l[i]]:=by
 rw[List.take_succ_eq_append_getElem h,Ygo];rfl
end Go.Proofs.YtnamlooifcpoaaaGreatDoor