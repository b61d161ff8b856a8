/- No condition. -/
import Derived.Test.YtndbeacoaimdgaaDoorQuantsOfMn
import Derived.Test.YtndbeacoaimdgaaDoorQuantsOfMt
import Derived.Test.YtndbeacoaimdgaaDoorQuantsOfMy
import Derived.Test.YtndbeacoaimdgaaDoorQuantsOfMba
namespace Go.Proofs.YtndbeacoaimdgaaDoor
open Go.RowKit
def Ybl {α:Type}(f:Nat→α→Bool):Nat→List α→Bool
 |_,[]=>true
 |i,a::l=>f i a&&Ybl f (i+1) l
theorem Ydj {α:Type}{f:Nat→α→Bool}:∀{i:Nat} {l:List α},Ybl f i l=true↔∀j,(h:j<l.length)→f (i+j) l[j]=true
 |_,[]=>⟨fun _ j h=>absurd h (Nat.not_lt_zero j),fun _=>rfl⟩
 |i,a::l=>by
  rw[Ybl,Bool.and_eq_true,Ydj];constructor
  ·rintro⟨h0,h1⟩ j hj;cases j with
   |zero=>exact h0
   |succ j=>
    have:=h1 j (by simpa using hj);rw[show i+(j+1)=i+1+j by omega];exact this
  ·intro h;refine⟨h 0 (by simp),fun j hj=>?_⟩;have:=h (j+1) (by simpa using hj);rw[show i+(j+1)=i+1+j by omega] at this;exact this
theorem Yfq {α:Type}{f:Nat→α→Bool}:∀(i:Nat) (l:List α) (a:α),Ybl f i (l++[a])=(Ybl f i l&&f (i+l.length) a)
 |i,[],a=>by simp[Ybl]
 |i,b::l,a=>by
  rw[List.cons_append,Ybl,Yfq (i+1) l a,Ybl,Bool.and_assoc,List.length_cons,show i+(l.length+1)=i+1+l.length by omega]
theorem Yfo {α:Type}{f:Nat→α→Bool}:∀(i:Nat) (l m:List α),Ybl f i (l++m)=(Ybl f i l&&Ybl f (i+l.length) m)
 |i,[],m=>by simp[Ybl]
 |i,b::l,m=>by
  rw[List.cons_append,Ybl,Yfo (i+1) l m,Ybl,Bool.and_assoc,List.length_cons,show i+(l.length+1)=i+1+l.length by omega]
theorem Yic {α:Type}{f:Nat→α→Bool}{l:List α}{j:Nat}(hj:j<l.length)(h:Ybl f 0 (l.take j)=true)(h1:f j l[j]=true):Ybl f 0 (l.take (j+1))=true:=by
 rw[List.take_succ_eq_append_getElem hj,Yfq,h,List.length_take,show 0+min j l.length=j by omega,h1];rfl
theorem Yfp {α:Type}{f:Nat→α→Bool}{l:List α}{j:Nat}(hj:j<l.length)(h1:f j l[j]=false):Ybl f 0 l=false:=by
 cases h:Ybl f 0 l with
 |false=>rfl
 |true=>
  have:=Ydj.1 h j hj;rw[Nat.zero_add,h1] at this;cases this
def Ybx (inter:Bool)(n:Int)(i:Nat)(r:RowP):Bool:=
 decide ((r.cels.length:Int)=n)&&((if r.head then decide (i≠0∧0≤r.id∧r.id≤3∧1≤r.quant∧r.quant≤31) else decide (r.id=0∧r.quant=0))&&r.cels.all (Ya6 inter))
def Yd7 (k:Int):Int:=Yko k*Yfd k
def Ybi (S:ShP):Bool:=
 Ybj S.hd&&(decide (0≤S.zeros∧S.zeros≤262144)&&(decide ((S.rows.length:Int)=Ye0 S.hd.fmt)&&Ybl (Ybx S.hd.inter (Yd7 S.hd.fmt)) 0 S.rows))
def Ya3 (S:ShP):List Cel:=S.rows.flatMap (·.cels)
def Yby (k:Int)(n:Nat)(c:Cel):Bool:=Yaj c.kind || Ykt k (n:Int) c.mx c.my
def Ya5 (S:ShP):Int:=if Ybi S=true then (if Ybl (Yby S.hd.fmt) 0 (Ya3 S)=true then 0 else 8) else 12
theorem Ycv {S:ShP}(h:Ybi S=false):Ya5 S=12:=by unfold Ya5;rw[if_neg (by rw[h];decide)]
theorem Ye4 {S:ShP}(h:Ybi S=true)(h1:Ybl (Yby S.hd.fmt) 0 (Ya3 S)=false):Ya5 S=8:=by unfold Ya5;rw[if_pos h,if_neg (by rw[h1];decide)]
theorem Yk5 {S:ShP}(h:Ybi S=true)(h1:Ybl (Yby S.hd.fmt) 0 (Ya3 S)=true):Ya5 S=0:=by unfold Ya5;rw[if_pos h,if_pos h1]
theorem Yhc {S:ShP}(h:Ya5 S=0):Ybi S=true∧Ybl (Yby S.hd.fmt) 0 (Ya3 S)=true:=by
 unfold Ya5 at h;cases h1:Ybi S with
 |false=>rw[h1] at h;cases h
 |true=>
  cases h2:Ybl (Yby S.hd.fmt) 0 (Ya3 S) with
  |false=>rw[h1,h2] at h;cases h
  |true=>exact⟨rfl,rfl⟩
def Yg7 (q:Int)(c:Cel):Int:=if c.kind=1∨c.kind=4 then Yck q c.step else q
def Ycq (q:Int)(r:RowP):Int:=if r.head=true then r.quant else q
def Yml (q:Int)(l:List Cel):Int:=l.foldl Yg7 q
def Yeu:Int→List Cel→List Int
 |_,[]=>[]
 |q,c::l=>Yg7 q c::Yeu (Yg7 q c) l
def Yqr (q:Int)(r:RowP):Int:=Yml (Ycq q r) r.cels
def Yfg (q:Int)(l:List RowP):Int:=l.foldl Yqr q
def Ydp:Int→List RowP→List Int
 |_,[]=>[]
 |q,r::l=>Ycq q r::Ydp (Yqr q r) l
def Ye9:Int→List RowP→List Int
 |_,[]=>[]
 |q,r::l=>Yeu (Ycq q r) r.cels++Ye9 (Yqr q r) l
theorem Yqp {c:Cel}(q:Int)(h:c.kind=1∨c.kind=4):Yg7 q c=Yck q c.step:=if_pos h
theorem Ypf {c:Cel}(q:Int)(h:¬ (c.kind=1∨c.kind=4)):Yg7 q c=q:=if_neg h
theorem Yk0 {r:RowP}(q:Int)(h:r.head=true):Ycq q r=r.quant:=if_pos h
theorem Yi4 {r:RowP}(q:Int)(h:r.head=false):Ycq q r=q:=if_neg (by rw[h];decide)
theorem Ynx (q:Int)(l:List Cel)(c:Cel):Yml q (l++[c])=Yg7 (Yml q l) c:=by unfold Yml;rw[List.foldl_append];rfl
theorem Ynv (q:Int)(l:List RowP)(r:RowP):Yfg q (l++[r])=Yqr (Yfg q l) r:=by unfold Yfg;rw[List.foldl_append];rfl
theorem Ye3:∀(q:Int) (l m:List Cel),Yeu q (l++m)=Yeu q l++Yeu (Yml q l) m
 |_,[],_=>rfl
 |q,c::l,m=>by rw[List.cons_append,Yeu,Ye3 (Yg7 q c) l m,Yeu];rfl
theorem Yd2:∀(q:Int) (l m:List RowP),Ydp q (l++m)=Ydp q l++Ydp (Yfg q l) m
 |_,[],_=>rfl
 |q,r::l,m=>by rw[List.cons_append,Ydp,Yd2 (Yqr q r) l m,Ydp];rfl
theorem Ygb:∀(q:Int) (l m:List RowP),Ye9 q (l++m)=Ye9 q l++Ye9 (Yfg q l) m
 |_,[],_=>rfl
 |q,r::l,m=>by rw[List.cons_append,Ye9,Ygb (Yqr q r) l m,Ye9,List.append_assoc];rfl
theorem Ydc:∀(q:Int) (l:List Cel),(Yeu q l).length=l.length
 |_,[]=>rfl
 |q,c::l=>by rw[Yeu,List.length_cons,Ydc,List.length_cons]
theorem Ybz:∀(q:Int) (l:List RowP),(Ydp q l).length=l.length
 |_,[]=>rfl
 |q,r::l=>by rw[Ydp,List.length_cons,Ybz,List.length_cons]
theorem Yd1:∀(q:Int) (l:List RowP),(Ye9 q l).length=(l.flatMap (·.cels)).length
 |_,[]=>rfl
 |q,r::l=>by rw[Ye9,List.length_append,Ydc,Yd1,List.flatMap_cons,List.length_append]
theorem Yi3 (q:Int){l:List RowP}{i:Nat}(h:i<l.length):Ydp q (l.take (i+1))=Ydp q (l.take i)++[Ycq (Yfg q (l.take i)) l[i]]:=by
 rw[List.take_succ_eq_append_getElem h,Yd2];rfl
theorem Ynw (q:Int){l:List RowP}{i:Nat}(h:i<l.length):Yfg q (l.take (i+1))=Yml (Ycq (Yfg q (l.take i)) l[i]) l[i].cels:=by
 rw[List.take_succ_eq_append_getElem h,Ynv];rfl
theorem Ynt (q:Int){l:List RowP}{i:Nat}(h:i<l.length):Ye9 q (l.take (i+1))=Ye9 q (l.take i)++Yeu (Ycq (Yfg q (l.take i)) l[i]) l[i].cels:=by
 rw[List.take_succ_eq_append_getElem h,Ygb];show _++(_++[])=_;rw[List.append_nil]
theorem Yny (q:Int){l:List Cel}{i:Nat}(h:i<l.length):Yml q (l.take (i+1))=Yg7 (Yml q (l.take i)) l[i]:=by
 rw[List.take_succ_eq_append_getElem h,Ynx]
theorem Ylw (q:Int){l:List Cel}{i:Nat}(h:i<l.length):Yeu q (l.take (i+1))=Yeu q (l.take i)++[Yg7 (Yml q (l.take i)) l[i]]:=by
 rw[List.take_succ_eq_append_getElem h,Ye3];rfl
structure QOk (S:ShP):Prop where
 q:1≤S.hd.quant∧S.hd.quant≤31
 heads:∀r∈S.rows,r.head=true→1≤r.quant∧r.quant≤31
 cels:∀c∈Ya3 S,¬ (c.kind=1∨c.kind=4)→c.step=0
theorem Yoe {inter:Bool}{c:Cel}(h:Ya6 inter c=true)(hk:¬ (c.kind=1∨c.kind=4)):c.step=0:=by
 unfold Ya6 at h;rw[Bool.and_eq_true] at h;have h2:=h.2;cases hs:c.skip with
 |true=>
  rw[hs,if_pos rfl,Bool.and_eq_true] at h2;have h3:=h2.2;unfold Yd4 at h3;simp only[Bool.and_eq_true,beq_iff_eq] at h3;exact h3.1.1.2
 |false=>
  rw[hs,if_neg (by decide)] at h2;simp only[Bool.and_eq_true] at h2;have h3:=h2.1.2;unfold Yc8 Yre at h3;rw[if_neg (by simp only[Bool.or_eq_true,beq_iff_eq];exact hk)] at h3;exact eq_of_beq h3
theorem Yja {S:ShP}(h:Ybi S=true):QOk S:=by
 unfold Ybi at h;simp only[Bool.and_eq_true,decide_eq_true_iff] at h;obtain⟨h0,-,-,h2⟩:=h;have hall:∀r∈S.rows,(if r.head then∃i:Nat,i≠0∧0≤r.id∧r.id≤3∧1≤r.quant∧r.quant≤31 else True)∧r.cels.all (Ya6 S.hd.inter)=true:=fun r hr=>by
  obtain⟨i,hi,rfl⟩:=List.mem_iff_getElem.1 hr;have h3:=Ydj.1 h2 i hi;unfold Ybx at h3;rw[Bool.and_eq_true,Bool.and_eq_true] at h3;refine⟨?_,h3.2.2⟩;have h4:=h3.2.1;cases hh:S.rows[i].head with
  |false=>exact trivial
  |true=>
   rw[hh,if_pos rfl,decide_eq_true_iff] at h4;exact⟨0+i,h4⟩
 refine⟨(Yev.1 h0).1.2.2.2.2,fun r hr hh=>?_,fun c hc=>?_⟩
 ·have h5:=(hall r hr).1;rw[hh,if_pos rfl] at h5;obtain⟨_,h6⟩:=h5;exact h6.2.2.2
 ·obtain⟨r,hr,hc⟩:=List.mem_flatMap.1 hc;exact Yoe (List.all_eq_true.1 (hall r hr).2 c hc)
theorem Ylt {q:Int}(h:1≤q∧q≤31)(s:Int):Yck q s-q≤2∧q-Yck q s≤2:=by unfold Yck Yb8;omega
theorem Yqo {q:Int}(h:1≤q∧q≤31)(c:Cel):(1≤Yg7 q c∧Yg7 q c≤31)∧Yg7 q c-q≤2∧q-Yg7 q c≤2:=by
 unfold Yg7
 split
 ·exact⟨Yo9 q c.step,Ylt h c.step⟩
 ·exact⟨h,by omega,by omega⟩
theorem Yi0 {q:Int}(h:1≤q∧q≤31){c:Cel}(hc:¬ (c.kind=1∨c.kind=4)→c.step=0):Yck q c.step=Yg7 q c:=by
 unfold Yg7
 split
 ·rfl
 ·next hk=>rw[hc hk];unfold Yck Yb8;omega
theorem Yhy:∀{q:Int} (_:1≤q∧q≤31) (l:List Cel),1≤Yml q l∧Yml q l≤31
 |_,h,[]=>h
 |_,h,c::l=>Yhy (Yqo h c).1 l
theorem Ykz {q:Int}(h:1≤q∧q≤31){r:RowP}(hr:r.head=true→1≤r.quant∧r.quant≤31):1≤Ycq q r∧Ycq q r≤31:=by
 unfold Ycq
 split
 ·next hh=>exact hr hh
 ·exact h
theorem Ynu:∀{q:Int} (_:1≤q∧q≤31) (l:List RowP) (_:∀r∈l,r.head=true→1≤r.quant∧r.quant≤31),1≤Yfg q l∧Yfg q l≤31
 |_,h,[],_=>h
 |_,h,r::l,hl=>Ynu (Yhy (Ykz h (hl r List.mem_cons_self)) r.cels) l fun x hx=>hl x (List.mem_cons_of_mem _ hx)
theorem QOk.head {S:ShP}(h:QOk S){i:Nat}(hi:i<S.rows.length):1≤Ycq (Yfg S.hd.quant (S.rows.take i)) S.rows[i]∧Ycq (Yfg S.hd.quant (S.rows.take i)) S.rows[i]≤31:=
 Ykz (Ynu h.q _ fun r hr=>h.heads r (List.mem_of_mem_take hr)) (h.heads _ (List.getElem_mem hi))
theorem QOk.cel {S:ShP}(h:QOk S){i:Nat}(hi:i<S.rows.length){c:Cel}(hc:c∈S.rows[i].cels):¬ (c.kind=1∨c.kind=4)→c.step=0:=
 h.cels c (List.mem_flatMap.2 ⟨_,List.getElem_mem hi,hc⟩)
theorem Yo0 {l:List Int}{a b:List Int}{x:Int}{i:Nat}(h:l=a++x::b)(hi:a.length=i):l.getD i 0=x:=by
 subst hi h;simp[List.getD]
theorem Yqq (q:Int){l:List RowP}{i:Nat}(h:i<l.length):(Ydp q l).getD i 0=Ycq (Yfg q (l.take i)) l[i]:=by
 refine Yo0 (a:=Ydp q (l.take i)) (b:=Ydp (Yqr (Yfg q (l.take i)) l[i]) (l.drop (i+1))) ?_ (by rw[Ybz,List.length_take];omega);have e:l=l.take i++l[i]::l.drop (i+1):=by rw[List.getElem_cons_drop,List.take_append_drop]
 have:=congrArg (Ydp q) e;rw[Yd2] at this;exact this
end Go.Proofs.YtndbeacoaimdgaaDoor