/- No condition. -/
import Derived.Test.YtnamlooifcpoaaaGreatDoorScreensNextMp
import Derived.Test.YtnamlooifcpoaaaGreatDoorScreensNextMq
import Derived.Test.YtnamlooifcpoaaaGreatDoorScreensNextMs
import Derived.Test.YtnamlooifcpoaaaGreatDoorScreensNextMbg
namespace Go.Proofs.YtnamlooifcpoaaaGreatDoor
open Go.RowKit
def Ycy {α:Type}(f:Nat→α→Bool):Nat→List α→Bool
 |_,[]=>true
 |i,a::l=>f i a&&Ycy f (i+1) l
theorem Yes {α:Type}{f:Nat→α→Bool}:∀{i:Nat} {l:List α},Ycy f i l=true↔∀j,(h:j<l.length)→f (i+j) l[j]=true
 |_,[]=>⟨fun _ j h=>absurd h (Nat.not_lt_zero j),fun _=>rfl⟩
 |i,a::l=>by
  rw[Ycy,Bool.and_eq_true,Yes];constructor
  ·rintro⟨h0,h1⟩ j hj;cases j with
   |zero=>exact h0
   |succ j=>
    have:=h1 j (by simpa using hj);rw[show i+(j+1)=i+1+j by omega];exact this
  ·intro h;refine⟨h 0 (by simp),fun j hj=>?_⟩;have:=h (j+1) (by simpa using hj);rw[show i+(j+1)=i+1+j by omega] at this;exact this
theorem Yjg {α:Type}{f:Nat→α→Bool}:∀(i:Nat) (l:List α) (a:α),Ycy f i (l++[a])=(Ycy f i l&&f (i+l.length) a)
 |i,[],a=>by simp[Ycy]
 |i,b::l,a=>by
  rw[List.cons_append,Ycy,Yjg (i+1) l a,Ycy,Bool.and_assoc,List.length_cons,show i+(l.length+1)=i+1+l.length by omega]
theorem Yje {α:Type}{f:Nat→α→Bool}:∀(i:Nat) (l m:List α),Ycy f i (l++m)=(Ycy f i l&&Ycy f (i+l.length) m)
 |i,[],m=>by simp[Ycy]
 |i,b::l,m=>by
  rw[List.cons_append,Ycy,Yje (i+1) l m,Ycy,Bool.and_assoc,List.length_cons,show i+(l.length+1)=i+1+l.length by omega]
theorem Yno {α:Type}{f:Nat→α→Bool}{l:List α}{j:Nat}(hj:j<l.length)(h:Ycy f 0 (l.take j)=true)(h1:f j l[j]=true):Ycy f 0 (l.take (j+1))=true:=by
 rw[List.take_succ_eq_append_getElem hj,Yjg,h,List.length_take,show 0+min j l.length=j by omega,h1];rfl
theorem Yjf {α:Type}{f:Nat→α→Bool}{l:List α}{j:Nat}(hj:j<l.length)(h1:f j l[j]=false):Ycy f 0 l=false:=by
 cases h:Ycy f 0 l with
 |false=>rfl
 |true=>
  have:=Yes.1 h j hj;rw[Nat.zero_add,h1] at this;cases this
def Yc1 (inter:Bool)(n:Int)(i:Nat)(r:RowP):Bool:=
 decide ((r.cels.length:Int)=n)&&((if r.head then decide (i≠0∧0≤r.id∧r.id≤3∧1≤r.quant∧r.quant≤31) else decide (r.id=0∧r.quant=0))&&r.cels.all (Ybi inter))
def Ygr (k:Int):Int:=Yrv k*Ygz k
def Yck (S:ShP):Bool:=
 Ycw S.hd&&(decide (0≤S.zeros∧S.zeros≤262144)&&(decide ((S.rows.length:Int)=Yga S.hd.fmt)&&Ycy (Yc1 S.hd.inter (Ygr S.hd.fmt)) 0 S.rows))
def Yaw (S:ShP):List Cel:=S.rows.flatMap (·.cels)
def Ydm (k:Int)(n:Nat)(c:Cel):Bool:=Yaj c.kind || Yi3 k (n:Int) c.mx c.my
def Yb0 (S:ShP):Int:=if Yck S=true then (if Ycy (Ydm S.hd.fmt) 0 (Yaw S)=true then 0 else 8) else 12
theorem Yfe {S:ShP}(h:Yck S=false):Yb0 S=12:=by unfold Yb0;rw[if_neg (by rw[h];decide)]
theorem Yik {S:ShP}(h:Yck S=true)(h1:Ycy (Ydm S.hd.fmt) 0 (Yaw S)=false):Yb0 S=8:=by unfold Yb0;rw[if_pos h,if_neg (by rw[h1];decide)]
theorem Ysh {S:ShP}(h:Yck S=true)(h1:Ycy (Ydm S.hd.fmt) 0 (Yaw S)=true):Yb0 S=0:=by unfold Yb0;rw[if_pos h,if_pos h1]
theorem Yh8 {S:ShP}(h:Yb0 S=0):Yck S=true∧Ycy (Ydm S.hd.fmt) 0 (Yaw S)=true:=by
 unfold Yb0 at h;cases h1:Yck S with
 |false=>rw[h1] at h;cases h
 |true=>
  cases h2:Ycy (Ydm S.hd.fmt) 0 (Yaw S) with
  |false=>rw[h1,h2] at h;cases h
  |true=>exact⟨rfl,rfl⟩
theorem Yjn {inter:Bool}{n:Int}:∀(i:Nat) (l:List RowP),Ycy (Yc1 inter n) i l=true→((l.flatMap (·.cels)).length:Int)=l.length*n
 |_,[],_=>by simp
 |i,r::l,h=>by
  rw[Ycy,Bool.and_eq_true] at h;have h0:=h.1;unfold Yc1 at h0;rw[Bool.and_eq_true,decide_eq_true_iff] at h0;have h1:=Yjn (i+1) l h.2;rw[List.flatMap_cons,List.length_append,List.length_cons];have e:(((l.length+1:Nat):Int))*n=(l.length:Int)*n+n:=by
   rw[show ((l.length+1:Nat):Int)=(l.length:Int)+1 by omega,Int.add_mul,Int.one_mul]
  have:=h0.1;omega
theorem Yzm (k:Int):Yga k*Ygr k=((Ybg k:Nat):Int):=by
 unfold Ygr;rcases Ych k with rfl|rfl|rfl|rfl|rfl|rfl|⟨h,hv⟩
 case _|_|_|_|_|_=>decide +kernel
 rw[Yh3 h];unfold Yga Ygz;rw[hv];simp
theorem Yvv {S:ShP}(h:Yck S=true):(Yaw S).length=Ybg S.hd.fmt:=by
 unfold Yck at h;simp only[Bool.and_eq_true,decide_eq_true_iff] at h;obtain⟨-,-,h1,h2⟩:=h;have h3:=Yjn 0 S.rows h2;rw[h1,Yzm] at h3;exact Int.ofNat.inj h3
def Yli (q:Int)(c:Cel):Int:=if c.kind=1∨c.kind=4 then Yeq q c.step else q
def Ye2 (q:Int)(r:RowP):Int:=if r.head=true then r.quant else q
def Yu9 (q:Int)(l:List Cel):Int:=l.foldl Yli q
def Yh7:Int→List Cel→List Int
 |_,[]=>[]
 |q,c::l=>Yli q c::Yh7 (Yli q c) l
def Y2m (q:Int)(r:RowP):Int:=Yu9 (Ye2 q r) r.cels
def Yi7 (q:Int)(l:List RowP):Int:=l.foldl Y2m q
def Yg7:Int→List RowP→List Int
 |_,[]=>[]
 |q,r::l=>Ye2 q r::Yg7 (Y2m q r) l
def Yi6:Int→List RowP→List Int
 |_,[]=>[]
 |q,r::l=>Yh7 (Ye2 q r) r.cels++Yi6 (Y2m q r) l
theorem Y2k {c:Cel}(q:Int)(h:c.kind=1∨c.kind=4):Yli q c=Yeq q c.step:=if_pos h
theorem Y0h {c:Cel}(q:Int)(h:¬ (c.kind=1∨c.kind=4)):Yli q c=q:=if_neg h
theorem Ysc {r:RowP}(q:Int)(h:r.head=true):Ye2 q r=r.quant:=if_pos h
theorem Yox {r:RowP}(q:Int)(h:r.head=false):Ye2 q r=q:=if_neg (by rw[h];decide)
theorem Yxz (q:Int)(l:List Cel)(c:Cel):Yu9 q (l++[c])=Yli (Yu9 q l) c:=by unfold Yu9;rw[List.foldl_append];rfl
theorem Yxv (q:Int)(l:List RowP)(r:RowP):Yi7 q (l++[r])=Y2m (Yi7 q l) r:=by unfold Yi7;rw[List.foldl_append];rfl
theorem Yij:∀(q:Int) (l m:List Cel),Yh7 q (l++m)=Yh7 q l++Yh7 (Yu9 q l) m
 |_,[],_=>rfl
 |q,c::l,m=>by rw[List.cons_append,Yh7,Yij (Yli q c) l m,Yh7];rfl
theorem Yg4:∀(q:Int) (l m:List RowP),Yg7 q (l++m)=Yg7 q l++Yg7 (Yi7 q l) m
 |_,[],_=>rfl
 |q,r::l,m=>by rw[List.cons_append,Yg7,Yg4 (Y2m q r) l m,Yg7];rfl
theorem Yj4:∀(q:Int) (l m:List RowP),Yi6 q (l++m)=Yi6 q l++Yi6 (Yi7 q l) m
 |_,[],_=>rfl
 |q,r::l,m=>by rw[List.cons_append,Yi6,Yj4 (Y2m q r) l m,Yi6,List.append_assoc];rfl
theorem Yf1:∀(q:Int) (l:List Cel),(Yh7 q l).length=l.length
 |_,[]=>rfl
 |q,c::l=>by rw[Yh7,List.length_cons,Yf1,List.length_cons]
theorem Yel:∀(q:Int) (l:List RowP),(Yg7 q l).length=l.length
 |_,[]=>rfl
 |q,r::l=>by rw[Yg7,List.length_cons,Yel,List.length_cons]
theorem Yg3:∀(q:Int) (l:List RowP),(Yi6 q l).length=(l.flatMap (·.cels)).length
 |_,[]=>rfl
 |q,r::l=>by rw[Yi6,List.length_append,Yf1,Yg3,List.flatMap_cons,List.length_append]
theorem Yow (q:Int){l:List RowP}{i:Nat}(h:i<l.length):Yg7 q (l.take (i+1))=Yg7 q (l.take i)++[Ye2 (Yi7 q (l.take i)) l[i]]:=by
 rw[List.take_succ_eq_append_getElem h,Yg4];rfl
theorem Yxw (q:Int){l:List RowP}{i:Nat}(h:i<l.length):Yi7 q (l.take (i+1))=Yu9 (Ye2 (Yi7 q (l.take i)) l[i]) l[i].cels:=by
 rw[List.take_succ_eq_append_getElem h,Yxv];rfl
theorem Yxt (q:Int){l:List RowP}{i:Nat}(h:i<l.length):Yi6 q (l.take (i+1))=Yi6 q (l.take i)++Yh7 (Ye2 (Yi7 q (l.take i)) l[i]) l[i].cels:=by
 rw[List.take_succ_eq_append_getElem h,Yj4];show _++(_++[])=_;rw[List.append_nil]
theorem Yx0 (q:Int){l:List Cel}{i:Nat}(h:i<l.length):Yu9 q (l.take (i+1))=Yli (Yu9 q (l.take i)) l[i]:=by
 rw[List.take_succ_eq_append_getElem h,Yxz]
theorem Yty (q:Int){l:List Cel}{i:Nat}(h:i<l.length):Yh7 q (l.take (i+1))=Yh7 q (l.take i)++[Yli (Yu9 q (l.take i)) l[i]]:=by
 rw[List.take_succ_eq_append_getElem h,Yij];rfl
structure QOk (S:ShP):Prop where
 q:1≤S.hd.quant∧S.hd.quant≤31
 heads:∀r∈S.rows,r.head=true→1≤r.quant∧r.quant≤31
 cels:∀c∈Yaw S,¬ (c.kind=1∨c.kind=4)→c.step=0
theorem Yys {inter:Bool}{c:Cel}(h:Ybi inter c=true)(hk:¬ (c.kind=1∨c.kind=4)):c.step=0:=by
 unfold Ybi at h;rw[Bool.and_eq_true] at h;have h2:=h.2;cases hs:c.skip with
 |true=>
  rw[hs,if_pos rfl,Bool.and_eq_true] at h2;have h3:=h2.2;unfold Yg5 at h3;simp only[Bool.and_eq_true,beq_iff_eq] at h3;exact h3.1.1.2
 |false=>
  rw[hs,if_neg (by decide)] at h2;simp only[Bool.and_eq_true] at h2;have h3:=h2.1.2;unfold Yfq Y3u at h3;rw[if_neg (by simp only[Bool.or_eq_true,beq_iff_eq];exact hk)] at h3;exact eq_of_beq h3
theorem Yyj {S:ShP}(h:Yck S=true):QOk S:=by
 unfold Yck at h;simp only[Bool.and_eq_true,decide_eq_true_iff] at h;obtain⟨h0,-,-,h2⟩:=h;have Yh4:∀r∈S.rows,(if r.head then∃i:Nat,i≠0∧0≤r.id∧r.id≤3∧1≤r.quant∧r.quant≤31 else True)∧r.cels.all (Ybi S.hd.inter)=true:=fun r hr=>by
  obtain⟨i,hi,rfl⟩:=List.mem_iff_getElem.1 hr;have h3:=Yes.1 h2 i hi;unfold Yc1 at h3;rw[Bool.and_eq_true,Bool.and_eq_true] at h3;refine⟨?_,h3.2.2⟩;have h4:=h3.2.1;cases hh:S.rows[i].head with
  |false=>exact trivial
  |true=>
   rw[hh,if_pos rfl,decide_eq_true_iff] at h4;exact⟨0+i,h4⟩
 refine⟨(Yh9.1 h0).1.2.2.2.2,fun r hr hh=>?_,fun c hc=>?_⟩
 ·have h5:=(Yh4 r hr).1;rw[hh,if_pos rfl] at h5;obtain⟨_,h6⟩:=h5;exact h6.2.2.2
 ·obtain⟨r,hr,hc⟩:=List.mem_flatMap.1 hc;exact Yys (List.all_eq_true.1 (Yh4 r hr).2 c hc)
theorem Yts {q:Int}(h:1≤q∧q≤31)(s:Int):Yeq q s-q≤2∧q-Yeq q s≤2:=by unfold Yeq Yax;omega
theorem Y2j {q:Int}(h:1≤q∧q≤31)(c:Cel):(1≤Yli q c∧Yli q c≤31)∧Yli q c-q≤2∧q-Yli q c≤2:=by
 unfold Yli
 split
 ·exact⟨Yz5 q c.step,Yts h c.step⟩
 ·exact⟨h,by omega,by omega⟩
theorem Yov {q:Int}(h:1≤q∧q≤31){c:Cel}(hc:¬ (c.kind=1∨c.kind=4)→c.step=0):Yeq q c.step=Yli q c:=by
 unfold Yli
 split
 ·rfl
 ·next hk=>rw[hc hk];unfold Yeq Yax;omega
theorem Ym2:∀{q:Int} (_:1≤q∧q≤31) (l:List Cel),1≤Yu9 q l∧Yu9 q l≤31
 |_,h,[]=>h
 |_,h,c::l=>Ym2 (Y2j h c).1 l
theorem Ysb {q:Int}(h:1≤q∧q≤31){r:RowP}(hr:r.head=true→1≤r.quant∧r.quant≤31):1≤Ye2 q r∧Ye2 q r≤31:=by
 unfold Ye2
 split
 ·next hh=>exact hr hh
 ·exact h
theorem Yxu:∀{q:Int} (_:1≤q∧q≤31) (l:List RowP) (_:∀r∈l,r.head=true→1≤r.quant∧r.quant≤31),1≤Yi7 q l∧Yi7 q l≤31
 |_,h,[],_=>h
 |_,h,r::l,hl=>Yxu (Ym2 (Ysb h (hl r List.mem_cons_self)) r.cels) l fun x hx=>hl x (List.mem_cons_of_mem _ hx)
theorem QOk.head {S:ShP}(h:QOk S){i:Nat}(hi:i<S.rows.length):1≤Ye2 (Yi7 S.hd.quant (S.rows.take i)) S.rows[i]∧Ye2 (Yi7 S.hd.quant (S.rows.take i)) S.rows[i]≤31:=
 Ysb (Yxu h.q _ fun r hr=>h.heads r (List.mem_of_mem_take hr)) (h.heads _ (List.getElem_mem hi))
theorem QOk.cel {S:ShP}(h:QOk S){i:Nat}(hi:i<S.rows.length){c:Cel}(hc:c∈S.rows[i].cels):¬ (c.kind=1∨c.kind=4)→c.step=0:=
 h.cels c (List.mem_flatMap.2 ⟨_,List.getElem_mem hi,hc⟩)
theorem Yzn {l:List Int}{a b:List Int}{x:Int}{i:Nat}(h:l=a++x::b)(hi:a.length=i):l.getD i 0=x:=by
 subst hi h;simp[List.getD]
theorem Y2l (q:Int){l:List RowP}{i:Nat}(h:i<l.length):(Yg7 q l).getD i 0=Ye2 (Yi7 q (l.take i)) l[i]:=by
 refine Yzn (a:=Yg7 q (l.take i)) (b:=Yg7 (Y2m (Yi7 q (l.take i)) l[i]) (l.drop (i+1))) ?_ (by rw[Yel,List.length_take];omega);have e:l=l.take i++l[i]::l.drop (i+1):=by rw[List.getElem_cons_drop,List.take_append_drop]
 have:=congrArg (Yg7 q) e;rw[Yg4] at this;exact this
end Go.Proofs.YtnamlooifcpoaaaGreatDoor