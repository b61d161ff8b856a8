/- No condition. -/
import Derived.Test.YtndbeacoaimdgaaDoorQuantsGoMn
import Derived.Test.YtndbeacoaimdgaaDoorQuantsGoMs
import Derived.Test.YtndbeacoaimdgaaDoorQuantsGoMx
import Derived.Test.YtndbeacoaimdgaaDoorQuantsGoMz
namespace Go.Proofs.YtndbeacoaimdgaaDoor
open Go.RowKit
def Yba {α:Type}(f:Nat→α→Bool):Nat→List α→Bool
 |_,[]=>true
 |i,a::l=>f i a&&Yba f (i+1) l
theorem Ycp {α:Type}{f:Nat→α→Bool}:∀{i:Nat} {l:List α},Yba f i l=true↔∀j,(h:j<l.length)→f (i+j) l[j]=true
 |_,[]=>⟨fun _ j h=>absurd h (Nat.not_lt_zero j),fun _=>rfl⟩
 |i,a::l=>by
  rw[Yba,Bool.and_eq_true,Ycp];constructor
  ·rintro⟨h0,h1⟩ j hj;cases j with
   |zero=>exact h0
   |succ j=>
    have:=h1 j (by simpa using hj);rw[show i+(j+1)=i+1+j by omega];exact this
  ·intro h;refine⟨h 0 (by simp),fun j hj=>?_⟩;have:=h (j+1) (by simpa using hj);rw[show i+(j+1)=i+1+j by omega] at this;exact this
theorem Ygt {α:Type}{f:Nat→α→Bool}:∀(i:Nat) (l:List α) (a:α),Yba f i (l++[a])=(Yba f i l&&f (i+l.length) a)
 |i,[],a=>by simp[Yba]
 |i,b::l,a=>by
  rw[List.cons_append,Yba,Ygt (i+1) l a,Yba,Bool.and_assoc,List.length_cons,show i+(l.length+1)=i+1+l.length by omega]
theorem Yei {α:Type}{f:Nat→α→Bool}:∀(i:Nat) (l m:List α),Yba f i (l++m)=(Yba f i l&&Yba f (i+l.length) m)
 |i,[],m=>by simp[Yba]
 |i,b::l,m=>by
  rw[List.cons_append,Yba,Yei (i+1) l m,Yba,Bool.and_assoc,List.length_cons,show i+(l.length+1)=i+1+l.length by omega]
theorem Ykr {α:Type}{f:Nat→α→Bool}{l:List α}{j:Nat}(hj:j<l.length)(h1:f j l[j]=false):Yba f 0 l=false:=by
 cases h:Yba f 0 l with
 |false=>rfl
 |true=>
  have:=Ycp.1 h j hj;rw[Nat.zero_add,h1] at this;cases this
def Yc1 (inter:Bool)(n:Int)(i:Nat)(r:RowP):Bool:=
 decide ((r.cels.length:Int)=n)&&((if r.head then decide (i≠0∧0≤r.id∧r.id≤3∧1≤r.quant∧r.quant≤31) else decide (r.id=0∧r.quant=0))&&r.cels.all (Ybf inter))
def Ygl (k:Int):Int:=Yjn k*Yom k
def Ybs (S:ShP):Bool:=
 Ybt S.hd&&(decide (0≤S.zeros∧S.zeros≤262144)&&(decide ((S.rows.length:Int)=Ym5 S.hd.fmt)&&Yba (Yc1 S.hd.inter (Ygl S.hd.fmt)) 0 S.rows))
def Yaz (S:ShP):List Cel:=S.rows.flatMap (·.cels)
def Ycm (k:Int)(n:Nat)(c:Cel):Bool:=Yb1 c.kind || Yn9 k (n:Int) c.mx c.my
def Ya1 (S:ShP):Int:=if Ybs S=true then (if Yba (Ycm S.hd.fmt) 0 (Yaz S)=true then 0 else 8) else 12
theorem Yj7 {S:ShP}(h:Ybs S=false):Ya1 S=12:=by unfold Ya1;rw[if_neg (by rw[h];decide)]
theorem Yho {S:ShP}(h:Ybs S=true)(h1:Yba (Ycm S.hd.fmt) 0 (Yaz S)=false):Ya1 S=8:=by unfold Ya1;rw[if_pos h,if_neg (by rw[h1];decide)]
theorem Ynw {S:ShP}(h:Ybs S=true)(h1:Yba (Ycm S.hd.fmt) 0 (Yaz S)=true):Ya1 S=0:=by unfold Ya1;rw[if_pos h,if_pos h1]
theorem Yj8 {S:ShP}(h:Ya1 S=0):Ybs S=true∧Yba (Ycm S.hd.fmt) 0 (Yaz S)=true:=by
 unfold Ya1 at h;cases h1:Ybs S with
 |false=>rw[h1] at h;cases h
 |true=>
  cases h2:Yba (Ycm S.hd.fmt) 0 (Yaz S) with
  |false=>rw[h1,h2] at h;cases h
  |true=>exact⟨rfl,rfl⟩
def Yfr (q:Int)(c:Cel):Int:=if c.kind=1∨c.kind=4 then Yc8 q c.step else q
def Ybr (q:Int)(r:RowP):Int:=if r.head=true then r.quant else q
def Yi3 (q:Int)(l:List Cel):Int:=l.foldl Yfr q
def Ycv:Int→List Cel→List Int
 |_,[]=>[]
 |q,c::l=>Yfr q c::Ycv (Yfr q c) l
def Yo1 (q:Int)(r:RowP):Int:=Yi3 (Ybr q r) r.cels
def Yez (q:Int)(l:List RowP):Int:=l.foldl Yo1 q
def Yea:Int→List RowP→List Int
 |_,[]=>[]
 |q,r::l=>Ybr q r::Yea (Yo1 q r) l
def Yd3:Int→List RowP→List Int
 |_,[]=>[]
 |q,r::l=>Ycv (Ybr q r) r.cels++Yd3 (Yo1 q r) l
theorem Yoz {c:Cel}(q:Int)(h:c.kind=1∨c.kind=4):Yfr q c=Yc8 q c.step:=if_pos h
theorem Ynl {c:Cel}(q:Int)(h:¬ (c.kind=1∨c.kind=4)):Yfr q c=q:=if_neg h
theorem Ynn {r:RowP}(q:Int)(h:r.head=true):Ybr q r=r.quant:=if_pos h
theorem Yl1 {r:RowP}(q:Int)(h:r.head=false):Ybr q r=q:=if_neg (by rw[h];decide)
theorem Yl2 (q:Int)(l:List Cel)(c:Cel):Yi3 q (l++[c])=Yfr (Yi3 q l) c:=by unfold Yi3;rw[List.foldl_append];rfl
theorem Ylx (q:Int)(l:List RowP)(r:RowP):Yez q (l++[r])=Yo1 (Yez q l) r:=by unfold Yez;rw[List.foldl_append];rfl
theorem Ycl:∀(q:Int) (l m:List Cel),Ycv q (l++m)=Ycv q l++Ycv (Yi3 q l) m
 |_,[],_=>rfl
 |q,c::l,m=>by rw[List.cons_append,Ycv,Ycl (Yfr q c) l m,Ycv];rfl
theorem Yda:∀(q:Int) (l m:List RowP),Yea q (l++m)=Yea q l++Yea (Yez q l) m
 |_,[],_=>rfl
 |q,r::l,m=>by rw[List.cons_append,Yea,Yda (Yo1 q r) l m,Yea];rfl
theorem Yc9:∀(q:Int) (l m:List RowP),Yd3 q (l++m)=Yd3 q l++Yd3 (Yez q l) m
 |_,[],_=>rfl
 |q,r::l,m=>by rw[List.cons_append,Yd3,Yc9 (Yo1 q r) l m,Yd3,List.append_assoc];rfl
theorem Yb2:∀(q:Int) (l:List Cel),(Ycv q l).length=l.length
 |_,[]=>rfl
 |q,c::l=>by rw[Ycv,List.length_cons,Yb2,List.length_cons]
theorem Ycc:∀(q:Int) (l:List RowP),(Yea q l).length=l.length
 |_,[]=>rfl
 |q,r::l=>by rw[Yea,List.length_cons,Ycc,List.length_cons]
theorem Ybq:∀(q:Int) (l:List RowP),(Yd3 q l).length=(l.flatMap (·.cels)).length
 |_,[]=>rfl
 |q,r::l=>by rw[Yd3,List.length_append,Yb2,Ybq,List.flatMap_cons,List.length_append]
theorem Yl0 (q:Int){l:List RowP}{i:Nat}(h:i<l.length):Yea q (l.take (i+1))=Yea q (l.take i)++[Ybr (Yez q (l.take i)) l[i]]:=by
 rw[List.take_succ_eq_append_getElem h,Yda];rfl
theorem Yly (q:Int){l:List RowP}{i:Nat}(h:i<l.length):Yez q (l.take (i+1))=Yi3 (Ybr (Yez q (l.take i)) l[i]) l[i].cels:=by
 rw[List.take_succ_eq_append_getElem h,Ylx];rfl
theorem Ylu (q:Int){l:List RowP}{i:Nat}(h:i<l.length):Yd3 q (l.take (i+1))=Yd3 q (l.take i)++Ycv (Ybr (Yez q (l.take i)) l[i]) l[i].cels:=by
 rw[List.take_succ_eq_append_getElem h,Yc9];show _++(_++[])=_;rw[List.append_nil]
theorem Yl3 (q:Int){l:List Cel}{i:Nat}(h:i<l.length):Yi3 q (l.take (i+1))=Yfr (Yi3 q (l.take i)) l[i]:=by
 rw[List.take_succ_eq_append_getElem h,Yl2]
theorem Yjx (q:Int){l:List Cel}{i:Nat}(h:i<l.length):Ycv q (l.take (i+1))=Ycv q (l.take i)++[Yfr (Yi3 q (l.take i)) l[i]]:=by
 rw[List.take_succ_eq_append_getElem h,Ycl];rfl
structure QOk (S:ShP):Prop where
 q:1≤S.hd.quant∧S.hd.quant≤31
 heads:∀r∈S.rows,r.head=true→1≤r.quant∧r.quant≤31
 cels:∀c∈Yaz S,¬ (c.kind=1∨c.kind=4)→c.step=0
theorem Ymi {inter:Bool}{c:Cel}(h:Ybf inter c=true)(hk:¬ (c.kind=1∨c.kind=4)):c.step=0:=by
 unfold Ybf at h;rw[Bool.and_eq_true] at h;have h2:=h.2;cases hs:c.skip with
 |true=>
  rw[hs,if_pos rfl,Bool.and_eq_true] at h2;have h3:=h2.2;unfold Yh3 at h3;simp only[Bool.and_eq_true,beq_iff_eq] at h3;exact h3.1.1.2
 |false=>
  rw[hs,if_neg (by decide)] at h2;simp only[Bool.and_eq_true] at h2;have h3:=h2.1.2;unfold Yim Ypp at h3;rw[if_neg (by simp only[Bool.or_eq_true,beq_iff_eq];exact hk)] at h3;exact eq_of_beq h3
theorem Ymd {S:ShP}(h:Ybs S=true):QOk S:=by
 unfold Ybs at h;simp only[Bool.and_eq_true,decide_eq_true_iff] at h;obtain⟨h0,-,-,h2⟩:=h;have hall:∀r∈S.rows,(if r.head then∃i:Nat,i≠0∧0≤r.id∧r.id≤3∧1≤r.quant∧r.quant≤31 else True)∧r.cels.all (Ybf S.hd.inter)=true:=fun r hr=>by
  obtain⟨i,hi,rfl⟩:=List.mem_iff_getElem.1 hr;have h3:=Ycp.1 h2 i hi;unfold Yc1 at h3;rw[Bool.and_eq_true,Bool.and_eq_true] at h3;refine⟨?_,h3.2.2⟩;have h4:=h3.2.1;cases hh:S.rows[i].head with
  |false=>exact trivial
  |true=>
   rw[hh,if_pos rfl,decide_eq_true_iff] at h4;exact⟨0+i,h4⟩
 refine⟨(Yfx.1 h0).1.2.2.2.2,fun r hr hh=>?_,fun c hc=>?_⟩
 ·have h5:=(hall r hr).1;rw[hh,if_pos rfl] at h5;obtain⟨_,h6⟩:=h5;exact h6.2.2.2
 ·obtain⟨r,hr,hc⟩:=List.mem_flatMap.1 hc;exact Ymi (List.all_eq_true.1 (hall r hr).2 c hc)
theorem Yjv {q:Int}(h:1≤q∧q≤31)(s:Int):Yc8 q s-q≤2∧q-Yc8 q s≤2:=by unfold Yc8 Yds;omega
theorem Ylv {q:Int}(h:1≤q∧q≤31)(c:Cel):(1≤Yfr q c∧Yfr q c≤31)∧Yfr q c-q≤2∧q-Yfr q c≤2:=by
 unfold Yfr
 split
 ·exact⟨Ynf q c.step,Yjv h c.step⟩
 ·exact⟨h,by omega,by omega⟩
theorem Yif:∀{q:Int} (_:1≤q∧q≤31) (l:List Cel),1≤Yi3 q l∧Yi3 q l≤31
 |_,h,[]=>h
 |_,h,c::l=>Yif (Ylv h c).1 l
theorem Yi2 {q:Int}(h:1≤q∧q≤31){r:RowP}(hr:r.head=true→1≤r.quant∧r.quant≤31):1≤Ybr q r∧Ybr q r≤31:=by
 unfold Ybr
 split
 ·next hh=>exact hr hh
 ·exact h
theorem Ylw:∀{q:Int} (_:1≤q∧q≤31) (l:List RowP) (_:∀r∈l,r.head=true→1≤r.quant∧r.quant≤31),1≤Yez q l∧Yez q l≤31
 |_,h,[],_=>h
 |_,h,r::l,hl=>Ylw (Yif (Yi2 h (hl r List.mem_cons_self)) r.cels) l fun x hx=>hl x (List.mem_cons_of_mem _ hx)
theorem QOk.head {S:ShP}(h:QOk S){i:Nat}(hi:i<S.rows.length):1≤Ybr (Yez S.hd.quant (S.rows.take i)) S.rows[i]∧Ybr (Yez S.hd.quant (S.rows.take i)) S.rows[i]≤31:=
 Yi2 (Ylw h.q _ fun r hr=>h.heads r (List.mem_of_mem_take hr)) (h.heads _ (List.getElem_mem hi))
theorem Yiu {l:List Int}{a b:List Int}{x:Int}{i:Nat}(h:l=a++x::b)(hi:a.length=i):l.getD i 0=x:=by
 subst hi h;simp[List.getD]
theorem Yo0 (q:Int){l:List RowP}{i:Nat}(h:i<l.length):(Yea q l).getD i 0=Ybr (Yez q (l.take i)) l[i]:=by
 refine Yiu (a:=Yea q (l.take i)) (b:=Yea (Yo1 (Yez q (l.take i)) l[i]) (l.drop (i+1))) ?_ (by rw[Ycc,List.length_take];omega);have e:l=l.take i++l[i]::l.drop (i+1):=by rw[List.getElem_cons_drop,List.take_append_drop]
 have:=congrArg (Yea q) e;rw[Yda] at this;exact this
theorem Ynm (q:Int){l:List Cel}{k:Nat}(h:k<l.length):∃b,Ycv q l=Ycv q (l.take k)++Yfr (Yi3 q (l.take k)) l[k]::b:=by
 have e:l=l.take k++l[k]::l.drop (k+1):=by rw[List.getElem_cons_drop,List.take_append_drop]
 have:=congrArg (Ycv q) e;rw[Ycl] at this;exact⟨_,this⟩
theorem Yoy (q:Int){l:List RowP}{i k L:Nat}(h:i<l.length)(hk:k<l[i].cels.length)(hL:((l.take i).flatMap (·.cels)).length=L):(Yd3 q l).getD (L+k) 0=Yfr (Yi3 (Ybr (Yez q (l.take i)) l[i]) (l[i].cels.take k)) l[i].cels[k]:=by
 obtain⟨b,hb⟩:=Ynm (Ybr (Yez q (l.take i)) l[i]) hk;have e:l=l.take i++l[i]::l.drop (i+1):=by rw[List.getElem_cons_drop,List.take_append_drop]
 have h1:=congrArg (Yd3 q) e;rw[Yc9,Yd3,hb,List.append_assoc,List.cons_append,←List.append_assoc] at h1;exact Yiu h1 (by rw[List.length_append,Ybq,hL,Yb2,List.length_take];omega)
end Go.Proofs.YtndbeacoaimdgaaDoor