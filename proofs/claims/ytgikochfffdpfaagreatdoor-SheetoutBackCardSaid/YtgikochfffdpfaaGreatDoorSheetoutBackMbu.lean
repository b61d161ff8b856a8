/- Texts that SheetoutBack's proof stands on, part 47 of 52. No condition of its own. -/
import Derived.Test.YtgikochfffdpfaaGreatDoorSheetoutBackMa
import Derived.Test.YtgikochfffdpfaaGreatDoorSheetoutBackMj
import Derived.Test.YtgikochfffdpfaaGreatDoorSheetoutBackMk
import Derived.Test.YtgikochfffdpfaaGreatDoorSheetoutBackMo
import Derived.Test.YtgikochfffdpfaaGreatDoorSheetoutBackMs
import Derived.Test.YtgikochfffdpfaaGreatDoorSheetoutBackMv
import Derived.Test.YtgikochfffdpfaaGreatDoorSheetoutBackMw
import Derived.Test.YtgikochfffdpfaaGreatDoorSheetoutBackMx
import Derived.Test.YtgikochfffdpfaaGreatDoorSheetoutBackMbq
import Derived.Test.YtgikochfffdpfaaGreatDoorSheetoutBackMbs
import Derived.Test.YtgikochfffdpfaaGreatDoorSheetoutBackMbt
namespace Go.Proofs.YtgikochfffdpfaaGreatDoor
theorem Qf8 (inter:Bool) (b:List UInt8):(mtk inter b=(0,0,(mtk inter b).2.2.1,0)∧(mtk inter b).2.2.1≠0)∨((mtk inter b).2.2.1=0∧0≤(mtk inter b).1∧(mtk inter b).1≤5∧(mtk inter b).1≠2∧0≤(mtk inter b).2.1∧(mtk inter b).2.1≤3∧(mtk inter b).2.2.2≤b.length):=by
 obtain ⟨⟨f,n⟩,ht⟩:∃x,tk ((Yk9 inter).map Yar) b 25 1=x:=⟨_,rfl⟩
 by_cases hf:f=0
 ·subst hf
  have hh:=Yw3 ht
  unfold mtk
  rw [ht,if_pos rfl]
  split
  next x _=>
   split
   ·exact .inl ⟨rfl,(show (6:Int)≠0 by decide)⟩
   ·refine .inr ⟨rfl,?_,?_,by assumption,?_,?_,hh.2.1⟩ <;> simp only [sA,sB] <;> omega
  ·exact .inr ⟨rfl,by decide,by decide,by decide,by decide,by decide,Nat.zero_le _⟩
 ·rw [Ys7 inter ht hf]
  exact .inl ⟨rfl,hf⟩
theorem Y73 {all:List (ByteArray×Int)} {lo hi:Int} (h0:lo≤0∧0≤hi) (hall:∀x∈all,lo≤x.2∧x.2≤hi) (b:List UInt8):lo≤(gtk all b).1∧(gtk all b).1≤hi∧(gtk all b).2.2≤b.length:=by
 obtain ⟨⟨f,n⟩,ht⟩:∃x,tk (all.map Ya0) b 25 1=x:=⟨_,rfl⟩
 unfold gtk
 by_cases hf:f=0
 ·subst hf
  have hh:=Yw3 ht
  rw [ht,if_pos rfl]
  split
  next x hx=> exact ⟨(hall x (List.mem_of_find?_eq_some hx)).1,(hall x (List.mem_of_find?_eq_some hx)).2,hh.2.1⟩
  ·exact ⟨h0.1,h0.2,Nat.zero_le _⟩
 ·rw [ht,if_neg hf]
  exact ⟨h0.1,h0.2,Nat.zero_le _⟩
theorem Y8p (intra:Bool) (b:List UInt8):0≤(ptk intra b).1∧(ptk intra b).1≤15∧(ptk intra b).2.2≤b.length:=
 Y73 (all:=Yk3 intra) (lo:=0) (hi:=15) ⟨by decide,by decide⟩ (by cases intra <;> decide +kernel) b
theorem Y6s (b:List UInt8):-32≤(dtk b).1∧(dtk b).1≤31∧(dtk b).2.2≤b.length:=
 Y73 (all:=allD) (lo:=-32) (hi:=31) ⟨by decide,by decide⟩ (by decide +kernel) b
def Ypu (b:List UInt8):Int×Int×Nat:=match b with | []=> (0,2,0) | c::_=> (if c=49 then 1 else 0,0,1)
abbrev Stt:=Nat×Int
def Yeg (k:List UInt8→Int×Int×Nat) (S:List UInt8) (st:Stt):Int×Stt:=
 if st.2=0 then ((k (S.drop st.1)).1,st.1+(k (S.drop st.1)).2.2,(k (S.drop st.1)).2.1) else (0,st)
def Yms (inter:Bool) (S:List UInt8) (st:Stt):Int×Int×Stt:=
 if st.2=0 then ((mtk inter (S.drop st.1)).1,(mtk inter (S.drop st.1)).2.1,st.1+(mtk inter (S.drop st.1)).2.2.2,(mtk inter (S.drop st.1)).2.2.1) else (0,0,st)
def Yex (intra coded:Bool) (S:List UInt8) (st:Stt):Int×List Ev×Stt:=
 if st.2=0 then ((btk S st.1 intra coded).1,(btk S st.1 intra coded).2.1,(btk S st.1 intra coded).2.2.1,(btk S st.1 intra coded).2.2.2) else (0,[],st)
def Yd7 (inter:Bool) (S:List UInt8):Nat→Nat→Stt→Nat×Bool×Int×Int×Stt
 | 0,_,st=> (0,false,0,0,st.1,13)
 | k+1,n,st=>
  if inter=true∧(Yeg Ypu S st).1=1 then (n,true,0,0,(Yeg Ypu S st).2) else
  if (Yms inter S (if inter then (Yeg Ypu S st).2 else st)).1=5 then Yd7 inter S k (n+1) (Yms inter S (if inter then (Yeg Ypu S st).2 else st)).2.2 else
  (n,false,Yms inter S (if inter then (Yeg Ypu S st).2 else st))
def Y1c (S:List UInt8) (kind:Int) (st:Stt):Int×Stt:=if Qdp kind then Yeg stk S st else (0,st)
def Yfo (S:List UInt8) (pr:Int) (st:Stt):Int×Stt:=(Ybu (Ybu pr+(Yeg dtk S st).1),(Yeg dtk S st).2)
def Yzl (S:List UInt8) (kind:Int) (x y:Int) (st:Stt):Int×Int×Stt:=
 if Yao kind then (0,0,st) else ((Yfo S x st).1,(Yfo S y (Yfo S x st).2).1,(Yfo S y (Yfo S x st).2).2)
def Yey (c i:Nat):Bool:=c / 2^(5-i)%2==1
def stB (intra:Bool) (c:Nat) (S:List UInt8) (st:Stt):Nat→Stt
 | 0=> st
 | i+1=> (Yex intra (Yey c i) S (stB intra c S st i)).2.2
def Qfk (inter:Bool) (S:List UInt8) (st:Stt):Nat:=
 4*(Yeg (ptk (Yao (Yd7 inter S 65 0 st).2.2.1)) S (Yd7 inter S 65 0 st).2.2.2.2).1.toNat+(Yd7 inter S 65 0 st).2.2.2.1.toNat
def st2 (inter:Bool) (S:List UInt8) (st:Stt):Stt:=(Yeg (ptk (Yao (Yd7 inter S 65 0 st).2.2.1)) S (Yd7 inter S 65 0 st).2.2.2.2).2
def st3 (inter:Bool) (S:List UInt8) (st:Stt):Stt:=(Y1c S (Yd7 inter S 65 0 st).2.2.1 (st2 inter S st)).2
def st4 (inter:Bool) (S:List UInt8) (x y:Int) (st:Stt):Stt:=(Yzl S (Yd7 inter S 65 0 st).2.2.1 x y (st3 inter S st)).2.2
def Yxi (inter:Bool) (S:List UInt8) (x y:Int) (st:Stt):Cel×Stt:=
 if (Yd7 inter S 65 0 st).2.1 then ({Yii with stuff:=(Yd7 inter S 65 0 st).1,skip:=true},(Yd7 inter S 65 0 st).2.2.2.2) else
 ({stuff:=(Yd7 inter S 65 0 st).1,skip:=false,kind:=(Yd7 inter S 65 0 st).2.2.1,step:=(Y1c S (Yd7 inter S 65 0 st).2.2.1 (st2 inter S st)).1,mx:=(Yzl S (Yd7 inter S 65 0 st).2.2.1 x y (st3 inter S st)).1,my:=(Yzl S (Yd7 inter S 65 0 st).2.2.1 x y (st3 inter S st)).2.1,dc:=fun i=> (Yex (Yao (Yd7 inter S 65 0 st).2.2.1) (Yey (Qfk inter S st) i) S (stB (Yao (Yd7 inter S 65 0 st).2.2.1) (Qfk inter S st) S (st4 inter S x y st) i)).1,ev:=fun i=> (Yex (Yao (Yd7 inter S 65 0 st).2.2.1) (Yey (Qfk inter S st) i) S (stB (Yao (Yd7 inter S 65 0 st).2.2.1) (Qfk inter S st) S (st4 inter S x y st) i)).2.1},
  stB (Yao (Yd7 inter S 65 0 st).2.2.1) (Qfk inter S st) S (st4 inter S x y st) 6)
def ctk (inter:Bool) (S:List UInt8) (x y:Int) (p:Nat):Cel×Nat×Int:=
 if (Yxi inter S x y (p,0)).2.2=0 then ((Yxi inter S x y (p,0)).1,(Yxi inter S x y (p,0)).2.1,0) else (Yii,p,(Yxi inter S x y (p,0)).2.2)
theorem Yfj {k:List UInt8→Int×Int×Nat} {S:List UInt8} {p:Nat}:Yeg k S (p,0)=((k (S.drop p)).1,p+(k (S.drop p)).2.2,(k (S.drop p)).2.1):=if_pos rfl
theorem Yft {k:List UInt8→Int×Int×Nat} {S:List UInt8} {st:Stt} (h:st.2≠0):Yeg k S st=(0,st):=if_neg h
theorem Yyq {inter:Bool} {S:List UInt8} {p:Nat}:Yms inter S (p,0)=((mtk inter (S.drop p)).1,(mtk inter (S.drop p)).2.1,p+(mtk inter (S.drop p)).2.2.2,(mtk inter (S.drop p)).2.2.1):=if_pos rfl
theorem Ys0 {inter:Bool} {S:List UInt8} {st:Stt} (h:st.2≠0):Yms inter S st=(0,0,st):=if_neg h
theorem Yxt {intra coded:Bool} {S:List UInt8} {p:Nat}:Yex intra coded S (p,0)=((btk S p intra coded).1,(btk S p intra coded).2.1,(btk S p intra coded).2.2.1,(btk S p intra coded).2.2.2):=if_pos rfl
theorem Yz3 {intra coded:Bool} {S:List UInt8} {st:Stt} (h:st.2≠0):Yex intra coded S st=(0,[],st):=if_neg h
theorem Yzc {intra:Bool} {c:Nat} {S:List UInt8} {st:Stt} {i:Nat} (h:(stB intra c S st i).2≠0):∀k,stB intra c S st (i+k)=stB intra c S st i
 | 0=> rfl
 | k+1=> by
  have ih:=Yzc h k
  show (Yex intra (Yey c (i+k)) S (stB intra c S st (i+k))).2.2=_
  rw [ih,Yz3 h]
theorem Y1d {S:List UInt8} {kind:Int} {st:Stt} (h:st.2≠0):Y1c S kind st=(0,st):=by
 unfold Y1c
 rw [Yft h]
 split <;> rfl
theorem Y1o {S:List UInt8} {kind x y:Int} {st:Stt} (h:st.2≠0):(Yzl S kind x y st).2.2=st:=by
 unfold Yzl Yfo
 rw [Yft h]
 split
 ·rfl
 ·simp only
  rw [Yft h]
theorem Y5z {inter:Bool} {S:List UInt8} {x y:Int} {p:Nat} {f:Int} (hf:f≠0) (h:(Yxi inter S x y (p,0)).2.2=f):ctk inter S x y p=(Yii,p,f):=by
 unfold ctk
 rw [h,if_neg hf]
theorem Yns {inter:Bool} {S:List UInt8} {x y:Int} {p q:Nat} {c:Cel} (h:Yxi inter S x y (p,0)=(c,q,0)):ctk inter S x y p=(c,q,0):=by
 unfold ctk
 rw [h,if_pos rfl]
theorem Qfi {inter:Bool} {S:List UInt8} {x y:Int} {st:Stt} {n:Nat} {k c:Int} {sk:Bool} {q:Nat} {f:Int} (h:Yd7 inter S 65 0 st=(n,sk,k,c,q,f)) (hf:f≠0):(Yxi inter S x y st).2.2=f:=by
 have e2:st2 inter S st=(q,f):=by unfold st2;rw [h,Yft hf]
 have e3:st3 inter S st=(q,f):=by unfold st3;rw [h,e2,Y1d hf]
 have e4:st4 inter S x y st=(q,f):=by unfold st4;rw [e3,Y1o hf]
 unfold Yxi
 rw [e4,h]
 simp only
 split
 ·rfl
 ·have:=Yzc (intra:=Yao k) (c:=Qfk inter S st) (S:=S) (st:=(q,f)) (i:=0) hf 6
  rw [Nat.zero_add] at this
  rw [this]
  rfl
theorem Ysi {inter:Bool} {S:List UInt8} {x y:Int} {st s':Stt} {n:Nat} {k c:Int} (h:Yd7 inter S 65 0 st=(n,true,k,c,s')):Yxi inter S x y st=({Yii with stuff:=n,skip:=true},s'):=by
 unfold Yxi
 rw [h]
 rfl
theorem Yno {inter:Bool} {S:List UInt8} {k n:Nat} {st st1:Stt} {v:Int} (hi:inter=true) (h:Yeg Ypu S st=(v,st1)) (hv:v=1):Yd7 inter S (k+1) n st=(n,true,0,0,st1):=by
 unfold Yd7
 rw [h,if_pos ⟨hi,hv⟩]
theorem Yjz {S:List UInt8} {k n:Nat} {st st1 st2:Stt} {v a c:Int} (h:Yeg Ypu S st=(v,st1)) (hv:v≠1) (h2:Yms true S st1=(a,c,st2)):Yd7 true S (k+1) n st=if a=5 then Yd7 true S k (n+1) st2 else (n,false,a,c,st2):=by
 conv=> lhs;unfold Yd7
 rw [h,if_neg (fun e=> hv e.2),if_pos rfl,h2]
theorem Yj0 {S:List UInt8} {k n:Nat} {st st2:Stt} {a c:Int} (h2:Yms false S st=(a,c,st2)):Yd7 false S (k+1) n st=if a=5 then Yd7 false S k (n+1) st2 else (n,false,a,c,st2):=by
 conv=> lhs;unfold Yd7
 rw [if_neg (fun e=> by cases e.1)]
 simp only [Bool.false_eq_true,if_false,h2]
theorem Y5n (inter:Bool) (S:List UInt8):∀(j n:Nat) (st:Stt) (n':Nat) (sk:Bool) (k c:Int) (st':Stt),Yd7 inter S j n st=(n',sk,k,c,st')→n'≤n+j∧0≤k∧k≤4∧k≠2∧0≤c∧c≤3∧(sk=true→k=0)
 | 0,n,st,n',sk,k,c,st',h=> by
  simp only [Yd7,Prod.mk.injEq] at h
  exact ⟨by omega,by omega,by omega,by omega,by omega,by omega,fun _=> h.2.2.1.symm⟩
 | j+1,n,st,n',sk,k,c,st',h=> by
  have hk:∀s2,(Yms inter S s2).1≠5→0≤(Yms inter S s2).1∧(Yms inter S s2).1≤4∧(Yms inter S s2).1≠2∧0≤(Yms inter S s2).2.1∧(Yms inter S s2).2.1≤3:=by
   intro s2 h5
   unfold Yms at h5 ⊢
   split at h5
   next hz=>
    rw [if_pos hz]
    simp only at h5 ⊢
    rcases Qf8 inter (S.drop s2.1) with ⟨h1,_⟩ | ⟨h0,h1,h2,h3,h4,h6,_⟩
    ·rw [h1];refine ⟨?_,?_,?_,?_,?_⟩ <;> simp
    ·exact ⟨h1,by omega,h3,h4,h6⟩
   next hz=>
    rw [if_neg hz]
    refine ⟨?_,?_,?_,?_,?_⟩ <;> simp
  unfold Yd7 at h
  generalize (if inter=true then (Yeg Ypu S st).2 else st)=s1 at h
  split at h
  ·simp only [Prod.mk.injEq] at h
   exact ⟨by omega,by omega,by omega,by omega,by omega,by omega,fun _=> h.2.2.1.symm⟩
  ·split at h
   ·have:=Y5n inter S j (n+1) _ n' sk k c st' h
    exact ⟨by omega,this.2⟩
   next h5=>
    have h1:=hk _ h5
    simp only [Prod.mk.injEq] at h
    obtain ⟨e1,e2,e3⟩:=h
    rw [e3] at h1
    simp only at h1
    exact ⟨by omega,h1.1,h1.2.1,h1.2.2.1,h1.2.2.2.1,h1.2.2.2.2,fun e=> by rw [←e2] at e;cases e⟩
theorem Ylf {inter:Bool} {S:List UInt8} {x y:Int} {st st1 s2 s3 s4:Stt} {n:Nat} {k ch pt sp mx my:Int} (h:Yd7 inter S 65 0 st=(n,false,k,ch,st1)) (h2:Yeg (ptk (Yao k)) S st1=(pt,s2)) (h3:Y1c S k s2=(sp,s3)) (h4:Yzl S k x y s3=(mx,my,s4)):
  Yxi inter S x y st=({stuff:=n,skip:=false,kind:=k,step:=sp,mx:=mx,my:=my,dc:=fun i=> (Yex (Yao k) (Yey (4*pt.toNat+ch.toNat) i) S (stB (Yao k) (4*pt.toNat+ch.toNat) S s4 i)).1,ev:=fun i=> (Yex (Yao k) (Yey (4*pt.toNat+ch.toNat) i) S (stB (Yao k) (4*pt.toNat+ch.toNat) S s4 i)).2.1},stB (Yao k) (4*pt.toNat+ch.toNat) S s4 6):=by
 simp only [Yxi,st4,st3,st2,Qfk,h,h2,h3,h4,Bool.false_eq_true,if_false]
theorem Y0w (intra:Bool) (S:List UInt8) (st:Stt):0≤(Yeg (ptk intra) S st).1∧(Yeg (ptk intra) S st).1≤15:=by
 unfold Yeg
 split
 ·exact ⟨(Y8p intra _).1,(Y8p intra _).2.1⟩
 ·constructor <;> simp
theorem Ysm (S:List UInt8) (st:Stt):-32≤(Yeg dtk S st).1∧(Yeg dtk S st).1≤31:=by
 unfold Yeg
 split
 ·exact ⟨(Y6s _).1,(Y6s _).2.1⟩
 ·constructor <;> simp
theorem Ynm (r m:List UInt8):r.isPrefixOf (r++m)=true:=List.isPrefixOf_iff_prefix.2 (List.prefix_append _ _)
theorem Qcp (inter:Bool) (a b:Int) (r:ByteArray) (hr:Ybr inter a b=r) (hne:r.data.toList.isEmpty=false) (m:List UInt8):
  mtk inter (r.data.toList++m)=if a=2 then (0,0,6,0) else (a,b,0,r.size):=by
 by_cases hn:a<0∨5<a∨b<0∨3<b∨(a=5∧0<b)
 ·rw [Yo4 hn] at hr
  rw [←hr] at hne
  cases hne
 obtain ⟨k,rfl⟩:∃k:Nat,a=k:=⟨a.toNat,by omega⟩
 obtain ⟨c,rfl⟩:∃c:Nat,b=c:=⟨b.toNat,by omega⟩
 obtain ⟨e1,e2,e3⟩:=Yz6 inter k c (by omega) (by omega)
 rw [hr] at e1
 have hrow:Yar (Yj2 inter (4*k+c))=r.data.toList:=by unfold Yar;rw [e1]
 have hx:Yj2 inter (4*k+c)∈Yk9 inter:=Y50 (by omega) (by rw [hrow,hne];rfl)
 obtain ⟨h1,h2,h3⟩:=Ybw (Y5g inter _ hx)
 rw [hrow] at h1 h2 h3
 have hlen:r.data.toList.length=r.size:=rfl
 have h0:=List.length_pos_iff.2 h1
 have ht:=Y1h (Yr7 inter) (b:=r.data.toList++m) (r:=r.data.toList) (by rw [←hrow];exact List.mem_map_of_mem hx) (Ynm _ _) (k:=25) (n:=1) (by omega) (by omega)
 have hy:=Yys inter ht hx (by rw [hrow];exact (Ybz.1 (Ynm _ _)).symm)
 rw [e2,e3] at hy
 exact hy
theorem Qc4 (intra:Bool) (k:Nat) (hk:k<16) (r:ByteArray) (hr:Yf2 intra k=r) (m:List UInt8):ptk intra (r.data.toList++m)=((k:Int),0,r.size):=by
 have e:Ymq intra (Yf4 intra k)=(r,((Yf4 intra (Yf4 intra k):Nat):Int)):=by rw [Yul intra _ (Yks hk),←Y0v hk rfl,hr]
 have hx:Ymq intra (Yf4 intra k)∈Yk3 intra:=Y51 intra (Yks hk)
 have hrow:Ya0 (Ymq intra (Yf4 intra k))=r.data.toList:=by rw [e];rfl
 obtain ⟨h1,h2,h3⟩:=Ybw (Yxp intra _ hx)
 rw [hrow] at h1 h2 h3
 have hlen:r.data.toList.length=r.size:=rfl
 have h0:=List.length_pos_iff.2 h1
 have ht:=Y1h (Ynk intra) (b:=r.data.toList++m) (r:=r.data.toList) (by rw [←hrow];exact List.mem_map_of_mem hx) (Ynm _ _) (k:=25) (n:=1) (by omega) (by omega)
 have hy:=Y8r intra ht hx (by rw [hrow];exact (Ybz.1 (Ynm _ _)).symm)
 rw [e,Y3z hk] at hy
 exact hy
theorem Qby {d:Int} (hd:-32≤d∧d≤31) (r:ByteArray) (hr:Ybt d=r) (m:List UInt8):dtk (r.data.toList++m)=(d,0,r.size):=by
 obtain ⟨j,hj⟩:∃j:Nat,d=(j:Int)-32:=⟨(d+32).toNat,by omega⟩
 have hj64:j<64:=by omega
 have hrow:Ya0 (Ymp j)=r.data.toList:=by
  show (Ybt ((j:Int)-32)).data.toList=_
  rw [←hj,hr]
 have ht:=Yya hj64 (b:=r.data.toList++m) (by rw [hrow];exact Ynm _ _)
 rw [hrow,←hj] at ht
 exact ht
theorem Qdr {s:Int} (hs:s = -1∨s = -2∨s=1∨s=2) (m:List UInt8):stk ((Yb2 s).data.toList++m)=(s,0,2):=by
 rcases hs with rfl | rfl | rfl | rfl
 all_goals
  rw [Ytp (by simp [Yb2])]
  rfl
theorem Qgj (inter:Bool):∀x∈Yk9 inter,Ybr inter (sA x.2) (sB x.2)=x.1:=by
 cases inter <;> decide +kernel
theorem Qcq {inter:Bool} {B:List UInt8} {a b:Int} {n:Nat} (h:mtk inter B=(a,b,0,n)):
  B.take n=(Ybr inter a b).data.toList∧n=(Ybr inter a b).size∧n≤B.length∧(Ybr inter a b).data.toList.isEmpty=false∧a≠2:=by
 obtain ⟨⟨f,k⟩,ht⟩:∃x,tk ((Yk9 inter).map Yar) B 25 1=x:=⟨_,rfl⟩
 by_cases hf:f=0
 ·subst hf
  obtain ⟨h1,h2,h3⟩:=Yw3 ht
  obtain ⟨x,hx,hxe⟩:=List.mem_map.1 h1
  rw [Yys inter ht hx hxe] at h
  split at h
  ·simp at h
  next h5=>
   simp only [Prod.mk.injEq,true_and] at h
   obtain ⟨rfl,rfl,rfl⟩:=h
   rw [Qgj inter x hx]
   have e:x.1.data.toList=B.take k:=hxe
   have hl:x.1.data.toList.length=k:=by rw [e,List.length_take];omega
   refine ⟨e.symm,hl.symm,h2,?_,h5⟩
   cases hq:x.1.data.toList with
   | nil=> rw [hq] at hl;simp at hl;omega
   | cons _ _=> rfl
 ·rw [Ys7 inter ht hf] at h
  simp only [Prod.mk.injEq] at h
  exact absurd h.2.2.1 hf
theorem Ysu {all:List (ByteArray×Int)} {F:Int→ByteArray} (hF:∀x∈all,F x.2=x.1) {B:List UInt8} {v:Int} {n:Nat} (h:gtk all B=(v,0,n)):
  B.take n=(F v).data.toList∧n=(F v).size∧n≤B.length∧∃x∈all,x.2=v:=by
 obtain ⟨⟨f,k⟩,ht⟩:∃x,tk (all.map Ya0) B 25 1=x:=⟨_,rfl⟩
 unfold gtk at h
 rw [ht] at h
 by_cases hf:f=0
 ·subst hf
  obtain ⟨h1,h2,h3⟩:=Yw3 ht
  rw [if_pos rfl] at h
  split at h
  next x hx=>
   simp only [Prod.mk.injEq,true_and] at h
   obtain ⟨rfl,rfl⟩:=h
   have hm:=List.mem_of_find?_eq_some hx
   have e:x.1.data.toList=B.take k:=by simpa [Ya0] using List.find?_some hx
   rw [hF x hm]
   exact ⟨e.symm,by have:=congrArg List.length e;rw [List.length_take] at this;have h2:x.1.data.toList.length=x.1.size:=rfl;omega,h2,x,hm,rfl⟩
  next hx=>
   obtain ⟨y,hy,hye⟩:=List.mem_map.1 h1
   have:=List.find?_eq_none.1 hx y hy
   rw [hye] at this
   simp at this
 ·rw [if_neg hf] at h
  simp only [Prod.mk.injEq] at h
  exact absurd h.2.1 hf
theorem Qgd (intra:Bool):∀x∈Yk3 intra,Yf2 intra x.2=x.1:=by
 cases intra <;> decide +kernel
theorem Qc5 {intra:Bool} {B:List UInt8} {v:Int} {n:Nat} (h:ptk intra B=(v,0,n)):B.take n=(Yf2 intra v).data.toList∧n=(Yf2 intra v).size∧n≤B.length∧0≤v∧v<16:=by
 obtain ⟨h1,h2,h3,x,hx,hv⟩:=Ysu (Qgd intra) (show gtk (Yk3 intra) B=(v,0,n) from h)
 have hb:∀x∈Yk3 intra,0≤x.2∧x.2<16:=by cases intra <;> decide +kernel
 exact ⟨h1,h2,h3,hv▸(hb x hx).1,hv▸(hb x hx).2⟩
theorem Qbw:∀x∈allD,Ybt x.2=x.1:=by decide +kernel
theorem Qb1 {B:List UInt8} {d:Int} {n:Nat} (h:dtk B=(d,0,n)):B.take n=(Ybt d).data.toList∧n=(Ybt d).size∧n≤B.length∧-32≤d∧d≤31:=by
 obtain ⟨h1,h2,h3,x,hx,hv⟩:=Ysu Qbw (show gtk allD B=(d,0,n) from h)
 have hb:∀x∈allD,-32≤x.2∧x.2≤31:=by decide +kernel
 exact ⟨h1,h2,h3,hv▸(hb x hx).1,hv▸(hb x hx).2⟩
theorem Qds {B:List UInt8} {s:Int} {n:Nat} (hB:Yaw B=true) (h:stk B=(s,0,n)):B.take n=(Yb2 s).data.toList∧n=2∧2≤B.length∧(s = -1∨s = -2∨s=1∨s=2):=by
 by_cases hl:B.length<2
 ·rw [Y9q hl] at h
  simp at h
 ·rw [Ytp (by omega)] at h
  simp only [Prod.mk.injEq,true_and] at h
  obtain ⟨rfl,rfl⟩:=h
  have hr:=Yg3 (B.take 2) (Yb4 _ _ hB)
  have h4:=Yq0 B hB 2 (by omega)
  have hl2:(B.take 2).length=2:=by rw [List.length_take];omega
  rw [hl2] at hr
  generalize num (B.take 2)=v at hr h4
  rw [←hr]
  match v,h4 with
  | 0,_=> exact ⟨rfl,rfl,by omega,.inl rfl⟩
  | 1,_=> exact ⟨rfl,rfl,by omega,.inr (.inl rfl)⟩
  | 2,_=> exact ⟨rfl,rfl,by omega,.inr (.inr (.inl rfl))⟩
  | 3,_=> exact ⟨rfl,rfl,by omega,.inr (.inr (.inr rfl))⟩
theorem Qda:∀x∈allT,Qho x.2.toNat=x.1:=by
 intro x hx
 obtain ⟨i,_,rfl⟩:=List.mem_map.1 hx
 show Qho ((i:Int)).toNat=Qho i
 rw [Int.toNat_natCast]
theorem Ytr {B:List UInt8} {n v:Nat} (hB:Yaw B=true) (hl:n≤B.length) (hv:num (B.take n)=v):B.take n=Yau v n:=by
 have h:=Yg3 (B.take n) (Yb4 _ _ hB)
 rw [hv,List.length_take,Nat.min_eq_left hl] at h
 exact h.symm
theorem Yv3 {B:List UInt8} {n m:Nat} (hB:Yaw B=true) (hl:n+m≤B.length):∃r,r<2^m∧num (B.take (n+m))=num (B.take n)*2^m+r:=by
 refine ⟨num ((B.drop n).take m),?_,?_⟩
 ·exact Yq0 (B.drop n) (Ybd _ _ hB) m (by rw [List.length_drop];omega)
 ·have e:B.take (n+m)=B.take n++(B.drop n).take m:=List.take_add
  have hm:((B.drop n).take m).length=m:=by rw [List.length_take,List.length_drop];omega
  rw [e,Yed,hm]
theorem Qb4 {B:List UInt8} (hB:Yaw B=true) {l:Bool} {r n:Nat} {v:Int} (h:etk B=((l,r,v),0,n)):Ydy r v=true∧B.take n=(Yci l r v).data.toList∧n≤B.length∧0<n:=by
 obtain ⟨⟨iv,f,k⟩,hg⟩:∃x,gtk allT B=x:=⟨_,rfl⟩
 by_cases hf:f=0
 ·subst hf
  obtain ⟨h1,h2,h3,x,hx,hxv⟩:=Ysu (F:=fun v=> Qho v.toNat) Qda hg
  obtain ⟨i,hi0,rfl⟩:=List.mem_map.1 hx
  have hi:i<103:=List.mem_range.1 hi0
  have hiv:iv=(i:Int):=hxv.symm
  subst hiv
  rw [Int.toNat_natCast] at h1 h2
  obtain ⟨c1,c2,c3,c4⟩:=Yc2 i hi
  have hk:k=Ycv i:=h2.trans (by show (Yau (Ydu i) (Ycv i)).toArray.size=_;simp [Yak])
  subst hk
  have h1':B.take (Ycv i)=Yau (Ydu i) (Ycv i):=h1
  have hnc:num (B.take (Ycv i))=Ydu i:=by rw [h1',Ydi,Nat.mod_eq_of_lt c3]
  by_cases hl:B.length<if i=102 then 22 else Ycv i+1
  ·rw [Y6y hg hl] at h
   simp at h
  by_cases h102:i=102
  ·subst h102
   rw [if_pos rfl] at hl
   rw [Ylj hg (by omega)] at h
   split at h
   next hc=>
    rw [Bool.and_eq_true,Bool.not_eq_true'] at hc
    have e7:Ycv 102=7:=by decide +kernel
    have e3:Ydu 102=3:=by decide +kernel
    rw [e7,e3] at hnc
    obtain ⟨q,hq,hs⟩:=Yv3 (n:=7) (m:=15) hB (by omega)
    rw [hnc] at hs
    have hs:num (B.take 22)=3*2^15+q:=hs
    generalize hV:num (B.take 22)=V at h hc hs
    simp only [Prod.mk.injEq,true_and] at h
    obtain ⟨hE,rfl⟩:=h
    rw [hE] at hc
    obtain ⟨hr,hin⟩:=hc
    simp only at hr hin
    have hE':(V / 16384%2==1)=l:=(Prod.mk.inj hE).1
    have hE2:V / 256%64=r:=(Prod.mk.inj (Prod.mk.inj hE).2).1
    have hE3:(if 127<V%256 then ((V%256:Nat):Int)-256 else ((V%256:Nat):Int))=v:=(Prod.mk.inj (Prod.mk.inj hE).2).2
    have hl':l.toNat=V / 16384%2:=by
     rw [←hE']
     rcases Nat.mod_two_eq_zero_or_one (V / 16384) with e | e <;> simp [e]
    have hv':(v%256).toNat=V%256:=by
     rw [←hE3]
     split <;> omega
    have hN:Yk5 l r v=V:=by
     unfold Yk5
     rw [if_neg (by simp [hin]),hl',hv',←hE2]
     omega
    have hD:Ykb l r v=22:=by
     unfold Ykb
     rw [if_neg (by simp [hin])]
    refine ⟨hr,?_,by omega,by omega⟩
    rw [Ytr hB (by omega) hV]
    unfold Yci
    rw [if_pos hr,Int.toNat_natCast,hN,hD]
   ·simp at h
  ·rw [if_neg h102] at hl
   rw [Yn4 hg h102 (by omega)] at h
   obtain ⟨⟨o1,o2,o3⟩,_,o4,o5⟩:=Qeo i (by omega)
   obtain ⟨x,hx⟩:∃x,evT i=x:=⟨_,rfl⟩
   rw [hx] at o1 o2 o3 o4 o5 h
   obtain ⟨l0,r0,am⟩:=x
   simp only at o1 o2 o3 o4 o5
   simp only [Yy7,Prod.mk.injEq,true_and] at h
   obtain ⟨⟨rfl,rfl,hv⟩,rfl⟩:=h
   obtain ⟨q,hq,hs⟩:=Yv3 (n:=Ycv i) (m:=1) hB (by omega)
   rw [hnc] at hs
   have hs:num (B.take (Ycv i+1))=Ydu i*2+q:=hs
   have hq2:q=0∨q=1:=by omega
   have key:v.natAbs=am∧(if v<0 then 1 else 0)=q∧-12≤v∧v≤12∧v≠0:=by
    rcases hq2 with rfl | rfl
    ·rw [if_neg (by rw [hs];simp)] at hv
     subst hv
     exact ⟨by simp,if_neg (by omega),by omega,by omega,by omega⟩
    ·rw [if_pos (by rw [hs];simp)] at hv
     subst hv
     exact ⟨by simp,if_pos (by omega),by omega,by omega,by omega⟩
   obtain ⟨k1,k2,k3,k4,k5⟩:=key
   have hr:Ydy (r0:Int) v=true:=Ydq.2 ⟨by omega,by omega,by omega,by omega,k5⟩
   have hN:Yk5 l0 r0 v=Ydu i*2+q:=by
    unfold Yk5
    rw [k1,if_pos o1,o2,k2]
    omega
   have hD:Ykb l0 r0 v=Ycv i+1:=by
    unfold Ykb
    rw [k1,if_pos o1,o2]
   refine ⟨hr,?_,by omega,by omega⟩
   rw [Ytr hB (by omega) hs]
   unfold Yci
   rw [if_pos hr,Int.toNat_natCast,hN,hD]
 ·have hg0:gtk allT B=(0,f,0):=by
   obtain ⟨⟨f',k'⟩,ht⟩:∃x,tk (allT.map Ya0) B 25 1=x:=⟨_,rfl⟩
   by_cases h0:f'=0
   ·subst h0
    unfold gtk at hg
    rw [ht,if_pos rfl] at hg
    split at hg <;> (simp only [Prod.mk.injEq] at hg;exact absurd hg.2.1.symm hf)
   ·rw [Yjj ht h0] at hg ⊢
    simp only [Prod.mk.injEq] at hg
    rw [hg.2.1]
  rw [Y6z hg0 hf] at h
  simp only [Prod.mk.injEq] at h
  exact absurd h.2.1 hf
theorem Yrc (x:Ev) (l:List Ev):Ycd (x::l)=(Ymh x).data.toList++Ycd l:=rfl
theorem Yql {S:List UInt8} (hS:Yaw S=true) (a:Nat):∀(k:Nat) (acc:List Ev) (p m:Nat) (L:List Ev) (t:Nat),p≤S.length→Ydd S k acc p m=(L,0,t)→(lvS a acc).1=m→
  (∀j,(hj:j<acc.length)→acc[j].1=false∧Ydy acc[j].2.1 acc[j].2.2=true∧(lvS a (acc.take j)).1+acc[j].2.1.toNat<64)→
  ∃l2,L=acc++l2∧0<l2.length∧p≤t∧t≤S.length∧(S.drop p).take (t-p)=Ycd l2∧Ypp a L L.length=false
 | 0,acc,p,m,L,t,hp,h,hm,hall=> by
  simp [Ydd] at h
 | k+1,acc,p,m,L,t,hp,h,hm,hall=> by
  obtain ⟨⟨⟨l,r,v⟩,f,n⟩,he⟩:∃x,etk (S.drop p)=x:=⟨_,rfl⟩
  by_cases hf:f=0
  ·subst hf
   obtain ⟨hr,hrow,hn,hn0⟩:=Qb4 (Ybd _ _ hS) he
   rw [List.length_drop] at hn
   by_cases h63:63<m+r
   ·rw [Yu3 he h63] at h
    simp at h
   have hfit:∀j,(hj:j<acc.length)→∀L',(hL:acc.length<L'.length)→(∀(hj':j<L'.length),L'[j]=acc[j])→L'.take j=acc.take j→Yt6 a L' j acc[j]=true:=by
    intro j hj L' hL _ ht
    obtain ⟨g1,g2,g3⟩:=hall j hj
    unfold Yt6
    rw [ht,g1,g2]
    simp only [Bool.true_and,Bool.and_eq_true,beq_iff_eq,decide_eq_true_eq]
    exact ⟨by rw [eq_comm,decide_eq_false_iff_not];omega,g3⟩
   cases l with
   | true=>
    rw [Yn3 he (by omega)] at h
    simp only [Prod.mk.injEq,true_and] at h
    obtain ⟨rfl,rfl⟩:=h
    refine ⟨[(true,(r:Int),v)],rfl,by simp,by omega,by omega,?_,?_⟩
    ·rw [Nat.add_sub_cancel_left,hrow,Yrc]
     simp [Ymh,Ycd]
    ·refine Ysb _ (Nat.le_refl _) fun j hj _=> ?_
     by_cases hja:j<acc.length
     ·rw [List.getElem_append_left hja]
      exact hfit j hja _ (by simp) (fun _=> List.getElem_append_left hja) (by rw [List.take_append_of_le_length (by omega)])
     ·have hj2:j=acc.length:=by simp at hj;omega
      subst hj2
      rw [List.getElem_append_right (Nat.le_refl _)]
      simp only [Nat.sub_self,List.getElem_cons_zero]
      unfold Yt6
      rw [List.take_append_of_le_length (Nat.le_refl _),List.take_length,hm,hr]
      simp
      omega
   | false=>
    rw [Yso he (by omega)] at h
    obtain ⟨l2,e1,e2,e3,e4,e5,e6⟩:=Yql hS a k (acc ++ [(false,(r:Int),v)]) (p+n) (m+r+1) L t (by omega) h (by rw [Y0l,hm];simp) (fun j hj=> by
     by_cases hja:j<acc.length
     ·rw [List.getElem_append_left hja,List.take_append_of_le_length (by omega)]
      exact hall j hja
     ·have hj2:j=acc.length:=by simp at hj;omega
      subst hj2
      rw [List.getElem_append_right (Nat.le_refl _)]
      simp only [Nat.sub_self,List.getElem_cons_zero]
      rw [List.take_append_of_le_length (Nat.le_refl _),List.take_length,hm]
      exact ⟨by simp,hr,by simp;omega⟩)
    refine ⟨(false,(r:Int),v)::l2,by rw [e1,List.append_assoc];rfl,by simp,by omega,e4,?_,e6⟩
    rw [show t-p=n+(t-(p+n)) by omega,List.take_add,hrow,List.drop_drop,Yrc,e5]
    rfl
  ·rw [Yu2 he hf] at h
   simp only [Prod.mk.injEq] at h
   exact absurd h.2.1 hf
theorem Qbv {B:List UInt8} (hB:Yaw B=true) {i:Bool} {d:Int} {n:Nat} (h:dcT B i=(d,0,n)):B.take n=dcB i d∧n≤B.length∧Y6j i d=true∧n=8*Yb8 i:=by
 cases i with
 | false=>
  rw [Qbu] at h
  simp only [Prod.mk.injEq,true_and] at h
  obtain ⟨rfl,rfl⟩:=h
  exact ⟨rfl,Nat.zero_le _,rfl,rfl⟩
 | true=>
  by_cases h8:B.length<8
  ·rw [Yuv h8] at h
   simp at h
  have hlt:=Yq0 B hB 8 (by omega)
  have htr:=fun v (hv:num (B.take 8)=v)=> Ytr hB (by omega) hv
  by_cases h0:num (B.take 8)=0∨num (B.take 8)=128
  ·rw [Yx6 (by omega) h0] at h
   simp at h
  by_cases h255:num (B.take 8)=255
  ·rw [Yx5 (by omega) h255] at h
   simp only [Prod.mk.injEq,true_and] at h
   obtain ⟨rfl,rfl⟩:=h
   exact ⟨htr 255 h255,by omega,rfl,rfl⟩
  ·rw [Y6l (by omega) rfl (fun e=> h0 (.inl e)) (fun e=> h0 (.inr e)) h255] at h
   simp only [Prod.mk.injEq,true_and] at h
   obtain ⟨rfl,rfl⟩:=h
   refine ⟨?_,by omega,?_,rfl⟩
   ·refine (htr _ rfl).trans ?_
    unfold dcB
    rw [if_pos rfl,if_neg (by omega),Int.toNat_natCast]
   ·rw [Y6k,Bool.and_eq_true,decide_eq_true_iff,decide_eq_true_iff]
    omega
theorem Qbf {S:List UInt8} (hS:Yaw S=true) {p t:Nat} {i c:Bool} {d:Int} {L:List Ev} (hp:p≤S.length) (h:btk S p i c=(d,L,t,0)):
  p≤t∧t≤S.length∧(S.drop p).take (t-p)=Yhi i d L∧Ys5 i d L=true∧decide (0<L.length)=c:=by
 obtain ⟨⟨d',f,n⟩,hd⟩:∃x,dcT (S.drop p) i=x:=⟨_,rfl⟩
 by_cases hf:f=0
 ·subst hf
  obtain ⟨g1,g2,g3,g4⟩:=Qbv (Ybd _ _ hS) hd
  rw [List.length_drop] at g2
  cases c with
  | false=>
   rw [Ysg hd] at h
   simp only [Prod.mk.injEq,and_true] at h
   obtain ⟨rfl,rfl,rfl⟩:=h
   refine ⟨by omega,by omega,?_,?_,rfl⟩
   ·rw [Nat.add_sub_cancel_left,g1]
    simp [Yhi,Ycd]
   ·unfold Ys5
    rw [g3]
    rfl
  | true=>
   obtain ⟨⟨l,f2,e⟩,hl⟩:∃x,Ydd S (65-Yb8 i) [] (p+n) (Yb8 i)=x:=⟨_,rfl⟩
   by_cases hf2:f2=0
   ·subst hf2
    rw [Yxu hd hl] at h
    simp only [Prod.mk.injEq,and_true] at h
    obtain ⟨rfl,rfl,rfl⟩:=h
    obtain ⟨l2,e1,e2,e3,e4,e5,e6⟩:=Yql hS (Yb8 i) _ [] (p+n) (Yb8 i) l e (by omega) hl rfl (fun j hj=> absurd hj (Nat.not_lt_zero j))
    rw [List.nil_append] at e1
    subst e1
    refine ⟨by omega,e4,?_,?_,by simpa using e2⟩
    ·rw [show e-p=n+(e-(p+n)) by omega,List.take_add,g1,List.drop_drop,e5]
     rfl
    ·unfold Ys5
     rw [g3,e6]
     rfl
   ·rw [Qek hd hl hf2] at h
    simp only [Prod.mk.injEq] at h
    exact absurd h.2.2.2 hf2
 ·rw [Qej hd hf] at h
  simp only [Prod.mk.injEq] at h
  exact absurd h.2.2.2 hf
theorem Y3i {k:List UInt8→Int×Int×Nat} {S:List UInt8} {p:Nat} {f:Int} (hf:f≠0):Yeg k S (p,f)=(0,p,f):=Yft hf
theorem Yqj {inter:Bool} {S:List UInt8} {p:Nat} {f:Int} (hf:f≠0):∀j n,(Yd7 inter S j n (p,f)).2.2.2.2.2≠0
 | 0,_=> by simp [Yd7]
 | j+1,n=> by
  unfold Yd7
  rw [Y3i hf]
  have h1:Yms inter S (if inter then (p,f) else (p,f))=(0,0,p,f):=by
   rw [ite_self]
   exact Ys0 hf
  simp only at h1 ⊢
  rw [h1]
  simpa using hf
theorem Qba {S:List UInt8} (hS:Yaw S=true) {p q:Nat} {v:Int} (hp:p≤S.length) (h:Yeg Ypu S (p,0)=(v,q,0)):(v=1∧Seg S p q [49])∨(v=0∧Seg S p q [48]):=by
 rw [Yfj] at h
 have hr:=Ybd S p hS
 cases hd:S.drop p with
 | nil=>
  rw [hd] at h
  simp [Ypu] at h
 | cons c l=>
  rw [hd] at h
  simp only [Ypu,Prod.mk.injEq,and_true] at h
  obtain ⟨rfl,rfl⟩:=h
  have hc:c=48∨c=49:=by
   rw [hd] at hr
   unfold Yaw at hr
   simp at hr
   exact hr.1
  rcases hc with rfl | rfl
  ·exact .inr ⟨rfl,Seg.of hp (by rw [hd];simp) (by rw [hd];rfl)⟩
  ·exact .inl ⟨rfl,Seg.of hp (by rw [hd];simp) (by rw [hd];rfl)⟩
theorem Y02 {inter:Bool} {b:Int} (h:(Ybr inter 5 b).data.toList.isEmpty=false):b=0:=by
 by_cases hb:b<0∨0<b
 ·rw [Yo4 (by omega)] at h
  cases h
 ·omega
theorem Y0i {inter:Bool} {S:List UInt8} {p q:Nat} {a c:Int} (hp:p≤S.length) (h:Yms inter S (p,0)=(a,c,q,0)):Seg S p q (Ybr inter a c).data.toList∧(Ybr inter a c).data.toList.isEmpty=false∧a≠2:=by
 rw [Yyq] at h
 obtain ⟨⟨a',c',f,n⟩,hk⟩:∃x,mtk inter (S.drop p)=x:=⟨_,rfl⟩
 rw [hk] at h
 simp only [Prod.mk.injEq] at h
 obtain ⟨rfl,rfl,rfl,rfl⟩:=h
 obtain ⟨h1,h2,h3,h4,h5⟩:=Qcq hk
 exact ⟨Seg.of hp h3 h1,h4,h5⟩
theorem Ynn {inter:Bool} {S:List UInt8} (hS:Yaw S=true):∀(j n p n':Nat) (sk:Bool) (k c:Int) (q:Nat),p≤S.length→Yd7 inter S j n (p,0)=(n',sk,k,c,q,0)→∃d,n'=n+d∧d<j∧
  (sk=true→inter=true∧k=0∧c=0∧Seg S p q (Yfx inter d ++ [49]))∧
  (sk=false→Seg S p q (Yfx inter d++(Qae inter++(Ybr inter k c).data.toList))∧(Ybr inter k c).data.toList.isEmpty=false∧k≠2∧k≠5)
 | 0,n,p,n',sk,k,c,q,hp,h=> by
  simp [Yd7] at h
 | j+1,n,p,n',sk,k,c,q,hp,h=> by
  cases inter with
  | false=>
   obtain ⟨⟨a,c0,q1,f⟩,hk⟩:∃x,Yms false S (p,0)=x:=⟨_,rfl⟩
   rw [Yj0 hk] at h
   by_cases hf:f=0
   ·subst hf
    obtain ⟨g1,g2,g3⟩:=Y0i hp hk
    by_cases ha:a=5
    ·subst ha
     rw [if_pos rfl] at h
     obtain rfl:=Y02 g2
     obtain ⟨d,e1,e2,e3,e4⟩:=Ynn hS j (n+1) q1 n' sk k c q g1.2.1 h
     have gs:Seg S p q1 (Yi4 false):=g1
     refine ⟨d+1,by omega,by omega,fun hs=> absurd (e3 hs).1 (by decide),fun hs=> ?_⟩
     obtain ⟨k1,k2⟩:=e4 hs
     rw [Yc4,List.append_assoc]
     exact ⟨gs.app k1,k2⟩
    ·rw [if_neg ha] at h
     simp only [Prod.mk.injEq] at h
     obtain ⟨rfl,rfl,rfl,rfl,rfl,_⟩:=h
     exact ⟨0,rfl,by omega,fun hs=> (by cases hs),fun _=> ⟨g1,g2,g3,ha⟩⟩
   ·exfalso
    split at h
    ·exact Yqj hf j (n+1) (by rw [h])
    ·simp only [Prod.mk.injEq] at h
     exact hf h.2.2.2.2.2
  | true=>
   obtain ⟨⟨v,q1,f1⟩,hn⟩:∃x,Yeg Ypu S (p,0)=x:=⟨_,rfl⟩
   by_cases hf1:f1=0
   ·subst hf1
    rcases Qba hS hp hn with ⟨rfl,g0⟩ | ⟨rfl,g0⟩
    ·rw [Yno rfl hn rfl] at h
     simp only [Prod.mk.injEq] at h
     obtain ⟨rfl,rfl,rfl,rfl,rfl,_⟩:=h
     exact ⟨0,rfl,by omega,fun _=> ⟨rfl,rfl,rfl,g0⟩,fun hs=> (by cases hs)⟩
    ·obtain ⟨⟨a,c0,q2,f⟩,hk⟩:∃x,Yms true S (q1,0)=x:=⟨_,rfl⟩
     rw [Yjz hn (by decide) hk] at h
     by_cases hf:f=0
     ·subst hf
      obtain ⟨g1,g2,g3⟩:=Y0i g0.2.1 hk
      by_cases ha:a=5
      ·subst ha
       rw [if_pos rfl] at h
       obtain rfl:=Y02 g2
       obtain ⟨d,e1,e2,e3,e4⟩:=Ynn hS j (n+1) q2 n' sk k c q g1.2.1 h
       have gs:Seg S p q2 (Yi4 true):=g0.app g1
       refine ⟨d+1,by omega,by omega,fun hs=> ?_,fun hs=> ?_⟩
       ·obtain ⟨k0,k1,k2,k3⟩:=e3 hs
        rw [Yc4,List.append_assoc]
        exact ⟨rfl,k1,k2,gs.app k3⟩
       ·obtain ⟨k1,k2⟩:=e4 hs
        rw [Yc4,List.append_assoc]
        exact ⟨gs.app k1,k2⟩
      ·rw [if_neg ha] at h
       simp only [Prod.mk.injEq] at h
       obtain ⟨rfl,rfl,rfl,rfl,rfl,_⟩:=h
       exact ⟨0,rfl,by omega,fun hs=> (by cases hs),fun _=> ⟨g0.app g1,g2,g3,ha⟩⟩
     ·exfalso
      split at h
      ·exact Yqj hf j (n+1) (by rw [h])
      ·simp only [Prod.mk.injEq] at h
       exact hf h.2.2.2.2.2
   ·exfalso
    have hv:v≠1:=by
     rw [Yfj] at hn
     intro hv
     cases hd:S.drop p with
     | nil=> rw [hd] at hn;simp [Ypu] at hn;omega
     | cons c0 l0=> rw [hd] at hn;simp [Ypu] at hn;omega
    have hk:Yms true S (q1,f1)=(0,0,q1,f1):=Ys0 hf1
    rw [Yjz hn hv hk,if_neg (by decide)] at h
    simp only [Prod.mk.injEq] at h
    exact hf1 h.2.2.2.2.2
theorem Yvo {inter:Bool} {S:List UInt8} {p q:Nat} {a c:Int} (h:Seg S p q (Ybr inter a c).data.toList) (hne:(Ybr inter a c).data.toList.isEmpty=false) (h2:a≠2):Yms inter S (p,0)=(a,c,q,0):=by
 have hl:=h.len
 rw [Yyq,h.at,Qcp inter a c _ rfl hne,if_neg h2]
 simp only [Prod.mk.injEq,and_true,true_and]
 exact hl.symm
theorem Yui {S:List UInt8} {p q:Nat} {d:UInt8} (h:Seg S p q [d]):Yeg Ypu S (p,0)=(if d=49 then 1 else 0,q,0):=by
 have hl:=h.len
 rw [Yfj,h.at]
 simp only [List.cons_append,Ypu,Prod.mk.injEq,and_true,true_and]
 exact hl.symm
theorem Ynl {inter:Bool} {S:List UInt8} {j m p q:Nat} {a c:Int} (h:Seg S p q (Qae inter++(Ybr inter a c).data.toList)) (hne:(Ybr inter a c).data.toList.isEmpty=false) (h2:a≠2):
  Yd7 inter S (j+1) m (p,0)=if a=5 then Yd7 inter S j (m+1) (q,0) else (m,false,a,c,q,0):=by
 cases inter with
 | false=> exact Yj0 (Yvo h hne h2)
 | true=>
  obtain ⟨g1,g2⟩:=h.split
  exact Yjz (Yui g1) (by decide) (Yvo g2 hne h2)
theorem Yvc (inter:Bool):(Ybr inter 5 0).data.toList.isEmpty=false:=by cases inter <;> rfl
theorem Yz0 {S:List UInt8}:∀(n j m p q:Nat),n<j→Seg S p q (Yfx true n ++ [49])→Yd7 true S j m (p,0)=(m+n,true,0,0,q,0)
 | 0,j,m,p,q,hj,h=> by
  obtain ⟨k,rfl⟩:∃k,j=k+1:=⟨j-1,by omega⟩
  exact Yno rfl (Yui (show Seg S p q [49] from h)) (by decide)
 | n+1,j,m,p,q,hj,h=> by
  obtain ⟨k,rfl⟩:∃k,j=k+1:=⟨j-1,by omega⟩
  rw [Yc4,List.append_assoc] at h
  obtain ⟨g1,g2⟩:=h.split
  rw [Ynl g1 (Yvc true) (by decide),if_pos rfl,Yz0 n k (m+1) _ q (by omega) g2,Nat.add_assoc,Nat.add_comm 1 n]
theorem Yzz {inter:Bool} {S:List UInt8} {a c:Int} (hne:(Ybr inter a c).data.toList.isEmpty=false) (h2:a≠2) (h5:a≠5):∀(n j m p q:Nat),n<j→Seg S p q (Yfx inter n++(Qae inter++(Ybr inter a c).data.toList))→Yd7 inter S j m (p,0)=(m+n,false,a,c,q,0)
 | 0,j,m,p,q,hj,h=> by
  obtain ⟨k,rfl⟩:∃k,j=k+1:=⟨j-1,by omega⟩
  rw [Ynl (show Seg S p q (Qae inter++(Ybr inter a c).data.toList) from h) hne h2,if_neg h5]
  rfl
 | n+1,j,m,p,q,hj,h=> by
  obtain ⟨k,rfl⟩:∃k,j=k+1:=⟨j-1,by omega⟩
  rw [Yc4,List.append_assoc] at h
  obtain ⟨g1,g2⟩:=h.split
  rw [Ynl g1 (Yvc inter) (by decide),if_pos rfl,Yzz hne h2 h5 n k (m+1) _ q (by omega) g2,Nat.add_assoc,Nat.add_comm 1 n]
theorem Y7k {inter:Bool} {k:Int} {c:Nat} (h:Ykj inter k=true) (hc:c<4):(Ybr inter k (c:Nat)).data.toList.isEmpty=false∧k≠2∧k≠5:=by
 have hk:k=3∨k=4∨(inter=true∧(k=0∨k=1)):=by
  unfold Ykj at h
  simpa [or_assoc] using h
 rcases hk with rfl | rfl | ⟨rfl,rfl | rfl⟩
 all_goals
  refine ⟨?_,by decide,by decide⟩
  match c,hc with
  | 0,_=> first | rfl | (cases inter <;> rfl)
  | 1,_=> first | rfl | (cases inter <;> rfl)
  | 2,_=> first | rfl | (cases inter <;> rfl)
  | 3,_=> first | rfl | (cases inter <;> rfl)
theorem Y8j {S:List UInt8} {p q:Nat} {i:Bool} {k:Nat} (h:Seg S p q (Yf2 i (k:Nat)).data.toList) (hk:k<16):Yeg (ptk i) S (p,0)=(((k:Nat):Int),(q,0)):=by
 have hl:=h.len
 rw [Yfj,h.at,Qc4 i k hk _ rfl]
 simp only [Prod.mk.injEq,and_true,true_and]
 exact hl.symm
theorem Y9r {S:List UInt8} {p q:Nat} {k s:Int} (h:Seg S p q (Yb2 s).data.toList) (hs:Yqa k s=true):Y1c S k (p,0)=(s,q,0):=by
 have hl:=h.len
 unfold Y1c
 unfold Yqa at hs
 cases hk:Qdp k with
 | true=>
  rw [hk,if_pos rfl,Bool.not_eq_true'] at hs
  have h4:=Yml.1 hs
  rw [if_pos rfl,Yfj,h.at,Qdr h4]
  simp only [Prod.mk.injEq,and_true,true_and]
  have:(Yb2 s).data.toList.length=2:=by rcases h4 with rfl | rfl | rfl | rfl <;> rfl
  omega
 | false=>
  rw [hk,if_neg (by decide),beq_iff_eq] at hs
  subst hs
  rw [if_neg (by decide)]
  simp only [Prod.mk.injEq,and_true,true_and]
  exact hl.symm
theorem Yv4 {S:List UInt8} {p q:Nat} {pr v:Int} (h:Seg S p q (Ybt (Ybu (v-Ybu pr))).data.toList) (hv:v=Ybu v):Yfo S pr (p,0)=(v,q,0):=by
 have hl:=h.len
 unfold Yfo
 rw [Yfj,h.at,Qby (Yzn _) _ rfl]
 have e:Ybu (Ybu pr+Ybu (v-Ybu pr))=v:=by unfold Ybu at hv ⊢;omega
 rw [e]
 simp only [Prod.mk.injEq,and_true,true_and]
 exact hl.symm
theorem Y95 {S:List UInt8} {p q:Nat} {k x y mx my:Int} (h:Seg S p q (Qd6 k x y mx my)) (hv:Ymx k mx my=true):Yzl S k x y (p,0)=(mx,my,q,0):=by
 unfold Qd6 at h
 unfold Ymx at hv
 unfold Yzl
 cases hk:Yao k with
 | true=>
  rw [hk,if_pos rfl] at h hv
  rw [Bool.and_eq_true,beq_iff_eq,beq_iff_eq] at hv
  obtain ⟨rfl,rfl⟩:=hv
  rw [if_pos rfl]
  simp only [Prod.mk.injEq,and_true,true_and]
  exact h.len.symm
 | false=>
  rw [hk,if_neg (by decide)] at h hv
  rw [Bool.and_eq_true,beq_iff_eq,beq_iff_eq] at hv
  obtain ⟨g1,g2⟩:=h.split
  have h1:=Yv4 g1 hv.1
  have h2:=Yv4 g2 hv.2
  rw [if_neg (by decide),h1]
  simp only
  rw [h2]
theorem Yuj {S:List UInt8} {p q:Nat} {i:Bool} {d:Int} {l:List Ev} (h:Seg S p q (Yhi i d l)) (hm:Ys5 i d l=true):Yex i (decide (0<l.length)) S (p,0)=(d,l,q,0):=by
 have hl:=h.len
 have h1:=h.at
 obtain ⟨e1,e2,_⟩:=h
 have hS:S=S.take p++Yhi i d l++S.drop q:=by rw [List.append_assoc,←h1,List.take_append_drop]
 have hA:(S.take p).length=p:=by rw [List.length_take];omega
 have hb:=Qa5 hm (S.take p) (S.drop q)
 rw [←hS,hA,←hl] at hb
 rw [Yxt,hb]
theorem Yz1 {S:List UInt8} {a:Nat} {c:Cel} {i:Nat}:∀(k b:Nat),Seg S a b (Yi9 c (i+k))→Seg S a (a+(Yi9 c i).length) (Yi9 c i)
 | 0,b,h=> by
  have hl:=h.len
  rw [Nat.add_zero] at hl h
  rw [←hl]
  exact h
 | k+1,b,h=> by
  have h':Seg S a b (Yi9 c (i+k)++Yhi (Yao c.kind) (c.dc (i+k)) (c.ev (i+k))):=h
  exact Yz1 k _ h'.split.1
theorem Yz7 {c:Cel}:∀i,i<6→Yey (4*Yfs c 4+Yj6 c) i=decide (0<(c.ev i).length):=by
 have hb:∀i,(Yp0 c i==1)=decide (0<(c.ev i).length):=by
  intro i
  unfold Yp0
  cases decide (0<(c.ev i).length) <;> rfl
 have h:=fun i=> Yyg c i
 have h0:=h 0;have h1:=h 1;have h2:=h 2;have h3:=h 3;have h4:=h 4;have h5:=h 5
 intro i hi
 rw [←hb]
 unfold Yey
 congr 1
 rw [Ym7]
 unfold Yj6
 match i,hi with
 | 0,_=> simp only [Nat.sub_zero,Nat.reducePow];omega
 | 1,_=> simp only [Nat.reduceSub,Nat.reducePow];omega
 | 2,_=> simp only [Nat.reduceSub,Nat.reducePow];omega
 | 3,_=> simp only [Nat.reduceSub,Nat.reducePow];omega
 | 4,_=> simp only [Nat.reduceSub,Nat.reducePow];omega
 | 5,_=> simp only [Nat.reduceSub,Nat.reducePow];omega
theorem Y5w {c d:Cel} (he:∀i,i<6→c.ev i=d.ev i) (hd:∀i,i<6→c.dc i=d.dc i) (h1:c.stuff=d.stuff) (h2:c.skip=d.skip) (h3:c.kind=d.kind) (h4:c.step=d.step) (h5:c.mx=d.mx) (h6:c.my=d.my):Ypv c d=true:=by
 unfold Ypv
 rw [Y60 he,Bool.true_and]
 unfold Qg5
 rw [h1,h2,h3,h4,h5,h6]
 simp only [beq_self_eq_true,Bool.and_self,Bool.true_and,List.all_eq_true]
 intro i hi
 rw [hd i (List.mem_range.1 hi)]
 exact beq_self_eq_true _
theorem Y6h {inter:Bool} {S:List UInt8} {x y:Int} {p q:Nat} {c:Cel} (h:Seg S p q (Yc1 inter x y c)) (hm:Ybo inter c=true):∃c',ctk inter S x y p=(c',q,0)∧Ypv c' c=true:=by
 unfold Ybo at hm
 rw [Bool.and_eq_true,Bool.and_eq_true,decide_eq_true_iff,decide_eq_true_iff] at hm
 obtain ⟨⟨s0,s1⟩,hm⟩:=hm
 obtain ⟨n,hn⟩:∃n:Nat,c.stuff=n:=⟨c.stuff.toNat,by omega⟩
 unfold Yc1 at h
 rw [hn,Int.toNat_natCast] at h
 cases hsk:c.skip with
 | true=>
  rw [hsk,if_pos rfl] at hm h
  rw [Bool.and_eq_true] at hm
  obtain ⟨hi,hz⟩:=hm
  subst hi
  have hb:=Yz0 n 65 0 p q (by omega) h
  refine ⟨_,Yns (Ysi hb),?_⟩
  unfold Ypn at hz
  simp only [Bool.and_eq_true,beq_iff_eq,List.all_eq_true,List.mem_range,decide_eq_true_eq] at hz
  obtain ⟨⟨⟨k0,k1⟩,k2,k3⟩,hd,he⟩:=hz
  exact Y5w (fun i hi=> (List.eq_nil_of_length_eq_zero (he i hi)).symm) (fun i hi=> (hd i hi).symm) (by rw [hn];simp) hsk.symm k0.symm k1.symm k2.symm k3.symm
 | false=>
  rw [hsk,if_neg (by decide)] at hm h
  simp only [Bool.and_eq_true] at hm
  obtain ⟨⟨hk,hs⟩,hv,hbk⟩:=hm
  rw [←List.append_assoc,←List.append_assoc,←List.append_assoc,←List.append_assoc] at h
  obtain ⟨q4,h,g5⟩:=h.cut
  obtain ⟨q3,h,g4⟩:=h.cut
  obtain ⟨q2,h,g3⟩:=h.cut
  obtain ⟨q1,g1,g2⟩:=h.cut
  obtain ⟨c1,c2,c3⟩:=Y6c c
  obtain ⟨r1,r2,r3⟩:=Y7k hk c2
  have hb:=Yzz r1 r2 r3 n 65 0 p q1 (by omega) g1
  rw [Nat.zero_add] at hb
  have hall:=Ylf hb (Y8j g2 c1) (Y9r g3 hs) (Y95 g4 hv)
  rw [Int.toNat_natCast,Int.toNat_natCast] at hall
  have hseg:∀i,i<6→Seg S (q4+(Yi9 c i).length) (q4+(Yi9 c (i+1)).length) (Yhi (Yao c.kind) (c.dc i) (c.ev i)):=by
   intro i hi
   have g6:Seg S q4 q (Yi9 c (i+1+(5-i))):=by rw [show i+1+(5-i)=6 by omega];exact g5
   have g7:Seg S q4 (q4+(Yi9 c (i+1)).length) (Yi9 c i++Yhi (Yao c.kind) (c.dc i) (c.ev i)):=Yz1 (5-i) q g6
   exact g7.split.2
  have hmy:=Yhn.1 hbk
  have hst:∀i,i≤6→stB (Yao c.kind) (4*Yfs c 4+Yj6 c) S (q4,0) i=(q4+(Yi9 c i).length,0):=by
   intro i
   induction i with
   | zero=> intro _;rfl
   | succ i ih=>
    intro hi
    show (Yex (Yao c.kind) (Yey (4*Yfs c 4+Yj6 c) i) S (stB (Yao c.kind) (4*Yfs c 4+Yj6 c) S (q4,0) i)).2.2=_
    rw [ih (by omega),Yz7 i (by omega),Yuj (hseg i (by omega)) (hmy i (by omega))]
  have hbl:∀i,i<6→Yex (Yao c.kind) (Yey (4*Yfs c 4+Yj6 c) i) S (stB (Yao c.kind) (4*Yfs c 4+Yj6 c) S (q4,0) i)=(c.dc i,c.ev i,q4+(Yi9 c (i+1)).length,0):=by
   intro i hi
   rw [hst i (by omega),Yz7 i hi,Yuj (hseg i hi) (hmy i hi)]
  rw [hst 6 (Nat.le_refl _),←g5.len] at hall
  refine ⟨_,Yns hall,?_⟩
  refine Y5w (fun i hi=> ?_) (fun i hi=> ?_) hn.symm hsk.symm rfl rfl rfl rfl
  ·show (Yex (Yao c.kind) (Yey (4*Yfs c 4+Yj6 c) i) S (stB (Yao c.kind) (4*Yfs c 4+Yj6 c) S (q4,0) i)).2.1=_
   rw [hbl i hi]
  ·show (Yex (Yao c.kind) (Yey (4*Yfs c 4+Yj6 c) i) S (stB (Yao c.kind) (4*Yfs c 4+Yj6 c) S (q4,0) i)).1=_
   rw [hbl i hi]
end Go.Proofs.YtgikochfffdpfaaGreatDoor
namespace Go.Proofs.YtgikochfffdpfaaGreatDoor
open Go.RowKit Go.Lib
def Yi6 (w:World) (pb rb:Nat) (s:ByteArray) (st:Stt):Prop:=
 w.heap[pb]? = some (.cells [.pointer (some ⟨rb,0,none⟩),.int .i64 st.2].toArray 175 (0,0))∧Ybb w rb s st.1∧rb<pb
theorem Yi6.lt {w:World} {pb rb:Nat} {s:ByteArray} {st:Stt} (h:Yi6 w pb rb s st):pb<w.heap.size:=(Array.getElem?_eq_some_iff.1 h.1).1
theorem Yi6.under {w x:World} {pb rb N:Nat} {s:ByteArray} {st:Stt} (h:Yi6 w pb rb s st) (hb:Below N w x) (hp:pb<N):Yi6 x pb rb s st:=
 ⟨(hb.block pb hp).trans h.1,h.2.1.under hb (by have:=h.2.2;omega),h.2.2⟩
theorem Yi6.store {w x:World} {pb rb:Nat} {s:ByteArray} {st:Stt} {q:Nat} {f:Int} (h:Yi6 w pb rb s st) (hr:Ybb x rb s q) (hg:w.grownBy x (some rb)):
  Yi6 (x.setCell ⟨pb,1,none⟩ (.int .i64 f)) pb rb s (q,f)∧Ya7 rb pb w (x.setCell ⟨pb,1,none⟩ (.int .i64 f)):=by
 have h0:=(hg.block pb h.lt (by have:=h.2.2;simp;omega)).trans h.1
 have hne:rb≠pb:=by have:=h.2.2;omega
 refine ⟨⟨?_,⟨?_,hr.2⟩,h.2.2⟩,(Ya7.grown hg (.inl rfl)).trans (Ya7.set _ (.inr rfl))⟩
 ·exact Yat (o:=1) (.int .i64 f) h0
 ·rw [Below.heap_setCell _ _ _ _ hne];exact hr.1
def Yie (w:World) (B:Nat) (v:Value) (L:List Ev):Prop:=∃(q:Option Addr) (cap:Nat),v = .slice q L.length cap∧Yd2 w q L∧Yfa B q
theorem Yie.nil (w:World) (B:Nat):Yie w B (.slice none 0 0) []:=⟨none,0,rfl,.inl rfl,Yfa.none _⟩
theorem Yie.one {w:World} {B:Nat} {v:Value} {L:List Ev} (h:Yie w B v L):v.oneCell'=true:=by
 obtain ⟨q,cap,rfl,_⟩:=h
 rfl
theorem Yie.from {w:World} {A B:Nat} {v:Value} {L:List Ev} (h:Yie w B v L) (hab:A≤B):Yie w A v L:=by
 obtain ⟨q,cap,h1,h2,h3⟩:=h
 exact ⟨q,cap,h1,h2,h3.mono hab⟩
theorem Yie.moved {w x:World} {a b B:Nat} {v:Value} {L:List Ev} (h:Yie w B v L) (hm:Ya7 a b w x) (ha:a<B) (hb:b<B):Yie x B v L:=by
 obtain ⟨q,cap,h1,h2,h3⟩:=h
 refine ⟨q,cap,h1,?_,h3⟩
 rcases h2 with h | ⟨k,o,rfl,h4,h5⟩
 ·exact .inl h
 ·have hk:B≤k:=h3 _ rfl
  have hb:=hm.block k h4 (by omega) (by omega)
  refine .inr ⟨k,o,rfl,Nat.lt_of_lt_of_le h4 hm.size,fun i hi=> ?_⟩
  obtain ⟨a0,a1,a2⟩:=h5 i hi
  exact ⟨(World.cell?_of_block (a:=⟨k,o+i*3,none⟩) hb).trans a0,(World.cell?_of_block (a:=⟨k,o+i*3+1,none⟩) hb).trans a1,(World.cell?_of_block (a:=⟨k,o+i*3+2,none⟩) hb).trans a2⟩
theorem Yie.below {w x:World} {B:Nat} {v:Value} {L:List Ev} (h:Yie w B v L) (hb:Below w.heap.size w x):Yie x B v L:=by
 obtain ⟨q,cap,h1,h2,h3⟩:=h
 exact ⟨q,cap,h1,h2.below hb,h3⟩
def Yr5 (k:List UInt8→Int×Int×Nat) (s:ByteArray) (rb p:Nat) (w:World) (e:Ending) (w':World):Prop:=
 e = .returned (.tuple #[.int .i64 (k ((Yac s.data.toList).drop p)).1,.int .i64 (k ((Yac s.data.toList).drop p)).2.1])∧Ybb w' rb s (p+(k ((Yac s.data.toList).drop p)).2.2)∧w.grownBy w' (some rb)
def Yb6 (k:List UInt8→Int×Int×Nat) (s:ByteArray) (pb rb:Nat) (st:Stt) (w:World) (e:Ending) (w':World):Prop:=
 e = .returned (.int .i64 (Yeg k (Yac s.data.toList) st).1)∧Yi6 w' pb rb s (Yeg k (Yac s.data.toList) st).2∧Ya7 rb pb w w'
theorem Qfd (s:ByteArray) (p:Nat) (hp:p≤8*s.size):∃(v f:Int) (n:Nat),Ypu ((Yac s.data.toList).drop p)=(v,f,n)∧ask s.data.toList p 1=(v,f)∧Ycu s.data.toList p 1=p+n:=by
 have hdl:s.data.toList.length=s.size:=rfl
 have hbl:((Yac s.data.toList).drop p).length=8*s.size-p:=by rw [List.length_drop,Yas];rfl
 by_cases hsh:8*s.size<p+1
 ·have ha:ask s.data.toList p 1=(0,2):=Ybj (by omega) (by rw [hdl];omega)
  refine ⟨0,2,0,?_,ha,by unfold Ycu;rw [ha];rfl⟩
  cases hd:(Yac s.data.toList).drop p with
  | nil=> rfl
  | cons a l=> rw [hd] at hbl;simp at hbl;omega
 ·have ha:ask s.data.toList p 1=(((Ya5 s.data.toList p 1:Nat):Int),0):=Ycz (by omega) (by rw [hdl];omega)
  obtain ⟨t,ht,h01,hd⟩:=Yqo s p (by omega)
  rw [ht] at ha
  refine ⟨t,0,1,?_,ha,by unfold Ycu;rw [ha];rfl⟩
  cases hc:(Yac s.data.toList).drop p with
  | nil=> rw [hc] at hd;cases hd
  | cons a l=>
   rw [hc] at hd
   have:a=UInt8.ofNat (48+t):=by simpa using hd
   subst this
   rcases h01 with rfl | rfl <;> rfl
theorem Yxv (w:World) (rb:Nat) (s:ByteArray) (p:Nat) (hr:Ybb w rb s p):Calls Tryz.prog 186 #[.pointer (some ⟨rb,0,none⟩)] w (Yr5 Ypu s rb p w):=by
 have hc:=Ycr w rb s p 1 hr
 obtain ⟨v,f,n,hb,ha,ht⟩:=Qfd s p hr.2.1
 unfold Yr5
 rw [hb]
 rw [ha,ht] at hc
 clear ha ht hb hr
 go_enter Tryz.func186,Tryz.ntmps186
 go_wp2_with fail
 refine hc.mono ?_
 rintro e w1 ⟨rfl,hr1,hg1⟩
 go_wp2
 go_ret2
 exact ⟨rfl,hr1,hg1⟩
theorem Yn6 {f : FuncId} {fn : Func} {c : Code} (hf : Tryz.prog.funcs[f]? = some fn) (hname : (fn.name == "runtime.NumGoroutine") = false) (hb : fn.body = some c) (args : Array Value) (w : World) : (callFunc f args).run Tryz.prog w = .ok (.enter f args) w := by
 have h1 : fn.name ≠ "runtime.NumGoroutine" := by simpa using hname
 simp [callFunc,hf,h1,hb]
theorem Yhs (k:List UInt8→Int×Int×Nat) (fn:FuncId) (w:World) (pb rb:Nat) (s:ByteArray) (st:Stt) (hr:Yi6 w pb rb s st) (hen:∀args x,(callFunc fn args).run Tryz.prog x = .ok (.enter fn args) x)
  (hk:Ybb w rb s st.1→Calls Tryz.prog fn #[.pointer (some ⟨rb,0,none⟩)] w (Yr5 k s rb st.1 w)):
  Calls Tryz.prog 170 #[.pointer (some ⟨pb,0,none⟩),.func (.func fn) #[] #[]] w (Yb6 k s pb rb st w):=by
 obtain ⟨p,f⟩:=st
 have c0:=Yaa (o:=0) hr.1 rfl
 have c1:=Yaa (o:=1) hr.1 rfl
 simp only at c0 c1
 unfold Yb6
 by_cases hf:f=0
 ·subst hf
  have hk:=hk hr.2.1
  unfold Yr5 at hk
  rw [Yfj]
  simp only at hk ⊢
  generalize k ((Yac s.data.toList).drop p)=z at hk ⊢
  obtain ⟨v,f,n⟩:=z
  simp only at hk ⊢
  have HR:=Lib.hid hr
  clear hr
  go_enter Tryz.func170,Tryz.ntmps170
  go_wp2_with fail
  refine hk.mono ?_
  rintro e w1 ⟨rfl,hr1,hg1⟩
  have h0:=(hg1.block pb HR.out.lt (by have:=HR.out.2.2;simp;omega)).trans HR.out.1
  have hfr:=Yag (o:=1) h0
  have hd0:=Yaa (o:=1) h0 rfl
  have ST:=Lib.hid (HR.out.store (f:=f) hr1 hg1)
  clear hr1 hg1 h0 hk c0 c1
  go_wp2
  go_ret
  exact ⟨rfl,ST.out⟩
 ·rw [Yft hf]
  have t0:(f != 0)=true:=by simpa using hf
  go_enter Tryz.func170,Tryz.ntmps170
  go_wp2
  go_ret
  exact ⟨rfl,hr,Ya7.refl _ _ _⟩
section
variable {N:Nat} {w:World} {pb rb:Nat} {s:ByteArray} {st:Stt}
theorem Qbp (hr:Yi6 w pb rb s st):Calls Tryz.prog 170 #[.pointer (some ⟨pb,0,none⟩),.func (.func 186) #[] #[]] w (Yb6 Ypu s pb rb st w):=
 Yhs Ypu _ w pb rb s st hr (Yn6 Tryz.func186 (by kernel_rfl) rfl) fun h=> Yxv w rb s st.1 h
theorem Yut (ht:Ybf N w) (hN:N≤rb) (hr:Yi6 w pb rb s st):Calls Tryz.prog 170 #[.pointer (some ⟨pb,0,none⟩),.func (.func 171) #[] #[]] w (Yb6 stk s pb rb st w):=
 Yhs stk _ w pb rb s st hr (Yn6 Tryz.func171 (by kernel_rfl) rfl) fun h=> (Y4f w rb s st.1 ht.steps (by have:=ht.lo.2.2.2.1;omega) h).mono fun _ _ h=> h
theorem Yj8 (ht:Ybf N w) (hr:Yi6 w pb rb s st):Calls Tryz.prog 170 #[.pointer (some ⟨pb,0,none⟩),.func (.func 172) #[] #[]] w (Yb6 dtk s pb rb st w):=
 Yhs dtk _ w pb rb s st hr (Yn6 Tryz.func172 (by kernel_rfl) rfl) fun h=> (Y6o w rb s st.1 ht.mvd h).mono fun _ _ h=> h
end
theorem Yj9 {N:Nat} {w:World} {pb rb:Nat} {s:ByteArray} {st:Stt} (intra:Bool) (ht:Ybf N w) (hr:Yi6 w pb rb s st):
  Calls Tryz.prog 169 #[.pointer (some ⟨pb,0,none⟩),.bool intra] w (Yb6 (ptk intra) s pb rb st w):=by
 obtain ⟨p,f⟩:=st
 have c0:=Yaa (o:=0) hr.1 rfl
 have c1:=Yaa (o:=1) hr.1 rfl
 simp only at c0 c1
 unfold Yb6
 by_cases hf:f=0
 ·subst hf
  have hk:=Y3o intra w rb s p ht.pats hr.2.1
  unfold Qam at hk
  rw [Yfj]
  generalize ptk intra ((Yac s.data.toList).drop p)=z at hk ⊢
  obtain ⟨v,f,n⟩:=z
  simp only at hk ⊢
  have HR:=Lib.hid hr
  clear hr ht
  go_enter Tryz.func169,Tryz.ntmps169
  go_wp2_with fail
  refine hk.mono ?_
  rintro e w1 ⟨rfl,hr1,hg1⟩
  have h0:=(hg1.block pb HR.out.lt (by have:=HR.out.2.2;simp;omega)).trans HR.out.1
  have hfr:=Yag (o:=1) h0
  have hd0:=Yaa (o:=1) h0 rfl
  have ST:=Lib.hid (HR.out.store (f:=f) hr1 hg1)
  clear hr1 hg1 h0 hk c0 c1
  go_wp2
  go_ret
  exact ⟨rfl,ST.out⟩
 ·rw [Yft hf]
  have t0:(f != 0)=true:=by simpa using hf
  clear ht
  go_enter Tryz.func169,Tryz.ntmps169
  go_wp2
  go_ret
  exact ⟨rfl,hr,Ya7.refl _ _ _⟩
def Ymy (inter:Bool) (s:ByteArray) (pb rb:Nat) (st:Stt) (w:World) (e:Ending) (w':World):Prop:=
 e = .returned (.tuple #[.int .i64 (Yms inter (Yac s.data.toList) st).1,.int .i64 (Yms inter (Yac s.data.toList) st).2.1])∧Yi6 w' pb rb s (Yms inter (Yac s.data.toList) st).2.2∧Ya7 rb pb w w'
theorem Yqk {w:World} {pb rb:Nat} {s:ByteArray} {st:Stt} (inter:Bool) (hr:Yi6 w pb rb s st):
  Calls Tryz.prog 187 #[.pointer (some ⟨pb,0,none⟩),.bool inter] w (Ymy inter s pb rb st w):=by
 obtain ⟨p,f⟩:=st
 have c0:=Yaa (o:=0) hr.1 rfl
 have c1:=Yaa (o:=1) hr.1 rfl
 simp only at c0 c1
 unfold Ymy
 by_cases hf:f=0
 ·subst hf
  have hk:=Y3f inter w rb s p hr.2.1
  unfold Qal at hk
  rw [Yyq]
  generalize mtk inter ((Yac s.data.toList).drop p)=z at hk ⊢
  obtain ⟨v,v2,f,n⟩:=z
  simp only at hk ⊢
  have HR:=Lib.hid hr
  clear hr
  go_enter Tryz.func187,Tryz.ntmps187
  go_wp2_with fail
  refine hk.mono ?_
  rintro e w1 ⟨rfl,hr1,hg1⟩
  have h0:=(hg1.block pb HR.out.lt (by have:=HR.out.2.2;simp;omega)).trans HR.out.1
  have hfr:=Yag (o:=1) h0
  have hd0:=Yaa (o:=1) h0 rfl
  have ST:=Lib.hid (HR.out.store (f:=f) hr1 hg1)
  clear hr1 hg1 h0 hk c0 c1
  go_wp2
  go_ret2
  exact ⟨rfl,ST.out⟩
 ·rw [Ys0 hf]
  have t0:(f != 0)=true:=by simpa using hf
  go_enter Tryz.func187,Tryz.ntmps187
  go_wp2
  go_ret2
  exact ⟨rfl,hr,Ya7.refl _ _ _⟩
def Yf6 (intra coded:Bool) (s:ByteArray) (pb rb:Nat) (st:Stt) (w:World) (e:Ending) (w':World):Prop:=
 ∃v,e = .returned (.tuple #[.int .i64 (Yex intra coded (Yac s.data.toList) st).1,v])∧Yie w' w.heap.size v (Yex intra coded (Yac s.data.toList) st).2.1∧Yi6 w' pb rb s (Yex intra coded (Yac s.data.toList) st).2.2∧Ya7 rb pb w w'
theorem Ygs {N:Nat} {w:World} {pb rb:Nat} {s:ByteArray} {st:Stt} (intra coded:Bool) (ht:Ybf N w) (hr:Yi6 w pb rb s st):
  Calls Tryz.prog 173 #[.pointer (some ⟨pb,0,none⟩),.bool intra,.bool coded] w (Yf6 intra coded s pb rb st w):=by
 obtain ⟨p,f⟩:=st
 have c0:=Yaa (o:=0) hr.1 rfl
 have c1:=Yaa (o:=1) hr.1 rfl
 simp only at c0 c1
 unfold Yf6
 by_cases hf:f=0
 ·subst hf
  have hk:=Y5r w rb s p intra coded ht.tcoef hr.2.1
  unfold Y43 at hk
  rw [Yxt]
  generalize btk (Yac s.data.toList) p intra coded=z at hk ⊢
  obtain ⟨d,L,q,f⟩:=z
  simp only at hk ⊢
  have HR:=Lib.hid hr
  clear hr ht
  go_enter Tryz.func173,Tryz.ntmps173
  go_wp2_with fail
  refine hk.mono ?_
  rintro e w1 ⟨d1,L1,f1,t1,m,a,cap,heq,rfl,hm,hev,hr1,hg1,hfm⟩
  simp only [Prod.mk.injEq] at heq
  obtain ⟨rfl,rfl,rfl,rfl⟩:=heq
  have h0:=(hg1.block pb HR.out.lt (by have:=HR.out.2.2;simp;omega)).trans HR.out.1
  have hfr:=Yag (o:=1) h0
  have hd0:=Yaa (o:=1) h0 rfl
  have ST:=Lib.hid (HR.out.store (f:=f) hr1 hg1)
  have SL:=Lib.hid ((show Yie w1 w.heap.size (.slice a L.length cap) L from ⟨a,cap,rfl,hev,hfm⟩).moved (Ya7.set (a:=pb) (b:=pb) (p:=⟨pb,1,none⟩) (.int .i64 f) (.inl rfl)) HR.out.lt HR.out.lt)
  rw [hm] at SL
  clear hr1 hg1 h0 hk c0 c1 hev hfm
  go_wp2
  go_ret2
  exact ⟨_,rfl,SL.out,ST.out⟩
 ·rw [Yz3 hf]
  have t0:(f != 0)=true:=by simpa using hf
  clear ht
  go_enter Tryz.func173,Tryz.ntmps173
  go_wp2
  go_ret2
  exact ⟨_,rfl,Yie.nil _ _,hr,Ya7.refl _ _ _⟩
theorem Ya7.onto {a b N:Nat} {w x y:World} (h:Ya7 a b w x) (hb:Below N x y) (hN:w.heap.size≤N):Ya7 a b w y:=
 ⟨hb.os.trans h.os,hb.tape.trans h.tape,hb.output.trans h.output,Nat.le_trans h.size hb.size,fun k hk h1 h2=> (hb.block k (by omega)).trans (h.block k hk h1 h2)⟩
theorem Yc0 {w x:World} {R:Nat} (h:w.grownBy x (some R)) (hR:R<w.heap.size):Below R w x:=
 ⟨h.os,h.tape,h.output,h.size,fun k hk=> h.block k (by omega) (by simp;omega)⟩
theorem Yi6.wrong {w:World} {pb rb:Nat} {s:ByteArray} {st:Stt} (f:Int) (h:Yi6 w pb rb s st):
  Yi6 (w.setCell ⟨pb,1,none⟩ (.int .i64 f)) pb rb s (st.1,f)∧Ya7 rb pb w (w.setCell ⟨pb,1,none⟩ (.int .i64 f)):=
 h.store h.2.1 ⟨rfl,rfl,rfl,Nat.le_refl _,fun _ _ _=> rfl⟩
theorem Yfr (c:Cel) (sl:Nat→Value):(Tryz.prog.info? 56).map (·.size)=some (Yba c sl).toArray.size:=by kernel_rfl
theorem Yhq (c:Cel) (sl:Nat→Value) (h:∀i,i<6→(sl i).oneCell'=true):(Yba c sl).toArray.all (·.oneCell')=true:=by
 rw [Array.all_eq_true_iff_forall_mem]
 intro v hv
 have hm:v∈Yba c sl:=by simpa using hv
 simp only [Yba,List.mem_cons,List.not_mem_nil,or_false] at hm
 rcases hm with rfl | rfl | rfl | rfl | rfl | rfl | rfl | rfl | rfl | rfl | rfl | rfl | rfl | rfl | rfl | rfl | rfl | rfl
 all_goals first | rfl | exact h _ (by omega)
def Y45 (inter:Bool) (s:ByteArray) (pb rb:Nat) (st:Stt) (w:World) (e:Ending) (w':World):Prop:=
 ∃(n:Nat) (sk:Bool) (k c:Int) (st':Stt),Yd7 inter (Yac s.data.toList) 65 0 st=(n,sk,k,c,st')∧e = .returned (.tuple #[.agg (Yba {Yii with stuff:=n,skip:=sk,kind:=k} nilS).toArray,.int .i64 c])∧Yi6 w' pb rb s st'∧Ya7 rb pb w w'
set_option maxRecDepth 100000 in
set_option maxHeartbeats 2000000 in
theorem Y11 {w:World} {pb rb:Nat} {s:ByteArray} {st:Stt} (inter:Bool) (hr:Yi6 w pb rb s st):
  Calls Tryz.prog 168 #[.pointer (some ⟨pb,0,none⟩),.bool inter] w (Y45 inter s pb rb st w):=by
 obtain ⟨R,hR⟩:∃R,w.heap.size=R:=⟨_,rfl⟩
 obtain ⟨wA,hwA⟩:∃x,w.alloc (.cells #[.int .i64 0,.bool false,.int .i64 0,.int .i64 0,.int .i64 0,.int .i64 0,.int .i64 0,.int .i64 0,.int .i64 0,.int .i64 0,.int .i64 0,.int .i64 0,.slice none 0 0,.slice none 0 0,.slice none 0 0,.slice none 0 0,.slice none 0 0,.slice none 0 0] 56 (0,0))=x:=⟨_,rfl⟩
 have hbA:Below R w wA:=by rw [←hwA,←hR];exact (Below.refl _ w).alloc (Nat.le_refl _) _
 have hzA:wA.heap.size=R+1:=by rw [←hwA,←hR];simp
 have hA:wA.heap[R]? = some (.cells #[.int .i64 0,.bool false,.int .i64 0,.int .i64 0,.int .i64 0,.int .i64 0,.int .i64 0,.int .i64 0,.int .i64 0,.int .i64 0,.int .i64 0,.int .i64 0,.slice none 0 0,.slice none 0 0,.slice none 0 0,.slice none 0 0,.slice none 0 0,.slice none 0 0] 56 (0,0)):=by rw [←hwA,←hR];exact heap_alloc_new w _
 obtain ⟨Y,hY⟩:∃Y:Array Value,#[.int .i64 0,.bool false,.int .i64 0,.int .i64 0,.int .i64 0,.int .i64 0,.int .i64 0,.int .i64 0,.int .i64 0,.int .i64 0,.int .i64 0,.int .i64 0,.slice none 0 0,.slice none 0 0,.slice none 0 0,.slice none 0 0,.slice none 0 0,.slice none 0 0]=Y:=⟨_,rfl⟩
 have hYs:Y.size=18:=by rw [←hY];rfl
 rw [hY] at hA
 clear hY
 have HYS:∀(n k:Int) (sk:Bool),Y.size=((#[.int .i64 n,.bool sk,.int .i64 k,.int .i64 0,.int .i64 0,.int .i64 0,.int .i64 0,.int .i64 0,.int .i64 0,.int .i64 0,.int .i64 0,.int .i64 0,.slice none 0 0,.slice none 0 0,.slice none 0 0,.slice none 0 0,.slice none 0 0,.slice none 0 0]:Array Value)).size:=fun _ _ _=> hYs
 have HSZ:∀(n k:Int) (sk:Bool),(Tryz.prog.info? 56).map (·.size)=some ((#[.int .i64 n,.bool sk,.int .i64 k,.int .i64 0,.int .i64 0,.int .i64 0,.int .i64 0,.int .i64 0,.int .i64 0,.int .i64 0,.int .i64 0,.int .i64 0,.slice none 0 0,.slice none 0 0,.slice none 0 0,.slice none 0 0,.slice none 0 0,.slice none 0 0]:Array Value)).size:=fun n k sk=> Yfr {Yii with stuff:=n,skip:=sk,kind:=k} nilS
 have HONE:∀(n k:Int) (sk:Bool),((#[.int .i64 n,.bool sk,.int .i64 k,.int .i64 0,.int .i64 0,.int .i64 0,.int .i64 0,.int .i64 0,.int .i64 0,.int .i64 0,.int .i64 0,.int .i64 0,.slice none 0 0,.slice none 0 0,.slice none 0 0,.slice none 0 0,.slice none 0 0,.slice none 0 0]:Array Value)).all (·.oneCell')=true:=fun n k sk=> Yhq {Yii with stuff:=n,skip:=sk,kind:=k} nilS fun _ _=> rfl
 have hpb:pb<R:=hR▸hr.lt
 have hrb:rb<pb:=hr.2.2
 have hrA:Yi6 wA pb rb s st:=hr.under hbA hpb
 have hmA:Ya7 rb pb w wA:=(Ya7.refl rb pb w).onto hbA (by omega)
 have HWA:=Lib.hid hwA
 have HR:=Lib.hid hR
 have HY:=Lib.hid HYS
 clear hwA hR hYs hbA hr
 go_enter Tryz.func168,Tryz.ntmps168
 go_wp2
 rw [HWA.out,HR.out]
 go_loopw [9] (fun z wr=>∃(i:Nat) (st':Stt),i≤65∧z = .int .i64 i∧Yi6 wr pb rb s st'∧Hid (Yd7 inter (Yac s.data.toList) 65 0 st=Yd7 inter (Yac s.data.toList) (65-i) i st')∧Ya7 rb pb w wr∧wr.heap[R]? = some (.cells Y 56 (0,0))∧R<wr.heap.size) (fun z _=> 65-(intOf z).toNat)
 case atStart=> exact ⟨0,st,by omega,rfl,hrA,Lib.hid rfl,hmA,hA,by omega⟩
 case round=>
  clear hrA hmA hA hzA
  obtain ⟨i,st1,hi,rfl,hr1,hs,hm1,hA1,hz1⟩:=hrel
  by_cases hlt:i<65
  ·have t0:decide ((i:Int)<65)=true:=by simp;omega
   obtain ⟨j,hj⟩:∃j,65-i=j+1:=⟨64-i,by omega⟩
   have hs':=hs.out
   rw [hj] at hs'
   have hj2:j=65-(i+1):=by omega
   have HJ:=Lib.hid hj2
   clear hj hj2 hs
   cases inter with
   | true=>
    have cb:=Qbp hr1
    unfold Yb6 at cb
    generalize hnum:Yeg Ypu (Yac s.data.toList) st1=z at cb
    obtain ⟨v,st2⟩:=z
    simp only at cb
    have HNUM:=Lib.hid hnum
    clear hnum
    by_cases hv:v=1
    ·have F:=Lib.hid (show Yd7 true (Yac s.data.toList) 65 0 st=(i,true,0,0,st2) by rw [hs'];exact Yno rfl HNUM.out hv)
     subst hv
     clear hs'
     go_wp2_with fail
     refine cb.mono ?_
     rintro e w2 ⟨rfl,hr2,hm⟩
     have hA2:=(hm.block R hz1 (by omega) (by omega)).trans hA1
     have hz2:=Nat.lt_of_lt_of_le hz1 hm.size
     have hm2:=hm1.trans hm
     clear cb hm hr1 hm1 hA1 hz1
     go_wp2_with (with_reducible refine Yal rfl 56 _ _ rfl R _ Y rfl rfl 56 hA2 (HSZ _ _ _) (HY.out _ _ _) (HONE _ _ _) ?_;intro w5 hh5 hg5)
     have hb5:=Yc0 hg5 hz2
     refine bodyPost_ret (Yan rfl _ _ R 56 _ (0,0) _ rfl hh5 Tryz.underlying56 rfl (by kernel_rfl)) rfl ?_
     exact ⟨i,true,0,0,st2,F.out,rfl,hr2.under hb5 hpb,hm2.onto hb5 (Nat.le_of_eq HR.out)⟩
    ·have g1:(v==1)=false:=by simpa using hv
     have HV:=Lib.hid hv
     clear hv
     go_wp2_with fail
     refine cb.mono ?_
     rintro e w3 ⟨rfl,hr2,hm⟩
     have hA2:=(hm.block R hz1 (by omega) (by omega)).trans hA1
     have hz2:=Nat.lt_of_lt_of_le hz1 hm.size
     have hm2:=hm1.trans hm
     clear cb hm hr1 hm1 hA1 hz1
     have ck:=Yqk true hr2
     unfold Ymy at ck
     generalize hkin:Yms true (Yac s.data.toList) st2=z at ck
     obtain ⟨a,c,st3⟩:=z
     simp only at ck
     have HKIN:=Lib.hid hkin
     clear hkin
     by_cases ha5:a=5
     ·subst ha5
      have F:=Lib.hid (show Yd7 true (Yac s.data.toList) 65 0 st=Yd7 true (Yac s.data.toList) j (i+1) st3 by rw [hs'];exact (Yjz HNUM.out HV.out HKIN.out).trans (if_pos rfl))
      clear hs'
      go_wp2_with fail
      refine ck.mono ?_
      rintro e w2 ⟨rfl,hr3,hm⟩
      have hA3:=(hm.block R hz2 (by omega) (by omega)).trans hA2
      have hz3:=Nat.lt_of_lt_of_le hz2 hm.size
      have hm3:=hm2.trans hm
      clear ck hm hr2 hm2 hA2 hz2
      go_wp2
      go_roundw
      case rel=> exact ⟨i+1,st3,by omega,by go_num,hr3,Lib.hid (by rw [F.out,HJ.out]),hm3,hA3,hz3⟩
      case measure=> simp [intOf];omega
     ·have g5:(a != 5)=true:=by simpa using ha5
      have F:=Lib.hid (show Yd7 true (Yac s.data.toList) 65 0 st=(i,false,a,c,st3) by rw [hs'];exact (Yjz HNUM.out HV.out HKIN.out).trans (if_neg ha5))
      clear hs' ha5
      go_wp2_with fail
      refine ck.mono ?_
      rintro e w2 ⟨rfl,hr3,hm⟩
      have hA3:=(hm.block R hz2 (by omega) (by omega)).trans hA2
      have hz3:=Nat.lt_of_lt_of_le hz2 hm.size
      have hm3:=hm2.trans hm
      clear ck hm hr2 hm2 hA2 hz2
      go_wp2_with (with_reducible refine Yal rfl 56 _ _ rfl R _ Y rfl rfl 56 hA3 (HSZ _ _ _) (HY.out _ _ _) (HONE _ _ _) ?_;intro w5 hh5 hg5)
      have hb5:=Yc0 hg5 hz3
      refine bodyPost_ret (Yan rfl _ _ R 56 _ (0,0) _ rfl hh5 Tryz.underlying56 rfl (by kernel_rfl)) rfl ?_
      exact ⟨i,false,a,c,st3,F.out,rfl,hr3.under hb5 hpb,hm3.onto hb5 (Nat.le_of_eq HR.out)⟩
   | false=>
    have ck:=Yqk false hr1
    unfold Ymy at ck
    generalize hkin:Yms false (Yac s.data.toList) st1=z at ck
    obtain ⟨a,c,st2⟩:=z
    simp only at ck
    have HKIN:=Lib.hid hkin
    clear hkin
    by_cases ha5:a=5
    ·subst ha5
     have F:=Lib.hid (show Yd7 false (Yac s.data.toList) 65 0 st=Yd7 false (Yac s.data.toList) j (i+1) st2 by rw [hs'];exact (Yj0 HKIN.out).trans (if_pos rfl))
     clear hs'
     go_wp2_with fail
     refine ck.mono ?_
     rintro e w2 ⟨rfl,hr2,hm⟩
     have hA2:=(hm.block R hz1 (by omega) (by omega)).trans hA1
     have hz2:=Nat.lt_of_lt_of_le hz1 hm.size
     have hm2:=hm1.trans hm
     clear ck hm hr1 hm1 hA1 hz1
     go_wp2
     go_roundw
     case rel=> exact ⟨i+1,st2,by omega,by go_num,hr2,Lib.hid (by rw [F.out,HJ.out]),hm2,hA2,hz2⟩
     case measure=> simp [intOf];omega
    ·have g5:(a != 5)=true:=by simpa using ha5
     have F:=Lib.hid (show Yd7 false (Yac s.data.toList) 65 0 st=(i,false,a,c,st2) by rw [hs'];exact (Yj0 HKIN.out).trans (if_neg ha5))
     clear hs' ha5
     go_wp2_with fail
     refine ck.mono ?_
     rintro e w2 ⟨rfl,hr2,hm⟩
     have hA2:=(hm.block R hz1 (by omega) (by omega)).trans hA1
     have hz2:=Nat.lt_of_lt_of_le hz1 hm.size
     have hm2:=hm1.trans hm
     clear ck hm hr1 hm1 hA1 hz1
     go_wp2_with (with_reducible refine Yal rfl 56 _ _ rfl R _ Y rfl rfl 56 hA2 (HSZ _ _ _) (HY.out _ _ _) (HONE _ _ _) ?_;intro w5 hh5 hg5)
     have hb5:=Yc0 hg5 hz2
     refine bodyPost_ret (Yan rfl _ _ R 56 _ (0,0) _ rfl hh5 Tryz.underlying56 rfl (by kernel_rfl)) rfl ?_
     exact ⟨i,false,a,c,st2,F.out,rfl,hr2.under hb5 hpb,hm2.onto hb5 (Nat.le_of_eq HR.out)⟩
  ·obtain rfl:i=65:=by omega
   have t0:decide ((65:Int)<65)=false:=by simp
   have F:=Lib.hid (show Yd7 inter (Yac s.data.toList) 65 0 st=(0,false,0,0,st1.1,13) by rw [hs.out];rfl)
   obtain ⟨hr2,hm⟩:=hr1.wrong 13
   have hA2:=(hm.block R hz1 (by omega) (by omega)).trans hA1
   have hz2:=Nat.lt_of_lt_of_le hz1 hm.size
   have hm2:=hm1.trans hm
   have c1:=Yaa (o:=1) hr1.1 rfl
   have hfr:=Yag (o:=1) hr1.1
   clear hs hm hr1 hm1 hA1 hz1
   go_wp2_with (with_reducible refine Yal rfl 56 _ _ rfl R _ Y rfl rfl 56 hA2 (HSZ _ _ _) (HY.out _ _ _) (HONE _ _ _) ?_;intro w5 hh5 hg5)
   have hb5:=Yc0 hg5 hz2
   refine bodyPost_ret (Yan rfl _ _ R 56 _ (0,0) _ rfl hh5 Tryz.underlying56 rfl (by kernel_rfl)) rfl ?_
   exact ⟨0,false,0,0,_,F.out,rfl,hr2.under hb5 hpb,hm2.onto hb5 (Nat.le_of_eq HR.out)⟩
def Yx2 (D:Cel) (i:Nat):Cel:={D with dc:=fun j=> if j<i then D.dc j else 0}
theorem Yka (D:Cel) (i:Nat):{Yx2 D i with dc:=Y07 (Yx2 D i).dc i (D.dc i)}=Yx2 D (i+1):=by
 have h:Y07 (Yx2 D i).dc i (D.dc i)=(Yx2 D (i+1)).dc:=by
  funext j
  show (if j=i then D.dc i else if j<i then D.dc j else 0)=if j<i+1 then D.dc j else 0
  by_cases e:j=i
  ·rw [if_pos e,if_pos (by omega),e]
  ·rw [if_neg e]
   by_cases h:j<i
   ·rw [if_pos h,if_pos (by omega)]
   ·rw [if_neg h,if_neg (by omega)]
 rw [h]
 rfl
theorem Ygt (c:Cel) (sl:Nat→Value) (v:Int):∀i,i<6→(Yba c sl).set (6+i) (.int .i64 v)=Yba {c with dc:=Y07 c.dc i v} sl
 | 0,_=> rfl
 | 1,_=> rfl
 | 2,_=> rfl
 | 3,_=> rfl
 | 4,_=> rfl
 | 5,_=> rfl
def Ylx (sl:Nat→Value) (i:Nat) (v:Value):Nat→Value:=fun j=> if j=i then v else sl j
theorem Ygu (c:Cel) (sl:Nat→Value) (v:Value):∀i,i<6→(Yba c sl).set (12+i) v=Yba c (Ylx sl i v)
 | 0,_=> rfl
 | 1,_=> rfl
 | 2,_=> rfl
 | 3,_=> rfl
 | 4,_=> rfl
 | 5,_=> rfl
theorem Qbj {c:Cel} {f:Nat→Int} {sl:Nat→Value} (h:∀i,i<6→c.dc i=f i):Yba c sl=Yba {c with dc:=f} sl:=by
 unfold Yba
 rw [h 0 (by omega),h 1 (by omega),h 2 (by omega),h 3 (by omega),h 4 (by omega),h 5 (by omega)]
theorem Ym8 (D:Cel) (sl:Nat→Value):Yba (Yx2 D 6) sl=Yba D sl:=Qbj (c:=Yx2 D 6) (f:=D.dc) fun _ hi=> if_pos hi
theorem Yz5 (w:World):(zeroValue 56).run Tryz.prog w = .ok (.agg (Yba Yii nilS).toArray) w:=by
 have h:(Tryz.prog.info? 56).map (fun i=> i.zero)=some (some (.agg (Yba Yii nilS).toArray)):=by kernel_rfl
 generalize (Yba Yii nilS).toArray=Z at h ⊢
 cases hq:Tryz.prog.info? 56 with
 | none=> simp [hq] at h
 | some i=>
  simp [hq] at h
  simp [zeroValue,typeInfo,hq,h]
def Yxb (S:List UInt8) (x y:Int) (st:Stt):Nat→Int×Int×Stt
 | 0=> (0,0,st)
 | 1=> ((Yfo S x st).1,0,(Yfo S x st).2)
 | _=> ((Yfo S x st).1,(Yfo S y (Yfo S x st).2).1,(Yfo S y (Yfo S x st).2).2)
theorem Y96 {S:List UInt8} {k x y:Int} {st:Stt} (h:Yao k=false):Yzl S k x y st=Yxb S x y st 2:=by
 unfold Yzl
 rw [h]
 rfl
structure Yjn (w wr:World) (pb rb A R C:Nat) (s:ByteArray) (x y:Int) (Y:Array Value) (st:Stt) (c:Cel) (sl:Nat→Value):Prop where
 rd:Yi6 wr pb rb s st
 mv:Ya7 rb pb w wr
 two:wr.heap[A]? = some (.cells #[.int .i64 x,.int .i64 y] 51 (0,0))
 res:wr.heap[R]? = some (.cells Y 56 (0,0))
 cel:wr.heap[C]? = some (.cells (Yba c sl).toArray 56 (0,0))
 lt:rb<pb∧pb<A∧A<R∧R<C∧C<wr.heap.size∧w.heap.size≤A
section
variable {w wr z:World} {pb rb A R C:Nat} {s:ByteArray} {x y:Int} {Y:Array Value} {st st':Stt} {c c':Cel} {sl sl':Nat→Value}
theorem Yjn.move (h:Yjn w wr pb rb A R C s x y Y st c sl) (hr:Yi6 z pb rb s st') (hm:Ya7 rb pb wr z):Yjn w z pb rb A R C s x y Y st' c sl:=by
 obtain ⟨l1,l2,l3,l4,l5,l6⟩:=h.lt
 exact ⟨hr,h.mv.trans hm,(hm.block A (by omega) (by omega) (by omega)).trans h.two,(hm.block R (by omega) (by omega) (by omega)).trans h.res,(hm.block C l5 (by omega) (by omega)).trans h.cel,l1,l2,l3,l4,Nat.lt_of_lt_of_le l5 hm.size,l6⟩
theorem Yjn.set (h:Yjn w wr pb rb A R C s x y Y st c sl) (o:Nat) (v:Value) (hs:(Yba c sl).set o v=Yba c' sl'):Yjn w (wr.setCell ⟨C,o,none⟩ v) pb rb A R C s x y Y st c' sl':=by
 obtain ⟨l1,l2,l3,l4,l5,l6⟩:=h.lt
 have hb:Below C wr (wr.setCell ⟨C,o,none⟩ v):=⟨rfl,rfl,rfl,by simp [World.setCell],fun k hk=> Below.heap_setCell _ _ _ _ (by simp;omega)⟩
 refine ⟨h.rd.under hb (by omega),h.mv.onto hb (by omega),(hb.block A (by omega)).trans h.two,(hb.block R l4).trans h.res,?_,l1,l2,l3,l4,Nat.lt_of_lt_of_le l5 hb.size,l6⟩
 rw [←hs]
 exact Yat (o:=o) v h.cel
theorem Yjn.same (h:Yjn w wr pb rb A R C s x y Y st c sl) (he:Yba c sl=Yba c' sl'):Yjn w wr pb rb A R C s x y Y st c' sl':=
 ⟨h.rd,h.mv,h.two,h.res,he▸h.cel,h.lt⟩
end
theorem Ym6 (c k:Nat):(bits .and .i64 ((c:Int) / 2^k) 1==1)=(c / 2^k%2==1):=by
 have h:=Ygq ((c:Int) / 2^k) 1 (by omega)
 have h2:((2:Int)^1-1)=1:=rfl
 rw [h2] at h
 rw [h]
 rw [Bool.eq_iff_iff,beq_iff_eq,beq_iff_eq]
 have h3:((c:Int) / 2^k)=((c / 2^k:Nat):Int):=by simp
 rw [h3]
 omega
def Y1u (inter:Bool) (s:ByteArray) (pb rb:Nat) (x y:Int) (st:Stt) (w:World) (e:Ending) (w':World):Prop:=
 ∃(c:Cel) (st':Stt) (sl:Nat→Value),Yxi inter (Yac s.data.toList) x y st=(c,st')∧e = .returned (.agg (Yba c sl).toArray)∧(∀i,i<6→Yie w' w.heap.size (sl i) (c.ev i))∧Yi6 w' pb rb s st'∧Ya7 rb pb w w'
set_option maxRecDepth 100000 in
set_option maxHeartbeats 4000000 in
theorem Y52 {N:Nat} {w:World} {pb rb:Nat} {s:ByteArray} {st:Stt} (inter:Bool) (x y:Int) (ht:Ybf N w) (hN:N≤rb) (hr:Yi6 w pb rb s st):
  Calls Tryz.prog 153 #[.pointer (some ⟨pb,0,none⟩),.bool inter,.agg #[.int .i64 x,.int .i64 y]] w (Y1u inter s pb rb x y st w):=by
 obtain ⟨Y,hY⟩:∃Y:Array Value,(Yba Yii nilS).toArray=Y:=⟨_,rfl⟩
 have hzv:∀w,(zeroValue 56).run Tryz.prog w = .ok (.agg Y) w:=by rw [←hY];exact Yz5
 obtain ⟨A,wA,wB,hA,hwA,hwB,hzA,hzB,hC0,hC1,hbB⟩:=Yvp w (.cells #[.int .i64 x,.int .i64 y] 51 (0,0)) (.cells Y 56 (0,0))
 have hpA:pb<A:=hA▸hr.lt
 have hrp:rb<pb:=hr.2.2
 have hrB:Yi6 wB pb rb s st:=hr.under hbB hpA
 have hmB:Ya7 rb pb w wB:=(Ya7.refl rb pb w).onto hbB (Nat.le_of_eq hA)
 have htx:∀z,Ya7 rb pb w z→Ybf N z:=fun z hz=> ht.below (hz.under (by have:=hr.lt;omega) hN (by omega))
 have cb:=Y11 inter hrB
 have HY:=Lib.hid hY
 have HA:=Lib.hid hA
 have HWA:=Lib.hid hwA
 have HWB:=Lib.hid hwB
 have HT:=Lib.hid htx
 clear hY hA hwA hwB htx ht hr
 go_enter Tryz.func153,Tryz.ntmps153
 go_wp2_with fail
 rw [HWA.out,HA.out,HWB.out]
 refine cb.mono ?_
 rintro e w1 ⟨n,sk,k,ch,st1,hbeg,rfl,hr1,hm1⟩
 obtain ⟨Z,hZ⟩:∃Z,(Yba {Yii with stuff:=n,skip:=sk,kind:=k} nilS).toArray=Z:=⟨_,rfl⟩
 rw [hZ]
 obtain ⟨C,hC⟩:∃C,w1.heap.size=C:=⟨_,rfl⟩
 obtain ⟨w2,hw2⟩:∃z,w1.alloc (.cells Z 56 (0,0))=z:=⟨_,rfl⟩
 have AT:Yjn w w2 pb rb A (A+1) C s x y Y st1 {Yii with stuff:=n,skip:=sk,kind:=k} nilS:=by
  have hb2:Below C w1 w2:=by rw [←hw2,←hC];exact (Below.refl _ w1).alloc (Nat.le_refl _) _
  have hz1:=hm1.size
  refine ⟨hr1.under hb2 (by omega),(hmB.trans hm1).onto hb2 (by have:=HA.out;omega),?_,?_,?_,hrp,hpA,by omega,by omega,by rw [←hw2,←hC];simp,Nat.le_of_eq HA.out⟩
  ·exact (hb2.block A (by omega)).trans ((hm1.block A (by omega) (by omega) (by omega)).trans hC0)
  ·exact (hb2.block (A+1) (by omega)).trans ((hm1.block (A+1) (by omega) (by omega) (by omega)).trans hC1)
  ·rw [hZ,←hw2,←hC];exact heap_alloc_new w1 _
 have HSZ:(Tryz.prog.info? 56).map (·.size)=some Z.size:=hZ▸Yfr _ _
 have HYZ:Y.size=Z.size:=by rw [←hZ,←HY.out];rfl
 have HONE:Z.all (·.oneCell')=true:=hZ▸Yhq _ _ fun _ _=> rfl
 have HZ:=Lib.hid hZ
 have HC:=Lib.hid hC
 have HW2:=Lib.hid hw2
 have HBEG:=Lib.hid hbeg
 have HAT:=Lib.hid AT
 clear hZ hC hw2 hbeg AT hr1 hm1 hrB hmB hbB hC0 hC1 hzA hzB cb
 have hcel:=HAT.out.cel
 rw [HZ.out] at hcel
 have hres:=HAT.out.res
 have hC:=HAT.out.lt
 have BIN:=Y5n _ _ _ _ _ _ _ _ _ _ HBEG.out
 cases sk with
 | true=>
  have c1:w2.cell? ⟨C,1,none⟩=some (.bool true):=Yaa (o:=1) HAT.out.cel rfl
  obtain rfl:0=k:=(BIN.2.2.2.2.2.2 rfl).symm
  clear BIN
  go_wp2_with (first | (with_reducible refine Yaj rfl 56 _ _ rfl Z Y 56 rfl rfl HSZ HYZ HONE ?_;rw [HW2.out,HC.out]) | (with_reducible refine wpList_load_row rfl 56 _ rfl C rfl 56 Z (0,0) _ hcel Tryz.underlying56 rfl HSZ ?_) | (with_reducible refine Yal rfl 56 _ _ rfl (A+1) Z Y rfl rfl 56 hres HSZ HYZ HONE ?_;intro w5 hh5 hg5))
  have hb5:=Yc0 hg5 (by omega)
  refine bodyPost_ret (results_cell_row rfl _ _ (A+1) 56 _ (0,0) _ rfl hh5 Tryz.underlying56 rfl HSZ) rfl ?_
  exact ⟨_,st1,nilS,Ysi HBEG.out,by rw [←HZ.out];rfl,fun i hi=> Yie.nil _ _,HAT.out.rd.under hb5 (by omega),HAT.out.mv.onto hb5 (by omega)⟩
 | false=>
  obtain ⟨b0,b1,b2,b3,b4,b5,_⟩:=BIN
  obtain ⟨a,rfl⟩:∃a:Nat,ch=(a:Int):=⟨ch.toNat,by omega⟩
  have c1:w2.cell? ⟨C,1,none⟩=some (.bool false):=Yaa (o:=1) HAT.out.cel rfl
  have c2:w2.cell? ⟨C,2,none⟩=some (.int .i64 k):=Yaa (o:=2) HAT.out.cel rfl
  have c3:w2.cell? ⟨C,3,none⟩=some (.int .i64 0):=Yaa (o:=3) HAT.out.cel rfl
  obtain hk | hk | hk | hk:k=0∨k=1∨k=3∨k=4:=by omega
  ·subst hk
   have pin:=Y0w false (Yac s.data.toList) st1
   have cp:=Yj9 false (HT.out _ HAT.out.mv) HAT.out.rd
   unfold Yb6 at cp
   generalize hpt:Yeg (ptk false) (Yac s.data.toList) st1=z at cp pin
   obtain ⟨pt,s2⟩:=z
   simp only at cp pin
   obtain ⟨b,rfl⟩:∃b:Nat,pt=(b:Int):=⟨pt.toNat,by omega⟩
   have HPT:Hid (Yeg (ptk (Yao 0)) (Yac s.data.toList) st1=((b:Int),s2)):=Lib.hid hpt
   obtain ⟨cd,hcd⟩:∃cd,4*b+a=cd:=⟨_,rfl⟩
   have hcl:cd≤63:=by omega
   have hb15:(b:Int)≤15:=by omega
   have ho:bits .or .i64 ((b:Int)*4) (a:Int)=(cd:Int):=(Ymg b 4 a 2 rfl (by omega) (by omega)).trans (by rw [hcd])
   have HCD:=Lib.hid hcd
   clear hcd hpt
   go_wp2_with (with_reducible refine Yaj rfl 56 _ _ rfl Z Y 56 rfl rfl HSZ HYZ HONE ?_;rw [HW2.out,HC.out])
   refine cp.mono ?_
   rintro e w3 ⟨rfl,hr3,hm3⟩
   have AT3:=HAT.out.move hr3 hm3
   have d2:w3.cell? ⟨C,2,none⟩=some (.int .i64 0):=Yaa (o:=2) AT3.cel rfl
   clear cp pin hr3 hm3 HAT hcel hres c1 c2 c3 HSZ HYZ HONE
   have HSTP:Hid (Y1c (Yac s.data.toList) 0 s2=(0,s2)):=Lib.hid rfl
   go_wp2
   obtain ⟨mx,s4,hmx⟩:∃mx s4,Yfo (Yac s.data.toList) x s2=(mx,s4):=⟨_,_,rfl⟩
   have HMX:=Lib.hid hmx
   have HV0:Hid (Yxb (Yac s.data.toList) x y s2 0=(0,0,s2)):=Lib.hid rfl
   have HV1:Hid (Yxb (Yac s.data.toList) x y s2 1=(mx,0,s4)):=Lib.hid (congrArg (fun q=> (q.1,(0:Int),q.2)) hmx)
   have HV2:Hid (Yxb (Yac s.data.toList) x y s2 2=(mx,(Yfo (Yac s.data.toList) y s4).1,(Yfo (Yac s.data.toList) y s4).2)):=Lib.hid (by show ((Yfo (Yac s.data.toList) x s2).1,(Yfo (Yac s.data.toList) y (Yfo (Yac s.data.toList) x s2).2).1,(Yfo (Yac s.data.toList) y (Yfo (Yac s.data.toList) x s2).2).2)=_;rw [hmx])
   clear hmx
   have HATV:=Lib.hid AT3
   clear AT3
   go_loopw [49] (fun z wr=>∃i:Nat,i≤2∧z = .int .i64 i∧Hid (Yjn w wr pb rb A (A+1) C s x y Y (Yxb (Yac s.data.toList) x y s2 i).2.2 {Yii with stuff:=n,skip:=false,kind:=0,step:=0,mx:=(Yxb (Yac s.data.toList) x y s2 i).1,my:=(Yxb (Yac s.data.toList) x y s2 i).2.1} nilS)) (fun z _=> 2-(intOf z).toNat)
   case atStart=> exact ⟨0,by omega,rfl,Lib.hid (by rw [HV0.out];exact HATV.out)⟩
   case round=>
    clear HATV
    obtain ⟨i,hi2,rfl,hat⟩:=hrel
    obtain rfl | rfl | rfl:i=0∨i=1∨i=2:=by omega
    ·have AT2:Yjn w wr pb rb A (A+1) C s x y Y s2 {Yii with stuff:=n,skip:=false,kind:=0,step:=0,mx:=0,my:=0} nilS:=by have h:=hat.out;rw [HV0.out] at h;exact h
     have p0:wr.cell? ⟨A,0,none⟩=some (.int .i64 x):=Yaa (cs:=[.int .i64 x,.int .i64 y]) AT2.two rfl
     have cd2:=Yj8 (HT.out _ AT2.mv) AT2.rd
     unfold Yb6 at cd2
     have din:=Ysm (Yac s.data.toList) s2
     have hon:Yfo (Yac s.data.toList) x s2=(Ybu (Ybu x+(Yeg dtk (Yac s.data.toList) s2).1),(Yeg dtk (Yac s.data.toList) s2).2):=rfl
     generalize Yeg dtk (Yac s.data.toList) s2=z at cd2 din hon
     obtain ⟨dd,s6⟩:=z
     simp only at cd2 din hon
     have wl:=Yt4 x
     have wh:=Yt3 x
     have HON:=Lib.hid hon
     have sw:IntKind.i64.wrap (Ybu x+dd)=Ybu x+dd:=IntWalk.i64_in _ (by omega)
     generalize hwp:Ybu x=p1 at HON sw wl wh
     have cw:=Ydm x
     rw [hwp] at cw
     have cw2:=Ydm (p1+dd)
     have HP1:=Lib.hid hwp
     generalize Ybu (p1+dd)=p2 at cw2 HON
     clear hat hon hwp
     go_wp2_with fail
     refine (cw _).mono ?_
     rintro e w6 ⟨rfl,rfl⟩
     go_wp2_with fail
     refine cd2.mono ?_
     rintro e w6 ⟨rfl,hr6,hm6⟩
     have AT6:=AT2.move hr6 hm6
     have e4:=Yaa (o:=4) AT6.cel rfl
     have f4:=Yag (o:=4) AT6.cel
     have AT7:=AT6.set 4 (.int .i64 p2) (c':={Yii with stuff:=n,skip:=false,kind:=0,step:=0,mx:=p2,my:=0}) (sl':=nilS) rfl
     have N7:=Lib.hid AT7
     clear AT7 AT6 hr6 hm6 cd2 AT2
     go_wp2_with fail
     refine (cw2 _).mono ?_
     rintro e w8 ⟨rfl,rfl⟩
     go_wp2
     go_roundw
     case rel=> exact ⟨1,by omega,by go_num,Lib.hid (by rw [show Yxb (Yac s.data.toList) x y s2 1=(p2,0,s6) from by rw [HV1.out];exact congrArg (fun q=> (q.1,(0:Int),q.2)) (HMX.out.symm.trans HON.out)];exact N7.out)⟩
     case measure=> simp [intOf]
    ·have AT2:Yjn w wr pb rb A (A+1) C s x y Y s4 {Yii with stuff:=n,skip:=false,kind:=0,step:=0,mx:=mx,my:=0} nilS:=by have h:=hat.out;rw [HV1.out] at h;exact h
     have p0:wr.cell? ⟨A,1,none⟩=some (.int .i64 y):=Yaa (cs:=[.int .i64 x,.int .i64 y]) AT2.two rfl
     have cd2:=Yj8 (HT.out _ AT2.mv) AT2.rd
     unfold Yb6 at cd2
     have din:=Ysm (Yac s.data.toList) s4
     have hon:Yfo (Yac s.data.toList) y s4=(Ybu (Ybu y+(Yeg dtk (Yac s.data.toList) s4).1),(Yeg dtk (Yac s.data.toList) s4).2):=rfl
     generalize Yeg dtk (Yac s.data.toList) s4=z at cd2 din hon
     obtain ⟨dd,s6⟩:=z
     simp only at cd2 din hon
     have wl:=Yt4 y
     have wh:=Yt3 y
     have HON:=Lib.hid hon
     have sw:IntKind.i64.wrap (Ybu y+dd)=Ybu y+dd:=IntWalk.i64_in _ (by omega)
     generalize hwp:Ybu y=p1 at HON sw wl wh
     have cw:=Ydm y
     rw [hwp] at cw
     have cw2:=Ydm (p1+dd)
     have HP1:=Lib.hid hwp
     generalize Ybu (p1+dd)=p2 at cw2 HON
     clear hat hon hwp
     go_wp2_with fail
     refine (cw _).mono ?_
     rintro e w6 ⟨rfl,rfl⟩
     go_wp2_with fail
     refine cd2.mono ?_
     rintro e w6 ⟨rfl,hr6,hm6⟩
     have AT6:=AT2.move hr6 hm6
     have e4:=Yaa (o:=5) AT6.cel rfl
     have f4:=Yag (o:=5) AT6.cel
     have AT7:=AT6.set 5 (.int .i64 p2) (c':={Yii with stuff:=n,skip:=false,kind:=0,step:=0,mx:=mx,my:=p2}) (sl':=nilS) rfl
     have N7:=Lib.hid AT7
     clear AT7 AT6 hr6 hm6 cd2 AT2
     go_wp2_with fail
     refine (cw2 _).mono ?_
     rintro e w8 ⟨rfl,rfl⟩
     go_wp2
     go_roundw
     case rel=> exact ⟨2,by omega,by go_num,Lib.hid (by rw [show Yxb (Yac s.data.toList) x y s2 2=(mx,p2,s6) from HV2.out.trans (congrArg (fun q=> (mx,q.1,q.2)) HON.out)];exact N7.out)⟩
     case measure=> simp [intOf]
    ·have AT2:Yjn w wr pb rb A (A+1) C s x y Y (Yfo (Yac s.data.toList) y s4).2 {Yii with stuff:=n,skip:=false,kind:=0,step:=0,mx:=mx,my:=(Yfo (Yac s.data.toList) y s4).1} nilS:=by have h:=hat.out;rw [HV2.out] at h;exact h
     have hvec:=Y96 (S:=(Yac s.data.toList)) (k:=0) (x:=x) (y:=y) (st:=s2) rfl
     rw [HV2.out] at hvec
     generalize Yfo (Yac s.data.toList) y s4=z at AT2 hvec
     obtain ⟨my,s5⟩:=z
     simp only at AT2 hvec
     have HVEC:=Lib.hid hvec
     clear hvec hat HV0 HV1 HV2 HMX
     rw [show (Value.int .i64 ((2:Nat):Int)) = .int .i64 2 from rfl]
     go_wp2
     generalize wr=wo at *
     have hall:=Ylf (inter:=inter) (x:=x) (y:=y) HBEG.out HPT.out HSTP.out HVEC.out
     rw [show ((b:Int)).toNat=b from rfl,show ((a:Int)).toNat=a from rfl,HCD.out] at hall
     obtain ⟨D,hD⟩:∃D:Cel,{stuff:=n,skip:=false,kind:=0,step:=0,mx:=mx,my:=my,dc:=fun i=> (Yex (Yao 0) (Yey cd i) (Yac s.data.toList) (stB (Yao 0) cd (Yac s.data.toList) s5 i)).1,ev:=fun i=> (Yex (Yao 0) (Yey cd i) (Yac s.data.toList) (stB (Yao 0) cd (Yac s.data.toList) s5 i)).2.1}=D:=⟨_,rfl⟩
     rw [hD] at hall
     have hDc:∀i,D.dc i=(Yex false (Yey cd i) (Yac s.data.toList) (stB false cd (Yac s.data.toList) s5 i)).1:=fun i=> by rw [←hD];rfl
     have hDe:∀i,D.ev i=(Yex false (Yey cd i) (Yac s.data.toList) (stB false cd (Yac s.data.toList) s5 i)).2.1:=fun i=> by rw [←hD];rfl
     have ATD:Yjn w wo pb rb A (A+1) C s x y Y (stB false cd (Yac s.data.toList) s5 0) (Yx2 D 0) nilS:=Yjn.same AT2 (by rw [←hD];rfl)
     have HALL:=Lib.hid hall
     have HDC:=Lib.hid hDc
     have HDE:=Lib.hid hDe
     have HATD:=Lib.hid ATD
     clear hall hD hDc hDe ATD AT2
     go_loopw [64] (fun z wr=>∃i:Nat,i≤6∧z = .int .i64 i∧∃sl,Hid (Yjn w wr pb rb A (A+1) C s x y Y (stB false cd (Yac s.data.toList) s5 i) (Yx2 D i) sl∧(∀j,j<i→Yie wr (C+1) (sl j) (D.ev j))∧∀j,i≤j→sl j = .slice none 0 0)) (fun z _=> 6-(intOf z).toNat)
     case atStart=> exact ⟨0,by omega,rfl,nilS,Lib.hid ⟨HATD.out,fun j h=> absurd h (Nat.not_lt_zero j),fun _ _=> rfl⟩⟩
     case round=>
      clear HATD
      obtain ⟨i,hi6,rfl,sl,hat⟩:=hrel
      by_cases hlt:i<6
      ·have t0:decide ((i:Int)<6)=true:=by simp;omega
       have cb:=Ygs false (Yey cd i) (HT.out _ hat.out.1.mv) hat.out.1.rd
       unfold Yf6 at cb
       have hst:(Yex false (Yey cd i) (Yac s.data.toList) (stB false cd (Yac s.data.toList) s5 i)).2.2=stB false cd (Yac s.data.toList) s5 (i+1):=rfl
       have hdv:=HDC.out i
       have hev:=HDE.out i
       generalize Yex false (Yey cd i) (Yac s.data.toList) (stB false cd (Yac s.data.toList) s5 i)=z at cb hst hdv hev
       obtain ⟨dv,L,s5⟩:=z
       simp only at cb hst hdv hev
       subst hst
       have HDV:=Lib.hid hdv
       have HEV:=Lib.hid hev
       have q1:IntKind.i64.wrap (5-(i:Int))=((5-i:Nat):Int):=(IntWalk.i64_in _ (by omega)).trans (by omega)
       have q2:=Ym6 cd (5-i)
       have q3:decide (((5-i:Nat):Int)<0)=false:=by simp
       clear hdv hev
       go_wp2_with fail
       refine cb.mono ?_
       rintro e w6 ⟨v,rfl,hsl,hr6,hm6⟩
       have AT6:=hat.out.1.move hr6 hm6
       have hlt6:=AT6.lt
       have hsz:=hat.out.1.lt
       obtain ⟨q,cap,rfl,hevs,hfr⟩:=hsl
       have e6:=Yaa (o:=6+i) AT6.cel (Ynr _ _ i hlt)
       have f6:=Yag (o:=6+i) AT6.cel
       have AT7:=AT6.set (6+i) (.int .i64 dv) (Ygt _ _ dv i hlt)
       rw [←HDV.out,Yka] at AT7
       rw [HDV.out] at AT7
       have e7:=Yaa (o:=12+i) AT7.cel (Yle _ _ i hlt)
       have f7:=Yag (o:=12+i) AT7.cel
       have AT8:=AT7.set (12+i) (.slice q L.length cap) (Ygu _ _ _ i hlt)
       have hm8:Ya7 C C w6 ((w6.setCell ⟨C,6+i,none⟩ (.int .i64 dv)).setCell ⟨C,12+i,none⟩ (.slice q L.length cap)):=(Ya7.set (a:=C) (b:=C) (p:=⟨C,6+i,none⟩) _ (.inl rfl)).trans (Ya7.set (a:=C) (b:=C) (p:=⟨C,12+i,none⟩) _ (.inl rfl))
       have SL8:∀j,j<i+1→Yie ((w6.setCell ⟨C,6+i,none⟩ (.int .i64 dv)).setCell ⟨C,12+i,none⟩ (.slice q L.length cap)) (C+1) (Ylx sl i (.slice q L.length cap) j) (D.ev j):=by
        intro j hj
        unfold Ylx
        by_cases e:j=i
        ·rw [if_pos e,e,HEV.out]
         exact (show Yie w6 (C+1) _ _ from ⟨q,cap,rfl,hevs,hfr.mono (by omega)⟩).moved hm8 (by omega) (by omega)
        ·rw [if_neg e]
         exact ((hat.out.2.1 j (by omega)).moved hm6 (by omega) (by omega)).moved hm8 (by omega) (by omega)
       have NL8:∀j,i+1≤j→Ylx sl i (.slice q L.length cap) j = .slice none 0 0:=fun j hj=> (if_neg (by omega)).trans (hat.out.2.2 j (by omega))
       have N8:=Lib.hid (And.intro AT8 (And.intro SL8 NL8))
       obtain ⟨m,hm⟩:∃m,L.length=m:=⟨_,rfl⟩
       rw [hat.out.2.2 i (Nat.le_refl i)] at e7
       rw [hm] at N8 ⊢
       clear cb hat hr6 hm6 AT6 AT7 AT8 hm8 SL8 NL8 hevs hfr hm
       go_wp2
       go_roundw
       case rel=> exact ⟨i+1,by omega,by go_num,_,N8⟩
       case measure=> simp [intOf];omega
      ·obtain rfl:i=6:=by omega
       have t0:decide ((6:Int)<6)=false:=by simp
       have hc6:=hat.out.1.cel
       rw [Ym8] at hc6
       have hl6:=hat.out.1.lt
       have hr6:=hat.out.1.res
       have one6:=Yhq D sl fun j hj=> (hat.out.2.1 j hj).one
       have siz6:=Yfr D sl
       have syz6:Y.size=(Yba D sl).toArray.size:=by rw [←HY.out];rfl
       obtain ⟨V,hV⟩:∃V,(Yba D sl).toArray=V:=⟨_,rfl⟩
       rw [hV] at hc6 one6 siz6 syz6
       have HV:=Lib.hid hV
       clear hV
       go_wp2_with (first | (with_reducible refine wpList_load_row rfl 56 _ rfl C rfl 56 V (0,0) _ hc6 Tryz.underlying56 rfl siz6 ?_) | (with_reducible refine Yal rfl 56 _ _ rfl (A+1) V Y rfl rfl 56 hr6 siz6 syz6 one6 ?_;intro w5 hh5 hg5))
       have hb5:=Yc0 hg5 (by omega)
       refine bodyPost_ret (results_cell_row rfl _ _ (A+1) 56 _ (0,0) _ rfl hh5 Tryz.underlying56 rfl siz6) rfl ?_
       exact ⟨D,_,sl,HALL.out,by rw [HV.out],fun j hj=> ((hat.out.2.1 j hj).moved (Ya7.grown hg5 (.inl rfl):Ya7 (A+1) (A+1) _ _) (by omega) (by omega)).from (by omega),hat.out.1.rd.under hb5 (by omega),hat.out.1.mv.onto hb5 (by omega)⟩
  ·subst hk
   have pin:=Y0w false (Yac s.data.toList) st1
   have cp:=Yj9 false (HT.out _ HAT.out.mv) HAT.out.rd
   unfold Yb6 at cp
   generalize hpt:Yeg (ptk false) (Yac s.data.toList) st1=z at cp pin
   obtain ⟨pt,s2⟩:=z
   simp only at cp pin
   obtain ⟨b,rfl⟩:∃b:Nat,pt=(b:Int):=⟨pt.toNat,by omega⟩
   have HPT:Hid (Yeg (ptk (Yao 1)) (Yac s.data.toList) st1=((b:Int),s2)):=Lib.hid hpt
   obtain ⟨cd,hcd⟩:∃cd,4*b+a=cd:=⟨_,rfl⟩
   have hcl:cd≤63:=by omega
   have hb15:(b:Int)≤15:=by omega
   have ho:bits .or .i64 ((b:Int)*4) (a:Int)=(cd:Int):=(Ymg b 4 a 2 rfl (by omega) (by omega)).trans (by rw [hcd])
   have HCD:=Lib.hid hcd
   clear hcd hpt
   go_wp2_with (with_reducible refine Yaj rfl 56 _ _ rfl Z Y 56 rfl rfl HSZ HYZ HONE ?_;rw [HW2.out,HC.out])
   refine cp.mono ?_
   rintro e w3 ⟨rfl,hr3,hm3⟩
   have AT3:=HAT.out.move hr3 hm3
   have d2:w3.cell? ⟨C,2,none⟩=some (.int .i64 1):=Yaa (o:=2) AT3.cel rfl
   clear cp pin hr3 hm3 HAT hcel hres c1 c2 c3 HSZ HYZ HONE
   have cs:=Yut (HT.out _ AT3.mv) hN AT3.rd
   unfold Yb6 at cs
   generalize hsp:Yeg stk (Yac s.data.toList) s2=z at cs
   obtain ⟨sp,s3⟩:=z
   simp only at cs
   have HSTP:Hid (Y1c (Yac s.data.toList) 1 s2=(sp,s3)):=Lib.hid hsp
   clear hsp
   go_wp2_with fail
   refine cs.mono ?_
   rintro e w4 ⟨rfl,hr4,hm4⟩
   have AT4:=AT3.move hr4 hm4
   have e3:=Yaa (o:=3) AT4.cel rfl
   have f3:=Yag (o:=3) AT4.cel
   have AT5:=AT4.set 3 (.int .i64 sp) (c':={Yii with stuff:=n,skip:=false,kind:=1,step:=sp,mx:=0,my:=0}) (sl':=nilS) rfl
   obtain ⟨w5,hw5⟩:∃z,w4.setCell ⟨C,3,none⟩ (.int .i64 sp)=z:=⟨_,rfl⟩
   rw [hw5] at AT5
   have HW5:=Lib.hid hw5
   clear cs hr4 hm4 AT3 AT4 hw5 d2
   go_wp2
   rw [HW5.out]
   obtain ⟨mx,s4,hmx⟩:∃mx s4,Yfo (Yac s.data.toList) x s3=(mx,s4):=⟨_,_,rfl⟩
   have HMX:=Lib.hid hmx
   have HV0:Hid (Yxb (Yac s.data.toList) x y s3 0=(0,0,s3)):=Lib.hid rfl
   have HV1:Hid (Yxb (Yac s.data.toList) x y s3 1=(mx,0,s4)):=Lib.hid (congrArg (fun q=> (q.1,(0:Int),q.2)) hmx)
   have HV2:Hid (Yxb (Yac s.data.toList) x y s3 2=(mx,(Yfo (Yac s.data.toList) y s4).1,(Yfo (Yac s.data.toList) y s4).2)):=Lib.hid (by show ((Yfo (Yac s.data.toList) x s3).1,(Yfo (Yac s.data.toList) y (Yfo (Yac s.data.toList) x s3).2).1,(Yfo (Yac s.data.toList) y (Yfo (Yac s.data.toList) x s3).2).2)=_;rw [hmx])
   clear hmx
   have HATV:=Lib.hid AT5
   clear AT5
   go_loopw [49] (fun z wr=>∃i:Nat,i≤2∧z = .int .i64 i∧Hid (Yjn w wr pb rb A (A+1) C s x y Y (Yxb (Yac s.data.toList) x y s3 i).2.2 {Yii with stuff:=n,skip:=false,kind:=1,step:=sp,mx:=(Yxb (Yac s.data.toList) x y s3 i).1,my:=(Yxb (Yac s.data.toList) x y s3 i).2.1} nilS)) (fun z _=> 2-(intOf z).toNat)
   case atStart=> exact ⟨0,by omega,rfl,Lib.hid (by rw [HV0.out];exact HATV.out)⟩
   case round=>
    clear HATV
    obtain ⟨i,hi2,rfl,hat⟩:=hrel
    obtain rfl | rfl | rfl:i=0∨i=1∨i=2:=by omega
    ·have AT2:Yjn w wr pb rb A (A+1) C s x y Y s3 {Yii with stuff:=n,skip:=false,kind:=1,step:=sp,mx:=0,my:=0} nilS:=by have h:=hat.out;rw [HV0.out] at h;exact h
     have p0:wr.cell? ⟨A,0,none⟩=some (.int .i64 x):=Yaa (cs:=[.int .i64 x,.int .i64 y]) AT2.two rfl
     have cd2:=Yj8 (HT.out _ AT2.mv) AT2.rd
     unfold Yb6 at cd2
     have din:=Ysm (Yac s.data.toList) s3
     have hon:Yfo (Yac s.data.toList) x s3=(Ybu (Ybu x+(Yeg dtk (Yac s.data.toList) s3).1),(Yeg dtk (Yac s.data.toList) s3).2):=rfl
     generalize Yeg dtk (Yac s.data.toList) s3=z at cd2 din hon
     obtain ⟨dd,s6⟩:=z
     simp only at cd2 din hon
     have wl:=Yt4 x
     have wh:=Yt3 x
     have HON:=Lib.hid hon
     have sw:IntKind.i64.wrap (Ybu x+dd)=Ybu x+dd:=IntWalk.i64_in _ (by omega)
     generalize hwp:Ybu x=p1 at HON sw wl wh
     have cw:=Ydm x
     rw [hwp] at cw
     have cw2:=Ydm (p1+dd)
     have HP1:=Lib.hid hwp
     generalize Ybu (p1+dd)=p2 at cw2 HON
     clear hat hon hwp
     go_wp2_with fail
     refine (cw _).mono ?_
     rintro e w6 ⟨rfl,rfl⟩
     go_wp2_with fail
     refine cd2.mono ?_
     rintro e w6 ⟨rfl,hr6,hm6⟩
     have AT6:=AT2.move hr6 hm6
     have e4:=Yaa (o:=4) AT6.cel rfl
     have f4:=Yag (o:=4) AT6.cel
     have AT7:=AT6.set 4 (.int .i64 p2) (c':={Yii with stuff:=n,skip:=false,kind:=1,step:=sp,mx:=p2,my:=0}) (sl':=nilS) rfl
     have N7:=Lib.hid AT7
     clear AT7 AT6 hr6 hm6 cd2 AT2
     go_wp2_with fail
     refine (cw2 _).mono ?_
     rintro e w8 ⟨rfl,rfl⟩
     go_wp2
     go_roundw
     case rel=> exact ⟨1,by omega,by go_num,Lib.hid (by rw [show Yxb (Yac s.data.toList) x y s3 1=(p2,0,s6) from by rw [HV1.out];exact congrArg (fun q=> (q.1,(0:Int),q.2)) (HMX.out.symm.trans HON.out)];exact N7.out)⟩
     case measure=> simp [intOf]
    ·have AT2:Yjn w wr pb rb A (A+1) C s x y Y s4 {Yii with stuff:=n,skip:=false,kind:=1,step:=sp,mx:=mx,my:=0} nilS:=by have h:=hat.out;rw [HV1.out] at h;exact h
     have p0:wr.cell? ⟨A,1,none⟩=some (.int .i64 y):=Yaa (cs:=[.int .i64 x,.int .i64 y]) AT2.two rfl
     have cd2:=Yj8 (HT.out _ AT2.mv) AT2.rd
     unfold Yb6 at cd2
     have din:=Ysm (Yac s.data.toList) s4
     have hon:Yfo (Yac s.data.toList) y s4=(Ybu (Ybu y+(Yeg dtk (Yac s.data.toList) s4).1),(Yeg dtk (Yac s.data.toList) s4).2):=rfl
     generalize Yeg dtk (Yac s.data.toList) s4=z at cd2 din hon
     obtain ⟨dd,s6⟩:=z
     simp only at cd2 din hon
     have wl:=Yt4 y
     have wh:=Yt3 y
     have HON:=Lib.hid hon
     have sw:IntKind.i64.wrap (Ybu y+dd)=Ybu y+dd:=IntWalk.i64_in _ (by omega)
     generalize hwp:Ybu y=p1 at HON sw wl wh
     have cw:=Ydm y
     rw [hwp] at cw
     have cw2:=Ydm (p1+dd)
     have HP1:=Lib.hid hwp
     generalize Ybu (p1+dd)=p2 at cw2 HON
     clear hat hon hwp
     go_wp2_with fail
     refine (cw _).mono ?_
     rintro e w6 ⟨rfl,rfl⟩
     go_wp2_with fail
     refine cd2.mono ?_
     rintro e w6 ⟨rfl,hr6,hm6⟩
     have AT6:=AT2.move hr6 hm6
     have e4:=Yaa (o:=5) AT6.cel rfl
     have f4:=Yag (o:=5) AT6.cel
     have AT7:=AT6.set 5 (.int .i64 p2) (c':={Yii with stuff:=n,skip:=false,kind:=1,step:=sp,mx:=mx,my:=p2}) (sl':=nilS) rfl
     have N7:=Lib.hid AT7
     clear AT7 AT6 hr6 hm6 cd2 AT2
     go_wp2_with fail
     refine (cw2 _).mono ?_
     rintro e w8 ⟨rfl,rfl⟩
     go_wp2
     go_roundw
     case rel=> exact ⟨2,by omega,by go_num,Lib.hid (by rw [show Yxb (Yac s.data.toList) x y s3 2=(mx,p2,s6) from HV2.out.trans (congrArg (fun q=> (mx,q.1,q.2)) HON.out)];exact N7.out)⟩
     case measure=> simp [intOf]
    ·have AT2:Yjn w wr pb rb A (A+1) C s x y Y (Yfo (Yac s.data.toList) y s4).2 {Yii with stuff:=n,skip:=false,kind:=1,step:=sp,mx:=mx,my:=(Yfo (Yac s.data.toList) y s4).1} nilS:=by have h:=hat.out;rw [HV2.out] at h;exact h
     have hvec:=Y96 (S:=(Yac s.data.toList)) (k:=1) (x:=x) (y:=y) (st:=s3) rfl
     rw [HV2.out] at hvec
     generalize Yfo (Yac s.data.toList) y s4=z at AT2 hvec
     obtain ⟨my,s5⟩:=z
     simp only at AT2 hvec
     have HVEC:=Lib.hid hvec
     clear hvec hat HV0 HV1 HV2 HMX
     rw [show (Value.int .i64 ((2:Nat):Int)) = .int .i64 2 from rfl]
     go_wp2
     generalize wr=wo at *
     have hall:=Ylf (inter:=inter) (x:=x) (y:=y) HBEG.out HPT.out HSTP.out HVEC.out
     rw [show ((b:Int)).toNat=b from rfl,show ((a:Int)).toNat=a from rfl,HCD.out] at hall
     obtain ⟨D,hD⟩:∃D:Cel,{stuff:=n,skip:=false,kind:=1,step:=sp,mx:=mx,my:=my,dc:=fun i=> (Yex (Yao 1) (Yey cd i) (Yac s.data.toList) (stB (Yao 1) cd (Yac s.data.toList) s5 i)).1,ev:=fun i=> (Yex (Yao 1) (Yey cd i) (Yac s.data.toList) (stB (Yao 1) cd (Yac s.data.toList) s5 i)).2.1}=D:=⟨_,rfl⟩
     rw [hD] at hall
     have hDc:∀i,D.dc i=(Yex false (Yey cd i) (Yac s.data.toList) (stB false cd (Yac s.data.toList) s5 i)).1:=fun i=> by rw [←hD];rfl
     have hDe:∀i,D.ev i=(Yex false (Yey cd i) (Yac s.data.toList) (stB false cd (Yac s.data.toList) s5 i)).2.1:=fun i=> by rw [←hD];rfl
     have ATD:Yjn w wo pb rb A (A+1) C s x y Y (stB false cd (Yac s.data.toList) s5 0) (Yx2 D 0) nilS:=Yjn.same AT2 (by rw [←hD];rfl)
     have HALL:=Lib.hid hall
     have HDC:=Lib.hid hDc
     have HDE:=Lib.hid hDe
     have HATD:=Lib.hid ATD
     clear hall hD hDc hDe ATD AT2
     go_loopw [64] (fun z wr=>∃i:Nat,i≤6∧z = .int .i64 i∧∃sl,Hid (Yjn w wr pb rb A (A+1) C s x y Y (stB false cd (Yac s.data.toList) s5 i) (Yx2 D i) sl∧(∀j,j<i→Yie wr (C+1) (sl j) (D.ev j))∧∀j,i≤j→sl j = .slice none 0 0)) (fun z _=> 6-(intOf z).toNat)
     case atStart=> exact ⟨0,by omega,rfl,nilS,Lib.hid ⟨HATD.out,fun j h=> absurd h (Nat.not_lt_zero j),fun _ _=> rfl⟩⟩
     case round=>
      clear HATD
      obtain ⟨i,hi6,rfl,sl,hat⟩:=hrel
      by_cases hlt:i<6
      ·have t0:decide ((i:Int)<6)=true:=by simp;omega
       have cb:=Ygs false (Yey cd i) (HT.out _ hat.out.1.mv) hat.out.1.rd
       unfold Yf6 at cb
       have hst:(Yex false (Yey cd i) (Yac s.data.toList) (stB false cd (Yac s.data.toList) s5 i)).2.2=stB false cd (Yac s.data.toList) s5 (i+1):=rfl
       have hdv:=HDC.out i
       have hev:=HDE.out i
       generalize Yex false (Yey cd i) (Yac s.data.toList) (stB false cd (Yac s.data.toList) s5 i)=z at cb hst hdv hev
       obtain ⟨dv,L,s5⟩:=z
       simp only at cb hst hdv hev
       subst hst
       have HDV:=Lib.hid hdv
       have HEV:=Lib.hid hev
       have q1:IntKind.i64.wrap (5-(i:Int))=((5-i:Nat):Int):=(IntWalk.i64_in _ (by omega)).trans (by omega)
       have q2:=Ym6 cd (5-i)
       have q3:decide (((5-i:Nat):Int)<0)=false:=by simp
       clear hdv hev
       go_wp2_with fail
       refine cb.mono ?_
       rintro e w6 ⟨v,rfl,hsl,hr6,hm6⟩
       have AT6:=hat.out.1.move hr6 hm6
       have hlt6:=AT6.lt
       have hsz:=hat.out.1.lt
       obtain ⟨q,cap,rfl,hevs,hfr⟩:=hsl
       have e6:=Yaa (o:=6+i) AT6.cel (Ynr _ _ i hlt)
       have f6:=Yag (o:=6+i) AT6.cel
       have AT7:=AT6.set (6+i) (.int .i64 dv) (Ygt _ _ dv i hlt)
       rw [←HDV.out,Yka] at AT7
       rw [HDV.out] at AT7
       have e7:=Yaa (o:=12+i) AT7.cel (Yle _ _ i hlt)
       have f7:=Yag (o:=12+i) AT7.cel
       have AT8:=AT7.set (12+i) (.slice q L.length cap) (Ygu _ _ _ i hlt)
       have hm8:Ya7 C C w6 ((w6.setCell ⟨C,6+i,none⟩ (.int .i64 dv)).setCell ⟨C,12+i,none⟩ (.slice q L.length cap)):=(Ya7.set (a:=C) (b:=C) (p:=⟨C,6+i,none⟩) _ (.inl rfl)).trans (Ya7.set (a:=C) (b:=C) (p:=⟨C,12+i,none⟩) _ (.inl rfl))
       have SL8:∀j,j<i+1→Yie ((w6.setCell ⟨C,6+i,none⟩ (.int .i64 dv)).setCell ⟨C,12+i,none⟩ (.slice q L.length cap)) (C+1) (Ylx sl i (.slice q L.length cap) j) (D.ev j):=by
        intro j hj
        unfold Ylx
        by_cases e:j=i
        ·rw [if_pos e,e,HEV.out]
         exact (show Yie w6 (C+1) _ _ from ⟨q,cap,rfl,hevs,hfr.mono (by omega)⟩).moved hm8 (by omega) (by omega)
        ·rw [if_neg e]
         exact ((hat.out.2.1 j (by omega)).moved hm6 (by omega) (by omega)).moved hm8 (by omega) (by omega)
       have NL8:∀j,i+1≤j→Ylx sl i (.slice q L.length cap) j = .slice none 0 0:=fun j hj=> (if_neg (by omega)).trans (hat.out.2.2 j (by omega))
       have N8:=Lib.hid (And.intro AT8 (And.intro SL8 NL8))
       obtain ⟨m,hm⟩:∃m,L.length=m:=⟨_,rfl⟩
       rw [hat.out.2.2 i (Nat.le_refl i)] at e7
       rw [hm] at N8 ⊢
       clear cb hat hr6 hm6 AT6 AT7 AT8 hm8 SL8 NL8 hevs hfr hm
       go_wp2
       go_roundw
       case rel=> exact ⟨i+1,by omega,by go_num,_,N8⟩
       case measure=> simp [intOf];omega
      ·obtain rfl:i=6:=by omega
       have t0:decide ((6:Int)<6)=false:=by simp
       have hc6:=hat.out.1.cel
       rw [Ym8] at hc6
       have hl6:=hat.out.1.lt
       have hr6:=hat.out.1.res
       have one6:=Yhq D sl fun j hj=> (hat.out.2.1 j hj).one
       have siz6:=Yfr D sl
       have syz6:Y.size=(Yba D sl).toArray.size:=by rw [←HY.out];rfl
       obtain ⟨V,hV⟩:∃V,(Yba D sl).toArray=V:=⟨_,rfl⟩
       rw [hV] at hc6 one6 siz6 syz6
       have HV:=Lib.hid hV
       clear hV
       go_wp2_with (first | (with_reducible refine wpList_load_row rfl 56 _ rfl C rfl 56 V (0,0) _ hc6 Tryz.underlying56 rfl siz6 ?_) | (with_reducible refine Yal rfl 56 _ _ rfl (A+1) V Y rfl rfl 56 hr6 siz6 syz6 one6 ?_;intro w5 hh5 hg5))
       have hb5:=Yc0 hg5 (by omega)
       refine bodyPost_ret (results_cell_row rfl _ _ (A+1) 56 _ (0,0) _ rfl hh5 Tryz.underlying56 rfl siz6) rfl ?_
       exact ⟨D,_,sl,HALL.out,by rw [HV.out],fun j hj=> ((hat.out.2.1 j hj).moved (Ya7.grown hg5 (.inl rfl):Ya7 (A+1) (A+1) _ _) (by omega) (by omega)).from (by omega),hat.out.1.rd.under hb5 (by omega),hat.out.1.mv.onto hb5 (by omega)⟩
  ·subst hk
   have pin:=Y0w true (Yac s.data.toList) st1
   have cp:=Yj9 true (HT.out _ HAT.out.mv) HAT.out.rd
   unfold Yb6 at cp
   generalize hpt:Yeg (ptk true) (Yac s.data.toList) st1=z at cp pin
   obtain ⟨pt,s2⟩:=z
   simp only at cp pin
   obtain ⟨b,rfl⟩:∃b:Nat,pt=(b:Int):=⟨pt.toNat,by omega⟩
   have HPT:Hid (Yeg (ptk (Yao 3)) (Yac s.data.toList) st1=((b:Int),s2)):=Lib.hid hpt
   obtain ⟨cd,hcd⟩:∃cd,4*b+a=cd:=⟨_,rfl⟩
   have hcl:cd≤63:=by omega
   have hb15:(b:Int)≤15:=by omega
   have ho:bits .or .i64 ((b:Int)*4) (a:Int)=(cd:Int):=(Ymg b 4 a 2 rfl (by omega) (by omega)).trans (by rw [hcd])
   have HCD:=Lib.hid hcd
   clear hcd hpt
   go_wp2_with (with_reducible refine Yaj rfl 56 _ _ rfl Z Y 56 rfl rfl HSZ HYZ HONE ?_;rw [HW2.out,HC.out])
   refine cp.mono ?_
   rintro e w3 ⟨rfl,hr3,hm3⟩
   have AT3:=HAT.out.move hr3 hm3
   have d2:w3.cell? ⟨C,2,none⟩=some (.int .i64 3):=Yaa (o:=2) AT3.cel rfl
   clear cp pin hr3 hm3 HAT hcel hres c1 c2 c3 HSZ HYZ HONE
   have HSTP:Hid (Y1c (Yac s.data.toList) 3 s2=(0,s2)):=Lib.hid rfl
   go_wp2
   have HVEC:Hid (Yzl (Yac s.data.toList) 3 x y s2=(0,0,s2)):=Lib.hid rfl
   have hall:=Ylf (inter:=inter) (x:=x) (y:=y) HBEG.out HPT.out HSTP.out HVEC.out
   rw [show ((b:Int)).toNat=b from rfl,show ((a:Int)).toNat=a from rfl,HCD.out] at hall
   obtain ⟨D,hD⟩:∃D:Cel,{stuff:=n,skip:=false,kind:=3,step:=0,mx:=0,my:=0,dc:=fun i=> (Yex (Yao 3) (Yey cd i) (Yac s.data.toList) (stB (Yao 3) cd (Yac s.data.toList) s2 i)).1,ev:=fun i=> (Yex (Yao 3) (Yey cd i) (Yac s.data.toList) (stB (Yao 3) cd (Yac s.data.toList) s2 i)).2.1}=D:=⟨_,rfl⟩
   rw [hD] at hall
   have hDc:∀i,D.dc i=(Yex true (Yey cd i) (Yac s.data.toList) (stB true cd (Yac s.data.toList) s2 i)).1:=fun i=> by rw [←hD];rfl
   have hDe:∀i,D.ev i=(Yex true (Yey cd i) (Yac s.data.toList) (stB true cd (Yac s.data.toList) s2 i)).2.1:=fun i=> by rw [←hD];rfl
   have ATD:Yjn w w3 pb rb A (A+1) C s x y Y (stB true cd (Yac s.data.toList) s2 0) (Yx2 D 0) nilS:=Yjn.same AT3 (by rw [←hD];rfl)
   have HALL:=Lib.hid hall
   have HDC:=Lib.hid hDc
   have HDE:=Lib.hid hDe
   have HATD:=Lib.hid ATD
   clear hall hD hDc hDe ATD AT3
   go_loopw [64] (fun z wr=>∃i:Nat,i≤6∧z = .int .i64 i∧∃sl,Hid (Yjn w wr pb rb A (A+1) C s x y Y (stB true cd (Yac s.data.toList) s2 i) (Yx2 D i) sl∧(∀j,j<i→Yie wr (C+1) (sl j) (D.ev j))∧∀j,i≤j→sl j = .slice none 0 0)) (fun z _=> 6-(intOf z).toNat)
   case atStart=> exact ⟨0,by omega,rfl,nilS,Lib.hid ⟨HATD.out,fun j h=> absurd h (Nat.not_lt_zero j),fun _ _=> rfl⟩⟩
   case round=>
    clear HATD
    obtain ⟨i,hi6,rfl,sl,hat⟩:=hrel
    by_cases hlt:i<6
    ·have t0:decide ((i:Int)<6)=true:=by simp;omega
     have cb:=Ygs true (Yey cd i) (HT.out _ hat.out.1.mv) hat.out.1.rd
     unfold Yf6 at cb
     have hst:(Yex true (Yey cd i) (Yac s.data.toList) (stB true cd (Yac s.data.toList) s2 i)).2.2=stB true cd (Yac s.data.toList) s2 (i+1):=rfl
     have hdv:=HDC.out i
     have hev:=HDE.out i
     generalize Yex true (Yey cd i) (Yac s.data.toList) (stB true cd (Yac s.data.toList) s2 i)=z at cb hst hdv hev
     obtain ⟨dv,L,s5⟩:=z
     simp only at cb hst hdv hev
     subst hst
     have HDV:=Lib.hid hdv
     have HEV:=Lib.hid hev
     have q1:IntKind.i64.wrap (5-(i:Int))=((5-i:Nat):Int):=(IntWalk.i64_in _ (by omega)).trans (by omega)
     have q2:=Ym6 cd (5-i)
     have q3:decide (((5-i:Nat):Int)<0)=false:=by simp
     clear hdv hev
     go_wp2_with fail
     refine cb.mono ?_
     rintro e w6 ⟨v,rfl,hsl,hr6,hm6⟩
     have AT6:=hat.out.1.move hr6 hm6
     have hlt6:=AT6.lt
     have hsz:=hat.out.1.lt
     obtain ⟨q,cap,rfl,hevs,hfr⟩:=hsl
     have e6:=Yaa (o:=6+i) AT6.cel (Ynr _ _ i hlt)
     have f6:=Yag (o:=6+i) AT6.cel
     have AT7:=AT6.set (6+i) (.int .i64 dv) (Ygt _ _ dv i hlt)
     rw [←HDV.out,Yka] at AT7
     rw [HDV.out] at AT7
     have e7:=Yaa (o:=12+i) AT7.cel (Yle _ _ i hlt)
     have f7:=Yag (o:=12+i) AT7.cel
     have AT8:=AT7.set (12+i) (.slice q L.length cap) (Ygu _ _ _ i hlt)
     have hm8:Ya7 C C w6 ((w6.setCell ⟨C,6+i,none⟩ (.int .i64 dv)).setCell ⟨C,12+i,none⟩ (.slice q L.length cap)):=(Ya7.set (a:=C) (b:=C) (p:=⟨C,6+i,none⟩) _ (.inl rfl)).trans (Ya7.set (a:=C) (b:=C) (p:=⟨C,12+i,none⟩) _ (.inl rfl))
     have SL8:∀j,j<i+1→Yie ((w6.setCell ⟨C,6+i,none⟩ (.int .i64 dv)).setCell ⟨C,12+i,none⟩ (.slice q L.length cap)) (C+1) (Ylx sl i (.slice q L.length cap) j) (D.ev j):=by
      intro j hj
      unfold Ylx
      by_cases e:j=i
      ·rw [if_pos e,e,HEV.out]
       exact (show Yie w6 (C+1) _ _ from ⟨q,cap,rfl,hevs,hfr.mono (by omega)⟩).moved hm8 (by omega) (by omega)
      ·rw [if_neg e]
       exact ((hat.out.2.1 j (by omega)).moved hm6 (by omega) (by omega)).moved hm8 (by omega) (by omega)
     have NL8:∀j,i+1≤j→Ylx sl i (.slice q L.length cap) j = .slice none 0 0:=fun j hj=> (if_neg (by omega)).trans (hat.out.2.2 j (by omega))
     have N8:=Lib.hid (And.intro AT8 (And.intro SL8 NL8))
     obtain ⟨m,hm⟩:∃m,L.length=m:=⟨_,rfl⟩
     rw [hat.out.2.2 i (Nat.le_refl i)] at e7
     rw [hm] at N8 ⊢
     clear cb hat hr6 hm6 AT6 AT7 AT8 hm8 SL8 NL8 hevs hfr hm
     go_wp2
     go_roundw
     case rel=> exact ⟨i+1,by omega,by go_num,_,N8⟩
     case measure=> simp [intOf];omega
    ·obtain rfl:i=6:=by omega
     have t0:decide ((6:Int)<6)=false:=by simp
     have hc6:=hat.out.1.cel
     rw [Ym8] at hc6
     have hl6:=hat.out.1.lt
     have hr6:=hat.out.1.res
     have one6:=Yhq D sl fun j hj=> (hat.out.2.1 j hj).one
     have siz6:=Yfr D sl
     have syz6:Y.size=(Yba D sl).toArray.size:=by rw [←HY.out];rfl
     obtain ⟨V,hV⟩:∃V,(Yba D sl).toArray=V:=⟨_,rfl⟩
     rw [hV] at hc6 one6 siz6 syz6
     have HV:=Lib.hid hV
     clear hV
     go_wp2_with (first | (with_reducible refine wpList_load_row rfl 56 _ rfl C rfl 56 V (0,0) _ hc6 Tryz.underlying56 rfl siz6 ?_) | (with_reducible refine Yal rfl 56 _ _ rfl (A+1) V Y rfl rfl 56 hr6 siz6 syz6 one6 ?_;intro w5 hh5 hg5))
     have hb5:=Yc0 hg5 (by omega)
     refine bodyPost_ret (results_cell_row rfl _ _ (A+1) 56 _ (0,0) _ rfl hh5 Tryz.underlying56 rfl siz6) rfl ?_
     exact ⟨D,_,sl,HALL.out,by rw [HV.out],fun j hj=> ((hat.out.2.1 j hj).moved (Ya7.grown hg5 (.inl rfl):Ya7 (A+1) (A+1) _ _) (by omega) (by omega)).from (by omega),hat.out.1.rd.under hb5 (by omega),hat.out.1.mv.onto hb5 (by omega)⟩
  ·subst hk
   have pin:=Y0w true (Yac s.data.toList) st1
   have cp:=Yj9 true (HT.out _ HAT.out.mv) HAT.out.rd
   unfold Yb6 at cp
   generalize hpt:Yeg (ptk true) (Yac s.data.toList) st1=z at cp pin
   obtain ⟨pt,s2⟩:=z
   simp only at cp pin
   obtain ⟨b,rfl⟩:∃b:Nat,pt=(b:Int):=⟨pt.toNat,by omega⟩
   have HPT:Hid (Yeg (ptk (Yao 4)) (Yac s.data.toList) st1=((b:Int),s2)):=Lib.hid hpt
   obtain ⟨cd,hcd⟩:∃cd,4*b+a=cd:=⟨_,rfl⟩
   have hcl:cd≤63:=by omega
   have hb15:(b:Int)≤15:=by omega
   have ho:bits .or .i64 ((b:Int)*4) (a:Int)=(cd:Int):=(Ymg b 4 a 2 rfl (by omega) (by omega)).trans (by rw [hcd])
   have HCD:=Lib.hid hcd
   clear hcd hpt
   go_wp2_with (with_reducible refine Yaj rfl 56 _ _ rfl Z Y 56 rfl rfl HSZ HYZ HONE ?_;rw [HW2.out,HC.out])
   refine cp.mono ?_
   rintro e w3 ⟨rfl,hr3,hm3⟩
   have AT3:=HAT.out.move hr3 hm3
   have d2:w3.cell? ⟨C,2,none⟩=some (.int .i64 4):=Yaa (o:=2) AT3.cel rfl
   clear cp pin hr3 hm3 HAT hcel hres c1 c2 c3 HSZ HYZ HONE
   have cs:=Yut (HT.out _ AT3.mv) hN AT3.rd
   unfold Yb6 at cs
   generalize hsp:Yeg stk (Yac s.data.toList) s2=z at cs
   obtain ⟨sp,s3⟩:=z
   simp only at cs
   have HSTP:Hid (Y1c (Yac s.data.toList) 4 s2=(sp,s3)):=Lib.hid hsp
   clear hsp
   go_wp2_with fail
   refine cs.mono ?_
   rintro e w4 ⟨rfl,hr4,hm4⟩
   have AT4:=AT3.move hr4 hm4
   have e3:=Yaa (o:=3) AT4.cel rfl
   have f3:=Yag (o:=3) AT4.cel
   have AT5:=AT4.set 3 (.int .i64 sp) (c':={Yii with stuff:=n,skip:=false,kind:=4,step:=sp,mx:=0,my:=0}) (sl':=nilS) rfl
   obtain ⟨w5,hw5⟩:∃z,w4.setCell ⟨C,3,none⟩ (.int .i64 sp)=z:=⟨_,rfl⟩
   rw [hw5] at AT5
   have HW5:=Lib.hid hw5
   clear cs hr4 hm4 AT3 AT4 hw5 d2
   go_wp2
   rw [HW5.out]
   have HVEC:Hid (Yzl (Yac s.data.toList) 4 x y s3=(0,0,s3)):=Lib.hid rfl
   have hall:=Ylf (inter:=inter) (x:=x) (y:=y) HBEG.out HPT.out HSTP.out HVEC.out
   rw [show ((b:Int)).toNat=b from rfl,show ((a:Int)).toNat=a from rfl,HCD.out] at hall
   obtain ⟨D,hD⟩:∃D:Cel,{stuff:=n,skip:=false,kind:=4,step:=sp,mx:=0,my:=0,dc:=fun i=> (Yex (Yao 4) (Yey cd i) (Yac s.data.toList) (stB (Yao 4) cd (Yac s.data.toList) s3 i)).1,ev:=fun i=> (Yex (Yao 4) (Yey cd i) (Yac s.data.toList) (stB (Yao 4) cd (Yac s.data.toList) s3 i)).2.1}=D:=⟨_,rfl⟩
   rw [hD] at hall
   have hDc:∀i,D.dc i=(Yex true (Yey cd i) (Yac s.data.toList) (stB true cd (Yac s.data.toList) s3 i)).1:=fun i=> by rw [←hD];rfl
   have hDe:∀i,D.ev i=(Yex true (Yey cd i) (Yac s.data.toList) (stB true cd (Yac s.data.toList) s3 i)).2.1:=fun i=> by rw [←hD];rfl
   have ATD:Yjn w w5 pb rb A (A+1) C s x y Y (stB true cd (Yac s.data.toList) s3 0) (Yx2 D 0) nilS:=Yjn.same AT5 (by rw [←hD];rfl)
   have HALL:=Lib.hid hall
   have HDC:=Lib.hid hDc
   have HDE:=Lib.hid hDe
   have HATD:=Lib.hid ATD
   clear hall hD hDc hDe ATD AT5
   go_loopw [64] (fun z wr=>∃i:Nat,i≤6∧z = .int .i64 i∧∃sl,Hid (Yjn w wr pb rb A (A+1) C s x y Y (stB true cd (Yac s.data.toList) s3 i) (Yx2 D i) sl∧(∀j,j<i→Yie wr (C+1) (sl j) (D.ev j))∧∀j,i≤j→sl j = .slice none 0 0)) (fun z _=> 6-(intOf z).toNat)
   case atStart=> exact ⟨0,by omega,rfl,nilS,Lib.hid ⟨HATD.out,fun j h=> absurd h (Nat.not_lt_zero j),fun _ _=> rfl⟩⟩
   case round=>
    clear HATD
    obtain ⟨i,hi6,rfl,sl,hat⟩:=hrel
    by_cases hlt:i<6
    ·have t0:decide ((i:Int)<6)=true:=by simp;omega
     have cb:=Ygs true (Yey cd i) (HT.out _ hat.out.1.mv) hat.out.1.rd
     unfold Yf6 at cb
     have hst:(Yex true (Yey cd i) (Yac s.data.toList) (stB true cd (Yac s.data.toList) s3 i)).2.2=stB true cd (Yac s.data.toList) s3 (i+1):=rfl
     have hdv:=HDC.out i
     have hev:=HDE.out i
     generalize Yex true (Yey cd i) (Yac s.data.toList) (stB true cd (Yac s.data.toList) s3 i)=z at cb hst hdv hev
     obtain ⟨dv,L,s5⟩:=z
     simp only at cb hst hdv hev
     subst hst
     have HDV:=Lib.hid hdv
     have HEV:=Lib.hid hev
     have q1:IntKind.i64.wrap (5-(i:Int))=((5-i:Nat):Int):=(IntWalk.i64_in _ (by omega)).trans (by omega)
     have q2:=Ym6 cd (5-i)
     have q3:decide (((5-i:Nat):Int)<0)=false:=by simp
     clear hdv hev
     go_wp2_with fail
     refine cb.mono ?_
     rintro e w6 ⟨v,rfl,hsl,hr6,hm6⟩
     have AT6:=hat.out.1.move hr6 hm6
     have hlt6:=AT6.lt
     have hsz:=hat.out.1.lt
     obtain ⟨q,cap,rfl,hevs,hfr⟩:=hsl
     have e6:=Yaa (o:=6+i) AT6.cel (Ynr _ _ i hlt)
     have f6:=Yag (o:=6+i) AT6.cel
     have AT7:=AT6.set (6+i) (.int .i64 dv) (Ygt _ _ dv i hlt)
     rw [←HDV.out,Yka] at AT7
     rw [HDV.out] at AT7
     have e7:=Yaa (o:=12+i) AT7.cel (Yle _ _ i hlt)
     have f7:=Yag (o:=12+i) AT7.cel
     have AT8:=AT7.set (12+i) (.slice q L.length cap) (Ygu _ _ _ i hlt)
     have hm8:Ya7 C C w6 ((w6.setCell ⟨C,6+i,none⟩ (.int .i64 dv)).setCell ⟨C,12+i,none⟩ (.slice q L.length cap)):=(Ya7.set (a:=C) (b:=C) (p:=⟨C,6+i,none⟩) _ (.inl rfl)).trans (Ya7.set (a:=C) (b:=C) (p:=⟨C,12+i,none⟩) _ (.inl rfl))
     have SL8:∀j,j<i+1→Yie ((w6.setCell ⟨C,6+i,none⟩ (.int .i64 dv)).setCell ⟨C,12+i,none⟩ (.slice q L.length cap)) (C+1) (Ylx sl i (.slice q L.length cap) j) (D.ev j):=by
      intro j hj
      unfold Ylx
      by_cases e:j=i
      ·rw [if_pos e,e,HEV.out]
       exact (show Yie w6 (C+1) _ _ from ⟨q,cap,rfl,hevs,hfr.mono (by omega)⟩).moved hm8 (by omega) (by omega)
      ·rw [if_neg e]
       exact ((hat.out.2.1 j (by omega)).moved hm6 (by omega) (by omega)).moved hm8 (by omega) (by omega)
     have NL8:∀j,i+1≤j→Ylx sl i (.slice q L.length cap) j = .slice none 0 0:=fun j hj=> (if_neg (by omega)).trans (hat.out.2.2 j (by omega))
     have N8:=Lib.hid (And.intro AT8 (And.intro SL8 NL8))
     obtain ⟨m,hm⟩:∃m,L.length=m:=⟨_,rfl⟩
     rw [hat.out.2.2 i (Nat.le_refl i)] at e7
     rw [hm] at N8 ⊢
     clear cb hat hr6 hm6 AT6 AT7 AT8 hm8 SL8 NL8 hevs hfr hm
     go_wp2
     go_roundw
     case rel=> exact ⟨i+1,by omega,by go_num,_,N8⟩
     case measure=> simp [intOf];omega
    ·obtain rfl:i=6:=by omega
     have t0:decide ((6:Int)<6)=false:=by simp
     have hc6:=hat.out.1.cel
     rw [Ym8] at hc6
     have hl6:=hat.out.1.lt
     have hr6:=hat.out.1.res
     have one6:=Yhq D sl fun j hj=> (hat.out.2.1 j hj).one
     have siz6:=Yfr D sl
     have syz6:Y.size=(Yba D sl).toArray.size:=by rw [←HY.out];rfl
     obtain ⟨V,hV⟩:∃V,(Yba D sl).toArray=V:=⟨_,rfl⟩
     rw [hV] at hc6 one6 siz6 syz6
     have HV:=Lib.hid hV
     clear hV
     go_wp2_with (first | (with_reducible refine wpList_load_row rfl 56 _ rfl C rfl 56 V (0,0) _ hc6 Tryz.underlying56 rfl siz6 ?_) | (with_reducible refine Yal rfl 56 _ _ rfl (A+1) V Y rfl rfl 56 hr6 siz6 syz6 one6 ?_;intro w5 hh5 hg5))
     have hb5:=Yc0 hg5 (by omega)
     refine bodyPost_ret (results_cell_row rfl _ _ (A+1) 56 _ (0,0) _ rfl hh5 Tryz.underlying56 rfl siz6) rfl ?_
     exact ⟨D,_,sl,HALL.out,by rw [HV.out],fun j hj=> ((hat.out.2.1 j hj).moved (Ya7.grown hg5 (.inl rfl):Ya7 (A+1) (A+1) _ _) (by omega) (by omega)).from (by omega),hat.out.1.rd.under hb5 (by omega),hat.out.1.mv.onto hb5 (by omega)⟩
end Go.Proofs.YtgikochfffdpfaaGreatDoor
namespace Go.Proofs.YtgikochfffdpfaaGreatDoor
theorem Qc0 {intra:Bool} {S:List UInt8} {p q:Nat} {v:Int} (hp:p≤S.length) (h:Yeg (ptk intra) S (p,0)=(v,q,0)):Seg S p q (Yf2 intra v).data.toList∧0≤v∧v<16:=by
 rw [Yfj] at h
 obtain ⟨⟨a,f,n⟩,hk⟩:∃x,ptk intra (S.drop p)=x:=⟨_,rfl⟩
 rw [hk] at h
 simp only [Prod.mk.injEq] at h
 obtain ⟨rfl,rfl,rfl⟩:=h
 obtain ⟨h1,h2,h3,h4,h5⟩:=Qc5 hk
 exact ⟨Seg.of hp h3 h1,h4,h5⟩
theorem Qdt {S:List UInt8} (hS:Yaw S=true) {p q:Nat} {k v:Int} (hp:p≤S.length) (h:Y1c S k (p,0)=(v,q,0)):Seg S p q (Yb2 v).data.toList∧Yqa k v=true:=by
 unfold Y1c at h
 unfold Yqa
 cases hk:Qdp k with
 | true=>
  rw [hk,if_pos rfl,Yfj] at h
  obtain ⟨⟨a,f,n⟩,ht⟩:∃x,stk (S.drop p)=x:=⟨_,rfl⟩
  rw [ht] at h
  simp only [Prod.mk.injEq] at h
  obtain ⟨rfl,rfl,rfl⟩:=h
  obtain ⟨h1,rfl,h3,h4⟩:=Qds (Ybd _ _ hS) ht
  exact ⟨Seg.of hp h3 h1,by rw [if_pos rfl,Yml.2 h4];rfl⟩
 | false=>
  rw [hk,if_neg (by decide)] at h
  simp only [Prod.mk.injEq,and_true] at h
  obtain ⟨rfl,rfl⟩:=h
  exact ⟨Seg.nil hp,rfl⟩
theorem Yux {S:List UInt8} {p q:Nat} {pr v:Int} (hp:p≤S.length) (h:Yfo S pr (p,0)=(v,q,0)):Seg S p q (Ybt (Ybu (v-Ybu pr))).data.toList∧v=Ybu v:=by
 unfold Yfo at h
 rw [Yfj] at h
 obtain ⟨⟨d,f,n⟩,ht⟩:∃x,dtk (S.drop p)=x:=⟨_,rfl⟩
 rw [ht] at h
 simp only [Prod.mk.injEq] at h
 obtain ⟨rfl,rfl,rfl⟩:=h
 obtain ⟨h1,h2,h3,h4,h5⟩:=Qb1 ht
 have e:Ybu (Ybu (Ybu pr+d)-Ybu pr)=d:=by unfold Ybu;omega
 rw [e]
 exact ⟨Seg.of hp h3 h1,by unfold Ybu;omega⟩
theorem Qd7 {S:List UInt8} {p q:Nat} {k x y mx my:Int} (hp:p≤S.length) (h:Yzl S k x y (p,0)=(mx,my,q,0)):Seg S p q (Qd6 k x y mx my)∧Ymx k mx my=true:=by
 unfold Yzl at h
 unfold Qd6 Ymx
 cases hk:Yao k with
 | true=>
  rw [hk,if_pos rfl] at h
  simp only [Prod.mk.injEq,and_true] at h
  obtain ⟨rfl,rfl,rfl⟩:=h
  exact ⟨Seg.nil hp,rfl⟩
 | false=>
  rw [hk,if_neg (by decide)] at h
  obtain ⟨⟨a,q1,f1⟩,h1⟩:∃z,Yfo S x (p,0)=z:=⟨_,rfl⟩
  obtain ⟨⟨b,q2,f2⟩,h2⟩:∃z,Yfo S y (q1,f1)=z:=⟨_,rfl⟩
  rw [h1] at h
  simp only at h
  rw [h2] at h
  simp only [Prod.mk.injEq] at h
  obtain ⟨rfl,rfl,rfl,rfl⟩:=h
  by_cases hf:f1=0
  ·subst hf
   obtain ⟨g1,g2⟩:=Yux hp h1
   obtain ⟨k1,k2⟩:=Yux g1.2.1 h2
   rw [if_neg (by decide),if_neg (by decide),Bool.and_eq_true,beq_iff_eq,beq_iff_eq]
   exact ⟨g1.app k1,g2,k2⟩
  ·exfalso
   unfold Yfo at h2
   rw [Yft (show ((q1,f1):Stt).2≠0 from hf)] at h2
   simp only [Prod.mk.injEq] at h2
   exact hf h2.2.2
theorem Yz4 {S:List UInt8} (hS:Yaw S=true) {p q:Nat} {i c:Bool} {d:Int} {L:List Ev} (hp:p≤S.length) (h:Yex i c S (p,0)=(d,L,q,0)):Seg S p q (Yhi i d L)∧Ys5 i d L=true∧decide (0<L.length)=c:=by
 rw [Yxt] at h
 obtain ⟨⟨a,l,t,f⟩,hb⟩:∃x,btk S p i c=x:=⟨_,rfl⟩
 rw [hb] at h
 simp only [Prod.mk.injEq] at h
 obtain ⟨rfl,rfl,rfl,rfl⟩:=h
 obtain ⟨h1,h2,h3,h4,h5⟩:=Qbf hS hp hb
 exact ⟨⟨h1,h2,h3⟩,h4,h5⟩
theorem Y3s {inter:Bool} {k c:Int} (h:(Ybr inter k c).data.toList.isEmpty=false) (h2:k≠2) (h5:k≠5):Ykj inter k=true∧0≤c∧c≤3:=by
 have hb:¬ (k<0∨5<k∨c<0∨3<c∨(k=5∧0<c)):=by
  intro hn
  rw [Yo4 hn] at h
  cases h
 refine ⟨?_,by omega,by omega⟩
 rcases (by omega:k=0∨k=1∨k=3∨k=4) with rfl | rfl | rfl | rfl
 ·cases inter with
  | true=> rfl
  | false=>
   exfalso
   unfold Ybr at h
   rw [if_pos (by omega)] at h
   rcases (by omega:c=0∨c=1∨c=2∨c=3) with rfl | rfl | rfl | rfl <;> cases h
 ·cases inter with
  | true=> rfl
  | false=>
   exfalso
   unfold Ybr at h
   rw [if_pos (by omega)] at h
   rcases (by omega:c=0∨c=1∨c=2∨c=3) with rfl | rfl | rfl | rfl <;> cases h
 ·rfl
 ·cases inter <;> rfl
theorem Qbq {pt ch:Nat} (hp:pt<16) (hc:ch<4) {c:Cel} (h:∀i,i<6→decide (0<(c.ev i).length)=Yey (4*pt+ch) i):Yfs c 4=pt∧Yj6 c=ch:=by
 have hh:∀i,i<6→Yp0 c i=(4*pt+ch) / 2^(5-i)%2:=by
  intro i hi
  unfold Yp0
  rw [h i hi]
  unfold Yey
  rcases Nat.mod_two_eq_zero_or_one ((4*pt+ch) / 2^(5-i)) with e | e <;> rw [e] <;> rfl
 have h0:=hh 0 (by omega);have h1:=hh 1 (by omega);have h2:=hh 2 (by omega);have h3:=hh 3 (by omega);have h4:=hh 4 (by omega);have h5:=hh 5 (by omega)
 simp only [Nat.reduceSub,Nat.reducePow,Nat.sub_zero] at h0 h1 h2 h3 h4 h5
 rw [Ym7]
 unfold Yj6
 omega
theorem Qbt {inter:Bool} {S:List UInt8} (hS:Yaw S=true) {x y:Int} {p q:Nat} {c:Cel} (hp:p≤S.length) (h:ctk inter S x y p=(c,q,0)):Seg S p q (Yc1 inter x y c)∧Ybo inter c=true:=by
 have h0:Yxi inter S x y (p,0)=(c,q,0):=by
  obtain ⟨⟨c1,q1,f1⟩,hz⟩:∃z,Yxi inter S x y (p,0)=z:=⟨_,rfl⟩
  unfold ctk at h
  rw [hz] at h ⊢
  simp only at h
  by_cases e:f1=0
  ·subst e
   rw [if_pos rfl] at h
   exact h
  ·rw [if_neg e] at h
   simp only [Prod.mk.injEq] at h
   exact absurd h.2.2 e
 clear h
 obtain ⟨⟨n,sk,k,ch,q1,f1⟩,hb⟩:∃z,Yd7 inter S 65 0 (p,0)=z:=⟨_,rfl⟩
 by_cases hf1:f1=0
 ·subst hf1
  obtain ⟨d,e1,e2,e3,e4⟩:=Ynn hS 65 0 p n sk k ch q1 hp hb
  rw [Nat.zero_add] at e1
  subst e1
  cases sk with
  | true=>
   obtain ⟨g1,g2,g3,g4⟩:=e3 rfl
   rw [Ysi hb] at h0
   simp only [Prod.mk.injEq,and_true] at h0
   obtain ⟨rfl,rfl⟩:=h0
   refine ⟨?_,?_⟩
   ·unfold Yc1
    simpa using g4
   ·unfold Ybo
    rw [g1]
    simp only [if_true,Bool.true_and,Bool.and_eq_true,decide_eq_true_eq]
    exact ⟨by omega,rfl⟩
  | false=>
   obtain ⟨g1,g2,g3,g4⟩:=e4 rfl
   obtain ⟨hkin,c0,c3⟩:=Y3s g2 g3 g4
   obtain ⟨⟨pt,s2⟩,h2⟩:∃z,Yeg (ptk (Yao k)) S (q1,0)=z:=⟨_,rfl⟩
   obtain ⟨⟨sp,s3⟩,h3⟩:∃z,Y1c S k s2=z:=⟨_,rfl⟩
   obtain ⟨⟨mx,my,s4⟩,h4⟩:∃z,Yzl S k x y s3=z:=⟨_,rfl⟩
   rw [Ylf hb h2 h3 h4] at h0
   simp only [Prod.mk.injEq] at h0
   obtain ⟨hc,hq⟩:=h0
   have z6:(stB (Yao k) (4*pt.toNat+ch.toNat) S s4 6).2=0:=by rw [hq]
   have zi:∀i,i≤6→(stB (Yao k) (4*pt.toNat+ch.toNat) S s4 i).2=0:=by
    intro i hi
    refine Decidable.byContradiction fun hne=> ?_
    have h1:=Yzc hne (6-i)
    rw [show i+(6-i)=6 by omega] at h1
    rw [h1] at z6
    exact hne z6
   have z4:s4.2=0:=zi 0 (by omega)
   have z3:s3.2=0:=by
    refine Decidable.byContradiction fun hne=> ?_
    have h1:=Y1o (kind:=k) (x:=x) (y:=y) (S:=S) hne
    rw [h4] at h1
    simp only at h1
    rw [h1] at z4
    exact hne z4
   have z2:s2.2=0:=by
    refine Decidable.byContradiction fun hne=> ?_
    have h1:=Y1d (kind:=k) (S:=S) hne
    rw [h3] at h1
    simp only [Prod.mk.injEq] at h1
    rw [h1.2] at z3
    exact hne z3
   obtain ⟨q2,f2⟩:=s2
   obtain ⟨q3,f3⟩:=s3
   obtain ⟨q4,f4⟩:=s4
   simp only at z2 z3 z4
   subst z2 z3 z4
   obtain ⟨a1,a2,a3⟩:=Qc0 g1.2.1 h2
   obtain ⟨b1,b2⟩:=Qdt hS a1.2.1 h3
   obtain ⟨v1,v2⟩:=Qd7 b1.2.1 h4
   have hev:∀i,i<6→Seg S (stB (Yao k) (4*pt.toNat+ch.toNat) S (q4,0) i).1 (stB (Yao k) (4*pt.toNat+ch.toNat) S (q4,0) (i+1)).1 (Yhi (Yao k) (c.dc i) (c.ev i))∧Ys5 (Yao k) (c.dc i) (c.ev i)=true∧decide (0<(c.ev i).length)=Yey (4*pt.toNat+ch.toNat) i:=by
    intro i
    induction i with
    | zero=>
     intro hi
     have hz:=zi 1 (by omega)
     obtain ⟨⟨d0,l0,t0,f0⟩,hb0⟩:∃z,Yex (Yao k) (Yey (4*pt.toNat+ch.toNat) 0) S (q4,0)=z:=⟨_,rfl⟩
     have hn:stB (Yao k) (4*pt.toNat+ch.toNat) S (q4,0) 1=(t0,f0):=by
      show (Yex (Yao k) (Yey (4*pt.toNat+ch.toNat) 0) S (q4,0)).2.2=_
      rw [hb0]
     rw [hn] at hz ⊢
     simp only at hz
     subst hz
     have hd:c.dc 0=d0:=by rw [←hc];show (Yex (Yao k) (Yey (4*pt.toNat+ch.toNat) 0) S (q4,0)).1=d0;rw [hb0]
     have hl:c.ev 0=l0:=by rw [←hc];show (Yex (Yao k) (Yey (4*pt.toNat+ch.toNat) 0) S (q4,0)).2.1=l0;rw [hb0]
     rw [hd,hl]
     exact Yz4 hS v1.2.1 hb0
    | succ i ih=>
     intro hi
     obtain ⟨k1,_,_⟩:=ih (by omega)
     have hz1:=zi (i+1) (by omega)
     have hz:=zi (i+1+1) (by omega)
     obtain ⟨⟨t1,f1⟩,hst⟩:∃z,stB (Yao k) (4*pt.toNat+ch.toNat) S (q4,0) (i+1)=z:=⟨_,rfl⟩
     rw [hst] at hz1 k1
     simp only at hz1 k1
     subst hz1
     obtain ⟨⟨d0,l0,t0,f0⟩,hb0⟩:∃z,Yex (Yao k) (Yey (4*pt.toNat+ch.toNat) (i+1)) S (t1,0)=z:=⟨_,rfl⟩
     have hn:stB (Yao k) (4*pt.toNat+ch.toNat) S (q4,0) (i+1+1)=(t0,f0):=by
      show (Yex (Yao k) (Yey (4*pt.toNat+ch.toNat) (i+1)) S (stB (Yao k) (4*pt.toNat+ch.toNat) S (q4,0) (i+1))).2.2=_
      rw [hst,hb0]
     rw [hn] at hz ⊢
     simp only at hz
     subst hz
     have hd:c.dc (i+1)=d0:=by rw [←hc];show (Yex (Yao k) (Yey (4*pt.toNat+ch.toNat) (i+1)) S (stB (Yao k) (4*pt.toNat+ch.toNat) S (q4,0) (i+1))).1=d0;rw [hst,hb0]
     have hl:c.ev (i+1)=l0:=by rw [←hc];show (Yex (Yao k) (Yey (4*pt.toNat+ch.toNat) (i+1)) S (stB (Yao k) (4*pt.toNat+ch.toNat) S (q4,0) (i+1))).2.1=l0;rw [hst,hb0]
     rw [hd,hl,hst]
     exact Yz4 hS k1.2.1 hb0
   have hkd:c.kind=k:=by rw [←hc]
   have hsk:c.skip=false:=by rw [←hc]
   have hsu:c.stuff=(n:Int):=by rw [←hc]
   have hsp:c.step=sp:=by rw [←hc]
   have hmx:c.mx=mx:=by rw [←hc]
   have hmy:c.my=my:=by rw [←hc]
   have hseg:∀i,i≤6→Seg S q4 (stB (Yao k) (4*pt.toNat+ch.toNat) S (q4,0) i).1 (Yi9 c i):=by
    intro i
    induction i with
    | zero=> intro _;exact Seg.nil v1.2.1
    | succ i ih=>
     intro hi
     show Seg S q4 _ (Yi9 c i++Yhi (Yao c.kind) (c.dc i) (c.ev i))
     rw [hkd]
     exact (ih (by omega)).app (hev i (by omega)).1
   have h6:=hseg 6 (Nat.le_refl _)
   rw [hq] at h6
   simp only at h6
   obtain ⟨m1,m2⟩:=Qbq (pt:=pt.toNat) (ch:=ch.toNat) (c:=c) (by omega) (by omega) (fun i hi=> (hev i hi).2.2)
   refine ⟨?_,?_⟩
   ·unfold Yc1
    rw [hsk,if_neg (by decide),hkd,hsu,hsp,hmx,hmy,m1,m2,Int.toNat_of_nonneg a2,Int.toNat_of_nonneg c0,Int.toNat_natCast,←List.append_assoc,←List.append_assoc,←List.append_assoc,←List.append_assoc]
    exact (((g1.app a1).app b1).app v1).app h6
   ·unfold Ybo
    rw [hsk,if_neg (by decide),hkd,hsu,hsp,hmx,hmy,hkin,b2,v2]
    simp only [Bool.true_and,Bool.and_eq_true,decide_eq_true_eq]
    refine ⟨by omega,Yhn.2 fun i hi=> ?_⟩
    rw [hkd]
    exact (hev i hi).2.1
 ·exfalso
  have:=Qfi (x:=x) (y:=y) hb hf1
  rw [h0] at this
  exact hf1 this.symm
end Go.Proofs.YtgikochfffdpfaaGreatDoor