/- No condition. -/
import Derived.Test.YtnamlooifcpoaaaGreatDoorScreensStillMba
import Derived.Test.YtnamlooifcpoaaaGreatDoorScreensStillMbm
namespace Go.Proofs.YtnamlooifcpoaaaGreatDoor
open Go.RowKit Go.Lib
theorem Yyi {inter:Bool}{c:Cel}(h:Ybb inter c=true):Ybb true c=true:=by
 cases inter with
 |true=>exact h
 |false=>
  unfold Ybb at h ⊢;rw[Bool.and_eq_true] at h ⊢;refine⟨h.1,?_⟩;have h2:=h.2;cases hs:c.skip with
  |true=>
   rw[hs,if_pos rfl,Bool.false_and] at h2;cases h2
  |false=>
   rw[hs,if_neg (by decide),Bool.and_eq_true,Bool.and_eq_true] at h2;rw[if_neg (by decide),Bool.and_eq_true,Bool.and_eq_true];refine⟨⟨?_,h2.1.2⟩,h2.2⟩;have h3:=h2.1.1;unfold Yib at h3 ⊢;rw[Bool.false_and,Bool.or_false] at h3;rw[h3]
   rfl
theorem Yr8 {c:Cel}(h:Ybb false c=true):Ya3 c.kind=true:=by
 unfold Ybb at h;rw[Bool.and_eq_true] at h;have h2:=h.2;cases hs:c.skip with
 |true=>
  rw[hs,if_pos rfl,Bool.false_and] at h2;cases h2
 |false=>
  rw[hs,if_neg (by decide),Bool.and_eq_true,Bool.and_eq_true] at h2;have h3:=h2.1.1;unfold Yib at h3;rw[Bool.false_and,Bool.or_false] at h3;exact h3
theorem Ypd {S:ShP}(h:Ych S=true):Ybr S.hd.fmt=true∧∀c∈Yaw S,Ybb S.hd.inter c=true:=by
 unfold Ych at h;simp only[Bool.and_eq_true,decide_eq_true_iff] at h;obtain⟨h0,-,-,h2⟩:=h;refine⟨?_,fun c hc=>?_⟩
 ·unfold Ycy at h0;rw[Bool.and_eq_true,Bool.and_eq_true] at h0;exact h0.1.2
 obtain⟨r,hr,hcr⟩:=List.mem_flatMap.1 hc;obtain⟨j,hj,rfl⟩:=List.getElem_of_mem hr;have h3:=Yc1.1 h2 j hj;unfold Ydw at h3;rw[Bool.and_eq_true,Bool.and_eq_true,List.all_eq_true] at h3;exact h3.2.2 c hcr
def Yec (k:Int)(n:Nat→Nat)(K:Int):Bool:=Ybk k n&&k==K
def Yf2 (k:Int)(n:Nat→Nat)(S:ShP):Int:=if Ybe S=0 then (if S.hd.inter && !Yec k n S.hd.fmt then 11 else 0) else Ybe S
theorem Yxa {k:Int}{n:Nat→Nat}{S:ShP}(h:Ybe S≠0):Yf2 k n S=Ybe S:=if_neg h
theorem Yqu {k:Int}{n:Nat→Nat}{S:ShP}(h:Ybe S=0)(hi:S.hd.inter=true)(ha:Yec k n S.hd.fmt=false):Yf2 k n S=11:=by
 unfold Yf2;rw[if_pos h,hi,ha]
 rfl
theorem Yqv {k:Int}{n:Nat→Nat}{S:ShP}(h:Ybe S=0)(hi:S.hd.inter=false):Yf2 k n S=0:=by
 unfold Yf2;rw[if_pos h,hi]
 rfl
theorem Yjl {k:Int}{n:Nat→Nat}{S:ShP}(h:Ybe S=0)(ha:Yec k n S.hd.fmt=true):Yf2 k n S=0:=by
 unfold Yf2;rw[if_pos h,ha];cases S.hd.inter <;> rfl
theorem Yhy {k:Int}{n:Nat→Nat}{S:ShP}(h:Yf2 k n S=0):Ybe S=0∧(S.hd.inter=true→Yec k n S.hd.fmt=true):=by
 unfold Yf2 at h;by_cases h0:Ybe S=0
 ·rw[if_pos h0] at h;refine⟨h0,fun hi=>?_⟩;cases ha:Yec k n S.hd.fmt with
  |true=>rfl
  |false=>rw[hi,ha] at h;cases h
 ·rw[if_neg h0] at h;exact absurd h h0
def Yjk (S:ShP)(m:Nat):Cel:=(Yaw S).getD m Yzv
def Yrm (S:ShP)(m:Nat):Int:=(Yih S.hd.quant S.rows).getD m 0
def Ym7 (k:Int)(n:Nat→Nat)(f:Nat→Nat→Int)(S:ShP)(m:Nat):Nat→Int:=(Yt9 k n f (m:Int) (Yjk S m) (Yrm S m)).1
def Yjm (k:Int)(n:Nat→Nat)(f:Nat→Nat→Int)(S:ShP):Nat→(Nat→Nat→Int):=Y0j S.hd.fmt (Ym7 k n f S)
theorem Yzf {k:Int}{n:Nat→Nat}{f:Nat→Nat→Int}{S:ShP}(h:Yf2 k n S=0){m:Nat}(hm:m<(Yaw S).length):Ybb true (Yjk S m)=true∧(Yl7 k n f (m:Int) (Yjk S m)).2=0:=by
 obtain⟨h0,h1⟩:=Yhy h;obtain⟨ht,hv⟩:=Yjo h0;have hc:Yjk S m=(Yaw S)[m]:=by
  unfold Yjk;rw[List.getD_eq_getElem?_getD,List.getElem?_eq_getElem hm,Option.getD_some]
 have hin:=(Ypd ht).2 _ (List.getElem_mem hm);rw[hc];refine⟨Yyi hin,?_⟩;unfold Yl7;cases hk:Ya3 (Yaw S)[m].kind with
 |true=>rfl
 |false=>
  have hi:S.hd.inter=true:=by
   cases hi:S.hd.inter with
   |true=>rfl
   |false=>rw[hi] at hin;rw[Yr8 hin] at hk;cases hk
  have ha:=h1 hi;unfold Yec at ha;rw[Bool.and_eq_true] at ha;have hkk:k=S.hd.fmt:=by simpa using ha.2
  have h3:=Yc1.1 hv m hm;rw[Nat.zero_add] at h3;unfold Yd0 at h3;rw[hk,Bool.false_or,←hkk] at h3;rw[if_neg (by decide)];unfold Ynu;rw[ha.1,h3]
  rfl
theorem Ymi {k:Int}{n:Nat→Nat}{f:Nat→Nat→Int}{S:ShP}(h:Yf2 k n S=0){m:Nat}(hm:m<(Yaw S).length):
  Yt9 k n f (m:Int) (Yjk S m) (Yrm S m)=(Ym7 k n f S m,0)∧Ym7 k n f S m=Yfc (Yl7 k n f (m:Int) (Yjk S m)).1 (ptF (Yik (Yjk S m) (Yrm S m))):=by
 obtain⟨h1,h2⟩:=Yzf (f:=f) h hm;have e:Yt9 k n f (m:Int) (Yjk S m) (Yrm S m)=(Yfc (Yl7 k n f (m:Int) (Yjk S m)).1 (ptF (Yik (Yjk S m) (Yrm S m))),0):=by
  unfold Yt9;rw[if_pos h1,if_pos h2]
 unfold Ym7;rw[e];exact⟨rfl,rfl⟩
theorem Yet {k:Int}{n:Nat→Nat}{S:ShP}(h:Yf2 k n S=0):Ybr S.hd.fmt=true∧(Yaw S).length=Ybc S.hd.fmt∧(Yih S.hd.quant S.rows).length=(Yaw S).length:=by
 have h0:=(Yjo (Yhy h).1).1;exact⟨(Ypd h0).1,Ylj h0,Ye9 _ _⟩
theorem Yze {S:ShP}{i j:Nat}(hi:i<S.rows.length)(hj:j<S.rows[i].cels.length):Yjk S ((Yd9 S i).length+j)=S.rows[i].cels[j]∧(Yd9 S i).length+j<(Yaw S).length:=by
 have h:=Yiz S (i+1);rw[Yep S hi,List.length_append] at h;refine⟨?_,by omega⟩;have e:Yaw S=Yd9 S (i+1)++(S.rows.drop (i+1)).flatMap (·.cels):=by
  unfold Yd9 Yaw;rw[←List.flatMap_append,List.take_append_drop]
 unfold Yjk;rw[e,Yep S hi,List.getD_eq_getElem?_getD,List.append_assoc,List.getElem?_append_right (by omega),Nat.add_sub_cancel_left,List.getElem?_append_left hj,List.getElem?_eq_getElem hj,Option.getD_some]
theorem Ysb {S:ShP}{i:Nat}(hi:i<S.rows.length):(Yd9 S (i+1)).length=(Yd9 S i).length+S.rows[i].cels.length:=by
 rw[Yep S hi,List.length_append]
end Go.Proofs.YtnamlooifcpoaaaGreatDoor