/- No condition. -/
import Derived.Test.YtnamlooifcpoaaaGreatDoorScreensNextMv
import Derived.Test.YtnamlooifcpoaaaGreatDoorScreensNextMba
import Derived.Test.YtnamlooifcpoaaaGreatDoorScreensNextMbb
import Derived.Test.YtnamlooifcpoaaaGreatDoorScreensNextMbl
import Derived.Test.YtnamlooifcpoaaaGreatDoorScreensNextMbn
namespace Go.Proofs.YtnamlooifcpoaaaGreatDoor
open Go.RowKit Go.Lib
theorem Y1u {inter:Bool}{c:Cel}(h:Ybi inter c=true):Ybi true c=true:=by
 cases inter with
 |true=>exact h
 |false=>
  unfold Ybi at h ⊢;rw[Bool.and_eq_true] at h ⊢;refine⟨h.1,?_⟩;have h2:=h.2;cases hs:c.skip with
  |true=>
   rw[hs,if_pos rfl,Bool.false_and] at h2;cases h2
  |false=>
   rw[hs,if_neg (by decide),Bool.and_eq_true,Bool.and_eq_true] at h2;rw[if_neg (by decide),Bool.and_eq_true,Bool.and_eq_true];refine⟨⟨?_,h2.1.2⟩,h2.2⟩;have h3:=h2.1.1;unfold Yfo at h3 ⊢;rw[Bool.false_and,Bool.or_false] at h3;rw[h3]
   rfl
theorem Yvt {c:Cel}(h:Ybi false c=true):Yaj c.kind=true:=by
 unfold Ybi at h;rw[Bool.and_eq_true] at h;have h2:=h.2;cases hs:c.skip with
 |true=>
  rw[hs,if_pos rfl,Bool.false_and] at h2;cases h2
 |false=>
  rw[hs,if_neg (by decide),Bool.and_eq_true,Bool.and_eq_true] at h2;have h3:=h2.1.1;unfold Yfo at h3;rw[Bool.false_and,Bool.or_false] at h3;exact h3
theorem Yso {S:ShP}(h:Yck S=true):Yb6 S.hd.fmt=true∧∀c∈Yaw S,Ybi S.hd.inter c=true:=by
 unfold Yck at h;simp only[Bool.and_eq_true,decide_eq_true_iff] at h;obtain⟨h0,-,-,h2⟩:=h;refine⟨?_,fun c hc=>?_⟩
 ·unfold Ycw at h0;rw[Bool.and_eq_true,Bool.and_eq_true] at h0;exact h0.1.2
 obtain⟨r,hr,hcr⟩:=List.mem_flatMap.1 hc;obtain⟨j,hj,rfl⟩:=List.getElem_of_mem hr;have h3:=Yes.1 h2 j hj;unfold Yc1 at h3;rw[Bool.and_eq_true,Bool.and_eq_true,List.all_eq_true] at h3;exact h3.2.2 c hcr
def Ygn (k:Int)(n:Nat→Nat)(K:Int):Bool:=Yb7 k n&&k==K
def Yfn (k:Int)(n:Nat→Nat)(S:ShP):Int:=if Yb0 S=0 then (if S.hd.inter && !Ygn k n S.hd.fmt then 11 else 0) else Yb0 S
theorem Y0s {k:Int}{n:Nat→Nat}{S:ShP}(h:Yb0 S≠0):Yfn k n S=Yb0 S:=if_neg h
theorem Yui {k:Int}{n:Nat→Nat}{S:ShP}(h:Yb0 S=0)(hi:S.hd.inter=true)(ha:Ygn k n S.hd.fmt=false):Yfn k n S=11:=by
 unfold Yfn;rw[if_pos h,hi,ha]
 rfl
theorem Yuj {k:Int}{n:Nat→Nat}{S:ShP}(h:Yb0 S=0)(hi:S.hd.inter=false):Yfn k n S=0:=by
 unfold Yfn;rw[if_pos h,hi]
 rfl
theorem Yuh {k:Int}{n:Nat→Nat}{S:ShP}(h:Yb0 S=0)(ha:Ygn k n S.hd.fmt=true):Yfn k n S=0:=by
 unfold Yfn;rw[if_pos h,ha];cases S.hd.inter <;> rfl
theorem Yhs {k:Int}{n:Nat→Nat}{S:ShP}(h:Yfn k n S=0):Yb0 S=0∧(S.hd.inter=true→Ygn k n S.hd.fmt=true):=by
 unfold Yfn at h;by_cases h0:Yb0 S=0
 ·rw[if_pos h0] at h;refine⟨h0,fun hi=>?_⟩;cases ha:Ygn k n S.hd.fmt with
  |true=>rfl
  |false=>rw[hi,ha] at h;cases h
 ·rw[if_neg h0] at h;exact absurd h h0
def Yi9 (S:ShP)(m:Nat):Cel:=(Yaw S).getD m Y3w
def Ysf (S:ShP)(m:Nat):Int:=(Yi6 S.hd.quant S.rows).getD m 0
def Yo9 (k:Int)(n:Nat→Nat)(f:Nat→Nat→Int)(S:ShP)(m:Nat):Nat→Int:=(Y2n k n f (m:Int) (Yi9 S m) (Ysf S m)).1
def Yhx (k:Int)(n:Nat→Nat)(f:Nat→Nat→Int)(S:ShP):Nat→(Nat→Nat→Int):=Y3s S.hd.fmt (Yo9 k n f S)
theorem Yyi {k:Int}{n:Nat→Nat}{f:Nat→Nat→Int}{S:ShP}(h:Yfn k n S=0){m:Nat}(hm:m<(Yaw S).length):Ybi true (Yi9 S m)=true∧(Ygq k n f (m:Int) (Yi9 S m)).2=0:=by
 obtain⟨h0,h1⟩:=Yhs h;obtain⟨ht,hv⟩:=Yh8 h0;have hc:Yi9 S m=(Yaw S)[m]:=by
  unfold Yi9;rw[List.getD_eq_getElem?_getD,List.getElem?_eq_getElem hm,Option.getD_some]
 have hin:=(Yso ht).2 _ (List.getElem_mem hm);rw[hc];refine⟨Y1u hin,?_⟩;unfold Ygq;cases hk:Yaj (Yaw S)[m].kind with
 |true=>rfl
 |false=>
  have hi:S.hd.inter=true:=by
   cases hi:S.hd.inter with
   |true=>rfl
   |false=>rw[hi] at hin;rw[Yvt hin] at hk;cases hk
  have ha:=h1 hi;unfold Ygn at ha;rw[Bool.and_eq_true] at ha;have hkk:k=S.hd.fmt:=by simpa using ha.2
  have h3:=Yes.1 hv m hm;rw[Nat.zero_add] at h3;unfold Ydm at h3;rw[hk,Bool.false_or,←hkk] at h3;rw[if_neg (by decide)];unfold Yxr;rw[ha.1,h3]
  rfl
theorem Yj7 {k:Int}{n:Nat→Nat}{f:Nat→Nat→Int}{S:ShP}(h:Yfn k n S=0){m:Nat}(hm:m<(Yaw S).length):
  Y2n k n f (m:Int) (Yi9 S m) (Ysf S m)=(Yo9 k n f S m,0)∧Yo9 k n f S m=Ydb (Ygq k n f (m:Int) (Yi9 S m)).1 (ptF (Yf2 (Yi9 S m) (Ysf S m))):=by
 obtain⟨h1,h2⟩:=Yyi (f:=f) h hm;have e:Y2n k n f (m:Int) (Yi9 S m) (Ysf S m)=(Ydb (Ygq k n f (m:Int) (Yi9 S m)).1 (ptF (Yf2 (Yi9 S m) (Ysf S m))),0):=by
  unfold Y2n;rw[if_pos h1,if_pos h2]
 unfold Yo9;rw[e];exact⟨rfl,rfl⟩
theorem Ygf {k:Int}{n:Nat→Nat}{S:ShP}(h:Yfn k n S=0):Yb6 S.hd.fmt=true∧(Yaw S).length=Ybg S.hd.fmt∧(Yi6 S.hd.quant S.rows).length=(Yaw S).length:=by
 have h0:=(Yh8 (Yhs h).1).1;exact⟨(Yso h0).1,Yvv h0,Yg3 _ _⟩
theorem Y2s {S:ShP}{i j:Nat}(hi:i<S.rows.length)(hj:j<S.rows[i].cels.length):Yi9 S ((Yds S i).length+j)=S.rows[i].cels[j]∧(Yds S i).length+j<(Yaw S).length:=by
 have h:=Yf9 S (i+1);rw[Ydt S hi,List.length_append] at h;refine⟨?_,by omega⟩;have e:Yaw S=Yds S (i+1)++(S.rows.drop (i+1)).flatMap (·.cels):=by
  unfold Yds Yaw;rw[←List.flatMap_append,List.take_append_drop]
 unfold Yi9;rw[e,Ydt S hi,List.getD_eq_getElem?_getD,List.append_assoc,List.getElem?_append_right (by omega),Nat.add_sub_cancel_left,List.getElem?_append_left hj,List.getElem?_eq_getElem hj,Option.getD_some]
theorem Yvu {S:ShP}{i:Nat}(hi:i<S.rows.length):(Yds S (i+1)).length=(Yds S i).length+S.rows[i].cels.length:=by
 rw[Ydt S hi,List.length_append]
set_option maxRecDepth 1000000 in
set_option maxHeartbeats 4000000 in
theorem Yug (k:Int)(v:Nat→Value)(n:Nat→Nat)(S:ShP)(p b:Option Addr)(ca cb:Nat)(w:World)(hv:∀p,p<3→∃a c,v p=.slice a (n p) c)(hl:S.hd.supp.length≤maxLen)(hn:S.rows.length≤maxLen)(hs:Ydf w p S.hd.supp)(hr:Ycu w b S.rows)(hm:(Yaw S).length≤1048576)(hc:∀c∈Yaw S,∀k,k<6→(c.ev k).length≤1048576):
  Calls Tryz.prog 9 #[.agg (frA k v),.agg (Yaz S.hd (.slice p S.hd.supp.length ca) (.slice b S.rows.length cb) S.zeros).toArray] w fun e w'=>e=.returned (.int .i64 (Yfn k n S))∧Below w.heap.size w w':=by
 have CK:=fun x (hx:Below w.heap.size w x)=>Yqt S p b ca cb x hl hn (hs.below hx) (hr.below hx) hm hc;have CR:=Lib.hid (fun(x:World)=>Yoe k v n x hv);obtain⟨zs,hZ⟩:∃zs,Yaz S.hd (.slice p S.hd.supp.length ca) (.slice b S.rows.length cb) S.zeros=zs:=⟨_,rfl⟩;have z2:zs[2]? =some (.int .i64 S.hd.fmt):=by rw[←hZ];rfl
 have z3:zs[3]? =some (.bool S.hd.inter):=by rw[←hZ];rfl
 have HSZ:(Tryz.prog.info? 29).map (·.size)=some zs.toArray.size:=by rw[show zs.toArray.size=8 by rw[←hZ];rfl];kernel_rfl
 rw[hZ] at CK ⊢;obtain⟨B,wA,wB,hB,hwA,hwB,hzA,hzB,hC0,hC1,hbC⟩:=Yej w (.cells (frA k v) 25 (0,0)) (.cells zs.toArray 29 (0,0));have hup:∀x,Below (B+2) wB x→Below w.heap.size w x:=fun x hx=>hB▸hbC.trans (hx.mono (by omega));have UP:=Lib.hid hup;have C0:=Lib.hid (fun(x:World) (hx:Below (B+2) wB x)=>((hx.block B (by omega)).trans hC0:x.heap[B]? =some (.cells (frA k v) 25 (0,0))))
 have K0:=Lib.hid (fun(x:World) (hx:Below (B+2) wB x)=>(Ybn (T:=25) (v:=v) ((hx.block B (by omega)).trans hC0):x.cell? ⟨B,0,none⟩=some (.int .i64 k)));have K2:=Lib.hid (fun(x:World) (hx:Below (B+2) wB x)=>(Yac ((hx.block (B+1) (by omega)).trans hC1) z2:x.cell? ⟨B+1,2,none⟩=some (.int .i64 S.hd.fmt)))
 have K3:=Lib.hid (fun(x:World) (hx:Below (B+2) wB x)=>(Yac ((hx.block (B+1) (by omega)).trans hC1) z3:x.cell? ⟨B+1,3,none⟩=some (.bool S.hd.inter)));have HSX:=Ya1 Ybh k v;have CO:=CK wB (hup wB (Below.refl _ _));rw[hzB] at CO;have h1:=hC1;have HWA:=Lib.hid hwA;have HWB:=Lib.hid hwB;have HB:=Lib.hid hB;have HZB:=Lib.hid hzB
 have SE:=Lib.hid (show Yfn k n S=if Yb0 S=0 then (if S.hd.inter && !(Yb7 k n&&k==S.hd.fmt) then 11 else 0) else Yb0 S from rfl);generalize Yfn k n S=R at *;generalize Yb0 S=E at *;generalize frA k v=X at *;generalize Yb7 k n=rf at *;generalize S.hd.fmt=K at *;generalize S.hd.inter=inter at *;clear hwA hwB hB hC0 hC1 hzA hzB hbC hup CK z2 z3 hZ hv hl hn hs hr hm hc;by_cases h0:E=0
 case neg=>
  have t1:(E != 0)=true:=by simpa [bne] using h0
  rw[if_neg h0] at SE;clear h0
  go_enter Tryz.func9,Tryz.ntmps9
  go_wp2_with (rw[HWA.out,HB.out,HWB.out];with_reducible refine wpList_load_row rfl 29 _ rfl (B+1) rfl 29 zs.toArray (0,0) _ h1 Tryz.underlying29 rfl HSZ ?_)
  refine CO.mono ?_;rintro e x1 ⟨rfl,hb1⟩;have hend:=UP.out _ hb1
  go_wp2
  go_ret
  exact⟨by rw[SE.out];rfl,hend⟩
 subst h0;rw[if_pos rfl] at SE;cases inter with
 |false=>
  go_enter Tryz.func9,Tryz.ntmps9
  go_wp2_with (rw[HWA.out,HB.out,HWB.out];with_reducible refine wpList_load_row rfl 29 _ rfl (B+1) rfl 29 zs.toArray (0,0) _ h1 Tryz.underlying29 rfl HSZ ?_)
  refine CO.mono ?_;rintro e x1 ⟨rfl,hb1⟩;have hend:=UP.out _ hb1;have k3:=K3.out _ hb1
  go_wp2
  go_ret
  exact⟨by rw[SE.out];rfl,hend⟩
 |true=>
  have LOAD:=Lib.hid (fun(x y:World) (hx:Below (B+2) wB x) (hy:Below x.heap.size x y)=>(hx.trans (hy.mono (by have:=hx.size;have:=HZB.out;omega)):Below (B+2) wB y));cases rf with
  |false=>
   go_enter Tryz.func9,Tryz.ntmps9
   go_wp2_with (rw[HWA.out,HB.out,HWB.out];with_reducible refine wpList_load_row rfl 29 _ rfl (B+1) rfl 29 zs.toArray (0,0) _ h1 Tryz.underlying29 rfl HSZ ?_)
   refine CO.mono ?_;rintro e x1 ⟨rfl,hb1⟩;have k3:=K3.out _ hb1;have c0:=C0.out _ hb1
   go_wp2_with (with_reducible refine Yam (by kernel_rfl) 25 _ rfl B rfl 25 X (0,0) _ c0 Tryz.underlying25 rfl HSX ?_)
   refine(CR.out _).mono ?_;rintro e x2 ⟨rfl,hb2⟩;have hend:=UP.out _ (LOAD.out _ _ hb1 hb2)
   go_wp2
   go_ret
   exact⟨by rw[SE.out];rfl,hend⟩
  |true=>
   by_cases hk:k=K
   ·have t2:(k != K)=false:=by simp[hk]
    have t3:(k==K)=true:=by simp[hk]
    rw[t3] at SE;clear hk t3
    go_enter Tryz.func9,Tryz.ntmps9
    go_wp2_with (rw[HWA.out,HB.out,HWB.out];with_reducible refine wpList_load_row rfl 29 _ rfl (B+1) rfl 29 zs.toArray (0,0) _ h1 Tryz.underlying29 rfl HSZ ?_)
    refine CO.mono ?_;rintro e x1 ⟨rfl,hb1⟩;have k3:=K3.out _ hb1;have c0:=C0.out _ hb1
    go_wp2_with (with_reducible refine Yam (by kernel_rfl) 25 _ rfl B rfl 25 X (0,0) _ c0 Tryz.underlying25 rfl HSX ?_)
    refine(CR.out _).mono ?_;rintro e x2 ⟨rfl,hb2⟩;have hb3:=LOAD.out _ _ hb1 hb2;have hend:=UP.out _ hb3;have k0:=K0.out _ hb3;have k2:=K2.out _ hb3
    go_wp2
    go_ret
    exact⟨by rw[SE.out];rfl,hend⟩
   ·have t2:(k != K)=true:=by simpa [bne] using hk
    have t3:(k==K)=false:=by simpa using hk
    rw[t3] at SE;clear hk t3
    go_enter Tryz.func9,Tryz.ntmps9
    go_wp2_with (rw[HWA.out,HB.out,HWB.out];with_reducible refine wpList_load_row rfl 29 _ rfl (B+1) rfl 29 zs.toArray (0,0) _ h1 Tryz.underlying29 rfl HSZ ?_)
    refine CO.mono ?_;rintro e x1 ⟨rfl,hb1⟩;have k3:=K3.out _ hb1;have c0:=C0.out _ hb1
    go_wp2_with (with_reducible refine Yam (by kernel_rfl) 25 _ rfl B rfl 25 X (0,0) _ c0 Tryz.underlying25 rfl HSX ?_)
    refine(CR.out _).mono ?_;rintro e x2 ⟨rfl,hb2⟩;have hb3:=LOAD.out _ _ hb1 hb2;have hend:=UP.out _ hb3;have k0:=K0.out _ hb3;have k2:=K2.out _ hb3
    go_wp2
    go_ret
    exact⟨by rw[SE.out];rfl,hend⟩
end Go.Proofs.YtnamlooifcpoaaaGreatDoor