/- No condition. -/
import Derived.Test.YtndbeacoaimdgaaDoorQuantsOfMa
import Derived.Test.YtndbeacoaimdgaaDoorQuantsOfMl
import Derived.Test.YtndbeacoaimdgaaDoorQuantsOfMm
import Derived.Test.YtndbeacoaimdgaaDoorQuantsOfMn
import Derived.Test.YtndbeacoaimdgaaDoorQuantsOfMr
import Derived.Test.YtndbeacoaimdgaaDoorQuantsOfMx
import Derived.WalkMore
import Derived.Laws.Slices
import Derived.Laws.IdiomCopy
import Derived.Laws.BytesArg
import Derived.Laws.World
namespace Go.Proofs.YtndbeacoaimdgaaDoor
open Go.RowKit Go.Lib
set_option maxRecDepth 100000 in
theorem Yfn (k:Int)(w:World):Calls Tryd.prog 24 #[.int .i64 k] w fun e w'=>e=.returned (.int .i64 (acr k:Int))∧Below w.heap.size w w':=by
 have c:=fun w=>Ycs k w;obtain⟨d1,-⟩:=Ymp k;obtain⟨-,-,-,-,m1,m2⟩:=Ycd k;have w1:IntKind.i64.wrap (acr k:Int)=(acr k:Int):=Yd3 (by omega);have ix0:=fun w=>(Ycc (Yd6 k) (Yd5 k) (Ye0 k) (Yfd k) w).1;have ix1:=fun w=>(Ycc (Yd6 k) (Yd5 k) (Ye0 k) (Yfd k) w).2;unfold Ync at c;clear m1 m2;generalize acr k=a at *;generalize Yd6 k=W at *;generalize Yd5 k=H at *;generalize Ye0 k=R at *
 generalize Yfd k=L at *
 go_enter Tryd.func24,Tryd.ntmps24
 go_wp2_with fail
 refine(c _).mono ?_;rintro e x1 ⟨rfl,hb1⟩
 go_wp2
 go_ret
 exact⟨rfl,hb1⟩
theorem Ynd (k n:Int)(w:World):Calls Tryd.prog 60 #[.int .i64 k,.int .i64 n] w fun e w'=>e=.returned (.bool (Yoi k n))∧w=w':=by
 have c:=fun w=>Yd0 k w;obtain⟨h1,h2,_⟩:=Ycd k;rw[←h1,←h2] at c;have hs:(acr k:Int)*(dow k:Int)=(Ybv k:Int):=(Int.natCast_mul _ _).symm;have hw:IntKind.i64.wrap (Ybv k:Int)=(Ybv k:Int):=Yd3 (by have:=Ygw k;omega);have hq:=Lib.hid (show Yoi k n=(decide (0≤n)&&decide (n<(Ybv k:Int))) from rfl);generalize Yoi k n=y at *;clear h1 h2;generalize acr k=a at *;generalize dow k=b at *
 generalize Ybv k=m at *;cases t0:decide (0≤n)
 ·rw[t0] at hq
  go_enter Tryd.func60,Tryd.ntmps60
  go_wp2_with (with_reducible refine(c _).mono ?_;rintro e w1 ⟨rfl,rfl⟩)
  go_ret
  exact⟨Yad (by rw[hq.out];rfl),rfl⟩
 ·rw[t0] at hq
  go_enter Tryd.func60,Tryd.ntmps60
  go_wp2_with (with_reducible refine(c _).mono ?_;rintro e w1 ⟨rfl,rfl⟩)
  go_ret
  exact⟨Yad (by rw[hq.out];rfl),rfl⟩
theorem Yg8 (c m:Nat)(v:Int)(w:World)(hc:c≤1000)(hm:m≤1000):Calls Tryd.prog 61 #[.int .i64 (c:Int),.int .i64 (m:Int),.int .i64 v] w fun e w'=>e=.returned (.bool (Ybf c m v))∧w=w':=by
 have hq:=Lib.hid (show Ybf c m v=(decide (-32≤v∧v≤31)&&decide (0≤32*(c:Int)+v∧32*(c:Int)+v+30≤32*(m:Int)-2)) from rfl);generalize Ybf c m v=y at *;by_cases h1:v < -32
 ·have t1:decide (v < -32)=true:=decide_eq_true h1;rw[decide_eq_false (show ¬ (-32≤v∧v≤31) by omega)] at hq
  go_enter Tryd.func61,Tryd.ntmps61
  go_wp2
  go_ret
  exact⟨Yad (by rw[hq.out];rfl),rfl⟩
 have t1:decide (v < -32)=false:=decide_eq_false h1;by_cases h2:31<v
 ·have t2:decide (31<v)=true:=decide_eq_true h2;rw[decide_eq_false (show ¬ (-32≤v∧v≤31) by omega)] at hq
  go_enter Tryd.func61,Tryd.ntmps61
  go_wp2
  go_ret
  exact⟨Yad (by rw[hq.out];rfl),rfl⟩
 have t2:decide (31<v)=false:=decide_eq_false h2;rw[decide_eq_true (show -32≤v∧v≤31 by omega)] at hq;by_cases h3:0≤32*(c:Int)+v
 ·have t3:decide (0≤32*(c:Int)+v)=true:=decide_eq_true h3;have hr:decide (0≤32*(c:Int)+v∧32*(c:Int)+v+30≤32*(m:Int)-2)=decide (32*(c:Int)+v+30≤2*(16*(m:Int)-1)):=by
   by_cases h:32*(c:Int)+v+30≤2*(16*(m:Int)-1)
   ·rw[decide_eq_true h,decide_eq_true];omega
   ·rw[decide_eq_false h,decide_eq_false];omega
  rw[hr] at hq;clear hr
  go_enter Tryd.func61,Tryd.ntmps61
  go_wp2
  go_ret
  exact⟨Yad (by rw[hq.out];rfl),rfl⟩
 ·have t3:decide (0≤32*(c:Int)+v)=false:=decide_eq_false h3;rw[decide_eq_false (show ¬ (0≤32*(c:Int)+v∧32*(c:Int)+v+30≤32*(m:Int)-2) by omega)] at hq
  go_enter Tryd.func61,Tryd.ntmps61
  go_wp2
  go_ret
  exact⟨Yad (by rw[hq.out];rfl),rfl⟩
theorem Ykm {k:Int}{n:Nat}(h:n<Ybv k):(n:Int).tmod (acr k:Int)=((n%acr k:Nat):Int)∧(n:Int).tdiv (acr k:Int)=((n / acr k:Nat):Int)∧IntKind.i64.wrap ((n / acr k:Nat):Int)=((n / acr k:Nat):Int)∧((acr k:Int)==0)=false∧n%acr k<acr k∧n / acr k<dow k∧acr k≤88∧dow k≤72:=by
 obtain⟨h0,h1,h2⟩:=Ylg h;obtain⟨-,-,-,-,h3,h4⟩:=Ycd k;refine⟨by rw[Int.tmod_eq_emod_of_nonneg (by omega)];rfl,by rw[Int.tdiv_eq_ediv_of_nonneg (by omega)];rfl,Yq2 (by omega),by simp;omega,h1,h2,h3,h4⟩
set_option maxRecDepth 100000 in
set_option maxHeartbeats 2000000 in
theorem Yo6 (k n a b:Int)(w:World):Calls Tryd.prog 45 #[.int .i64 k,.int .i64 n,.agg (Ymm a b)] w fun e w'=>e=.returned (.bool (Ykt k n a b))∧Below w.heap.size w w':=by
 have c1:=fun w=>Ynd k n w;have c2:=fun w=>Yd0 k w;obtain⟨e1,e2,-⟩:=Ycd k;rw[←e1,←e2] at c2;clear e1 e2;have hq:=Lib.hid (show Ykt k n a b=(Yoi k n&&(Ybf (n.toNat%acr k) (acr k) a&&Ybf (n.toNat / acr k) (dow k) b)) from rfl);generalize Ykt k n a b=y at *;obtain⟨B,hB⟩:∃B,w.heap.size=B:=⟨_,rfl⟩;obtain⟨wA,hwA⟩:∃wA,w.alloc (.cells (Ymm a b) 38 (0,0))=wA:=⟨_,rfl⟩
 have hA:wA.heap[B]? =some (.cells (Ymm a b) 38 (0,0)):=by rw[←hwA,←hB];exact heap_alloc_new w _
 have hz:wA.heap.size=B+1:=by rw[←hwA,←hB];simp
 have HC:=Lib.hid (fun(x:World) (hx:Below (B+1) wA x)=>Yp3 ((hx.block B (by omega)).trans hA));have hb:Below w.heap.size w wA:=by rw[←hwA];exact(Below.refl _ w).alloc (Nat.le_refl _) _
 have HE:=Lib.hid (fun(x:World) (hx:Below (B+1) wA x)=>(hb.trans (hx.mono (by omega)):Below w.heap.size w x));unfold Ymm at *;have HWA:=Lib.hid hwA;have HB:=Lib.hid hB;clear hA hz hb hwA hB;cases hc:Yoi k n with
 |false=>
  rw[hc] at c1 hq;clear hc
  go_enter Tryd.func45,Tryd.ntmps45
  go_wp2_with (first|(with_reducible refine(c1 _).mono ?_;rintro e w1 ⟨rfl,rfl⟩)|(with_reducible refine(c2 _).mono ?_;rintro e w1 ⟨rfl,rfl⟩))
  go_ret
  exact⟨Yad (by rw[hq.out];rfl),by rw[HWA.out];exact HE.out _ (Below.refl _ _)⟩
 |true=>
  rw[hc] at c1 hq;obtain⟨q0,q1⟩:=Yhs.1 hc;obtain⟨q,rfl⟩:∃q:Nat,n=(q:Int):=⟨n.toNat,by omega⟩;rw[Int.toNat_natCast] at hq q1;obtain⟨r1,r2,r3,z0,m1,m2,m3,m4⟩:=Ykm q1;have C3:=Lib.hid (fun x (hx:Below (B+1) wA x)=>(Yg8 (q%acr k) (acr k) a x (by omega) (by omega)).mono fun e y h=>(⟨h.1,h.2▸hx⟩:e=.returned (.bool (Ybf (q%acr k) (acr k) a))∧Below (B+1) wA y))
  have C4:=Lib.hid (fun x (hx:Below (B+1) wA x)=>(Yg8 (q / acr k) (dow k) b x (by omega) (by omega)).mono fun e y h=>(⟨h.1,h.2▸hx⟩:e=.returned (.bool (Ybf (q / acr k) (dow k) b))∧Below (B+1) wA y));clear hc q1 q0;generalize q%acr k=u at *;generalize q / acr k=v at *;generalize acr k=A at *;generalize dow k=D at *;cases hx:Ybf u A a with
  |false=>
   rw[hx] at C3 hq
   go_enter Tryd.func45,Tryd.ntmps45
   go_wp2_with (first|(with_reducible refine(c1 _).mono ?_;rintro e w1 ⟨rfl,rfl⟩)|(with_reducible refine(c2 _).mono ?_;rintro e w1 ⟨rfl,rfl⟩))
   rw[HWA.out,HB.out];refine Yag (S:=fun x=>Below (B+1) wA x) 17 (by kernel_rfl) (by kernel_rfl) (Below.refl _ _).drew ?_;simp only[List.take_succ_cons,List.take_zero,List.drop_succ_cons,List.drop_zero];refine Yab (v:=?vp0) (by kernel_rfl) ?m ?_;(case m=>(intro x _;go_simp;try with_reducible rfl));simp only[Yaa]
   refine Yab (v:=?vp1) (by kernel_rfl) ?m ?_;(case m=>(intro x _;go_simp;try with_reducible rfl));simp only[Yaa];refine Yab (v:=?vp2) (by kernel_rfl) ?m ?_;(case m=>(intro x _;go_simp;rw[if_neg (by omega)]));simp only[Yaa];refine Yab (v:=?vp3) (by kernel_rfl) ?m ?_;(case m=>(intro x _;go_simp;try with_reducible rfl));simp only[Yaa]
   refine Yab (v:=?vp4) (by kernel_rfl) ?m ?_;(case m=>(intro x _;go_simp;try with_reducible rfl));simp only[Yaa];refine Yaf 3 _ ⟨B,0,none⟩ (.int .i64 a) (by kernel_rfl) rfl rfl (fun x hx=>by have c0:=(HC.out x hx).1;go_simp) ?_;simp only[Yaa];refine Yai (by kernel_rfl) C3.out (fun _=>by kernel_rfl) ?_;simp only[Yaa]
   refine Yab (v:=?vp7) (by kernel_rfl) ?m ?_;(case m=>(intro x _;go_simp;try with_reducible rfl));simp only[Yaa];refine Yaw (by kernel_rfl) ?_;simp only[Yaa];refine Yaw (by kernel_rfl) ?_;simp only[Yaa];refine Yaw (by kernel_rfl) ?_;simp only[Yaa];refine Yaw (by kernel_rfl) ?_;simp only[Yaa];refine Yaw (by kernel_rfl) ?_;simp only[Yaa];refine Yaw (by kernel_rfl) ?_;simp only[Yaa]
   refine Yaw (by kernel_rfl) ?_;simp only[Yaa];refine Yab (v:=?vp15) (by kernel_rfl) ?m ?_;(case m=>(intro x _;go_simp;try with_reducible rfl));simp only[Yaa];refine Yab (v:=?vp16) (by kernel_rfl) ?m ?_;(case m=>(intro x _;go_simp;try with_reducible rfl));simp only[Yaa];refine Yax fun x hx=>?_
   go_wp2
   go_ret
   exact⟨Yad (by rw[hq.out];rfl),HE.out _ hx⟩
  |true=>
   rw[hx] at C3 hq
   go_enter Tryd.func45,Tryd.ntmps45
   go_wp2_with (first|(with_reducible refine(c1 _).mono ?_;rintro e w1 ⟨rfl,rfl⟩)|(with_reducible refine(c2 _).mono ?_;rintro e w1 ⟨rfl,rfl⟩))
   rw[HWA.out,HB.out];refine Yag (S:=fun x=>Below (B+1) wA x) 17 (by kernel_rfl) (by kernel_rfl) (Below.refl _ _).drew ?_;simp only[List.take_succ_cons,List.take_zero,List.drop_succ_cons,List.drop_zero];refine Yab (v:=?vq0) (by kernel_rfl) ?m ?_;(case m=>(intro x _;go_simp;try with_reducible rfl));simp only[Yaa]
   refine Yab (v:=?vq1) (by kernel_rfl) ?m ?_;(case m=>(intro x _;go_simp;try with_reducible rfl));simp only[Yaa];refine Yab (v:=?vq2) (by kernel_rfl) ?m ?_;(case m=>(intro x _;go_simp;rw[if_neg (by omega)]));simp only[Yaa];refine Yab (v:=?vq3) (by kernel_rfl) ?m ?_;(case m=>(intro x _;go_simp;try with_reducible rfl));simp only[Yaa]
   refine Yab (v:=?vq4) (by kernel_rfl) ?m ?_;(case m=>(intro x _;go_simp;try with_reducible rfl));simp only[Yaa];refine Yaf 3 _ ⟨B,0,none⟩ (.int .i64 a) (by kernel_rfl) rfl rfl (fun x hx=>by have c0:=(HC.out x hx).1;go_simp) ?_;simp only[Yaa];refine Yai (by kernel_rfl) C3.out (fun _=>by kernel_rfl) ?_;simp only[Yaa]
   refine Yab (v:=?vq7) (by kernel_rfl) ?m ?_;(case m=>(intro x _;go_simp;try with_reducible rfl));simp only[Yaa];refine Yab (v:=?vq8) (by kernel_rfl) ?m ?_;(case m=>(intro x _;go_simp;try with_reducible rfl));simp only[Yaa];refine Yab (v:=?vq9) (by kernel_rfl) ?m ?_;(case m=>(intro x _;go_simp;try with_reducible rfl));simp only[Yaa]
   refine Yab (v:=?vq10) (by kernel_rfl) ?m ?_;(case m=>(intro x _;go_simp;rw[if_neg (by omega)]));simp only[Yaa];refine Yab (v:=?vq11) (by kernel_rfl) ?m ?_;(case m=>(intro x _;go_simp;try with_reducible rfl));simp only[Yaa];refine Yab (v:=?vq12) (by kernel_rfl) ?m ?_;(case m=>(intro x _;go_simp;try with_reducible rfl));simp only[Yaa]
   refine Yaf 3 _ ⟨B,1,none⟩ (.int .i64 b) (by kernel_rfl) rfl rfl (fun x hx=>by have c0:=(HC.out x hx).2;go_simp) ?_;simp only[Yaa];refine Yai (by kernel_rfl) C4.out (fun _=>by kernel_rfl) ?_;simp only[Yaa];refine Yab (v:=?vq15) (by kernel_rfl) ?m ?_;(case m=>(intro x _;go_simp;try with_reducible rfl));simp only[Yaa]
   refine Yab (v:=?vq16) (by kernel_rfl) ?m ?_;(case m=>(intro x _;go_simp;try with_reducible rfl));simp only[Yaa];refine Yax fun x hx=>?_
   go_wp2
   go_ret
   exact⟨Yad (by rw[hq.out];rfl),HE.out _ hx⟩
def Yne (s h:Int):Bool:=decide (0≤s)&&decide ((s+30) / 2+(s+30)%2<h)
theorem Yi5 {c m:Nat}{v:Int}(h1:-32≤v)(h2:v≤31):Ybf c m v=Yne (32*(c:Int)+v) (16*(m:Int)):=by
 unfold Ybf Yne;rw[decide_eq_true (show -32≤v∧v≤31 from⟨h1,h2⟩),Bool.true_and,←Bool.decide_and];by_cases h:0≤32*(c:Int)+v∧32*(c:Int)+v+30≤32*(m:Int)-2
 ·rw[decide_eq_true h,decide_eq_true];omega
 ·rw[decide_eq_false h,decide_eq_false];omega
theorem Yks (s h:Int)(w:World)(h1:-100≤s)(h2:s≤100000):Calls Tryd.prog 26 #[.int .i64 s,.int .i64 h] w fun e w'=>e=.returned (.bool (Yne s h))∧w=w':=by
 have hq:=Lib.hid (show Yne s h=(decide (0≤s)&&decide ((s+30) / 2+(s+30)%2<h)) from rfl);generalize Yne s h=y at *;by_cases h0:0≤s
 ·have t0:decide (0≤s)=true:=decide_eq_true h0;rw[t0] at hq;have e1:(s+30).tdiv 2=(s+30) / 2:=Int.tdiv_eq_ediv_of_nonneg (by omega);have e2:(s+30).tmod 2=(s+30)%2:=Int.tmod_eq_emod_of_nonneg (by omega);have e3:IntKind.i64.wrap ((s+30) / 2)=(s+30) / 2:=Yd3 (by omega);have m1:0≤(s+30) / 2∧(s+30) / 2≤100000:=by omega
  have m2:0≤(s+30)%2∧(s+30)%2≤1:=by omega
  generalize (s+30) / 2=u at *;generalize (s+30)%2=v at *;clear h0
  go_enter Tryd.func26,Tryd.ntmps26
  go_wp2
  go_ret
  exact⟨Yad (by rw[hq.out];rfl),rfl⟩
 ·have t0:decide (0≤s)=false:=decide_eq_false h0;rw[t0] at hq;clear h0
  go_enter Tryd.func26,Tryd.ntmps26
  go_wp2
  go_ret
  exact⟨Yad (by rw[hq.out];rfl),rfl⟩
set_option maxRecDepth 100000 in
set_option maxHeartbeats 4000000 in
theorem Yo7 (k n a b:Int)(w:World):Calls Tryd.prog 19 #[.int .i64 k,.int .i64 n,.agg (Ymm a b)] w fun e w'=>e=.returned (.bool (Ykt k n a b))∧Below w.heap.size w w':=by
 have hq:=Lib.hid (show Ykt k n a b=(Yoi k n&&(Ybf (n.toNat%acr k) (acr k) a&&Ybf (n.toNat / acr k) (dow k) b)) from rfl);generalize Ykt k n a b=y at *;obtain⟨B,hB⟩:∃B,w.heap.size=B:=⟨_,rfl⟩;obtain⟨wA,hwA⟩:∃wA,w.alloc (.cells (Ymm a b) 38 (0,0))=wA:=⟨_,rfl⟩;have hA:wA.heap[B]? =some (.cells (Ymm a b) 38 (0,0)):=by rw[←hwA,←hB];exact heap_alloc_new w _
 have hz:wA.heap.size=B+1:=by rw[←hwA,←hB];simp
 have K:∀(x y:World),Below (B+1) wA x→Below x.heap.size x y→Below (B+1) wA y:=fun x y hx hy=>hx.trans (hy.mono (by have:=hx.size;omega));have HC:=Lib.hid (fun(x:World) (hx:Below (B+1) wA x)=>Yp3 ((hx.block B (by omega)).trans hA));have hb:Below w.heap.size w wA:=by rw[←hwA];exact(Below.refl _ w).alloc (Nat.le_refl _) _
 have HE:=Lib.hid (fun(x:World) (hx:Below (B+1) wA x)=>(hb.trans (hx.mono (by omega)):Below w.heap.size w x));have C1:=Lib.hid (fun(x:World) (hx:Below (B+1) wA x)=>((Yiw k x).mono fun e y h=>⟨h.1,K x y hx h.2⟩:Calls Tryd.prog 23 #[.int .i64 k] x fun e y=>e=.returned (.int .i64 (Ybv k:Int))∧Below (B+1) wA y))
 have C2:=Lib.hid (fun(x:World) (hx:Below (B+1) wA x)=>((Yfn k x).mono fun e y h=>⟨h.1,K x y hx h.2⟩:Calls Tryd.prog 24 #[.int .i64 k] x fun e y=>e=.returned (.int .i64 (acr k:Int))∧Below (B+1) wA y));have C3:=Lib.hid (fun(x:World) (hx:Below (B+1) wA x)=>((Ycs k x).mono fun e y h=>⟨h.1,K x y hx h.2⟩:Calls Tryd.prog 15 #[.int .i64 k] x fun e y=>e=.returned (.agg (Ync k))∧Below (B+1) wA y))
 unfold Ymm at *;have HWA:=Lib.hid hwA;have HB:=Lib.hid hB;have hS0:Below (B+1) wA wA:=Below.refl _ _;clear hA hz hb hwA hB K;cases hc:Yoi k n with
 |false=>
  rw[hc] at hq;by_cases h0:n<0
  ·have t0:decide (n<0)=true:=decide_eq_true h0;clear hc h0
   go_enter Tryd.func19,Tryd.ntmps19
   go_wp2
   rw[HWA.out]
   go_ret
   exact⟨Yad (by rw[hq.out];rfl),HE.out _ hS0⟩
  ·have t0:decide (n<0)=false:=decide_eq_false h0;have t1:decide ((Ybv k:Int)≤n)=true:=decide_eq_true (by
    have:¬ (0≤n∧n.toNat<Ybv k):=fun h=>by rw[Yhs.2 h] at hc;cases hc
    omega)
   generalize Ybv k=M at *;clear hc h0
   go_enter Tryd.func19,Tryd.ntmps19
   go_wp2_with fail
   rw[HWA.out];refine(C1.out _ hS0).mono ?_;rintro e x ⟨rfl,hx⟩
   go_wp2
   go_ret
   exact⟨Yad (by rw[hq.out];rfl),HE.out _ hx⟩
 |true=>
  rw[hc] at hq;obtain⟨q0,q1⟩:=Yhs.1 hc;obtain⟨q,rfl⟩:∃q:Nat,n=(q:Int):=⟨n.toNat,by omega⟩;rw[Int.toNat_natCast] at hq q1;obtain⟨r1,r2,r3,z0,m1,m2,m3,m4⟩:=Ykm q1;have t0:decide ((q:Int)<0)=false:=decide_eq_false (by omega);have t1:decide (Ybv k≤q)=false:=decide_eq_false (by omega);clear hc q1 q0;generalize q%acr k=u at *;generalize q / acr k=v at *
  have C4:=Lib.hid (fun(x:World) (hx:Below (B+1) wA x) (h1:-32≤a) (h2:a≤31)=>(Yks (32*(u:Int)+a) (Yd6 k) x (by omega) (by omega)).mono fun e y h=>(⟨h.1,h.2▸hx⟩:e=.returned (.bool (Yne (32*(u:Int)+a) (Yd6 k)))∧Below (B+1) wA y))
  have C5:=Lib.hid (fun(x:World) (hx:Below (B+1) wA x) (h1:-32≤b) (h2:b≤31)=>(Yks (32*(v:Int)+b) (Yd5 k) x (by omega) (by omega)).mono fun e y h=>(⟨h.1,h.2▸hx⟩:e=.returned (.bool (Yne (32*(v:Int)+b) (Yd5 k)))∧Below (B+1) wA y));have I1:=Lib.hid (fun(h1:-32≤a) (h2:a≤31)=>(by rw[(Ycd k).2.2.1];exact Yi5 h1 h2:Ybf u (acr k) a=Yne (32*(u:Int)+a) (Yd6 k)))
  have I2:=Lib.hid (fun(h1:-32≤b) (h2:b≤31)=>(by rw[(Ycd k).2.2.2.1];exact Yi5 h1 h2:Ybf v (dow k) b=Yne (32*(v:Int)+b) (Yd5 k)));have N1:=Lib.hid (fun(h:¬ (-32≤a∧a≤31))=>(by unfold Ybf;rw[decide_eq_false h];rfl:Ybf u (acr k) a=false));have N2:=Lib.hid (fun(h:¬ (-32≤b∧b≤31))=>(by unfold Ybf;rw[decide_eq_false h];rfl:Ybf v (dow k) b=false));have ix0:=fun w=>(Ycc (Yd6 k) (Yd5 k) (Ye0 k) (Yfd k) w).1
  have ix1:=fun w=>(Ycc (Yd6 k) (Yd5 k) (Ye0 k) (Yfd k) w).2;unfold Ync at C3;generalize Ybf u (acr k) a=RA at *;generalize Ybf v (dow k) b=RB at *;generalize Ybv k=M at *;generalize acr k=A at *;generalize dow k=D at *;generalize Yd6 k=W at *;generalize Yd5 k=H at *;generalize Ye0 k=R at *;generalize Yfd k=L at *
  go_enter Tryd.func19,Tryd.ntmps19
  go_wp2_with fail
  rw[HWA.out,HB.out];refine(C1.out _ hS0).mono ?_;rintro e x ⟨rfl,hx⟩
  go_wp2_with fail
  refine(C2.out _ hx).mono ?_;rintro e x2 ⟨rfl,hx2⟩
  go_wp2_with fail
  refine(C2.out _ hx2).mono ?_;rintro e x3 ⟨rfl,hx3⟩;clear hx hx2
  go_wp2
  go_loopw [9] (fun z wr=>∃i:Nat,i≤2∧z=.int .i64 i∧Below (B+1) wA wr∧(0<i→-32≤a∧a≤31)∧(1<i→-32≤b∧b≤31)) (fun z _=>2-(RowKit.intOf z).toNat)
  case atStart=>exact⟨0,by omega,rfl,hx3,by omega,by omega⟩
  case round=>
   clear hx3;obtain⟨i,hi2,rfl,hx,ha,hb⟩:=hrel;have hi3:i=0∨i=1∨i=2:=by omega
   obtain⟨l0,l1⟩:=HC.out _ hx;rcases hi3 with rfl|rfl|rfl
   case _=>
    by_cases h1:a < -32
    ·have t2:decide (a < -32)=true:=decide_eq_true h1;have e1:=N1.out (by omega);clear h1 ha hb
     go_wp2
     go_ret
     exact⟨Yad (by rw[hq.out,e1];rfl),HE.out _ hx⟩
    have t2:decide (a < -32)=false:=decide_eq_false h1;by_cases h2:31<a
    ·have t3:decide (31<a)=true:=decide_eq_true h2;have e1:=N1.out (by omega);clear h1 h2 ha hb
     go_wp2
     go_ret
     exact⟨Yad (by rw[hq.out,e1];rfl),HE.out _ hx⟩
    have t3:decide (31<a)=false:=decide_eq_false h2;have hr:-32≤a∧a≤31:=by omega
    clear h1 h2 ha hb
    go_wp2
    go_roundw
    case rel=>exact⟨1,by omega,by go_num,hx,fun _=>hr,by omega⟩
    case measure=>simp[RowKit.intOf]
   case _=>
    replace ha:=ha (by omega)
    by_cases h1:b < -32
    ·have t2:decide (b < -32)=true:=decide_eq_true h1;have e1:=N2.out (by omega);clear h1 hb
     go_wp2
     go_ret
     exact⟨Yad (by rw[hq.out,e1];cases RA <;> rfl),HE.out _ hx⟩
    have t2:decide (b < -32)=false:=decide_eq_false h1;by_cases h2:31<b
    ·have t3:decide (31<b)=true:=decide_eq_true h2;have e1:=N2.out (by omega);clear h1 h2 hb
     go_wp2
     go_ret
     exact⟨Yad (by rw[hq.out,e1];cases RA <;> rfl),HE.out _ hx⟩
    have t3:decide (31<b)=false:=decide_eq_false h2;have hr:-32≤b∧b≤31:=by omega
    clear h1 h2 hb
    go_wp2
    go_roundw
    case rel=>exact⟨2,by omega,by go_num,hx,fun _=>ha,fun _=>hr⟩
    case measure=>simp[RowKit.intOf]
   case _=>
    obtain⟨a1,a2⟩:=ha (by omega);obtain⟨b1,b2⟩:=hb (by omega);have e1:=I1.out a1 a2;have e2:=I2.out b1 b2;rw[e1,e2] at hq
    replace C4:=Lib.hid (fun(x:World) (hx:Below (B+1) wA x)=>C4.out x hx a1 a2)
    replace C5:=Lib.hid (fun(x:World) (hx:Below (B+1) wA x)=>C5.out x hx b1 b2)
    clear ha hb e1 e2 I1 I2 N1 N2 l0 l1;have w1:IntKind.i64.wrap (32*(u:Int))=32*(u:Int):=Yd3 (by omega);have w2:IntKind.i64.wrap (32*(u:Int)+a)=32*(u:Int)+a:=Yd3 (by omega);have w3:IntKind.i64.wrap (32*(v:Int))=32*(v:Int):=Yd3 (by omega);have w4:IntKind.i64.wrap (32*(v:Int)+b)=32*(v:Int)+b:=Yd3 (by omega);cases hi:Yne (32*(u:Int)+a) W with
    |false=>
     rw[hi] at C4 hq
     go_wp2
     refine Yag (S:=fun x=>Below (B+1) wA x) 21 (by kernel_rfl) (by kernel_rfl) hx.drew ?_;simp only[List.take_succ_cons,List.take_zero,List.drop_succ_cons,List.drop_zero];refine Yab (v:=?vp0) (by kernel_rfl) ?m ?_;(case m=>(intro x _;go_simp;try with_reducible rfl));simp only[Yaa];refine Yab (v:=?vp1) (by kernel_rfl) ?m ?_;(case m=>(intro x _;go_simp;try with_reducible rfl));simp only[Yaa]
     refine Yab (v:=?vp2) (by kernel_rfl) ?m ?_;(case m=>(intro x _;go_simp;try with_reducible rfl));simp only[Yaa];refine Yaf 3 _ ⟨B,0,none⟩ (.int .i64 a) (by kernel_rfl) rfl rfl (fun x hx=>by have c0:=(HC.out x hx).1;go_simp) ?_;simp only[Yaa];refine Yab (v:=?vp4) (by kernel_rfl) ?m ?_;(case m=>(intro x _;go_simp;try with_reducible rfl));simp only[Yaa]
     refine Yab (v:=?vp5) (by kernel_rfl) ?m ?_;(case m=>(intro x _;go_simp;try with_reducible rfl));simp only[Yaa];refine Yai (by kernel_rfl) C3.out (fun _=>by kernel_rfl) ?_;simp only[Yaa];refine Yab (v:=?vp7) (by kernel_rfl) ?m ?_;(case m=>(intro x _;go_simp;try with_reducible rfl));simp only[Yaa];refine Yai (by kernel_rfl) C4.out (fun _=>by kernel_rfl) ?_;simp only[Yaa]
     refine Yab (v:=?vp9) (by kernel_rfl) ?m ?_;(case m=>(intro x _;go_simp;try with_reducible rfl));simp only[Yaa];refine Yaw (by kernel_rfl) ?_;simp only[Yaa];refine Yaw (by kernel_rfl) ?_;simp only[Yaa];refine Yaw (by kernel_rfl) ?_;simp only[Yaa];refine Yaw (by kernel_rfl) ?_;simp only[Yaa];refine Yaw (by kernel_rfl) ?_;simp only[Yaa];refine Yaw (by kernel_rfl) ?_;simp only[Yaa]
     refine Yaw (by kernel_rfl) ?_;simp only[Yaa];refine Yaw (by kernel_rfl) ?_;simp only[Yaa];refine Yaw (by kernel_rfl) ?_;simp only[Yaa];refine Yab (v:=?vp19) (by kernel_rfl) ?m ?_;(case m=>(intro x _;go_simp;try with_reducible rfl));simp only[Yaa];refine Yab (v:=?vp20) (by kernel_rfl) ?m ?_;(case m=>(intro x _;go_simp;try with_reducible rfl));simp only[Yaa];refine Yax fun x hx=>?_
     go_wp2
     go_ret
     exact⟨Yad (by rw[hq.out];rfl),HE.out _ hx⟩
    |true=>
     rw[hi] at C4 hq;generalize Yne (32*(v:Int)+b) H=J at *
     go_wp2
     refine Yag (S:=fun x=>Below (B+1) wA x) 21 (by kernel_rfl) (by kernel_rfl) hx.drew ?_;simp only[List.take_succ_cons,List.take_zero,List.drop_succ_cons,List.drop_zero];refine Yab (v:=?vq0) (by kernel_rfl) ?m ?_;(case m=>(intro x _;go_simp;try with_reducible rfl));simp only[Yaa];refine Yab (v:=?vq1) (by kernel_rfl) ?m ?_;(case m=>(intro x _;go_simp;try with_reducible rfl));simp only[Yaa]
     refine Yab (v:=?vq2) (by kernel_rfl) ?m ?_;(case m=>(intro x _;go_simp;try with_reducible rfl));simp only[Yaa];refine Yaf 3 _ ⟨B,0,none⟩ (.int .i64 a) (by kernel_rfl) rfl rfl (fun x hx=>by have c0:=(HC.out x hx).1;go_simp) ?_;simp only[Yaa];refine Yab (v:=?vq4) (by kernel_rfl) ?m ?_;(case m=>(intro x _;go_simp;try with_reducible rfl));simp only[Yaa]
     refine Yab (v:=?vq5) (by kernel_rfl) ?m ?_;(case m=>(intro x _;go_simp;try with_reducible rfl));simp only[Yaa];refine Yai (by kernel_rfl) C3.out (fun _=>by kernel_rfl) ?_;simp only[Yaa];refine Yab (v:=?vq7) (by kernel_rfl) ?m ?_;(case m=>(intro x _;go_simp;try with_reducible rfl));simp only[Yaa];refine Yai (by kernel_rfl) C4.out (fun _=>by kernel_rfl) ?_;simp only[Yaa]
     refine Yab (v:=?vq9) (by kernel_rfl) ?m ?_;(case m=>(intro x _;go_simp;try with_reducible rfl));simp only[Yaa];refine Yab (v:=?vq10) (by kernel_rfl) ?m ?_;(case m=>(intro x _;go_simp;try with_reducible rfl));simp only[Yaa];refine Yab (v:=?vq11) (by kernel_rfl) ?m ?_;(case m=>(intro x _;go_simp;try with_reducible rfl));simp only[Yaa]
     refine Yab (v:=?vq12) (by kernel_rfl) ?m ?_;(case m=>(intro x _;go_simp;try with_reducible rfl));simp only[Yaa];refine Yaf 3 _ ⟨B,1,none⟩ (.int .i64 b) (by kernel_rfl) rfl rfl (fun x hx=>by have c0:=(HC.out x hx).2;go_simp) ?_;simp only[Yaa];refine Yab (v:=?vq14) (by kernel_rfl) ?m ?_;(case m=>(intro x _;go_simp;try with_reducible rfl));simp only[Yaa]
     refine Yab (v:=?vq15) (by kernel_rfl) ?m ?_;(case m=>(intro x _;go_simp;try with_reducible rfl));simp only[Yaa];refine Yai (by kernel_rfl) C3.out (fun _=>by kernel_rfl) ?_;simp only[Yaa];refine Yab (v:=?vq17) (by kernel_rfl) ?m ?_;(case m=>(intro x _;go_simp;try with_reducible rfl));simp only[Yaa];refine Yai (by kernel_rfl) C5.out (fun _=>by kernel_rfl) ?_;simp only[Yaa]
     refine Yab (v:=?vq19) (by kernel_rfl) ?m ?_;(case m=>(intro x _;go_simp;try with_reducible rfl));simp only[Yaa];refine Yab (v:=?vq20) (by kernel_rfl) ?m ?_;(case m=>(intro x _;go_simp;try with_reducible rfl));simp only[Yaa];refine Yax fun x hx=>?_
     go_wp2
     go_ret
     exact⟨Yad (by rw[hq.out];rfl),HE.out _ hx⟩
end Go.Proofs.YtndbeacoaimdgaaDoor