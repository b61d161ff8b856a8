/- No condition. -/
import Derived.Test.YtndbeacoaimdgaaDoorQuantsGoMa
import Derived.Test.YtndbeacoaimdgaaDoorQuantsGoMk
import Derived.Test.YtndbeacoaimdgaaDoorQuantsGoMl
import Derived.Test.YtndbeacoaimdgaaDoorQuantsGoMm
import Derived.Test.YtndbeacoaimdgaaDoorQuantsGoMn
import Derived.Test.YtndbeacoaimdgaaDoorQuantsGoMw
import Derived.WalkMore
import Derived.Laws.Slices
import Derived.Laws.IdiomCopy
import Derived.Laws.BytesArg
import Derived.Laws.World
namespace Go.Proofs.YtndbeacoaimdgaaDoor
open Go.RowKit Go.Lib
theorem Yle (k n:Int)(w:World):Calls Tryd.prog 60 #[.int .i64 k,.int .i64 n] w fun e w'=>e=.returned (.bool (Yn8 k n))∧w=w':=by
 have c:=fun w=>Yc7 k w;obtain⟨h1,h2,_⟩:=Yeh k;rw[←h1,←h2] at c;have hs:(acr k:Int)*(dow k:Int)=(Yek k:Int):=(Int.natCast_mul _ _).symm;have hw:IntKind.i64.wrap (Yek k:Int)=(Yek k:Int):=Yml (by have:=Yjj k;omega);have hq:=Lib.hid (show Yn8 k n=(decide (0≤n)&&decide (n<(Yek k:Int))) from rfl);generalize Yn8 k n=y at *;clear h1 h2;generalize acr k=a at *;generalize dow k=b at *
 generalize Yek k=m at *;cases t0:decide (0≤n)
 ·rw[t0] at hq
  go_enter Tryd.func60,Tryd.ntmps60
  go_wp2_with (with_reducible refine(c _).mono ?_;rintro e w1 ⟨rfl,rfl⟩)
  go_ret
  exact⟨Yad (by rw[hq.out];rfl),rfl⟩
 ·rw[t0] at hq
  go_enter Tryd.func60,Tryd.ntmps60
  go_wp2_with (with_reducible refine(c _).mono ?_;rintro e w1 ⟨rfl,rfl⟩)
  go_ret
  exact⟨Yad (by rw[hq.out];rfl),rfl⟩
theorem Yft (c m:Nat)(v:Int)(w:World)(hc:c≤1000)(hm:m≤1000):Calls Tryd.prog 61 #[.int .i64 (c:Int),.int .i64 (m:Int),.int .i64 v] w fun e w'=>e=.returned (.bool (Yc0 c m v))∧w=w':=by
 have hq:=Lib.hid (show Yc0 c m v=(decide (-32≤v∧v≤31)&&decide (0≤32*(c:Int)+v∧32*(c:Int)+v+30≤32*(m:Int)-2)) from rfl);generalize Yc0 c m v=y at *;by_cases h1:v < -32
 ·have t1:decide (v < -32)=true:=decide_eq_true h1;rw[decide_eq_false (show ¬ (-32≤v∧v≤31) by omega)] at hq
  go_enter Tryd.func61,Tryd.ntmps61
  go_wp2
  go_ret
  exact⟨Yad (by rw[hq.out];rfl),rfl⟩
 have t1:decide (v < -32)=false:=decide_eq_false h1;by_cases h2:31<v
 ·have t2:decide (31<v)=true:=decide_eq_true h2;rw[decide_eq_false (show ¬ (-32≤v∧v≤31) by omega)] at hq
  go_enter Tryd.func61,Tryd.ntmps61
  go_wp2
  go_ret
  exact⟨Yad (by rw[hq.out];rfl),rfl⟩
 have t2:decide (31<v)=false:=decide_eq_false h2;rw[decide_eq_true (show -32≤v∧v≤31 by omega)] at hq;by_cases h3:0≤32*(c:Int)+v
 ·have t3:decide (0≤32*(c:Int)+v)=true:=decide_eq_true h3;have hr:decide (0≤32*(c:Int)+v∧32*(c:Int)+v+30≤32*(m:Int)-2)=decide (32*(c:Int)+v+30≤2*(16*(m:Int)-1)):=by
   by_cases h:32*(c:Int)+v+30≤2*(16*(m:Int)-1)
   ·rw[decide_eq_true h,decide_eq_true];omega
   ·rw[decide_eq_false h,decide_eq_false];omega
  rw[hr] at hq;clear hr
  go_enter Tryd.func61,Tryd.ntmps61
  go_wp2
  go_ret
  exact⟨Yad (by rw[hq.out];rfl),rfl⟩
 ·have t3:decide (0≤32*(c:Int)+v)=false:=decide_eq_false h3;rw[decide_eq_false (show ¬ (0≤32*(c:Int)+v∧32*(c:Int)+v+30≤32*(m:Int)-2) by omega)] at hq
  go_enter Tryd.func61,Tryd.ntmps61
  go_wp2
  go_ret
  exact⟨Yad (by rw[hq.out];rfl),rfl⟩
theorem Ym1 {k:Int}{n:Nat}(h:n<Yek k):(n:Int).tmod (acr k:Int)=((n%acr k:Nat):Int)∧(n:Int).tdiv (acr k:Int)=((n / acr k:Nat):Int)∧IntKind.i64.wrap ((n / acr k:Nat):Int)=((n / acr k:Nat):Int)∧((acr k:Int)==0)=false∧n%acr k<acr k∧n / acr k<dow k∧acr k≤88∧dow k≤72:=by
 obtain⟨h0,h1,h2⟩:=Yji h;obtain⟨-,-,-,-,h3,h4⟩:=Yeh k;refine⟨by rw[Int.tmod_eq_emod_of_nonneg (by omega)];rfl,by rw[Int.tdiv_eq_ediv_of_nonneg (by omega)];rfl,Ypc (by omega),by simp;omega,h1,h2,h3,h4⟩
set_option maxRecDepth 100000 in
set_option maxHeartbeats 2000000 in
theorem Ynd (k n a b:Int)(w:World):Calls Tryd.prog 45 #[.int .i64 k,.int .i64 n,.agg (Ype a b)] w fun e w'=>e=.returned (.bool (Yn9 k n a b))∧Below w.heap.size w w':=by
 have c1:=fun w=>Yle k n w;have c2:=fun w=>Yc7 k w;obtain⟨e1,e2,-⟩:=Yeh k;rw[←e1,←e2] at c2;clear e1 e2;have hq:=Lib.hid (show Yn9 k n a b=(Yn8 k n&&(Yc0 (n.toNat%acr k) (acr k) a&&Yc0 (n.toNat / acr k) (dow k) b)) from rfl);generalize Yn9 k n a b=y at *;obtain⟨B,hB⟩:∃B,w.heap.size=B:=⟨_,rfl⟩;obtain⟨wA,hwA⟩:∃wA,w.alloc (.cells (Ype a b) 38 (0,0))=wA:=⟨_,rfl⟩
 have hA:wA.heap[B]? =some (.cells (Ype a b) 38 (0,0)):=by rw[←hwA,←hB];exact heap_alloc_new w _
 have hz:wA.heap.size=B+1:=by rw[←hwA,←hB];simp
 have HC:=Lib.hid (fun(x:World) (hx:Below (B+1) wA x)=>Ypr ((hx.block B (by omega)).trans hA));have hb:Below w.heap.size w wA:=by rw[←hwA];exact(Below.refl _ w).alloc (Nat.le_refl _) _
 have HE:=Lib.hid (fun(x:World) (hx:Below (B+1) wA x)=>(hb.trans (hx.mono (by omega)):Below w.heap.size w x));unfold Ype at *;have HWA:=Lib.hid hwA;have HB:=Lib.hid hB;clear hA hz hb hwA hB;cases hc:Yn8 k n with
 |false=>
  rw[hc] at c1 hq;clear hc
  go_enter Tryd.func45,Tryd.ntmps45
  go_wp2_with (first|(with_reducible refine(c1 _).mono ?_;rintro e w1 ⟨rfl,rfl⟩)|(with_reducible refine(c2 _).mono ?_;rintro e w1 ⟨rfl,rfl⟩))
  go_ret
  exact⟨Yad (by rw[hq.out];rfl),by rw[HWA.out];exact HE.out _ (Below.refl _ _)⟩
 |true=>
  rw[hc] at c1 hq;obtain⟨q0,q1⟩:=Ym7.1 hc;obtain⟨q,rfl⟩:∃q:Nat,n=(q:Int):=⟨n.toNat,by omega⟩;rw[Int.toNat_natCast] at hq q1;obtain⟨r1,r2,r3,z0,m1,m2,m3,m4⟩:=Ym1 q1;have C3:=Lib.hid (fun x (hx:Below (B+1) wA x)=>(Yft (q%acr k) (acr k) a x (by omega) (by omega)).mono fun e y h=>(⟨h.1,h.2▸hx⟩:e=.returned (.bool (Yc0 (q%acr k) (acr k) a))∧Below (B+1) wA y))
  have C4:=Lib.hid (fun x (hx:Below (B+1) wA x)=>(Yft (q / acr k) (dow k) b x (by omega) (by omega)).mono fun e y h=>(⟨h.1,h.2▸hx⟩:e=.returned (.bool (Yc0 (q / acr k) (dow k) b))∧Below (B+1) wA y));clear hc q1 q0;generalize q%acr k=u at *;generalize q / acr k=v at *;generalize acr k=A at *;generalize dow k=D at *;cases hx:Yc0 u A a with
  |false=>
   rw[hx] at C3 hq
   go_enter Tryd.func45,Tryd.ntmps45
   go_wp2_with (first|(with_reducible refine(c1 _).mono ?_;rintro e w1 ⟨rfl,rfl⟩)|(with_reducible refine(c2 _).mono ?_;rintro e w1 ⟨rfl,rfl⟩))
   rw[HWA.out,HB.out];refine Yaw (S:=fun x=>Below (B+1) wA x) 17 (by kernel_rfl) (by kernel_rfl) (Below.refl _ _).drew ?_;simp only[List.take_succ_cons,List.take_zero,List.drop_succ_cons,List.drop_zero];refine Yac (v:=?vp0) (by kernel_rfl) ?m ?_;(case m=>(intro x _;go_simp;try with_reducible rfl));simp only[Yaa]
   refine Yac (v:=?vp1) (by kernel_rfl) ?m ?_;(case m=>(intro x _;go_simp;try with_reducible rfl));simp only[Yaa];refine Yac (v:=?vp2) (by kernel_rfl) ?m ?_;(case m=>(intro x _;go_simp;rw[if_neg (by omega)]));simp only[Yaa];refine Yac (v:=?vp3) (by kernel_rfl) ?m ?_;(case m=>(intro x _;go_simp;try with_reducible rfl));simp only[Yaa]
   refine Yac (v:=?vp4) (by kernel_rfl) ?m ?_;(case m=>(intro x _;go_simp;try with_reducible rfl));simp only[Yaa];refine Ych 3 _ ⟨B,0,none⟩ (.int .i64 a) (by kernel_rfl) rfl rfl (fun x hx=>by have c0:=(HC.out x hx).1;go_simp) ?_;simp only[Yaa];refine Ybd (by kernel_rfl) C3.out (fun _=>by kernel_rfl) ?_;simp only[Yaa]
   refine Yac (v:=?vp7) (by kernel_rfl) ?m ?_;(case m=>(intro x _;go_simp;try with_reducible rfl));simp only[Yaa];refine Yb0 (by kernel_rfl) ?_;simp only[Yaa];refine Yb0 (by kernel_rfl) ?_;simp only[Yaa];refine Yb0 (by kernel_rfl) ?_;simp only[Yaa];refine Yb0 (by kernel_rfl) ?_;simp only[Yaa];refine Yb0 (by kernel_rfl) ?_;simp only[Yaa];refine Yb0 (by kernel_rfl) ?_;simp only[Yaa]
   refine Yb0 (by kernel_rfl) ?_;simp only[Yaa];refine Yac (v:=?vp15) (by kernel_rfl) ?m ?_;(case m=>(intro x _;go_simp;try with_reducible rfl));simp only[Yaa];refine Yac (v:=?vp16) (by kernel_rfl) ?m ?_;(case m=>(intro x _;go_simp;try with_reducible rfl));simp only[Yaa];refine Ycq fun x hx=>?_
   go_wp2
   go_ret
   exact⟨Yad (by rw[hq.out];rfl),HE.out _ hx⟩
  |true=>
   rw[hx] at C3 hq
   go_enter Tryd.func45,Tryd.ntmps45
   go_wp2_with (first|(with_reducible refine(c1 _).mono ?_;rintro e w1 ⟨rfl,rfl⟩)|(with_reducible refine(c2 _).mono ?_;rintro e w1 ⟨rfl,rfl⟩))
   rw[HWA.out,HB.out];refine Yaw (S:=fun x=>Below (B+1) wA x) 17 (by kernel_rfl) (by kernel_rfl) (Below.refl _ _).drew ?_;simp only[List.take_succ_cons,List.take_zero,List.drop_succ_cons,List.drop_zero];refine Yac (v:=?vq0) (by kernel_rfl) ?m ?_;(case m=>(intro x _;go_simp;try with_reducible rfl));simp only[Yaa]
   refine Yac (v:=?vq1) (by kernel_rfl) ?m ?_;(case m=>(intro x _;go_simp;try with_reducible rfl));simp only[Yaa];refine Yac (v:=?vq2) (by kernel_rfl) ?m ?_;(case m=>(intro x _;go_simp;rw[if_neg (by omega)]));simp only[Yaa];refine Yac (v:=?vq3) (by kernel_rfl) ?m ?_;(case m=>(intro x _;go_simp;try with_reducible rfl));simp only[Yaa]
   refine Yac (v:=?vq4) (by kernel_rfl) ?m ?_;(case m=>(intro x _;go_simp;try with_reducible rfl));simp only[Yaa];refine Ych 3 _ ⟨B,0,none⟩ (.int .i64 a) (by kernel_rfl) rfl rfl (fun x hx=>by have c0:=(HC.out x hx).1;go_simp) ?_;simp only[Yaa];refine Ybd (by kernel_rfl) C3.out (fun _=>by kernel_rfl) ?_;simp only[Yaa]
   refine Yac (v:=?vq7) (by kernel_rfl) ?m ?_;(case m=>(intro x _;go_simp;try with_reducible rfl));simp only[Yaa];refine Yac (v:=?vq8) (by kernel_rfl) ?m ?_;(case m=>(intro x _;go_simp;try with_reducible rfl));simp only[Yaa];refine Yac (v:=?vq9) (by kernel_rfl) ?m ?_;(case m=>(intro x _;go_simp;try with_reducible rfl));simp only[Yaa]
   refine Yac (v:=?vq10) (by kernel_rfl) ?m ?_;(case m=>(intro x _;go_simp;rw[if_neg (by omega)]));simp only[Yaa];refine Yac (v:=?vq11) (by kernel_rfl) ?m ?_;(case m=>(intro x _;go_simp;try with_reducible rfl));simp only[Yaa];refine Yac (v:=?vq12) (by kernel_rfl) ?m ?_;(case m=>(intro x _;go_simp;try with_reducible rfl));simp only[Yaa]
   refine Ych 3 _ ⟨B,1,none⟩ (.int .i64 b) (by kernel_rfl) rfl rfl (fun x hx=>by have c0:=(HC.out x hx).2;go_simp) ?_;simp only[Yaa];refine Ybd (by kernel_rfl) C4.out (fun _=>by kernel_rfl) ?_;simp only[Yaa];refine Yac (v:=?vq15) (by kernel_rfl) ?m ?_;(case m=>(intro x _;go_simp;try with_reducible rfl));simp only[Yaa]
   refine Yac (v:=?vq16) (by kernel_rfl) ?m ?_;(case m=>(intro x _;go_simp;try with_reducible rfl));simp only[Yaa];refine Ycq fun x hx=>?_
   go_wp2
   go_ret
   exact⟨Yad (by rw[hq.out];rfl),HE.out _ hx⟩
end Go.Proofs.YtndbeacoaimdgaaDoor