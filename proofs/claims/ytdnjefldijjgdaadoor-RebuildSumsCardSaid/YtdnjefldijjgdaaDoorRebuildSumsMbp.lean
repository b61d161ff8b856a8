/- No condition. -/
import Derived.Test.YtdnjefldijjgdaaDoorRebuildSumsMa
import Derived.Test.YtdnjefldijjgdaaDoorRebuildSumsMg
import Derived.Test.YtdnjefldijjgdaaDoorRebuildSumsMbj
import Derived.Test.YtdnjefldijjgdaaDoorRebuildSumsMbl
import Derived.Test.YtdnjefldijjgdaaDoorRebuildSumsMbo
namespace Go.Proofs.YtdnjefldijjgdaaDoor
open Go.RowKit Go.Lib
def exI:Cel:={celZ with kind:=3,dc:=fun _=>10}
theorem Yph:Ycq true exI=true:=by decide +kernel
theorem Ynp:∀i,i<64→Ymv exI 3 0 i=Yh2 80 i:=by decide +kernel
theorem Ynq:∀i,i<64→Ymv exI 3 5 i=Yh2 80 i:=by decide +kernel
theorem Ynn:∀i,i<64→Ydz exI 3 0 i=10:=fun i hi=>((Ydv (k:=kI) (lo:=-256) (hi:=255) Ynp i hi).trans (Yic 80 i hi)).trans (by decide +kernel)
theorem Yno:∀i,i<64→Ydz exI 3 5 i=10:=fun i hi=>((Ydv (k:=kI) (lo:=-256) (hi:=255) Ynq i hi).trans (Yic 80 i hi)).trans (by decide +kernel)
theorem Yqg (w:World):Yc8 w exI (fun _=>none) (fun _=>0):=fun _ _=>⟨rfl,Nat.zero_le _,.inl rfl⟩
theorem Ypi:Yqo 0 (fun _=>0) (fun _ _=>0) 0 exI 3=(Ybi (fun _=>0) (ptF (Ydz exI 3)),0):=by
 have hp:Yks 0 (fun _=>0) (fun _ _=>0) 0 exI=(fun _=>0,0):=by
  unfold Yks;rw[if_pos (by decide)]
 unfold Yqo;rw[if_pos Yph,hp]
 rfl
theorem Ylg:Ybi (fun _=>0) (ptF (Ydz exI 3)) 0=10:=by
 show Ym1 0 (ptF (Ydz exI 3) 0)=10;rw[Yo0 (b:=0) (i:=0) rfl rfl,Ynn 0 (by omega)]
 decide +kernel
theorem Ynm:Ybi (fun _=>0) (ptF (Ydz exI 3)) 383=10:=by
 show Ym1 0 (ptF (Ydz exI 3) 383)=10;rw[Yo0 (b:=5) (i:=63) rfl rfl,Yno 63 (by omega)]
 decide +kernel
set_option maxRecDepth 100000 in
set_option maxHeartbeats 2000000 in
theorem Yps (w:World)(hR:Yqa w):Calls Tryd.prog 7 #[] w fun e w'=>e=.returned (.bool true)∧Below w.heap.size w w':=by
 obtain⟨hT,hS,hP,hD⟩:=hR
 have CC:Calls Tryd.prog 9 #[.agg #[.int .i64 0,.slice none 0 0,.slice none 0 0,.slice none 0 0],.int .i64 0,.agg #[.int .i64 0,.bool false,.int .i64 3,.int .i64 0,.int .i64 0,.int .i64 0,.int .i64 10,.int .i64 10,.int .i64 10,.int .i64 10,.int .i64 10,.int .i64 10,.slice none 0 0,.slice none 0 0,.slice none 0 0,.slice none 0 0,.slice none 0 0,.slice none 0 0],.int .i64 3] w fun e y=>e=.returned (.tuple #[.agg (arn 384 (Ybi (fun _=>0) (ptF (Ydz exI 3)))),.int .i64 0])∧Below w.heap.size w y:=by
  have h:=Yj2 0 nilV (fun _=>0) (fun _ _=>0) 0 exI (fun _=>none) (fun _=>0) (fun _=>0) 3 w (Ykn.nil w) (Yqg w) hT hS hP hD;unfold Ycy at h;rw[Ypi] at h;exact h
 have L1:=fun(x:World) (b:Nat) (h:x.heap[b]? =some (.cells (arn 384 (Ybi (fun _=>0) (ptF (Ydz exI 3)))) 24 (0,0)))=>(⟨(Ybf (i:=0) h (by omega)).trans (by rw[Ylg]),(Ybf (i:=383) h (by omega)).trans (by rw[Ynm])⟩:x.cell? ⟨b,0,none⟩=some (.int .i64 10)∧x.cell? ⟨b,383,none⟩=some (.int .i64 10));have HSV:=Ybc (Ybi (fun _=>0) (ptF (Ydz exI 3)));have HOV:=Ya5 384 (Ybi (fun _=>0) (ptF (Ydz exI 3)))
 have HYV:(arn 384 fun _=>0).size=(arn 384 (Ybi (fun _=>0) (ptF (Ydz exI 3)))).size:=by rw[Yah,Yah]
 have hz0:=Ycm;generalize arn 384 (Ybi (fun _=>0) (ptF (Ydz exI 3)))=V at *;generalize (arn 384 fun _=>0)=Y at *;clear hT hS hP hD
 go_enter Tryd.func7,Tryd.ntmps7
 go_wp2_with fail
 refine CC.mono ?_;rintro e x1 ⟨rfl,hb1⟩;obtain⟨b1,y1,hx1,hy1,hs1,M1⟩:=Ygg hb1 (Nat.le_refl _) V;obtain⟨c1,c2⟩:=L1 y1 b1 M1.cell;have HX1:=Lib.hid hx1;have HY1:=Lib.hid hy1;have hbw:=Lib.hid M1.low;clear hx1 hy1 hb1 M1 CC L1
 go_wp2_with (with_reducible refine Yar rfl 24 _ _ rfl V Y 24 rfl rfl HSV HYV HOV ?_;rw[HY1.out,HX1.out])
 go_ret
 exact⟨rfl,hbw.out⟩
set_option maxRecDepth 100000 in
set_option maxHeartbeats 8000000 in
theorem Yd8 (f g:Nat→Int)(w:World)(_:∀i,i<384→(Lit.int .i64 (f i)).wf=true)(_:∀i,i<384→(Lit.int .i64 (g i)).wf=true)(hR:Yqa w):
  Calls Tryd.prog 3 #[.agg (arn 384 f),.agg (arn 384 g)] w fun e w'=>e=.returned (.bool true)∧Below w.heap.size w w':=by
 obtain⟨B,wA,wB,hB,hwA,hwB,hzA,hzB,hC0,hC1,hbB⟩:=Yhb w (.cells (arn 384 f) 24 (0,0)) (.cells (arn 384 g) 24 (0,0));have K:∀(x y:World),Below (B+2) wB x→Below x.heap.size x y→Below (B+2) wB y:=fun x y hx hy=>hx.trans (hy.mono (by have:=hx.size;omega));have UP:∀x,Below (B+2) wB x→Below w.heap.size w x:=fun x hx=>hB▸hbB.trans (hx.mono (by omega))
 have H0:=Lib.hid (fun(x:World) (hx:Below (B+2) wB x)=>((hx.block B (by omega)).trans hC0:x.heap[B]? =some (.cells (arn 384 f) 24 (0,0))));have H1:=Lib.hid (fun(x:World) (hx:Below (B+2) wB x)=>((hx.block (B+1) (by omega)).trans hC1:x.heap[B+1]? =some (.cells (arn 384 g) 24 (0,0))))
 have C1:=Lib.hid (fun(x:World) (hx:Below (B+2) wB x)=>((Yhn f g x).mono fun e y h=>⟨h.1,K x y hx h.2⟩:Calls Tryd.prog 5 #[.agg (arn 384 f),.agg (arn 384 g)] x fun e y=>e=.returned (.agg (arn 384 (Ybi f g)))∧Below (B+2) wB y))
 have C2:=Lib.hid (fun(x:World) (hx:Below (B+2) wB x)=>((Ymm f g x).mono fun e y h=>⟨h.1,K x y hx h.2⟩:Calls Tryd.prog 6 #[.agg (arn 384 f),.agg (arn 384 g)] x fun e y=>e=.returned (.agg (arn 384 (Ybi f g)))∧Below (B+2) wB y))
 have C3:=Lib.hid (fun(x:World) (hx:Below (B+2) wB x)=>((Yps x (hR.below (UP x hx))).mono fun e y h=>⟨h.1,K x y hx h.2⟩:Calls Tryd.prog 7 #[] x fun e y=>e=.returned (.bool true)∧Below (B+2) wB y));have qT:=Yod (Ybi f g);have HSU:=Ybc f;have HSV:=Ybc g;generalize arn 384 (Ybi f g)=T at *;generalize arn 384 f=U at *;generalize arn 384 g=V at *;have hS0:Below (B+2) wB wB:=Below.refl _ _
 have HUP:=Lib.hid UP;have HWA:=Lib.hid hwA;have HWB:=Lib.hid hwB;have HB:=Lib.hid hB;clear K UP hB hwA hwB hzA hzB hC0 hC1 hbB hR
 go_enter Tryd.func3,Tryd.ntmps3
 go_wp2
 rw[HWA.out,HB.out,HWB.out];refine Yai (S:=fun x=>Below (B+2) wB x) 11 (by kernel_rfl) (by kernel_rfl) hS0.drew ?_;simp only[List.take_succ_cons,List.take_zero,List.drop_succ_cons,List.drop_zero];refine Ybz 24 _ B 24 U (0,0) _ (by kernel_rfl) rfl rfl (fun x hx=>H0.out x hx) Tryd.underlying24 rfl HSU ?_;simp only[Yaa]
 refine Ybz 24 _ (B+1) 24 V (0,0) _ (by kernel_rfl) rfl rfl (fun x hx=>H1.out x hx) Tryd.underlying24 rfl HSV ?_;simp only[Yaa];refine Yas (by kernel_rfl) C1.out (fun _=>by kernel_rfl) ?_;simp only[Yaa];refine Ybz 24 _ B 24 U (0,0) _ (by kernel_rfl) rfl rfl (fun x hx=>H0.out x hx) Tryd.underlying24 rfl HSU ?_;simp only[Yaa]
 refine Ybz 24 _ (B+1) 24 V (0,0) _ (by kernel_rfl) rfl rfl (fun x hx=>H1.out x hx) Tryd.underlying24 rfl HSV ?_;simp only[Yaa];refine Yas (by kernel_rfl) C2.out (fun _=>by kernel_rfl) ?_;simp only[Yaa]
 iterate 2 (refine Yab (by kernel_rfl) (fun x _=>by go_simp;try with_reducible rfl) ?_;simp only[Yaa])
 refine Yas (by kernel_rfl) C3.out (fun _=>by kernel_rfl) ?_;simp only[Yaa]
 iterate 2 (refine Yab (by kernel_rfl) (fun x _=>by go_simp;try with_reducible rfl) ?_;simp only[Yaa])
 refine Yba fun x hx=>?_;have hend:=HUP.out _ hx
 go_wp2
 go_ret
 exact⟨rfl,hend⟩
end Go.Proofs.YtdnjefldijjgdaaDoor