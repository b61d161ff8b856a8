/- No condition. -/
import Derived.Test.YtdnjefldijjgdaaDoorRebuildSumsMa
import Derived.Test.YtdnjefldijjgdaaDoorRebuildSumsMe
import Derived.Test.YtdnjefldijjgdaaDoorRebuildSumsMf
import Derived.Test.YtdnjefldijjgdaaDoorRebuildSumsMg
import Derived.Test.YtdnjefldijjgdaaDoorRebuildSumsMs
import Derived.Test.YtdnjefldijjgdaaDoorRebuildSumsMz
import Derived.Test.YtdnjefldijjgdaaDoorRebuildSumsMba
import Derived.Deep.Slices
import Derived.Deep.MidRow
namespace Go.Proofs.YtdnjefldijjgdaaDoor
open Go.RowKit Go.Lib
def Yj3 (c:Cel)(sl:Nat→Value)(q:Int):List Value:=Ydg c sl++[.int .i64 q]
theorem Ygk (c:Cel)(sl:Nat→Value)(q:Int):(Tryd.prog.info? 58).map (·.size)=some (Yj3 c sl q).toArray.size:=by kernel_rfl
theorem Yme (c:Cel)(sl:Nat→Value)(q:Int):(Yj3 c sl q)[18]? =some (.int .i64 q):=rfl
theorem Yqp (c:Cel)(sl:Nat→Value)(q:Int):∀i,i<6→(Yj3 c sl q)[6+i]? =some (.int .i64 (c.dc i))
 |0,_=>rfl
 |1,_=>rfl
 |2,_=>rfl
 |3,_=>rfl
 |4,_=>rfl
 |5,_=>rfl
theorem Yqq (c:Cel)(sl:Nat→Value)(q:Int):∀i,i<6→(Yj3 c sl q)[12+i]? =some (sl i)
 |0,_=>rfl
 |1,_=>rfl
 |2,_=>rfl
 |3,_=>rfl
 |4,_=>rfl
 |5,_=>rfl
theorem Ye2 (c:Cel)(sl:Nat→Value)(q:Int)(w:World):Calls Tryd.prog 43 #[.agg (Yj3 c sl q).toArray] w fun e w'=>e=.returned (.bool (Yax c.kind))∧Below w.heap.size w w':=by
 obtain⟨A,hA⟩:∃A,(Yj3 c sl q).toArray=A:=⟨_,rfl⟩;have f2:A[2]? =some (.int .i64 c.kind):=by rw[←hA];rfl
 rw[hA];clear hA;have IK:Hid (Yax c.kind=(c.kind==3 || c.kind==4)):=Lib.hid rfl;generalize Yax c.kind=ik at IK ⊢;generalize c.kind=k at f2 IK;rcases Bool.eq_false_or_eq_true (k==3) with t0|t0
 ·go_enter Tryd.func43,Tryd.ntmps43
  go_wp2
  go_ret
  exact⟨Yaf (by rw[IK.out,t0];rfl),(Below.refl _ w).alloc (Nat.le_refl _) _⟩
 ·go_enter Tryd.func43,Tryd.ntmps43
  go_wp2
  go_ret
  exact⟨Yaf (by rw[IK.out,t0];rfl),(Below.refl _ w).alloc (Nat.le_refl _) _⟩
set_option maxRecDepth 100000 in
set_option maxHeartbeats 2000000 in
theorem Yhh (c:Cel)(p:Nat→Option Addr)(n k:Nat→Nat)(q:Int)(b:Nat)(w:World)(hb:b<6)(hc:Yc8 w c p n)(hS:Ybj w):
  Calls Tryd.prog 42 #[.agg (Yj3 c (fun i=>.slice (p i) (n i) (k i)) q).toArray,.int .i64 (b:Int)] w (Yaz (Ypr c b) w):=by
 have hin:=fun x=>Ye2 c (fun i=>.slice (p i) (n i) (k i)) q x;obtain⟨hn1,hn2,hev⟩:=hc b hb;obtain⟨A,hA⟩:∃A,(Yj3 c (fun i=>.slice (p i) (n i) (k i)) q).toArray=A:=⟨_,rfl⟩;have HSA:(Tryd.prog.info? 58).map (·.size)=some A.size:=hA▸Ygk c _ q;obtain⟨Y,hY⟩:∃Y,Yav (fun _=>0)=Y:=⟨_,rfl⟩;have hz0:∀w,(zeroValue 22).run Tryd.prog w=.ok (.agg Y) w:=by rw[←hY];exact Ybp
 obtain⟨B,wA,wB,hB,hwA,hwB,hzA,hzB,hC0,hC1,hbB⟩:=Yhb w (.cells A 58 (0,0)) (.cells Y 22 (0,0));obtain⟨g,hg⟩:∃g,(lvG (c.ev b) (Ymy c.kind)).1=g:=⟨_,rfl⟩;obtain⟨er,her⟩:∃er,(lvG (c.ev b) (Ymy c.kind)).2=er:=⟨_,rfl⟩;obtain⟨G,hG⟩:∃G,Yav g=G:=⟨_,rfl⟩;obtain⟨V,hV⟩:∃V,Yav (Ylr g)=V:=⟨_,rfl⟩;have LV:=Lib.hid (fun(a:Int) (ha:a=Ymy c.kind) (x:World) (hx:Below (B+2) wB x)=>(by
  have h:=Yde (p b) (c.ev b) (k b) (Ymy c.kind) x (hev.below (hB▸hbB.trans (hx.mono (by omega)))) (by omega);unfold Yds at h;rw[hg,her,hG,←hn1,←ha] at h;exact h:Calls Tryd.prog 60 #[.slice (p b) (n b) (k b),.int .i64 a] x fun e y=>e=.returned (.tuple #[.agg G,.int .i64 er])∧Below x.heap.size x y))
 have RS:=Lib.hid (fun(x:World) (hx:Below (B+2) wB x)=>(by
  have h:=Yim g x (hS.below (hB▸hbB.trans (hx.mono (by omega))));unfold Yaz at h;rw[hG,hV] at h;exact h:Calls Tryd.prog 61 #[.agg G] x fun e y=>e=.returned (.agg V)∧Below x.heap.size x y))
 have C0:=Lib.hid (fun(x:World) (hx:Below (B+2) wB x)=>((hx.block B (by omega)).trans hC0:x.heap[B]? =some (.cells A 58 (0,0))));have C1:=Lib.hid (fun(x:World) (hx:Below (B+2) wB x)=>((hx.block (B+1) (by omega)).trans hC1:x.heap[B+1]? =some (.cells Y 22 (0,0))))
 have EV:=Lib.hid (fun(x:World) (hx:Below (B+2) wB x)=>(Yad (o:=12+b) (by rw[←hA] at hC0;exact(hx.block B (by omega)).trans hC0) (Yqq c (fun i=>.slice (p i) (n i) (k i)) q b hb):x.cell? ⟨B,12+b,none⟩=some (.slice (p b) (n b) (k b))));have HSG:(Tryd.prog.info? 22).map (·.size)=some G.size:=hG▸Yam _;have HOG:G.all (·.oneCell')=true:=hG▸Ya0 _;have HYG:Y.size=G.size:=by rw[←hY,←hG,Yag,Yag]
 have HSV:(Tryd.prog.info? 22).map (·.size)=some V.size:=hV▸Yam _;have HOV:V.all (·.oneCell')=true:=hV▸Ya0 _;have HYV:Y.size=V.size:=by rw[←hY,←hV,Yag,Yag]
 have FIN:=Lib.hid (show∀y,Below B w y→Yaz (Ypr c b) w (.returned (.agg V)) y from fun y hy=>Yfj (h:=Ylr g) (fun i _=>by unfold Ypr;rw[hg]) hV (by rw[hB];exact hy));have FR0:=Lib.hid (fun(h:Yax c.kind=true)=>(by unfold Ymy;rw[if_pos h]:(1:Int)=Ymy c.kind));have FR1:=Lib.hid (fun(h:Yax c.kind=false)=>(by unfold Ymy;rw[if_neg (by rw[h];decide)]:(0:Int)=Ymy c.kind));rw[hA] at hin ⊢
 have IN:=Lib.hid hin;have HWA:=Lib.hid hwA;have HWB:=Lib.hid hwB;have HB:=Lib.hid hB;have HBW:=Lib.hid hbB;have c0:=C0.out wB (Below.refl _ _);clear hin hA hY hwA hwB hB hC0 hC1 hbB hg her hG hV hS hc hev hn1 hn2;generalize Ymy c.kind=fr at LV FR0 FR1;generalize p b=P at LV EV;generalize n b=N at LV EV;generalize k b=K at LV EV;generalize Yax c.kind=ik at IN FR0 FR1
 obtain⟨a,ha⟩:∃a,(if ik=true then (1:Int) else 0)=a:=⟨_,rfl⟩;have LW:=LV.out a (by rw[←ha];cases ik;exact FR1.out rfl;exact FR0.out rfl);clear LV FR0 FR1;cases ik <;> (
  simp only[if_true,Bool.false_eq_true,if_false] at ha;subst ha
  replace LW:=Lib.hid LW
  go_enter Tryd.func42,Tryd.ntmps42
  go_wp2_with (rw[HWA.out,HB.out,HWB.out];with_reducible refine wpList_load_row rfl 58 _ rfl B rfl 58 A (0,0) _ c0 Tryd.underlying58 rfl HSA ?_)
  refine(IN.out _).mono ?_;rintro e x1 ⟨rfl,hb1⟩;rw[hzB] at hb1;have e1:=EV.out x1 hb1
  go_wp2_with fail
  refine(LW.out _ hb1).mono ?_;rintro e x2 ⟨rfl,hb2⟩;have hb3:Below (B+2) wB x2:=hb1.trans (hb2.mono (by have:=hb1.size;omega));obtain⟨X,hX⟩:∃X,x2.heap.size=X:=⟨_,rfl⟩;obtain⟨x3,hx3⟩:∃x3,x2.alloc (.cells G 22 (0,0))=x3:=⟨_,rfl⟩;have h3:x3.heap[X]? =some (.cells G 22 (0,0)):=by rw[←hx3,←hX];exact heap_alloc_new x2 _
  have hb4:Below (B+2) wB x3:=by rw[←hx3];exact hb3.alloc (by have:=hb3.size;omega) _
  have HX:=Lib.hid hX;have HX3:=Lib.hid hx3;clear hb1 hb2 hb3 hX hx3 e1
  go_wp2_with (first|(with_reducible refine Yar rfl 22 _ _ rfl G Y 22 rfl rfl HSG HYG HOG ?_;rw[HX3.out,HX.out])|(with_reducible refine wpList_load_row rfl 22 _ rfl X rfl 22 G (0,0) _ h3 Tryd.underlying22 rfl HSG ?_))
  refine(RS.out _ hb4).mono ?_;rintro e x4 ⟨rfl,hb5⟩;have hb6:Below (B+2) wB x4:=hb4.trans (hb5.mono (by have:=hb4.size;omega));have c1:=C1.out x4 hb6;have hb7:Below B w x4:=HBW.out.trans (hb6.mono (by omega));have hz6:=hb6.size
  go_wp2_with (with_reducible refine Yac rfl 22 _ _ rfl (B+1) V Y rfl rfl 22 c1 HSV HYV HOV ?_;intro w5 hh5 hg5)
  refine bodyPost_ret (results_cell_row rfl _ _ (B+1) 22 _ (0,0) _ rfl hh5 Tryd.underlying22 rfl HSV) rfl ?_;exact FIN.out _ (hb7.grown hg5 (by omega) (fun k hk=>by injection hk with hk;omega)))
set_option maxRecDepth 100000 in
set_option maxHeartbeats 2000000 in
theorem Yhp (c:Cel)(p:Nat→Option Addr)(n k:Nat→Nat)(q:Int)(b:Nat)(w:World)(hb:b<6)(hc:Yc8 w c p n)(hS:Ybj w):
  Calls Tryd.prog 28 #[.agg (Yj3 c (fun i=>.slice (p i) (n i) (k i)) q).toArray,.int .i64 (b:Int)] w (Yaz (Ymv c q b) w):=by
 obtain⟨A,hA⟩:∃A,(Yj3 c (fun i=>.slice (p i) (n i) (k i)) q).toArray=A:=⟨_,rfl⟩;have HSA:(Tryd.prog.info? 58).map (·.size)=some A.size:=hA▸Ygk c _ q;obtain⟨Y,hY⟩:∃Y,Yav (fun _=>0)=Y:=⟨_,rfl⟩;have hz0:∀w,(zeroValue 22).run Tryd.prog w=.ok (.agg Y) w:=by rw[←hY];exact Ybp
 obtain⟨B,wA,wB,hB,hwA,hwB,hzA,hzB,hC0,hC1,hbB⟩:=Yhb w (.cells A 58 (0,0)) (.cells Y 22 (0,0));have UP:∀x y,Below (B+2) wB x→Below x.heap.size x y→Below (B+2) wB y:=fun x y hx hy=>hx.trans (hy.mono (by have:=hx.size;omega));obtain⟨V1,hV1⟩:∃V,Yav (Ypr c b)=V:=⟨_,rfl⟩;obtain⟨V,hV⟩:∃V,Yav (Ymv c q b)=V:=⟨_,rfl⟩;have LE:=Lib.hid (fun(x:World) (hx:Below (B+2) wB x)=>(by
  have hx2:Below w.heap.size w x:=hB▸hbB.trans (hx.mono (by omega));have h:=Yhh c p n k q b x hb (hc.below hx2) (hS.below hx2);unfold Yaz at h;rw[hA,hV1] at h;exact h.mono fun e y he=>⟨he.1,UP x y hx he.2⟩:Calls Tryd.prog 42 #[.agg A,.int .i64 (b:Int)] x fun e y=>e=.returned (.agg V1)∧Below (B+2) wB y))
 have IN:=Lib.hid (fun(x:World) (hx:Below (B+2) wB x)=>(by
  have h:=Ye2 c (fun i=>.slice (p i) (n i) (k i)) q x;rw[hA] at h;exact h.mono fun e y he=>⟨he.1,UP x y hx he.2⟩:Calls Tryd.prog 43 #[.agg A] x fun e y=>e=.returned (.bool (Yax c.kind))∧Below (B+2) wB y))
 have BL:=Lib.hid (fun(x:World) (hx:Below (B+2) wB x)=>(by
  have h:=Yna (Ypr c b) q (Yax c.kind) (c.dc b) x;unfold Yaz at h;rw[hV1,show Yav (Yp7 (Ypr c b) q (Yax c.kind) (c.dc b))=V from hV] at h;exact h.mono fun e y he=>⟨he.1,UP x y hx he.2⟩:Calls Tryd.prog 41 #[.agg V1,.int .i64 q,.bool (Yax c.kind),.int .i64 (c.dc b)] x fun e y=>e=.returned (.agg V)∧Below (B+2) wB y))
 have C0:=Lib.hid (fun(x:World) (hx:Below (B+2) wB x)=>((hx.block B (by omega)).trans hC0:x.heap[B]? =some (.cells A 58 (0,0))));have C1:=Lib.hid (fun(x:World) (hx:Below (B+2) wB x)=>((hx.block (B+1) (by omega)).trans hC1:x.heap[B+1]? =some (.cells Y 22 (0,0))))
 have CQ:=Lib.hid (fun(x:World) (hx:Below (B+2) wB x)=>(Yad (o:=18) (by rw[←hA] at hC0;exact(hx.block B (by omega)).trans hC0) (Yme c _ q):x.cell? ⟨B,18,none⟩=some (.int .i64 q)));have CD:=Lib.hid (fun(x:World) (hx:Below (B+2) wB x)=>(Yad (o:=6+b) (by rw[←hA] at hC0;exact(hx.block B (by omega)).trans hC0) (Yqp c _ q b hb):x.cell? ⟨B,6+b,none⟩=some (.int .i64 (c.dc b))))
 have HSV:(Tryd.prog.info? 22).map (·.size)=some V.size:=hV▸Yam _;have HOV:V.all (·.oneCell')=true:=hV▸Ya0 _;have HYV:Y.size=V.size:=by rw[←hY,←hV,Yag,Yag]
 have FIN:=Lib.hid (show∀y,Below B w y→Yaz (Ymv c q b) w (.returned (.agg V)) y from fun y hy=>Yfj (h:=Ymv c q b) (fun i _=>rfl) hV (by rw[hB];exact hy));rw[hA];have HWA:=Lib.hid hwA;have HWB:=Lib.hid hwB;have HB:=Lib.hid hB;have HBW:=Lib.hid hbB;clear hA hY hwA hwB hB hC0 hC1 hbB hV hV1 hS hc UP;generalize c.dc b=d at CD BL;generalize Yax c.kind=ik at IN BL
 go_enter Tryd.func28,Tryd.ntmps28
 go_wp2
 rw[HWA.out,HB.out,HWB.out];refine Yai (S:=fun x=>Below (B+2) wB x) 13 (by kernel_rfl) (by kernel_rfl) (Below.refl _ _).drew ?_;simp only[List.take_succ_cons,List.take_zero,List.drop_succ_cons,List.drop_zero];refine Ybz 58 _ B 58 A (0,0) _ (by kernel_rfl) rfl rfl (fun x hx=>C0.out x hx) Tryd.underlying58 rfl HSA ?_;simp only[Yaa]
 refine Yab (by kernel_rfl) (fun x _=>by go_simp;try with_reducible rfl) ?_;simp only[Yaa];refine Yas (by kernel_rfl) LE.out (fun _=>by kernel_rfl) ?_;simp only[Yaa];refine Yab (by kernel_rfl) (fun x _=>by go_simp;try with_reducible rfl) ?_;simp only[Yaa];refine Yal 3 _ ⟨B,18,none⟩ (.int .i64 q) (by kernel_rfl) rfl rfl (fun x hx=>by have c0:=CQ.out x hx;go_simp) ?_;simp only[Yaa]
 refine Ybz 58 _ B 58 A (0,0) _ (by kernel_rfl) rfl rfl (fun x hx=>C0.out x hx) Tryd.underlying58 rfl HSA ?_;simp only[Yaa];refine Yas (by kernel_rfl) IN.out (fun _=>by kernel_rfl) ?_;simp only[Yaa]
 iterate 3 (refine Yab (by kernel_rfl) (fun x _=>by go_simp;try with_reducible rfl) ?_;simp only[Yaa])
 refine Yab (by kernel_rfl) (fun x _=>by go_simp;rw[if_pos (by omega)]) ?_;simp only[Yaa];refine Yal 3 _ ⟨B,6+b,none⟩ (.int .i64 d) (by kernel_rfl) rfl rfl (fun x hx=>by have c0:=CD.out x hx;go_simp) ?_;simp only[Yaa];refine Yas (by kernel_rfl) BL.out (fun _=>by kernel_rfl) ?_;simp only[Yaa];refine Yba fun x hx=>?_;have c1:=C1.out x hx;have hb7:Below B w x:=HBW.out.trans (hx.mono (by omega))
 have hz6:=hx.size
 go_wp2_with (with_reducible refine Yac rfl 22 _ _ rfl (B+1) V Y rfl rfl 22 c1 HSV HYV HOV ?_;intro w5 hh5 hg5)
 refine bodyPost_ret (results_cell_row rfl _ _ (B+1) 22 _ (0,0) _ rfl hh5 Tryd.underlying22 rfl HSV) rfl ?_;exact FIN.out _ (hb7.grown hg5 (by omega) (fun k hk=>by injection hk with hk;omega))
set_option maxRecDepth 100000 in
set_option maxHeartbeats 2000000 in
theorem Ygo (c:Cel)(p:Nat→Option Addr)(n k:Nat→Nat)(q:Int)(b:Nat)(w:World)(hb:b<6)(hc:Yc8 w c p n)(hS:Ybj w)(hD:Yby w):
  Calls Tryd.prog 21 #[.agg (Yj3 c (fun i=>.slice (p i) (n i) (k i)) q).toArray,.int .i64 (b:Int)] w (Yaz (Ydz c q b) w):=by
 obtain⟨A,hA⟩:∃A,(Yj3 c (fun i=>.slice (p i) (n i) (k i)) q).toArray=A:=⟨_,rfl⟩;have HSA:(Tryd.prog.info? 58).map (·.size)=some A.size:=hA▸Ygk c _ q;obtain⟨Y,hY⟩:∃Y,Yav (fun _=>0)=Y:=⟨_,rfl⟩;have hz0:∀w,(zeroValue 22).run Tryd.prog w=.ok (.agg Y) w:=by rw[←hY];exact Ybp
 have hbz:∀w,(Instr.build 22 #[]).run Tryd.prog w=.ok (.agg Y) w:=by rw[←hY];exact Yfk
 obtain⟨B,wA,wB,hB,hwA,hwB,hzA,hzB,hC0,hC1,hbB⟩:=Yhb w (.cells A 58 (0,0)) (.cells Y 22 (0,0));obtain⟨G,hG⟩:∃V,Yav (Ymv c q b)=V:=⟨_,rfl⟩;obtain⟨V,hV⟩:∃V,Yav (Ydz c q b)=V:=⟨_,rfl⟩;obtain⟨z,hz⟩:∃z,Ym5 (Ymv c q b) (fun _=>0)=z:=⟨_,rfl⟩;have qe:∀x,(Op.equalIn 10000 22 (.agg G) (.agg Y)).run Tryd.prog x=.ok z x:=fun x=>by rw[←hG,←hY,←hz];exact Ykw _ _ x
 have ZV:=Lib.hid (fun(h:z=true)=>(by
  have h2:=Yku.1 (hz.trans h);rw[←hG,←hV];exact Ydt fun i hi=>by rw[h2 i hi];exact(Ynu h2 i hi).symm:G=V))
 have VA:=Lib.hid (fun(x:World) (hx:Below (B+2) wB x)=>(by
  have hx2:Below w.heap.size w x:=hB▸hbB.trans (hx.mono (by omega));have h:=Yhp c p n k q b x hb (hc.below hx2) (hS.below hx2);unfold Yaz at h;rw[hA,hG] at h;exact h:Calls Tryd.prog 28 #[.agg A,.int .i64 (b:Int)] x fun e y=>e=.returned (.agg G)∧Below x.heap.size x y))
 have IV:=Lib.hid (fun(x:World) (hx:Below (B+2) wB x)=>(by
  have h:=Yg9 (Ymv c q b) x (hD.below (hB▸hbB.trans (hx.mono (by omega))));unfold Ybl at h;rw[hG,show arn 64 (Ylm (Ymv c q b))=V from hV] at h;exact h:Calls Tryd.prog 29 #[.agg G] x fun e y=>e=.returned (.agg V)∧Below x.heap.size x y))
 have C1:=Lib.hid (fun(x:World) (hx:Below (B+2) wB x)=>((hx.block (B+1) (by omega)).trans hC1:x.heap[B+1]? =some (.cells Y 22 (0,0))));have HSG:(Tryd.prog.info? 22).map (·.size)=some G.size:=hG▸Yam _;have HOG:G.all (·.oneCell')=true:=hG▸Ya0 _;have HYG:Y.size=G.size:=by rw[←hY,←hG,Yag,Yag]
 have HSV:(Tryd.prog.info? 22).map (·.size)=some V.size:=hV▸Yam _;have HOV:V.all (·.oneCell')=true:=hV▸Ya0 _;have HYV:Y.size=V.size:=by rw[←hY,←hV,Yag,Yag]
 have FIN:=Lib.hid (show∀y,Below B w y→Yaz (Ydz c q b) w (.returned (.agg V)) y from fun y hy=>Yfj (h:=Ydz c q b) (fun i _=>rfl) hV (by rw[hB];exact hy));rw[hA];have HWA:=Lib.hid hwA;have HWB:=Lib.hid hwB;have HB:=Lib.hid hB;have HBW:=Lib.hid hbB;have c0:=hC0;clear hA hY hwA hwB hB hC0 hC1 hbB hV hG hS hc hD hz
 go_enter Tryd.func21,Tryd.ntmps21
 go_wp2_with (rw[HWA.out,HB.out,HWB.out];with_reducible refine wpList_load_row rfl 58 _ rfl B rfl 58 A (0,0) _ c0 Tryd.underlying58 rfl HSA ?_)
 refine(VA.out _ (Below.refl _ _)).mono ?_;rintro e x2 ⟨rfl,hb3⟩;rw[hzB] at hb3;obtain⟨X,hX⟩:∃X,x2.heap.size=X:=⟨_,rfl⟩;obtain⟨x3,hx3⟩:∃x3,x2.alloc (.cells G 22 (0,0))=x3:=⟨_,rfl⟩;have h3:x3.heap[X]? =some (.cells G 22 (0,0)):=by rw[←hx3,←hX];exact heap_alloc_new x2 _
 have hb4:Below (B+2) wB x3:=by rw[←hx3];exact hb3.alloc (by have:=hb3.size;omega) _
 have HX:=Lib.hid hX;have HX3:=Lib.hid hx3;have hz6:=hb4.size;clear hb3 hX hx3 c0;cases z with
 |true=>
  obtain rfl:=ZV.out rfl;have c1:=C1.out x3 hb4;have hb7:Below B w x3:=HBW.out.trans (hb4.mono (by omega))
  go_wp2_with (first|(with_reducible refine Yar rfl 22 _ _ rfl G Y 22 rfl rfl HSG HYG HOG ?_;rw[HX3.out,HX.out])|(with_reducible refine wpList_load_row rfl 22 _ rfl X rfl 22 G (0,0) _ h3 Tryd.underlying22 rfl HSG ?_)|(with_reducible refine Yac rfl 22 _ _ rfl (B+1) G Y rfl rfl 22 c1 HSV HYV HOV ?_;intro w5 hh5 hg5))
  refine bodyPost_ret (results_cell_row rfl _ _ (B+1) 22 _ (0,0) _ rfl hh5 Tryd.underlying22 rfl HSV) rfl ?_;exact FIN.out _ (hb7.grown hg5 (by omega) (fun k hk=>by injection hk with hk;omega))
 |false=>
  go_wp2_with (first|(with_reducible refine Yar rfl 22 _ _ rfl G Y 22 rfl rfl HSG HYG HOG ?_;rw[HX3.out,HX.out])|(with_reducible refine wpList_load_row rfl 22 _ rfl X rfl 22 G (0,0) _ h3 Tryd.underlying22 rfl HSG ?_))
  refine(IV.out _ hb4).mono ?_;rintro e x4 ⟨rfl,hb5⟩;have hb6:Below (B+2) wB x4:=hb4.trans (hb5.mono (by omega));have hz7:=hb6.size;have c1:=C1.out x4 hb6;have hb7:Below B w x4:=HBW.out.trans (hb6.mono (by omega))
  go_wp2_with (with_reducible refine Yac rfl 22 _ _ rfl (B+1) V Y rfl rfl 22 c1 HSV HYV HOV ?_;intro w5 hh5 hg5)
  refine bodyPost_ret (results_cell_row rfl _ _ (B+1) 22 _ (0,0) _ rfl hh5 Tryd.underlying22 rfl HSV) rfl ?_;exact FIN.out _ (hb7.grown hg5 (by omega) (fun k hk=>by injection hk with hk;omega))
end Go.Proofs.YtdnjefldijjgdaaDoor
namespace Go.Proofs.YtdnjefldijjgdaaDoor
open Go.RowKit Go.Lib Go.ChangeShapes Go.WideShapes Go.ChangeAt
section
variable {H:Type}{enc:TypeId×Value→H}{P:Program}
theorem Ypc (L:List Value){a i:Nat}(hi:i<64):(((L.drop a).take 64).drop i).take 1=(L.drop (a+i)).take 1:=by
 apply List.ext_getElem?;intro j;simp only[List.getElem?_take,List.getElem?_drop];by_cases hj:j<1
 ·simp[hj,show i+j<64 by omega,Nat.add_assoc]
 ·simp[hj]
theorem Yfp {w:World}{r:Reach}{b0 base:Nat}{sp:Nat→Bool}{held:Bool}{t ta e:TypeId}{v:Value}{d:DataW H}{ps:List MemPlace}
  (ht:P.underlying t=some (.array 6 ta))(ha:P.underlying ta=some (.array 64 e))(he:P.underlying e=some (.int .i64))(hc:P.cellsOf t=384)(hca:P.cellsOf ta=64)(hce:P.cellsOf e=1)
  (hval:Value.okWide P w r b0 t v)(hd:DataW.Trod enc P w base sp held t v d ps):
  ∃f:Nat→Int,v=.agg (arn 384 f)∧∀i,i<384→(Lit.int .i64 (f i)).wf=true:=by
 obtain⟨cs,rfl,hsz,_⟩:∃cs,v=.agg cs∧cs.size=P.cellsOf t∧Row.okWide P w r b0 t cs:=by
  simpa [Value.okWide,ht] using hval
 rw[hc] at hsz;obtain⟨fuel,hf⟩:=hd;obtain⟨xs,m,_,_,_,hl,hel⟩:=DataW.trod_array ht hf;rw[hca] at hel;have each:∀s,s<384→∃x:Int,cs.toList[s]? =some (.int .i64 x)∧(Lit.int .i64 x).wf=true:=by
  intro s hs;have hb:s / 64<xs.length:=by rw[hl];omega
  have h1:=hel (s / 64) (by omega);rw[List.getElem?_eq_getElem hb] at h1;obtain⟨ys,m',_,_,_,hl',hel'⟩:=DataW.trod_array ha h1;rw[hce] at hel';have h2:=hel' (s%64) (by omega);have hy:s%64<ys.length:=by rw[hl'];omega
  have hL:s<cs.toList.length:=by rw[Array.length_toList,hsz];exact hs
  rw[Nat.mul_one,show (Value.agg cs).cells.toList=cs.toList from rfl,Ypc _ (by omega),show s / 64*64+s%64=s by omega,List.drop_eq_getElem_cons hL,List.take_succ_cons,List.take_zero,List.getElem?_eq_getElem hy] at h2;obtain⟨x0,e0,_,w0⟩:=DataW.trod_int he h2;injection e0 with e0;exact⟨x0,by rw[List.getElem?_eq_getElem hL,e0],w0⟩
 refine⟨fun i=>match cs.toList[i]? with|some (.int _ x)=>x|_=>0,?_,?_⟩
 ·congr 1
  apply Array.ext';refine List.ext_getElem? fun i=>?_;by_cases hi:i<384
  ·obtain⟨x,hx,_⟩:=each i hi;rw[hx,Array.getElem?_toList,Yfh _ hi];simp only[hx]
  ·rw[List.getElem?_eq_none (by rw[Array.length_toList,hsz];omega),List.getElem?_eq_none (by rw[Array.length_toList,Yah];omega)]
 ·intro i hi;obtain⟨x,hx,hw⟩:=each i hi;simp only[hx];exact hw
end
end Go.Proofs.YtdnjefldijjgdaaDoor