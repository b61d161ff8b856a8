/- No condition. -/
import Derived.Test.YtdnjefldijjgdaaDoorRebuildSkipsMa
import Derived.Test.YtdnjefldijjgdaaDoorRebuildSkipsMg
import Derived.Test.YtdnjefldijjgdaaDoorRebuildSkipsMh
import Derived.Test.YtdnjefldijjgdaaDoorRebuildSkipsMt
import Derived.Test.YtdnjefldijjgdaaDoorRebuildSkipsMba
import Derived.Test.YtdnjefldijjgdaaDoorRebuildSkipsMbb
namespace Go.Proofs.YtdnjefldijjgdaaDoor
open Go.RowKit Go.Lib
def Yfo (c:Cel)(sl:Nat→Value)(q:Int):List Value:=Yck c sl++[.int .i64 q]
theorem Yg5 (c:Cel)(sl:Nat→Value)(q:Int):(Tryd.prog.info? 58).map (·.size)=some (Yfo c sl q).toArray.size:=by kernel_rfl
theorem Yns (c:Cel)(sl:Nat→Value)(q:Int):(Yfo c sl q)[18]? =some (.int .i64 q):=rfl
theorem Ysc (c:Cel)(sl:Nat→Value)(q:Int):∀i,i<6→(Yfo c sl q)[6+i]? =some (.int .i64 (c.dc i))
 |0,_=>rfl
 |1,_=>rfl
 |2,_=>rfl
 |3,_=>rfl
 |4,_=>rfl
 |5,_=>rfl
theorem Ysd (c:Cel)(sl:Nat→Value)(q:Int):∀i,i<6→(Yfo c sl q)[12+i]? =some (sl i)
 |0,_=>rfl
 |1,_=>rfl
 |2,_=>rfl
 |3,_=>rfl
 |4,_=>rfl
 |5,_=>rfl
theorem Yfl (c:Cel)(sl:Nat→Value)(q:Int)(w:World):Calls Tryd.prog 43 #[.agg (Yfo c sl q).toArray] w fun e w'=>e=.returned (.bool (Yau c.kind))∧Below w.heap.size w w':=by
 obtain⟨A,hA⟩:∃A,(Yfo c sl q).toArray=A:=⟨_,rfl⟩;have f2:A[2]? =some (.int .i64 c.kind):=by rw[←hA];rfl
 rw[hA];clear hA;have IK:Hid (Yau c.kind=(c.kind==3 || c.kind==4)):=Lib.hid rfl;generalize Yau c.kind=ik at IK ⊢;generalize c.kind=k at f2 IK;rcases Bool.eq_false_or_eq_true (k==3) with t0|t0
 ·go_enter Tryd.func43,Tryd.ntmps43
  go_wp2
  go_ret
  exact⟨Yae (by rw[IK.out,t0];rfl),(Below.refl _ w).alloc (Nat.le_refl _) _⟩
 ·go_enter Tryd.func43,Tryd.ntmps43
  go_wp2
  go_ret
  exact⟨Yae (by rw[IK.out,t0];rfl),(Below.refl _ w).alloc (Nat.le_refl _) _⟩
set_option maxRecDepth 100000 in
set_option maxHeartbeats 2000000 in
theorem Yh7 (c:Cel)(p:Nat→Option Addr)(n k:Nat→Nat)(q:Int)(b:Nat)(w:World)(hb:b<6)(hc:Ycz w c p n)(hS:Ybg w):
  Calls Tryd.prog 42 #[.agg (Yfo c (fun i=>.slice (p i) (n i) (k i)) q).toArray,.int .i64 (b:Int)] w (Yaz (Ypc c b) w):=by
 have hin:=fun x=>Yfl c (fun i=>.slice (p i) (n i) (k i)) q x;obtain⟨hn1,hn2,hev⟩:=hc b hb;obtain⟨A,hA⟩:∃A,(Yfo c (fun i=>.slice (p i) (n i) (k i)) q).toArray=A:=⟨_,rfl⟩;have HSA:(Tryd.prog.info? 58).map (·.size)=some A.size:=hA▸Yg5 c _ q;obtain⟨Y,hY⟩:∃Y,Yat (fun _=>0)=Y:=⟨_,rfl⟩;have hz0:∀w,(zeroValue 22).run Tryd.prog w=.ok (.agg Y) w:=by rw[←hY];exact Ybr
 obtain⟨B,wA,wB,hB,hwA,hwB,hzA,hzB,hC0,hC1,hbB⟩:=Yh0 w (.cells A 58 (0,0)) (.cells Y 22 (0,0));obtain⟨g,hg⟩:∃g,(lvG (c.ev b) (Ymt c.kind)).1=g:=⟨_,rfl⟩;obtain⟨er,her⟩:∃er,(lvG (c.ev b) (Ymt c.kind)).2=er:=⟨_,rfl⟩;obtain⟨G,hG⟩:∃G,Yat g=G:=⟨_,rfl⟩;obtain⟨V,hV⟩:∃V,Yat (Ym2 g)=V:=⟨_,rfl⟩;have LV:=Lib.hid (fun(a:Int) (ha:a=Ymt c.kind) (x:World) (hx:Below (B+2) wB x)=>(by
  have h:=Ydp (p b) (c.ev b) (k b) (Ymt c.kind) x (hev.below (hB▸hbB.trans (hx.mono (by omega)))) (by omega);unfold Yd7 at h;rw[hg,her,hG,←hn1,←ha] at h;exact h:Calls Tryd.prog 60 #[.slice (p b) (n b) (k b),.int .i64 a] x fun e y=>e=.returned (.tuple #[.agg G,.int .i64 er])∧Below x.heap.size x y))
 have RS:=Lib.hid (fun(x:World) (hx:Below (B+2) wB x)=>(by
  have h:=Yji g x (hS.below (hB▸hbB.trans (hx.mono (by omega))));unfold Yaz at h;rw[hG,hV] at h;exact h:Calls Tryd.prog 61 #[.agg G] x fun e y=>e=.returned (.agg V)∧Below x.heap.size x y))
 have C0:=Lib.hid (fun(x:World) (hx:Below (B+2) wB x)=>((hx.block B (by omega)).trans hC0:x.heap[B]? =some (.cells A 58 (0,0))));have C1:=Lib.hid (fun(x:World) (hx:Below (B+2) wB x)=>((hx.block (B+1) (by omega)).trans hC1:x.heap[B+1]? =some (.cells Y 22 (0,0))))
 have EV:=Lib.hid (fun(x:World) (hx:Below (B+2) wB x)=>(Yad (o:=12+b) (by rw[←hA] at hC0;exact(hx.block B (by omega)).trans hC0) (Ysd c (fun i=>.slice (p i) (n i) (k i)) q b hb):x.cell? ⟨B,12+b,none⟩=some (.slice (p b) (n b) (k b))));have HSG:(Tryd.prog.info? 22).map (·.size)=some G.size:=hG▸Yan _;have HOG:G.all (·.oneCell')=true:=hG▸Ya0 _;have HYG:Y.size=G.size:=by rw[←hY,←hG,Yag,Yag]
 have HSV:(Tryd.prog.info? 22).map (·.size)=some V.size:=hV▸Yan _;have HOV:V.all (·.oneCell')=true:=hV▸Ya0 _;have HYV:Y.size=V.size:=by rw[←hY,←hV,Yag,Yag]
 have FIN:=Lib.hid (show∀y,Below B w y→Yaz (Ypc c b) w (.returned (.agg V)) y from fun y hy=>Yf4 (h:=Ym2 g) (fun i _=>by unfold Ypc;rw[hg]) hV (by rw[hB];exact hy));have FR0:=Lib.hid (fun(h:Yau c.kind=true)=>(by unfold Ymt;rw[if_pos h]:(1:Int)=Ymt c.kind));have FR1:=Lib.hid (fun(h:Yau c.kind=false)=>(by unfold Ymt;rw[if_neg (by rw[h];decide)]:(0:Int)=Ymt c.kind));rw[hA] at hin ⊢
 have IN:=Lib.hid hin;have HWA:=Lib.hid hwA;have HWB:=Lib.hid hwB;have HB:=Lib.hid hB;have HBW:=Lib.hid hbB;have c0:=C0.out wB (Below.refl _ _);clear hin hA hY hwA hwB hB hC0 hC1 hbB hg her hG hV hS hc hev hn1 hn2;generalize Ymt c.kind=fr at LV FR0 FR1;generalize p b=P at LV EV;generalize n b=N at LV EV;generalize k b=K at LV EV;generalize Yau c.kind=ik at IN FR0 FR1
 obtain⟨a,ha⟩:∃a,(if ik=true then (1:Int) else 0)=a:=⟨_,rfl⟩;have LW:=LV.out a (by rw[←ha];cases ik;exact FR1.out rfl;exact FR0.out rfl);clear LV FR0 FR1;cases ik <;> (
  simp only[if_true,Bool.false_eq_true,if_false] at ha;subst ha
  replace LW:=Lib.hid LW
  go_enter Tryd.func42,Tryd.ntmps42
  go_wp2_with (rw[HWA.out,HB.out,HWB.out];with_reducible refine wpList_load_row rfl 58 _ rfl B rfl 58 A (0,0) _ c0 Tryd.underlying58 rfl HSA ?_)
  refine(IN.out _).mono ?_;rintro e x1 ⟨rfl,hb1⟩;rw[hzB] at hb1;have e1:=EV.out x1 hb1
  go_wp2_with fail
  refine(LW.out _ hb1).mono ?_;rintro e x2 ⟨rfl,hb2⟩;have hb3:Below (B+2) wB x2:=hb1.trans (hb2.mono (by have:=hb1.size;omega));obtain⟨X,hX⟩:∃X,x2.heap.size=X:=⟨_,rfl⟩;obtain⟨x3,hx3⟩:∃x3,x2.alloc (.cells G 22 (0,0))=x3:=⟨_,rfl⟩;have h3:x3.heap[X]? =some (.cells G 22 (0,0)):=by rw[←hx3,←hX];exact heap_alloc_new x2 _
  have hb4:Below (B+2) wB x3:=by rw[←hx3];exact hb3.alloc (by have:=hb3.size;omega) _
  have HX:=Lib.hid hX;have HX3:=Lib.hid hx3;clear hb1 hb2 hb3 hX hx3 e1
  go_wp2_with (first|(with_reducible refine Yam rfl 22 _ _ rfl G Y 22 rfl rfl HSG HYG HOG ?_;rw[HX3.out,HX.out])|(with_reducible refine wpList_load_row rfl 22 _ rfl X rfl 22 G (0,0) _ h3 Tryd.underlying22 rfl HSG ?_))
  refine(RS.out _ hb4).mono ?_;rintro e x4 ⟨rfl,hb5⟩;have hb6:Below (B+2) wB x4:=hb4.trans (hb5.mono (by have:=hb4.size;omega));have c1:=C1.out x4 hb6;have hb7:Below B w x4:=HBW.out.trans (hb6.mono (by omega));have hz6:=hb6.size
  go_wp2_with (with_reducible refine Yac rfl 22 _ _ rfl (B+1) V Y rfl rfl 22 c1 HSV HYV HOV ?_;intro w5 hh5 hg5)
  refine bodyPost_ret (results_cell_row rfl _ _ (B+1) 22 _ (0,0) _ rfl hh5 Tryd.underlying22 rfl HSV) rfl ?_;exact FIN.out _ (hb7.grown hg5 (by omega) (fun k hk=>by injection hk with hk;omega)))
set_option maxRecDepth 100000 in
set_option maxHeartbeats 2000000 in
theorem Yie (c:Cel)(p:Nat→Option Addr)(n k:Nat→Nat)(q:Int)(b:Nat)(w:World)(hb:b<6)(hc:Ycz w c p n)(hS:Ybg w):
  Calls Tryd.prog 28 #[.agg (Yfo c (fun i=>.slice (p i) (n i) (k i)) q).toArray,.int .i64 (b:Int)] w (Yaz (Ylt c q b) w):=by
 obtain⟨A,hA⟩:∃A,(Yfo c (fun i=>.slice (p i) (n i) (k i)) q).toArray=A:=⟨_,rfl⟩;have HSA:(Tryd.prog.info? 58).map (·.size)=some A.size:=hA▸Yg5 c _ q;obtain⟨Y,hY⟩:∃Y,Yat (fun _=>0)=Y:=⟨_,rfl⟩;have hz0:∀w,(zeroValue 22).run Tryd.prog w=.ok (.agg Y) w:=by rw[←hY];exact Ybr
 obtain⟨B,wA,wB,hB,hwA,hwB,hzA,hzB,hC0,hC1,hbB⟩:=Yh0 w (.cells A 58 (0,0)) (.cells Y 22 (0,0));have UP:∀x y,Below (B+2) wB x→Below x.heap.size x y→Below (B+2) wB y:=fun x y hx hy=>hx.trans (hy.mono (by have:=hx.size;omega));obtain⟨V1,hV1⟩:∃V,Yat (Ypc c b)=V:=⟨_,rfl⟩;obtain⟨V,hV⟩:∃V,Yat (Ylt c q b)=V:=⟨_,rfl⟩;have LE:=Lib.hid (fun(x:World) (hx:Below (B+2) wB x)=>(by
  have hx2:Below w.heap.size w x:=hB▸hbB.trans (hx.mono (by omega));have h:=Yh7 c p n k q b x hb (hc.below hx2) (hS.below hx2);unfold Yaz at h;rw[hA,hV1] at h;exact h.mono fun e y he=>⟨he.1,UP x y hx he.2⟩:Calls Tryd.prog 42 #[.agg A,.int .i64 (b:Int)] x fun e y=>e=.returned (.agg V1)∧Below (B+2) wB y))
 have IN:=Lib.hid (fun(x:World) (hx:Below (B+2) wB x)=>(by
  have h:=Yfl c (fun i=>.slice (p i) (n i) (k i)) q x;rw[hA] at h;exact h.mono fun e y he=>⟨he.1,UP x y hx he.2⟩:Calls Tryd.prog 43 #[.agg A] x fun e y=>e=.returned (.bool (Yau c.kind))∧Below (B+2) wB y))
 have BL:=Lib.hid (fun(x:World) (hx:Below (B+2) wB x)=>(by
  have h:=Yoo (Ypc c b) q (Yau c.kind) (c.dc b) x;unfold Yaz at h;rw[hV1,show Yat (Yqr (Ypc c b) q (Yau c.kind) (c.dc b))=V from hV] at h;exact h.mono fun e y he=>⟨he.1,UP x y hx he.2⟩:Calls Tryd.prog 41 #[.agg V1,.int .i64 q,.bool (Yau c.kind),.int .i64 (c.dc b)] x fun e y=>e=.returned (.agg V)∧Below (B+2) wB y))
 have C0:=Lib.hid (fun(x:World) (hx:Below (B+2) wB x)=>((hx.block B (by omega)).trans hC0:x.heap[B]? =some (.cells A 58 (0,0))));have C1:=Lib.hid (fun(x:World) (hx:Below (B+2) wB x)=>((hx.block (B+1) (by omega)).trans hC1:x.heap[B+1]? =some (.cells Y 22 (0,0))))
 have CQ:=Lib.hid (fun(x:World) (hx:Below (B+2) wB x)=>(Yad (o:=18) (by rw[←hA] at hC0;exact(hx.block B (by omega)).trans hC0) (Yns c _ q):x.cell? ⟨B,18,none⟩=some (.int .i64 q)));have CD:=Lib.hid (fun(x:World) (hx:Below (B+2) wB x)=>(Yad (o:=6+b) (by rw[←hA] at hC0;exact(hx.block B (by omega)).trans hC0) (Ysc c _ q b hb):x.cell? ⟨B,6+b,none⟩=some (.int .i64 (c.dc b))))
 have HSV:(Tryd.prog.info? 22).map (·.size)=some V.size:=hV▸Yan _;have HOV:V.all (·.oneCell')=true:=hV▸Ya0 _;have HYV:Y.size=V.size:=by rw[←hY,←hV,Yag,Yag]
 have FIN:=Lib.hid (show∀y,Below B w y→Yaz (Ylt c q b) w (.returned (.agg V)) y from fun y hy=>Yf4 (h:=Ylt c q b) (fun i _=>rfl) hV (by rw[hB];exact hy));rw[hA];have HWA:=Lib.hid hwA;have HWB:=Lib.hid hwB;have HB:=Lib.hid hB;have HBW:=Lib.hid hbB;clear hA hY hwA hwB hB hC0 hC1 hbB hV hV1 hS hc UP;generalize c.dc b=d at CD BL;generalize Yau c.kind=ik at IN BL
 go_enter Tryd.func28,Tryd.ntmps28
 go_wp2
 rw[HWA.out,HB.out,HWB.out];refine Yal (S:=fun x=>Below (B+2) wB x) 13 (by kernel_rfl) (by kernel_rfl) (Below.refl _ _).drew ?_;simp only[List.take_succ_cons,List.take_zero,List.drop_succ_cons,List.drop_zero];refine Ye9 58 _ B 58 A (0,0) _ (by kernel_rfl) rfl rfl (fun x hx=>C0.out x hx) Tryd.underlying58 rfl HSA ?_;simp only[Yaa]
 refine Yab (by kernel_rfl) (fun x _=>by go_simp;try with_reducible rfl) ?_;simp only[Yaa];refine Ybb (by kernel_rfl) LE.out (fun _=>by kernel_rfl) ?_;simp only[Yaa];refine Yab (by kernel_rfl) (fun x _=>by go_simp;try with_reducible rfl) ?_;simp only[Yaa];refine Yao 3 _ ⟨B,18,none⟩ (.int .i64 q) (by kernel_rfl) rfl rfl (fun x hx=>by have c0:=CQ.out x hx;go_simp) ?_;simp only[Yaa]
 refine Ye9 58 _ B 58 A (0,0) _ (by kernel_rfl) rfl rfl (fun x hx=>C0.out x hx) Tryd.underlying58 rfl HSA ?_;simp only[Yaa];refine Ybb (by kernel_rfl) IN.out (fun _=>by kernel_rfl) ?_;simp only[Yaa]
 iterate 3 (refine Yab (by kernel_rfl) (fun x _=>by go_simp;try with_reducible rfl) ?_;simp only[Yaa])
 refine Yab (by kernel_rfl) (fun x _=>by go_simp;rw[if_pos (by omega)]) ?_;simp only[Yaa];refine Yao 3 _ ⟨B,6+b,none⟩ (.int .i64 d) (by kernel_rfl) rfl rfl (fun x hx=>by have c0:=CD.out x hx;go_simp) ?_;simp only[Yaa];refine Ybb (by kernel_rfl) BL.out (fun _=>by kernel_rfl) ?_;simp only[Yaa];refine Ybl fun x hx=>?_;have c1:=C1.out x hx;have hb7:Below B w x:=HBW.out.trans (hx.mono (by omega))
 have hz6:=hx.size
 go_wp2_with (with_reducible refine Yac rfl 22 _ _ rfl (B+1) V Y rfl rfl 22 c1 HSV HYV HOV ?_;intro w5 hh5 hg5)
 refine bodyPost_ret (results_cell_row rfl _ _ (B+1) 22 _ (0,0) _ rfl hh5 Tryd.underlying22 rfl HSV) rfl ?_;exact FIN.out _ (hb7.grown hg5 (by omega) (fun k hk=>by injection hk with hk;omega))
set_option maxRecDepth 100000 in
set_option maxHeartbeats 2000000 in
theorem Yg9 (c:Cel)(p:Nat→Option Addr)(n k:Nat→Nat)(q:Int)(b:Nat)(w:World)(hb:b<6)(hc:Ycz w c p n)(hS:Ybg w)(hD:Yb3 w):
  Calls Tryd.prog 21 #[.agg (Yfo c (fun i=>.slice (p i) (n i) (k i)) q).toArray,.int .i64 (b:Int)] w (Yaz (Yds c q b) w):=by
 obtain⟨A,hA⟩:∃A,(Yfo c (fun i=>.slice (p i) (n i) (k i)) q).toArray=A:=⟨_,rfl⟩;have HSA:(Tryd.prog.info? 58).map (·.size)=some A.size:=hA▸Yg5 c _ q;obtain⟨Y,hY⟩:∃Y,Yat (fun _=>0)=Y:=⟨_,rfl⟩;have hz0:∀w,(zeroValue 22).run Tryd.prog w=.ok (.agg Y) w:=by rw[←hY];exact Ybr
 have hbz:∀w,(Instr.build 22 #[]).run Tryd.prog w=.ok (.agg Y) w:=by rw[←hY];exact Yf5
 obtain⟨B,wA,wB,hB,hwA,hwB,hzA,hzB,hC0,hC1,hbB⟩:=Yh0 w (.cells A 58 (0,0)) (.cells Y 22 (0,0));obtain⟨G,hG⟩:∃V,Yat (Ylt c q b)=V:=⟨_,rfl⟩;obtain⟨V,hV⟩:∃V,Yat (Yds c q b)=V:=⟨_,rfl⟩;obtain⟨z,hz⟩:∃z,Yoi (Ylt c q b) (fun _=>0)=z:=⟨_,rfl⟩;have qe:∀x,(Op.equalIn 10000 22 (.agg G) (.agg Y)).run Tryd.prog x=.ok z x:=fun x=>by rw[←hG,←hY,←hz];exact Yl2 _ _ x
 have ZV:=Lib.hid (fun(h:z=true)=>(by
  have h2:=Yl0.1 (hz.trans h);rw[←hG,←hV];exact Yd8 fun i hi=>by rw[h2 i hi];exact(Yjy h2 i hi).symm:G=V))
 have VA:=Lib.hid (fun(x:World) (hx:Below (B+2) wB x)=>(by
  have hx2:Below w.heap.size w x:=hB▸hbB.trans (hx.mono (by omega));have h:=Yie c p n k q b x hb (hc.below hx2) (hS.below hx2);unfold Yaz at h;rw[hA,hG] at h;exact h:Calls Tryd.prog 28 #[.agg A,.int .i64 (b:Int)] x fun e y=>e=.returned (.agg G)∧Below x.heap.size x y))
 have IV:=Lib.hid (fun(x:World) (hx:Below (B+2) wB x)=>(by
  have h:=Yhy (Ylt c q b) x (hD.below (hB▸hbB.trans (hx.mono (by omega))));unfold Ybj at h;rw[hG,show arn 64 (Ymx (Ylt c q b))=V from hV] at h;exact h:Calls Tryd.prog 29 #[.agg G] x fun e y=>e=.returned (.agg V)∧Below x.heap.size x y))
 have C1:=Lib.hid (fun(x:World) (hx:Below (B+2) wB x)=>((hx.block (B+1) (by omega)).trans hC1:x.heap[B+1]? =some (.cells Y 22 (0,0))));have HSG:(Tryd.prog.info? 22).map (·.size)=some G.size:=hG▸Yan _;have HOG:G.all (·.oneCell')=true:=hG▸Ya0 _;have HYG:Y.size=G.size:=by rw[←hY,←hG,Yag,Yag]
 have HSV:(Tryd.prog.info? 22).map (·.size)=some V.size:=hV▸Yan _;have HOV:V.all (·.oneCell')=true:=hV▸Ya0 _;have HYV:Y.size=V.size:=by rw[←hY,←hV,Yag,Yag]
 have FIN:=Lib.hid (show∀y,Below B w y→Yaz (Yds c q b) w (.returned (.agg V)) y from fun y hy=>Yf4 (h:=Yds c q b) (fun i _=>rfl) hV (by rw[hB];exact hy));rw[hA];have HWA:=Lib.hid hwA;have HWB:=Lib.hid hwB;have HB:=Lib.hid hB;have HBW:=Lib.hid hbB;have c0:=hC0;clear hA hY hwA hwB hB hC0 hC1 hbB hV hG hS hc hD hz
 go_enter Tryd.func21,Tryd.ntmps21
 go_wp2_with (rw[HWA.out,HB.out,HWB.out];with_reducible refine wpList_load_row rfl 58 _ rfl B rfl 58 A (0,0) _ c0 Tryd.underlying58 rfl HSA ?_)
 refine(VA.out _ (Below.refl _ _)).mono ?_;rintro e x2 ⟨rfl,hb3⟩;rw[hzB] at hb3;obtain⟨X,hX⟩:∃X,x2.heap.size=X:=⟨_,rfl⟩;obtain⟨x3,hx3⟩:∃x3,x2.alloc (.cells G 22 (0,0))=x3:=⟨_,rfl⟩;have h3:x3.heap[X]? =some (.cells G 22 (0,0)):=by rw[←hx3,←hX];exact heap_alloc_new x2 _
 have hb4:Below (B+2) wB x3:=by rw[←hx3];exact hb3.alloc (by have:=hb3.size;omega) _
 have HX:=Lib.hid hX;have HX3:=Lib.hid hx3;have hz6:=hb4.size;clear hb3 hX hx3 c0;cases z with
 |true=>
  obtain rfl:=ZV.out rfl;have c1:=C1.out x3 hb4;have hb7:Below B w x3:=HBW.out.trans (hb4.mono (by omega))
  go_wp2_with (first|(with_reducible refine Yam rfl 22 _ _ rfl G Y 22 rfl rfl HSG HYG HOG ?_;rw[HX3.out,HX.out])|(with_reducible refine wpList_load_row rfl 22 _ rfl X rfl 22 G (0,0) _ h3 Tryd.underlying22 rfl HSG ?_)|(with_reducible refine Yac rfl 22 _ _ rfl (B+1) G Y rfl rfl 22 c1 HSV HYV HOV ?_;intro w5 hh5 hg5))
  refine bodyPost_ret (results_cell_row rfl _ _ (B+1) 22 _ (0,0) _ rfl hh5 Tryd.underlying22 rfl HSV) rfl ?_;exact FIN.out _ (hb7.grown hg5 (by omega) (fun k hk=>by injection hk with hk;omega))
 |false=>
  go_wp2_with (first|(with_reducible refine Yam rfl 22 _ _ rfl G Y 22 rfl rfl HSG HYG HOG ?_;rw[HX3.out,HX.out])|(with_reducible refine wpList_load_row rfl 22 _ rfl X rfl 22 G (0,0) _ h3 Tryd.underlying22 rfl HSG ?_))
  refine(IV.out _ hb4).mono ?_;rintro e x4 ⟨rfl,hb5⟩;have hb6:Below (B+2) wB x4:=hb4.trans (hb5.mono (by omega));have hz7:=hb6.size;have c1:=C1.out x4 hb6;have hb7:Below B w x4:=HBW.out.trans (hb6.mono (by omega))
  go_wp2_with (with_reducible refine Yac rfl 22 _ _ rfl (B+1) V Y rfl rfl 22 c1 HSV HYV HOV ?_;intro w5 hh5 hg5)
  refine bodyPost_ret (results_cell_row rfl _ _ (B+1) 22 _ (0,0) _ rfl hh5 Tryd.underlying22 rfl HSV) rfl ?_;exact FIN.out _ (hb7.grown hg5 (by omega) (fun k hk=>by injection hk with hk;omega))
end Go.Proofs.YtdnjefldijjgdaaDoor
namespace Go.Proofs.YtdnjefldijjgdaaDoor
open Go.RowKit Go.Lib Go.ChangeShapes Go.WideShapes Go.ChangeAt
section
variable {H:Type}{enc:TypeId×Value→H}{P:Program}
theorem Yk5 {w:World}{r:Reach}{b0 base:Nat}{sp:Nat→Bool}{held:Bool}{t tc ti:TypeId}{g0 g1:Field}{v:Value}{d:DataW H}{ps:List MemPlace}(c:Nat)(Q:List Value→Prop)
  (ht:P.underlying t=some (.struct #[g0,g1]))(hi:P.underlying ti=some (.int .i64))(e:g0.type=tc∧g1.type=ti)(o:g0.offset=0∧g1.offset=18)(cc:P.cellsOf tc=18)(ci:P.cellsOf ti=1)(hc:P.cellsOf t=19)
  (hcel:∀(cs':Array Value) (d:DataW H) (ps:List MemPlace),cs'.size=18→DataW.Trod enc P w base sp held tc (.agg cs') d ps→∃(k:Cel) (p:Nat→Option Addr) (n cap:Nat→Nat),cs'=(Yck k fun i=>.slice (p i) (n i) (cap i)).toArray∧∀i,i<6→n i≤maxLen∧Ye0 w Q c (p i) (n i))
  (hval:Value.okWide P w r b0 t v)(hd:DataW.Trod enc P w base sp held t v d ps):
  ∃(k:Cel) (p:Nat→Option Addr) (n cap:Nat→Nat) (q:Int),v=.agg (Yfo k (fun i=>.slice (p i) (n i) (cap i)) q).toArray∧(∀i,i<6→n i≤maxLen∧Ye0 w Q c (p i) (n i))∧(Lit.int .i64 q).wf=true:=by
 obtain⟨cs',rfl,hsz,_⟩:∃cs,v=.agg cs∧cs.size=P.cellsOf t∧Row.okWide P w r b0 t cs:=by
  simpa [Value.okWide,ht] using hval
 rw[hc] at hsz;obtain⟨fuel,hf⟩:=hd;obtain⟨xs,k,hk,hxy,_,hxl,hfs⟩:=DataW.trod_struct ht hf;have hl:cs'.toList.length=19:=by rw[Array.length_toList,hsz]
 match xs,hxl with
 |[y0,y1],_=>
  have z0:=hfs 0 g0 rfl;have z1:=hfs 1 g1 rfl;rw[e.1,o.1,cc] at z0;rw[e.2,o.2,ci] at z1
  replace z0:DataW.trod enc P w base sp held k tc (cs'.toList.take 18)=some y0:=z0
  replace z1:DataW.trod enc P w base sp held k ti ((cs'.toList.drop 18).take 1)=some y1:=z1
  obtain⟨k',p,n,cap,hA,hR⟩:=hcel (cs'.toList.take 18).toArray y0.1 y0.2 (by simp[hsz]) ⟨k,by rw[show (Value.agg (cs'.toList.take 18).toArray).cells.toList=cs'.toList.take 18 from rfl];exact z0⟩;have h18:18<cs'.toList.length:=by omega
  rw[List.drop_eq_getElem_cons h18,List.take_succ_cons,List.take_zero] at z1;obtain⟨q,eq,wq⟩:=Ydg hi z1;refine⟨k',p,n,cap,q,?_,hR,wq⟩;have hA':cs'.toList.take 18=Yck k' fun i=>.slice (p i) (n i) (cap i):=congrArg Array.toList hA
  congr 1
  apply Array.ext';show cs'.toList=Yck k' (fun i=>.slice (p i) (n i) (cap i))++[.int .i64 q];rw[←hA',←eq];have h19:=List.take_append_drop 18 cs'.toList;rw[List.drop_eq_getElem_cons h18,List.drop_eq_nil_of_le (show cs'.toList.length≤18+1 by omega)] at h19;exact h19.symm
end
end Go.Proofs.YtdnjefldijjgdaaDoor