/- No condition. -/
import Derived.Test.YtnamlooifcpoaaaGreatDoorScreensStillMa
import Derived.Test.YtnamlooifcpoaaaGreatDoorScreensStillMg
import Derived.Test.YtnamlooifcpoaaaGreatDoorScreensStillMv
import Derived.Test.YtnamlooifcpoaaaGreatDoorScreensStillMbi
import Derived.Test.YtnamlooifcpoaaaGreatDoorScreensStillMbo
namespace Go.Proofs.YtnamlooifcpoaaaGreatDoor
open Go.RowKit Go.Lib
def Yqj (c:Cel)(sl:Nat→Value)(q:Int):List Value:=Ybp c sl++[.int .i64 q]
theorem Ykn (c:Cel)(sl:Nat→Value)(q:Int):(Tryz.prog.info? 121).map (·.size)=some (Yqj c sl q).toArray.size:=by kernel_rfl
theorem Yua (c:Cel)(sl:Nat→Value)(q:Int):(Yqj c sl q)[18]? =some (.int .i64 q):=rfl
theorem Y0h (c:Cel)(sl:Nat→Value)(q:Int):∀i,i<6→(Yqj c sl q)[6+i]? =some (.int .i64 (c.dc i))
 |0,_=>rfl
 |1,_=>rfl
 |2,_=>rfl
 |3,_=>rfl
 |4,_=>rfl
 |5,_=>rfl
theorem Y0i (c:Cel)(sl:Nat→Value)(q:Int):∀i,i<6→(Yqj c sl q)[12+i]? =some (sl i)
 |0,_=>rfl
 |1,_=>rfl
 |2,_=>rfl
 |3,_=>rfl
 |4,_=>rfl
 |5,_=>rfl
theorem Yhv (c:Cel)(sl:Nat→Value)(q:Int)(w:World):Calls Tryz.prog 128 #[.agg (Yqj c sl q).toArray] w fun e w'=>e=.returned (.bool (Ya3 c.kind))∧Below w.heap.size w w':=by
 obtain⟨A,hA⟩:∃A,(Yqj c sl q).toArray=A:=⟨_,rfl⟩;have f2:A[2]? =some (.int .i64 c.kind):=by rw[←hA];rfl
 rw[hA];clear hA;have IK:Hid (Ya3 c.kind=(c.kind==3 || c.kind==4)):=Lib.hid rfl;generalize Ya3 c.kind=ik at IK ⊢;generalize c.kind=k at f2 IK;rcases Bool.eq_false_or_eq_true (k==3) with t0|t0
 ·go_enter Tryz.func128,Tryz.ntmps128
  go_wp2
  go_ret
  exact⟨Yae (by rw[IK.out,t0];rfl),(Below.refl _ w).alloc (Nat.le_refl _) _⟩
 ·go_enter Tryz.func128,Tryz.ntmps128
  go_wp2
  go_ret
  exact⟨Yae (by rw[IK.out,t0];rfl),(Below.refl _ w).alloc (Nat.le_refl _) _⟩
set_option maxRecDepth 100000 in
set_option maxHeartbeats 2000000 in
theorem Ymb (c:Cel)(p:Nat→Option Addr)(n k:Nat→Nat)(q:Int)(b:Nat)(w:World)(hb:b<6)(hc:Yeb w c p n)(hS:Ybt w):
  Calls Tryz.prog 127 #[.agg (Yqj c (fun i=>.slice (p i) (n i) (k i)) q).toArray,.int .i64 (b:Int)] w (Ybg (Ywc c b) w):=by
 have hin:=fun x=>Yhv c (fun i=>.slice (p i) (n i) (k i)) q x;obtain⟨hn1,hn2,hev⟩:=hc b hb;obtain⟨A,hA⟩:∃A,(Yqj c (fun i=>.slice (p i) (n i) (k i)) q).toArray=A:=⟨_,rfl⟩;have HSA:(Tryz.prog.info? 121).map (·.size)=some A.size:=hA▸Ykn c _ q;obtain⟨Y,hY⟩:∃Y,Ya7 (fun _=>0)=Y:=⟨_,rfl⟩;have hz0:∀w,(zeroValue 60).run Tryz.prog w=.ok (.agg Y) w:=by rw[←hY];exact Yb5
 obtain⟨B,wA,wB,hB,hwA,hwB,hzA,hzB,hC0,hC1,hbB⟩:=Ygs w (.cells A 121 (0,0)) (.cells Y 60 (0,0));obtain⟨g,hg⟩:∃g,(lvG (c.ev b) (Yss c.kind)).1=g:=⟨_,rfl⟩;obtain⟨er,her⟩:∃er,(lvG (c.ev b) (Yss c.kind)).2=er:=⟨_,rfl⟩;obtain⟨G,hG⟩:∃G,Ya7 g=G:=⟨_,rfl⟩;obtain⟨V,hV⟩:∃V,Ya7 (Ys1 g)=V:=⟨_,rfl⟩;have LV:=Lib.hid (fun(a:Int) (ha:a=Yss c.kind) (x:World) (hx:Below (B+2) wB x)=>(by
  have h:=Ye8 (p b) (c.ev b) (k b) (Yss c.kind) x (hev.below (hB▸hbB.trans (hx.mono (by omega)))) (by omega);unfold Yf3 at h;rw[hg,her,hG,←hn1,←ha] at h;exact h:Calls Tryz.prog 152 #[.slice (p b) (n b) (k b),.int .i64 a] x fun e y=>e=.returned (.tuple #[.agg G,.int .i64 er])∧Below x.heap.size x y))
 have RS:=Lib.hid (fun(x:World) (hx:Below (B+2) wB x)=>(by
  have h:=Ynz g x (hS.below (hB▸hbB.trans (hx.mono (by omega))));unfold Ybg at h;rw[hG,hV] at h;exact h:Calls Tryz.prog 153 #[.agg G] x fun e y=>e=.returned (.agg V)∧Below x.heap.size x y))
 have C0:=Lib.hid (fun(x:World) (hx:Below (B+2) wB x)=>((hx.block B (by omega)).trans hC0:x.heap[B]? =some (.cells A 121 (0,0))));have C1:=Lib.hid (fun(x:World) (hx:Below (B+2) wB x)=>((hx.block (B+1) (by omega)).trans hC1:x.heap[B+1]? =some (.cells Y 60 (0,0))))
 have EV:=Lib.hid (fun(x:World) (hx:Below (B+2) wB x)=>(Yac (o:=12+b) (by rw[←hA] at hC0;exact(hx.block B (by omega)).trans hC0) (Y0i c (fun i=>.slice (p i) (n i) (k i)) q b hb):x.cell? ⟨B,12+b,none⟩=some (.slice (p b) (n b) (k b))));have HSG:(Tryz.prog.info? 60).map (·.size)=some G.size:=hG▸Yau _;have HOG:G.all (·.oneCell')=true:=hG▸Ybd _;have HYG:Y.size=G.size:=by rw[←hY,←hG,Yam,Yam]
 have HSV:(Tryz.prog.info? 60).map (·.size)=some V.size:=hV▸Yau _;have HOV:V.all (·.oneCell')=true:=hV▸Ybd _;have HYV:Y.size=V.size:=by rw[←hY,←hV,Yam,Yam]
 have FIN:=Lib.hid (show∀y,Below B w y→Ybg (Ywc c b) w (.returned (.agg V)) y from fun y hy=>Yiu (h:=Ys1 g) (fun i _=>by unfold Ywc;rw[hg]) hV (by rw[hB];exact hy));have FR0:=Lib.hid (fun(h:Ya3 c.kind=true)=>(by unfold Yss;rw[if_pos h]:(1:Int)=Yss c.kind));have FR1:=Lib.hid (fun(h:Ya3 c.kind=false)=>(by unfold Yss;rw[if_neg (by rw[h];decide)]:(0:Int)=Yss c.kind));rw[hA] at hin ⊢
 have IN:=Lib.hid hin;have HWA:=Lib.hid hwA;have HWB:=Lib.hid hwB;have HB:=Lib.hid hB;have HBW:=Lib.hid hbB;have c0:=C0.out wB (Below.refl _ _);clear hin hA hY hwA hwB hB hC0 hC1 hbB hg her hG hV hS hc hev hn1 hn2;generalize Yss c.kind=fr at LV FR0 FR1;generalize p b=P at LV EV;generalize n b=N at LV EV;generalize k b=K at LV EV;generalize Ya3 c.kind=ik at IN FR0 FR1
 obtain⟨a,ha⟩:∃a,(if ik=true then (1:Int) else 0)=a:=⟨_,rfl⟩;have LW:=LV.out a (by rw[←ha];cases ik;exact FR1.out rfl;exact FR0.out rfl);clear LV FR0 FR1;cases ik <;> (
  simp only[if_true,Bool.false_eq_true,if_false] at ha;subst ha
  replace LW:=Lib.hid LW
  go_enter Tryz.func127,Tryz.ntmps127
  go_wp2_with (rw[HWA.out,HB.out,HWB.out];with_reducible refine wpList_load_row rfl 121 _ rfl B rfl 121 A (0,0) _ c0 Tryz.underlying121 rfl HSA ?_)
  refine(IN.out _).mono ?_;rintro e x1 ⟨rfl,hb1⟩;rw[hzB] at hb1;have e1:=EV.out x1 hb1
  go_wp2_with fail
  refine(LW.out _ hb1).mono ?_;rintro e x2 ⟨rfl,hb2⟩;have hb3:Below (B+2) wB x2:=hb1.trans (hb2.mono (by have:=hb1.size;omega));obtain⟨X,hX⟩:∃X,x2.heap.size=X:=⟨_,rfl⟩;obtain⟨x3,hx3⟩:∃x3,x2.alloc (.cells G 60 (0,0))=x3:=⟨_,rfl⟩;have h3:x3.heap[X]? =some (.cells G 60 (0,0)):=by rw[←hx3,←hX];exact heap_alloc_new x2 _
  have hb4:Below (B+2) wB x3:=by rw[←hx3];exact hb3.alloc (by have:=hb3.size;omega) _
  have HX:=Lib.hid hX;have HX3:=Lib.hid hx3;clear hb1 hb2 hb3 hX hx3 e1
  go_wp2_with (first|(with_reducible refine Yaf rfl 60 _ _ rfl G Y 60 rfl rfl HSG HYG HOG ?_;rw[HX3.out,HX.out])|(with_reducible refine wpList_load_row rfl 60 _ rfl X rfl 60 G (0,0) _ h3 Tryz.underlying60 rfl HSG ?_))
  refine(RS.out _ hb4).mono ?_;rintro e x4 ⟨rfl,hb5⟩;have hb6:Below (B+2) wB x4:=hb4.trans (hb5.mono (by have:=hb4.size;omega));have c1:=C1.out x4 hb6;have hb7:Below B w x4:=HBW.out.trans (hb6.mono (by omega));have hz6:=hb6.size
  go_wp2_with (with_reducible refine Yad rfl 60 _ _ rfl (B+1) V Y rfl rfl 60 c1 HSV HYV HOV ?_;intro w5 hh5 hg5)
  refine bodyPost_ret (results_cell_row rfl _ _ (B+1) 60 _ (0,0) _ rfl hh5 Tryz.underlying60 rfl HSV) rfl ?_;exact FIN.out _ (hb7.grown hg5 (by omega) (fun k hk=>by injection hk with hk;omega)))
set_option maxRecDepth 100000 in
set_option maxHeartbeats 2000000 in
theorem Ymh (c:Cel)(p:Nat→Option Addr)(n k:Nat→Nat)(q:Int)(b:Nat)(w:World)(hb:b<6)(hc:Yeb w c p n)(hS:Ybt w):
  Calls Tryz.prog 102 #[.agg (Yqj c (fun i=>.slice (p i) (n i) (k i)) q).toArray,.int .i64 (b:Int)] w (Ybg (Yrn c q b) w):=by
 obtain⟨A,hA⟩:∃A,(Yqj c (fun i=>.slice (p i) (n i) (k i)) q).toArray=A:=⟨_,rfl⟩;have HSA:(Tryz.prog.info? 121).map (·.size)=some A.size:=hA▸Ykn c _ q;obtain⟨Y,hY⟩:∃Y,Ya7 (fun _=>0)=Y:=⟨_,rfl⟩;have hz0:∀w,(zeroValue 60).run Tryz.prog w=.ok (.agg Y) w:=by rw[←hY];exact Yb5
 obtain⟨B,wA,wB,hB,hwA,hwB,hzA,hzB,hC0,hC1,hbB⟩:=Ygs w (.cells A 121 (0,0)) (.cells Y 60 (0,0));have UP:∀x y,Below (B+2) wB x→Below x.heap.size x y→Below (B+2) wB y:=fun x y hx hy=>hx.trans (hy.mono (by have:=hx.size;omega));obtain⟨V1,hV1⟩:∃V,Ya7 (Ywc c b)=V:=⟨_,rfl⟩;obtain⟨V,hV⟩:∃V,Ya7 (Yrn c q b)=V:=⟨_,rfl⟩;have LE:=Lib.hid (fun(x:World) (hx:Below (B+2) wB x)=>(by
  have hx2:Below w.heap.size w x:=hB▸hbB.trans (hx.mono (by omega));have h:=Ymb c p n k q b x hb (hc.below hx2) (hS.below hx2);unfold Ybg at h;rw[hA,hV1] at h;exact h.mono fun e y he=>⟨he.1,UP x y hx he.2⟩:Calls Tryz.prog 127 #[.agg A,.int .i64 (b:Int)] x fun e y=>e=.returned (.agg V1)∧Below (B+2) wB y))
 have IN:=Lib.hid (fun(x:World) (hx:Below (B+2) wB x)=>(by
  have h:=Yhv c (fun i=>.slice (p i) (n i) (k i)) q x;rw[hA] at h;exact h.mono fun e y he=>⟨he.1,UP x y hx he.2⟩:Calls Tryz.prog 128 #[.agg A] x fun e y=>e=.returned (.bool (Ya3 c.kind))∧Below (B+2) wB y))
 have BL:=Lib.hid (fun(x:World) (hx:Below (B+2) wB x)=>(by
  have h:=Yvn (Ywc c b) q (Ya3 c.kind) (c.dc b) x;unfold Ybg at h;rw[hV1,show Ya7 (Yx5 (Ywc c b) q (Ya3 c.kind) (c.dc b))=V from hV] at h;exact h.mono fun e y he=>⟨he.1,UP x y hx he.2⟩:Calls Tryz.prog 126 #[.agg V1,.int .i64 q,.bool (Ya3 c.kind),.int .i64 (c.dc b)] x fun e y=>e=.returned (.agg V)∧Below (B+2) wB y))
 have C0:=Lib.hid (fun(x:World) (hx:Below (B+2) wB x)=>((hx.block B (by omega)).trans hC0:x.heap[B]? =some (.cells A 121 (0,0))));have C1:=Lib.hid (fun(x:World) (hx:Below (B+2) wB x)=>((hx.block (B+1) (by omega)).trans hC1:x.heap[B+1]? =some (.cells Y 60 (0,0))))
 have CQ:=Lib.hid (fun(x:World) (hx:Below (B+2) wB x)=>(Yac (o:=18) (by rw[←hA] at hC0;exact(hx.block B (by omega)).trans hC0) (Yua c _ q):x.cell? ⟨B,18,none⟩=some (.int .i64 q)));have CD:=Lib.hid (fun(x:World) (hx:Below (B+2) wB x)=>(Yac (o:=6+b) (by rw[←hA] at hC0;exact(hx.block B (by omega)).trans hC0) (Y0h c _ q b hb):x.cell? ⟨B,6+b,none⟩=some (.int .i64 (c.dc b))))
 have HSV:(Tryz.prog.info? 60).map (·.size)=some V.size:=hV▸Yau _;have HOV:V.all (·.oneCell')=true:=hV▸Ybd _;have HYV:Y.size=V.size:=by rw[←hY,←hV,Yam,Yam]
 have FIN:=Lib.hid (show∀y,Below B w y→Ybg (Yrn c q b) w (.returned (.agg V)) y from fun y hy=>Yiu (h:=Yrn c q b) (fun i _=>rfl) hV (by rw[hB];exact hy));rw[hA];have HWA:=Lib.hid hwA;have HWB:=Lib.hid hwB;have HB:=Lib.hid hB;have HBW:=Lib.hid hbB;clear hA hY hwA hwB hB hC0 hC1 hbB hV hV1 hS hc UP;generalize c.dc b=d at CD BL;generalize Ya3 c.kind=ik at IN BL
 go_enter Tryz.func102,Tryz.ntmps102
 go_wp2
 rw[HWA.out,HB.out,HWB.out];refine Yan (S:=fun x=>Below (B+2) wB x) 13 (by kernel_rfl) (by kernel_rfl) (Below.refl _ _).drew ?_;simp only[List.take_succ_cons,List.take_zero,List.drop_succ_cons,List.drop_zero];refine Yc9 121 _ B 121 A (0,0) _ (by kernel_rfl) rfl rfl (fun x hx=>C0.out x hx) Tryz.underlying121 rfl HSA ?_;simp only[Yaa]
 refine Yab (by kernel_rfl) (fun x _=>by go_simp;try with_reducible rfl) ?_;simp only[Yaa];refine Ya5 (by kernel_rfl) LE.out (fun _=>by kernel_rfl) ?_;simp only[Yaa];refine Yab (by kernel_rfl) (fun x _=>by go_simp;try with_reducible rfl) ?_;simp only[Yaa];refine Yas 3 _ ⟨B,18,none⟩ (.int .i64 q) (by kernel_rfl) rfl rfl (fun x hx=>by have c0:=CQ.out x hx;go_simp) ?_;simp only[Yaa]
 refine Yc9 121 _ B 121 A (0,0) _ (by kernel_rfl) rfl rfl (fun x hx=>C0.out x hx) Tryz.underlying121 rfl HSA ?_;simp only[Yaa];refine Ya5 (by kernel_rfl) IN.out (fun _=>by kernel_rfl) ?_;simp only[Yaa]
 iterate 3 (refine Yab (by kernel_rfl) (fun x _=>by go_simp;try with_reducible rfl) ?_;simp only[Yaa])
 refine Yab (by kernel_rfl) (fun x _=>by go_simp;rw[if_pos (by omega)]) ?_;simp only[Yaa];refine Yas 3 _ ⟨B,6+b,none⟩ (.int .i64 d) (by kernel_rfl) rfl rfl (fun x hx=>by have c0:=CD.out x hx;go_simp) ?_;simp only[Yaa];refine Ya5 (by kernel_rfl) BL.out (fun _=>by kernel_rfl) ?_;simp only[Yaa];refine Ybi fun x hx=>?_;have c1:=C1.out x hx;have hb7:Below B w x:=HBW.out.trans (hx.mono (by omega))
 have hz6:=hx.size
 go_wp2_with (with_reducible refine Yad rfl 60 _ _ rfl (B+1) V Y rfl rfl 60 c1 HSV HYV HOV ?_;intro w5 hh5 hg5)
 refine bodyPost_ret (results_cell_row rfl _ _ (B+1) 60 _ (0,0) _ rfl hh5 Tryz.underlying60 rfl HSV) rfl ?_;exact FIN.out _ (hb7.grown hg5 (by omega) (fun k hk=>by injection hk with hk;omega))
set_option maxRecDepth 100000 in
set_option maxHeartbeats 2000000 in
theorem Ykr (c:Cel)(p:Nat→Option Addr)(n k:Nat→Nat)(q:Int)(b:Nat)(w:World)(hb:b<6)(hc:Yeb w c p n)(hS:Ybt w)(hD:Yck w):
  Calls Tryz.prog 78 #[.agg (Yqj c (fun i=>.slice (p i) (n i) (k i)) q).toArray,.int .i64 (b:Int)] w (Ybg (Yik c q b) w):=by
 obtain⟨A,hA⟩:∃A,(Yqj c (fun i=>.slice (p i) (n i) (k i)) q).toArray=A:=⟨_,rfl⟩;have HSA:(Tryz.prog.info? 121).map (·.size)=some A.size:=hA▸Ykn c _ q;obtain⟨Y,hY⟩:∃Y,Ya7 (fun _=>0)=Y:=⟨_,rfl⟩;have hz0:∀w,(zeroValue 60).run Tryz.prog w=.ok (.agg Y) w:=by rw[←hY];exact Yb5
 have hbz:∀w,(Instr.build 60 #[]).run Tryz.prog w=.ok (.agg Y) w:=by rw[←hY];exact Yiv
 obtain⟨B,wA,wB,hB,hwA,hwB,hzA,hzB,hC0,hC1,hbB⟩:=Ygs w (.cells A 121 (0,0)) (.cells Y 60 (0,0));obtain⟨G,hG⟩:∃V,Ya7 (Yrn c q b)=V:=⟨_,rfl⟩;obtain⟨V,hV⟩:∃V,Ya7 (Yik c q b)=V:=⟨_,rfl⟩;obtain⟨z,hz⟩:∃z,Yvi (Yrn c q b) (fun _=>0)=z:=⟨_,rfl⟩;have qe:∀x,(Op.equalIn 10000 60 (.agg G) (.agg Y)).run Tryz.prog x=.ok z x:=fun x=>by rw[←hG,←hY,←hz];exact Yry _ _ x
 have ZV:=Lib.hid (fun(h:z=true)=>(by
  have h2:=Yrw.1 (hz.trans h);rw[←hG,←hV];exact Yf4 fun i hi=>by rw[h2 i hi];exact(Yoz h2 i hi).symm:G=V))
 have VA:=Lib.hid (fun(x:World) (hx:Below (B+2) wB x)=>(by
  have hx2:Below w.heap.size w x:=hB▸hbB.trans (hx.mono (by omega));have h:=Ymh c p n k q b x hb (hc.below hx2) (hS.below hx2);unfold Ybg at h;rw[hA,hG] at h;exact h:Calls Tryz.prog 102 #[.agg A,.int .i64 (b:Int)] x fun e y=>e=.returned (.agg G)∧Below x.heap.size x y))
 have IV:=Lib.hid (fun(x:World) (hx:Below (B+2) wB x)=>(by
  have h:=Yl0 (Yrn c q b) x (hD.below (hB▸hbB.trans (hx.mono (by omega))));unfold Yb4 at h;rw[hG,show arn 64 (Ysu (Yrn c q b))=V from hV] at h;exact h:Calls Tryz.prog 103 #[.agg G] x fun e y=>e=.returned (.agg V)∧Below x.heap.size x y))
 have C1:=Lib.hid (fun(x:World) (hx:Below (B+2) wB x)=>((hx.block (B+1) (by omega)).trans hC1:x.heap[B+1]? =some (.cells Y 60 (0,0))));have HSG:(Tryz.prog.info? 60).map (·.size)=some G.size:=hG▸Yau _;have HOG:G.all (·.oneCell')=true:=hG▸Ybd _;have HYG:Y.size=G.size:=by rw[←hY,←hG,Yam,Yam]
 have HSV:(Tryz.prog.info? 60).map (·.size)=some V.size:=hV▸Yau _;have HOV:V.all (·.oneCell')=true:=hV▸Ybd _;have HYV:Y.size=V.size:=by rw[←hY,←hV,Yam,Yam]
 have FIN:=Lib.hid (show∀y,Below B w y→Ybg (Yik c q b) w (.returned (.agg V)) y from fun y hy=>Yiu (h:=Yik c q b) (fun i _=>rfl) hV (by rw[hB];exact hy));rw[hA];have HWA:=Lib.hid hwA;have HWB:=Lib.hid hwB;have HB:=Lib.hid hB;have HBW:=Lib.hid hbB;have c0:=hC0;clear hA hY hwA hwB hB hC0 hC1 hbB hV hG hS hc hD hz
 go_enter Tryz.func78,Tryz.ntmps78
 go_wp2_with (rw[HWA.out,HB.out,HWB.out];with_reducible refine wpList_load_row rfl 121 _ rfl B rfl 121 A (0,0) _ c0 Tryz.underlying121 rfl HSA ?_)
 refine(VA.out _ (Below.refl _ _)).mono ?_;rintro e x2 ⟨rfl,hb3⟩;rw[hzB] at hb3;obtain⟨X,hX⟩:∃X,x2.heap.size=X:=⟨_,rfl⟩;obtain⟨x3,hx3⟩:∃x3,x2.alloc (.cells G 60 (0,0))=x3:=⟨_,rfl⟩;have h3:x3.heap[X]? =some (.cells G 60 (0,0)):=by rw[←hx3,←hX];exact heap_alloc_new x2 _
 have hb4:Below (B+2) wB x3:=by rw[←hx3];exact hb3.alloc (by have:=hb3.size;omega) _
 have HX:=Lib.hid hX;have HX3:=Lib.hid hx3;have hz6:=hb4.size;clear hb3 hX hx3 c0;cases z with
 |true=>
  obtain rfl:=ZV.out rfl;have c1:=C1.out x3 hb4;have hb7:Below B w x3:=HBW.out.trans (hb4.mono (by omega))
  go_wp2_with (first|(with_reducible refine Yaf rfl 60 _ _ rfl G Y 60 rfl rfl HSG HYG HOG ?_;rw[HX3.out,HX.out])|(with_reducible refine wpList_load_row rfl 60 _ rfl X rfl 60 G (0,0) _ h3 Tryz.underlying60 rfl HSG ?_)|(with_reducible refine Yad rfl 60 _ _ rfl (B+1) G Y rfl rfl 60 c1 HSV HYV HOV ?_;intro w5 hh5 hg5))
  refine bodyPost_ret (results_cell_row rfl _ _ (B+1) 60 _ (0,0) _ rfl hh5 Tryz.underlying60 rfl HSV) rfl ?_;exact FIN.out _ (hb7.grown hg5 (by omega) (fun k hk=>by injection hk with hk;omega))
 |false=>
  go_wp2_with (first|(with_reducible refine Yaf rfl 60 _ _ rfl G Y 60 rfl rfl HSG HYG HOG ?_;rw[HX3.out,HX.out])|(with_reducible refine wpList_load_row rfl 60 _ rfl X rfl 60 G (0,0) _ h3 Tryz.underlying60 rfl HSG ?_))
  refine(IV.out _ hb4).mono ?_;rintro e x4 ⟨rfl,hb5⟩;have hb6:Below (B+2) wB x4:=hb4.trans (hb5.mono (by omega));have hz7:=hb6.size;have c1:=C1.out x4 hb6;have hb7:Below B w x4:=HBW.out.trans (hb6.mono (by omega))
  go_wp2_with (with_reducible refine Yad rfl 60 _ _ rfl (B+1) V Y rfl rfl 60 c1 HSV HYV HOV ?_;intro w5 hh5 hg5)
  refine bodyPost_ret (results_cell_row rfl _ _ (B+1) 60 _ (0,0) _ rfl hh5 Tryz.underlying60 rfl HSV) rfl ?_;exact FIN.out _ (hb7.grown hg5 (by omega) (fun k hk=>by injection hk with hk;omega))
end Go.Proofs.YtnamlooifcpoaaaGreatDoor