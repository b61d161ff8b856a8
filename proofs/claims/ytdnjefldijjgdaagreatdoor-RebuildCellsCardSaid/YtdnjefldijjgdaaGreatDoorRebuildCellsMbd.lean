/- No condition. -/
import Derived.Test.YtdnjefldijjgdaaGreatDoorRebuildCellsMa
import Derived.Test.YtdnjefldijjgdaaGreatDoorRebuildCellsMg
import Derived.Test.YtdnjefldijjgdaaGreatDoorRebuildCellsMh
import Derived.Test.YtdnjefldijjgdaaGreatDoorRebuildCellsMo
import Derived.Test.YtdnjefldijjgdaaGreatDoorRebuildCellsMq
import Derived.Test.YtdnjefldijjgdaaGreatDoorRebuildCellsMu
import Derived.Test.YtdnjefldijjgdaaGreatDoorRebuildCellsMba
import Derived.Test.YtdnjefldijjgdaaGreatDoorRebuildCellsMbb
import Derived.Test.YtdnjefldijjgdaaGreatDoorRebuildCellsMbc
namespace Go.Proofs.YtdnjefldijjgdaaGreatDoor
open Go.RowKit Go.Lib
def Ygw (c:Cel)(sl:Nat→Value)(q:Int):List Value:=Ycs c sl++[.int .i64 q]
theorem Yik (c:Cel)(sl:Nat→Value)(q:Int):(Tryz.prog.info? 63).map (·.size)=some (Ygw c sl q).toArray.size:=by kernel_rfl
theorem Ypu (c:Cel)(sl:Nat→Value)(q:Int):(Ygw c sl q)[18]? =some (.int .i64 q):=rfl
theorem Yt5 (c:Cel)(sl:Nat→Value)(q:Int):∀i,i<6→(Ygw c sl q)[6+i]? =some (.int .i64 (c.dc i))
 |0,_=>rfl
 |1,_=>rfl
 |2,_=>rfl
 |3,_=>rfl
 |4,_=>rfl
 |5,_=>rfl
theorem Yt6 (c:Cel)(sl:Nat→Value)(q:Int):∀i,i<6→(Ygw c sl q)[12+i]? =some (sl i)
 |0,_=>rfl
 |1,_=>rfl
 |2,_=>rfl
 |3,_=>rfl
 |4,_=>rfl
 |5,_=>rfl
theorem Ygr (c:Cel)(sl:Nat→Value)(q:Int)(w:World):Calls Tryz.prog 63 #[.agg (Ygw c sl q).toArray] w fun e w'=>e=.returned (.bool (Yah c.kind))∧Below w.heap.size w w':=by
 obtain⟨A,hA⟩:∃A,(Ygw c sl q).toArray=A:=⟨_,rfl⟩;have f2:A[2]? =some (.int .i64 c.kind):=by rw[←hA];rfl
 rw[hA];clear hA;have IK:Hid (Yah c.kind=(c.kind==3 || c.kind==4)):=Lib.hid rfl;generalize Yah c.kind=ik at IK ⊢;generalize c.kind=k at f2 IK;rcases Bool.eq_false_or_eq_true (k==3) with t0|t0
 ·go_enter Tryz.func63,Tryz.ntmps63
  go_wp2
  go_ret
  exact⟨Yac (by rw[IK.out,t0];rfl),(Below.refl _ w).alloc (Nat.le_refl _) _⟩
 ·go_enter Tryz.func63,Tryz.ntmps63
  go_wp2
  go_ret
  exact⟨Yac (by rw[IK.out,t0];rfl),(Below.refl _ w).alloc (Nat.le_refl _) _⟩
set_option maxRecDepth 100000 in
set_option maxHeartbeats 2000000 in
theorem Yjv (c:Cel)(p:Nat→Option Addr)(n k:Nat→Nat)(q:Int)(b:Nat)(w:World)(hb:b<6)(hc:Yc6 w c p n)(hS:Yb6 w):
  Calls Tryz.prog 62 #[.agg (Ygw c (fun i=>.slice (p i) (n i) (k i)) q).toArray,.int .i64 (b:Int)] w (Ya6 (Yd2 c b) w):=by
 have hin:=fun x=>Ygr c (fun i=>.slice (p i) (n i) (k i)) q x;obtain⟨hn1,hn2,hev⟩:=hc b hb;obtain⟨A,hA⟩:∃A,(Ygw c (fun i=>.slice (p i) (n i) (k i)) q).toArray=A:=⟨_,rfl⟩;have HSA:(Tryz.prog.info? 63).map (·.size)=some A.size:=hA▸Yik c _ q;obtain⟨Y,hY⟩:∃Y,Yay (fun _=>0)=Y:=⟨_,rfl⟩;have hz0:∀w,(zeroValue 36).run Tryz.prog w=.ok (.agg Y) w:=by rw[←hY];exact Ybd
 obtain⟨B,wA,wB,hB,hwA,hwB,hzA,hzB,hC0,hC1,hbB⟩:=Yex w (.cells A 63 (0,0)) (.cells Y 36 (0,0));obtain⟨g,hg⟩:∃g,(lvG (c.ev b) (Yhe c.kind)).1=g:=⟨_,rfl⟩;obtain⟨er,her⟩:∃er,(lvG (c.ev b) (Yhe c.kind)).2=er:=⟨_,rfl⟩;obtain⟨G,hG⟩:∃G,Yay g=G:=⟨_,rfl⟩;obtain⟨V,hV⟩:∃V,Yay (Ym3 g)=V:=⟨_,rfl⟩;have LV:=Lib.hid (fun(a:Int) (ha:a=Yhe c.kind) (x:World) (hx:Below (B+2) wB x)=>(by
  have h:=Yep (p b) (c.ev b) (k b) (Yhe c.kind) x (hev.below (hB▸hbB.trans (hx.mono (by omega)))) (by omega);unfold Ydv at h;rw[hg,her,hG,←hn1,←ha] at h;exact h:Calls Tryz.prog 88 #[.slice (p b) (n b) (k b),.int .i64 a] x fun e y=>e=.returned (.tuple #[.agg G,.int .i64 er])∧Below x.heap.size x y))
 have RS:=Lib.hid (fun(x:World) (hx:Below (B+2) wB x)=>(by
  have h:=Yk5 g x (hS.below (hB▸hbB.trans (hx.mono (by omega))));unfold Ya6 at h;rw[hG,hV] at h;exact h:Calls Tryz.prog 89 #[.agg G] x fun e y=>e=.returned (.agg V)∧Below x.heap.size x y))
 have C0:=Lib.hid (fun(x:World) (hx:Below (B+2) wB x)=>((hx.block B (by omega)).trans hC0:x.heap[B]? =some (.cells A 63 (0,0))));have C1:=Lib.hid (fun(x:World) (hx:Below (B+2) wB x)=>((hx.block (B+1) (by omega)).trans hC1:x.heap[B+1]? =some (.cells Y 36 (0,0))))
 have EV:=Lib.hid (fun(x:World) (hx:Below (B+2) wB x)=>(Yae (o:=12+b) (by rw[←hA] at hC0;exact(hx.block B (by omega)).trans hC0) (Yt6 c (fun i=>.slice (p i) (n i) (k i)) q b hb):x.cell? ⟨B,12+b,none⟩=some (.slice (p b) (n b) (k b))));have HSG:(Tryz.prog.info? 36).map (·.size)=some G.size:=hG▸Yan _;have HOG:G.all (·.oneCell')=true:=hG▸Ya0 _;have HYG:Y.size=G.size:=by rw[←hY,←hG,Yak,Yak]
 have HSV:(Tryz.prog.info? 36).map (·.size)=some V.size:=hV▸Yan _;have HOV:V.all (·.oneCell')=true:=hV▸Ya0 _;have HYV:Y.size=V.size:=by rw[←hY,←hV,Yak,Yak]
 have FIN:=Lib.hid (show∀y,Below B w y→Ya6 (Yd2 c b) w (.returned (.agg V)) y from fun y hy=>Yeu (h:=Ym3 g) (fun i _=>by unfold Yd2;rw[hg]) hV (by rw[hB];exact hy));have FR0:=Lib.hid (fun(h:Yah c.kind=true)=>(by unfold Yhe;rw[if_pos h]:(1:Int)=Yhe c.kind));have FR1:=Lib.hid (fun(h:Yah c.kind=false)=>(by unfold Yhe;rw[if_neg (by rw[h];decide)]:(0:Int)=Yhe c.kind));rw[hA] at hin ⊢
 have IN:=Lib.hid hin;have HWA:=Lib.hid hwA;have HWB:=Lib.hid hwB;have HB:=Lib.hid hB;have HBW:=Lib.hid hbB;have c0:=C0.out wB (Below.refl _ _);clear hin hA hY hwA hwB hB hC0 hC1 hbB hg her hG hV hS hc hev hn1 hn2;generalize Yhe c.kind=fr at LV FR0 FR1;generalize p b=P at LV EV;generalize n b=N at LV EV;generalize k b=K at LV EV;generalize Yah c.kind=ik at IN FR0 FR1
 obtain⟨a,ha⟩:∃a,(if ik=true then (1:Int) else 0)=a:=⟨_,rfl⟩;have LW:=LV.out a (by rw[←ha];cases ik;exact FR1.out rfl;exact FR0.out rfl);clear LV FR0 FR1;cases ik <;> (
  simp only[if_true,Bool.false_eq_true,if_false] at ha;subst ha
  replace LW:=Lib.hid LW
  go_enter Tryz.func62,Tryz.ntmps62
  go_wp2_with (rw[HWA.out,HB.out,HWB.out];with_reducible refine wpList_load_row rfl 63 _ rfl B rfl 63 A (0,0) _ c0 Tryz.underlying63 rfl HSA ?_)
  refine(IN.out _).mono ?_;rintro e x1 ⟨rfl,hb1⟩;rw[hzB] at hb1;have e1:=EV.out x1 hb1
  go_wp2_with fail
  refine(LW.out _ hb1).mono ?_;rintro e x2 ⟨rfl,hb2⟩;have hb3:Below (B+2) wB x2:=hb1.trans (hb2.mono (by have:=hb1.size;omega));obtain⟨X,hX⟩:∃X,x2.heap.size=X:=⟨_,rfl⟩;obtain⟨x3,hx3⟩:∃x3,x2.alloc (.cells G 36 (0,0))=x3:=⟨_,rfl⟩;have h3:x3.heap[X]? =some (.cells G 36 (0,0)):=by rw[←hx3,←hX];exact heap_alloc_new x2 _
  have hb4:Below (B+2) wB x3:=by rw[←hx3];exact hb3.alloc (by have:=hb3.size;omega) _
  have HX:=Lib.hid hX;have HX3:=Lib.hid hx3;clear hb1 hb2 hb3 hX hx3 e1
  go_wp2_with (first|(with_reducible refine Yap rfl 36 _ _ rfl G Y 36 rfl rfl HSG HYG HOG ?_;rw[HX3.out,HX.out])|(with_reducible refine wpList_load_row rfl 36 _ rfl X rfl 36 G (0,0) _ h3 Tryz.underlying36 rfl HSG ?_))
  refine(RS.out _ hb4).mono ?_;rintro e x4 ⟨rfl,hb5⟩;have hb6:Below (B+2) wB x4:=hb4.trans (hb5.mono (by have:=hb4.size;omega));have c1:=C1.out x4 hb6;have hb7:Below B w x4:=HBW.out.trans (hb6.mono (by omega));have hz6:=hb6.size
  go_wp2_with (with_reducible refine Yad rfl 36 _ _ rfl (B+1) V Y rfl rfl 36 c1 HSV HYV HOV ?_;intro w5 hh5 hg5)
  refine bodyPost_ret (results_cell_row rfl _ _ (B+1) 36 _ (0,0) _ rfl hh5 Tryz.underlying36 rfl HSV) rfl ?_;exact FIN.out _ (hb7.grown hg5 (by omega) (fun k hk=>by injection hk with hk;omega)))
set_option maxRecDepth 100000 in
set_option maxHeartbeats 2000000 in
theorem Yj2 (c:Cel)(p:Nat→Option Addr)(n k:Nat→Nat)(q:Int)(b:Nat)(w:World)(hb:b<6)(hc:Yc6 w c p n)(hS:Yb6 w):
  Calls Tryz.prog 40 #[.agg (Ygw c (fun i=>.slice (p i) (n i) (k i)) q).toArray,.int .i64 (b:Int)] w (Ya6 (Ydy c q b) w):=by
 obtain⟨A,hA⟩:∃A,(Ygw c (fun i=>.slice (p i) (n i) (k i)) q).toArray=A:=⟨_,rfl⟩;have HSA:(Tryz.prog.info? 63).map (·.size)=some A.size:=hA▸Yik c _ q;obtain⟨Y,hY⟩:∃Y,Yay (fun _=>0)=Y:=⟨_,rfl⟩;have hz0:∀w,(zeroValue 36).run Tryz.prog w=.ok (.agg Y) w:=by rw[←hY];exact Ybd
 obtain⟨B,wA,wB,hB,hwA,hwB,hzA,hzB,hC0,hC1,hbB⟩:=Yex w (.cells A 63 (0,0)) (.cells Y 36 (0,0));have UP:∀x y,Below (B+2) wB x→Below x.heap.size x y→Below (B+2) wB y:=fun x y hx hy=>hx.trans (hy.mono (by have:=hx.size;omega));obtain⟨V1,hV1⟩:∃V,Yay (Yd2 c b)=V:=⟨_,rfl⟩;obtain⟨V,hV⟩:∃V,Yay (Ydy c q b)=V:=⟨_,rfl⟩;have LE:=Lib.hid (fun(x:World) (hx:Below (B+2) wB x)=>(by
  have hx2:Below w.heap.size w x:=hB▸hbB.trans (hx.mono (by omega));have h:=Yjv c p n k q b x hb (hc.below hx2) (hS.below hx2);unfold Ya6 at h;rw[hA,hV1] at h;exact h.mono fun e y he=>⟨he.1,UP x y hx he.2⟩:Calls Tryz.prog 62 #[.agg A,.int .i64 (b:Int)] x fun e y=>e=.returned (.agg V1)∧Below (B+2) wB y))
 have IN:=Lib.hid (fun(x:World) (hx:Below (B+2) wB x)=>(by
  have h:=Ygr c (fun i=>.slice (p i) (n i) (k i)) q x;rw[hA] at h;exact h.mono fun e y he=>⟨he.1,UP x y hx he.2⟩:Calls Tryz.prog 63 #[.agg A] x fun e y=>e=.returned (.bool (Yah c.kind))∧Below (B+2) wB y))
 have BL:=Lib.hid (fun(x:World) (hx:Below (B+2) wB x)=>(by
  have h:=Yqp (Yd2 c b) q (Yah c.kind) (c.dc b) x;unfold Ya6 at h;rw[hV1,show Yay (Yme (Yd2 c b) q (Yah c.kind) (c.dc b))=V from hV] at h;exact h.mono fun e y he=>⟨he.1,UP x y hx he.2⟩:Calls Tryz.prog 61 #[.agg V1,.int .i64 q,.bool (Yah c.kind),.int .i64 (c.dc b)] x fun e y=>e=.returned (.agg V)∧Below (B+2) wB y))
 have C0:=Lib.hid (fun(x:World) (hx:Below (B+2) wB x)=>((hx.block B (by omega)).trans hC0:x.heap[B]? =some (.cells A 63 (0,0))));have C1:=Lib.hid (fun(x:World) (hx:Below (B+2) wB x)=>((hx.block (B+1) (by omega)).trans hC1:x.heap[B+1]? =some (.cells Y 36 (0,0))))
 have CQ:=Lib.hid (fun(x:World) (hx:Below (B+2) wB x)=>(Yae (o:=18) (by rw[←hA] at hC0;exact(hx.block B (by omega)).trans hC0) (Ypu c _ q):x.cell? ⟨B,18,none⟩=some (.int .i64 q)));have CD:=Lib.hid (fun(x:World) (hx:Below (B+2) wB x)=>(Yae (o:=6+b) (by rw[←hA] at hC0;exact(hx.block B (by omega)).trans hC0) (Yt5 c _ q b hb):x.cell? ⟨B,6+b,none⟩=some (.int .i64 (c.dc b))))
 have HSV:(Tryz.prog.info? 36).map (·.size)=some V.size:=hV▸Yan _;have HOV:V.all (·.oneCell')=true:=hV▸Ya0 _;have HYV:Y.size=V.size:=by rw[←hY,←hV,Yak,Yak]
 have FIN:=Lib.hid (show∀y,Below B w y→Ya6 (Ydy c q b) w (.returned (.agg V)) y from fun y hy=>Yeu (h:=Ydy c q b) (fun i _=>rfl) hV (by rw[hB];exact hy));rw[hA];have HWA:=Lib.hid hwA;have HWB:=Lib.hid hwB;have HB:=Lib.hid hB;have HBW:=Lib.hid hbB;clear hA hY hwA hwB hB hC0 hC1 hbB hV hV1 hS hc UP;generalize c.dc b=d at CD BL;generalize Yah c.kind=ik at IN BL
 go_enter Tryz.func40,Tryz.ntmps40
 go_wp2
 rw[HWA.out,HB.out,HWB.out];refine Yag (S:=fun x=>Below (B+2) wB x) 13 (by kernel_rfl) (by kernel_rfl) (Below.refl _ _).drew ?_;simp only[List.take_succ_cons,List.take_zero,List.drop_succ_cons,List.drop_zero];refine Ybl 63 _ B 63 A (0,0) _ (by kernel_rfl) rfl rfl (fun x hx=>C0.out x hx) Tryz.underlying63 rfl HSA ?_;simp only[Yaa]
 refine Yab (by kernel_rfl) (fun x _=>by go_simp;try with_reducible rfl) ?_;simp only[Yaa];refine Yai (by kernel_rfl) LE.out (fun _=>by kernel_rfl) ?_;simp only[Yaa];refine Yab (by kernel_rfl) (fun x _=>by go_simp;try with_reducible rfl) ?_;simp only[Yaa];refine Yaf 3 _ ⟨B,18,none⟩ (.int .i64 q) (by kernel_rfl) rfl rfl (fun x hx=>by have c0:=CQ.out x hx;go_simp) ?_;simp only[Yaa]
 refine Ybl 63 _ B 63 A (0,0) _ (by kernel_rfl) rfl rfl (fun x hx=>C0.out x hx) Tryz.underlying63 rfl HSA ?_;simp only[Yaa];refine Yai (by kernel_rfl) IN.out (fun _=>by kernel_rfl) ?_;simp only[Yaa]
 iterate 3 (refine Yab (by kernel_rfl) (fun x _=>by go_simp;try with_reducible rfl) ?_;simp only[Yaa])
 refine Yab (by kernel_rfl) (fun x _=>by go_simp;rw[if_pos (by omega)]) ?_;simp only[Yaa];refine Yaf 3 _ ⟨B,6+b,none⟩ (.int .i64 d) (by kernel_rfl) rfl rfl (fun x hx=>by have c0:=CD.out x hx;go_simp) ?_;simp only[Yaa];refine Yai (by kernel_rfl) BL.out (fun _=>by kernel_rfl) ?_;simp only[Yaa];refine Yar fun x hx=>?_;have c1:=C1.out x hx;have hb7:Below B w x:=HBW.out.trans (hx.mono (by omega))
 have hz6:=hx.size
 go_wp2_with (with_reducible refine Yad rfl 36 _ _ rfl (B+1) V Y rfl rfl 36 c1 HSV HYV HOV ?_;intro w5 hh5 hg5)
 refine bodyPost_ret (results_cell_row rfl _ _ (B+1) 36 _ (0,0) _ rfl hh5 Tryz.underlying36 rfl HSV) rfl ?_;exact FIN.out _ (hb7.grown hg5 (by omega) (fun k hk=>by injection hk with hk;omega))
set_option maxRecDepth 100000 in
set_option maxHeartbeats 2000000 in
theorem Yio (c:Cel)(p:Nat→Option Addr)(n k:Nat→Nat)(q:Int)(b:Nat)(w:World)(hb:b<6)(hc:Yc6 w c p n)(hS:Yb6 w)(hD:Ycw w):
  Calls Tryz.prog 28 #[.agg (Ygw c (fun i=>.slice (p i) (n i) (k i)) q).toArray,.int .i64 (b:Int)] w (Ya6 (Ycx c q b) w):=by
 obtain⟨A,hA⟩:∃A,(Ygw c (fun i=>.slice (p i) (n i) (k i)) q).toArray=A:=⟨_,rfl⟩;have HSA:(Tryz.prog.info? 63).map (·.size)=some A.size:=hA▸Yik c _ q;obtain⟨Y,hY⟩:∃Y,Yay (fun _=>0)=Y:=⟨_,rfl⟩;have hz0:∀w,(zeroValue 36).run Tryz.prog w=.ok (.agg Y) w:=by rw[←hY];exact Ybd
 have hbz:∀w,(Instr.build 36 #[]).run Tryz.prog w=.ok (.agg Y) w:=by rw[←hY];exact Ye7
 obtain⟨B,wA,wB,hB,hwA,hwB,hzA,hzB,hC0,hC1,hbB⟩:=Yex w (.cells A 63 (0,0)) (.cells Y 36 (0,0));obtain⟨G,hG⟩:∃V,Yay (Ydy c q b)=V:=⟨_,rfl⟩;obtain⟨V,hV⟩:∃V,Yay (Ycx c q b)=V:=⟨_,rfl⟩;obtain⟨z,hz⟩:∃z,Yql (Ydy c q b) (fun _=>0)=z:=⟨_,rfl⟩;have qe:∀x,(Op.equalIn 10000 36 (.agg G) (.agg Y)).run Tryz.prog x=.ok z x:=fun x=>by rw[←hG,←hY,←hz];exact Yn3 _ _ x
 have ZV:=Lib.hid (fun(h:z=true)=>(by
  have h2:=Yn1.1 (hz.trans h);rw[←hG,←hV];exact Ye5 fun i hi=>by rw[h2 i hi];exact(Yrg h2 i hi).symm:G=V))
 have VA:=Lib.hid (fun(x:World) (hx:Below (B+2) wB x)=>(by
  have hx2:Below w.heap.size w x:=hB▸hbB.trans (hx.mono (by omega));have h:=Yj2 c p n k q b x hb (hc.below hx2) (hS.below hx2);unfold Ya6 at h;rw[hA,hG] at h;exact h:Calls Tryz.prog 40 #[.agg A,.int .i64 (b:Int)] x fun e y=>e=.returned (.agg G)∧Below x.heap.size x y))
 have IV:=Lib.hid (fun(x:World) (hx:Below (B+2) wB x)=>(by
  have h:=Yjn (Ydy c q b) x (hD.below (hB▸hbB.trans (hx.mono (by omega))));unfold Ybj at h;rw[hG,show arn 64 (Yfw (Ydy c q b))=V from hV] at h;exact h:Calls Tryz.prog 41 #[.agg G] x fun e y=>e=.returned (.agg V)∧Below x.heap.size x y))
 have C1:=Lib.hid (fun(x:World) (hx:Below (B+2) wB x)=>((hx.block (B+1) (by omega)).trans hC1:x.heap[B+1]? =some (.cells Y 36 (0,0))));have HSG:(Tryz.prog.info? 36).map (·.size)=some G.size:=hG▸Yan _;have HOG:G.all (·.oneCell')=true:=hG▸Ya0 _;have HYG:Y.size=G.size:=by rw[←hY,←hG,Yak,Yak]
 have HSV:(Tryz.prog.info? 36).map (·.size)=some V.size:=hV▸Yan _;have HOV:V.all (·.oneCell')=true:=hV▸Ya0 _;have HYV:Y.size=V.size:=by rw[←hY,←hV,Yak,Yak]
 have FIN:=Lib.hid (show∀y,Below B w y→Ya6 (Ycx c q b) w (.returned (.agg V)) y from fun y hy=>Yeu (h:=Ycx c q b) (fun i _=>rfl) hV (by rw[hB];exact hy));rw[hA];have HWA:=Lib.hid hwA;have HWB:=Lib.hid hwB;have HB:=Lib.hid hB;have HBW:=Lib.hid hbB;have c0:=hC0;clear hA hY hwA hwB hB hC0 hC1 hbB hV hG hS hc hD hz
 go_enter Tryz.func28,Tryz.ntmps28
 go_wp2_with (rw[HWA.out,HB.out,HWB.out];with_reducible refine wpList_load_row rfl 63 _ rfl B rfl 63 A (0,0) _ c0 Tryz.underlying63 rfl HSA ?_)
 refine(VA.out _ (Below.refl _ _)).mono ?_;rintro e x2 ⟨rfl,hb3⟩;rw[hzB] at hb3;obtain⟨X,hX⟩:∃X,x2.heap.size=X:=⟨_,rfl⟩;obtain⟨x3,hx3⟩:∃x3,x2.alloc (.cells G 36 (0,0))=x3:=⟨_,rfl⟩;have h3:x3.heap[X]? =some (.cells G 36 (0,0)):=by rw[←hx3,←hX];exact heap_alloc_new x2 _
 have hb4:Below (B+2) wB x3:=by rw[←hx3];exact hb3.alloc (by have:=hb3.size;omega) _
 have HX:=Lib.hid hX;have HX3:=Lib.hid hx3;have hz6:=hb4.size;clear hb3 hX hx3 c0;cases z with
 |true=>
  obtain rfl:=ZV.out rfl;have c1:=C1.out x3 hb4;have hb7:Below B w x3:=HBW.out.trans (hb4.mono (by omega))
  go_wp2_with (first|(with_reducible refine Yap rfl 36 _ _ rfl G Y 36 rfl rfl HSG HYG HOG ?_;rw[HX3.out,HX.out])|(with_reducible refine wpList_load_row rfl 36 _ rfl X rfl 36 G (0,0) _ h3 Tryz.underlying36 rfl HSG ?_)|(with_reducible refine Yad rfl 36 _ _ rfl (B+1) G Y rfl rfl 36 c1 HSV HYV HOV ?_;intro w5 hh5 hg5))
  refine bodyPost_ret (results_cell_row rfl _ _ (B+1) 36 _ (0,0) _ rfl hh5 Tryz.underlying36 rfl HSV) rfl ?_;exact FIN.out _ (hb7.grown hg5 (by omega) (fun k hk=>by injection hk with hk;omega))
 |false=>
  go_wp2_with (first|(with_reducible refine Yap rfl 36 _ _ rfl G Y 36 rfl rfl HSG HYG HOG ?_;rw[HX3.out,HX.out])|(with_reducible refine wpList_load_row rfl 36 _ rfl X rfl 36 G (0,0) _ h3 Tryz.underlying36 rfl HSG ?_))
  refine(IV.out _ hb4).mono ?_;rintro e x4 ⟨rfl,hb5⟩;have hb6:Below (B+2) wB x4:=hb4.trans (hb5.mono (by omega));have hz7:=hb6.size;have c1:=C1.out x4 hb6;have hb7:Below B w x4:=HBW.out.trans (hb6.mono (by omega))
  go_wp2_with (with_reducible refine Yad rfl 36 _ _ rfl (B+1) V Y rfl rfl 36 c1 HSV HYV HOV ?_;intro w5 hh5 hg5)
  refine bodyPost_ret (results_cell_row rfl _ _ (B+1) 36 _ (0,0) _ rfl hh5 Tryz.underlying36 rfl HSV) rfl ?_;exact FIN.out _ (hb7.grown hg5 (by omega) (fun k hk=>by injection hk with hk;omega))
theorem Ysk {c:Cel}:Yfg c=true↔(c.kind=0∧c.step=0∧c.mx=0∧c.my=0)∧∀i,i<6→c.dc i=0∧(c.ev i).length=0:=by
 unfold Yfg;simp only[Bool.and_eq_true,beq_iff_eq,List.all_eq_true,List.mem_range,decide_eq_true_eq];constructor
 ·rintro⟨⟨⟨h1,h2⟩,h3,h4⟩,h5,h6⟩;exact⟨⟨h1,h2,h3,h4⟩,fun i hi=>⟨h5 i hi,h6 i hi⟩⟩
 ·rintro⟨⟨h1,h2,h3,h4⟩,h5⟩;exact⟨⟨⟨h1,h2⟩,h3,h4⟩,fun i hi=>(h5 i hi).1,fun i hi=>(h5 i hi).2⟩
set_option maxRecDepth 100000 in
set_option maxHeartbeats 1000000 in
theorem Yqd (c:Cel)(p:Nat→Option Addr)(n k:Nat→Nat)(w:World)(hc:Yc6 w c p n):Calls Tryz.prog 16 #[.agg (Ycs c fun i=>.slice (p i) (n i) (k i)).toArray] w fun e w'=>e=.returned (.bool (Yfg c))∧Below w.heap.size w w':=by
 obtain⟨A,hA,f0,f1,f2,f3,f4,f5,⟨f6,f7,f8,f9,f10,f11⟩,f12,f13,f14,f15,f16,f17⟩:=Ycl c fun i=>.slice (p i) (n i) (k i);obtain⟨R,w0,hR,hw0,hz0,hb0,HSZ,hbx⟩:=Yc9 w hA;have hbx0:=(hbx w0 (Below.refl _ _)).2;obtain⟨-,-,c2,c3,c4,c5⟩:=Yaz hbx0;have DC:=Lib.hid (fun i (hi:i<6)=>Yae (o:=6+i) hbx0 (Yc7 c _ i hi))
 have EV:=Lib.hid (fun i (hi:i<6)=>Yae (o:=12+i) hbx0 (Yc8 c (fun i=>.slice (p i) (n i) (k i)) i hi));have NL:=Lib.hid (fun i hi=>(hc i hi).1);have ZI:=Lib.hid (Ysk (c:=c));rw[hA];have HW:=Lib.hid hw0;have HR:=Lib.hid hR;clear hA hw0 hR hbx hbx0 hc f0 f1 f2 f3 f4 f5 f6 f7 f8 f9 f10 f11 f12 f13 f14 f15 f16 f17
 go_enter Tryz.func16,Tryz.ntmps16
 go_wp2
 rw[HW.out,HR.out]
 go_loopw [3] (fun z wr=>∃i:Nat,i≤6∧z=.int .i64 i∧wr=w0∧Hid (∀j,j<i→c.dc j=0∧(c.ev j).length=0)) (fun z _=>6-(RowKit.intOf z).toNat)
 case atStart=>exact⟨0,by omega,rfl,rfl,Lib.hid fun j h=>absurd h (Nat.not_lt_zero j)⟩
 case round=>
  obtain⟨i,hi6,rfl,rfl,zs⟩:=hrel;by_cases hlt:i<6
  ·have t0:decide ((i:Int)<6)=true:=by simp;omega
   have e0:=EV.out i hlt;have d0:=DC.out i hlt;have nl:=NL.out i hlt;by_cases hn:0<n i
   ·have t1:decide (0<n i)=true:=decide_eq_true hn;have t2:decide (0<(n i:Int))=true:=decide_eq_true (by omega);have Z:Hid (Yfg c=false):=Lib.hid (Bool.eq_false_iff.2 fun h=>by have h2:=((ZI.out.1 h).2 i hlt).2;omega);clear hn nl
    go_wp2
    go_ret
    exact⟨Yac Z.out.symm,by rw[HR.out];exact hb0⟩
   ·have t1:decide (0<n i)=false:=decide_eq_false hn;have t2:decide (0<(n i:Int))=false:=decide_eq_false (by omega);by_cases hd:c.dc i=0
    ·have t3:(c.dc i != 0)=false:=by simpa using hd
     have ZN:=Lib.hid (⟨hd,by omega⟩:c.dc i=0∧(c.ev i).length=0);clear hn nl hd
     go_wp2
     go_roundw
     case rel=>exact⟨i+1,by omega,by go_num,by trivial,Lib.hid fun j hj=>(Nat.lt_succ_iff_lt_or_eq.1 hj).elim (zs.out j) fun h=>h▸ZN.out⟩
     case measure=>simp[RowKit.intOf];omega
    ·have t3:(c.dc i != 0)=true:=by simpa using hd
     have Z:Hid (Yfg c=false):=Lib.hid (Bool.eq_false_iff.2 fun h=>hd ((ZI.out.1 h).2 i hlt).1);clear hn nl hd
     go_wp2
     go_ret
     exact⟨Yac Z.out.symm,by rw[HR.out];exact hb0⟩
  ·obtain rfl:i=6:=by omega
   cases t1:(c.kind==0) with
   |false=>
    go_wp2
    go_ret
    exact⟨Yac (Bool.eq_false_iff.2 fun h=>by have h2:=(ZI.out.1 h).1;rw[beq_eq_false_iff_ne] at t1;exact t1 h2.1).symm,by rw[HR.out];exact hb0⟩
   |true=>
    cases t2:(c.step==0) with
    |false=>
     go_wp2
     go_ret
     exact⟨Yac (Bool.eq_false_iff.2 fun h=>by have h2:=(ZI.out.1 h).1;rw[beq_eq_false_iff_ne] at t2;exact t2 h2.2.1).symm,by rw[HR.out];exact hb0⟩
    |true=>
     cases t3:(c.mx==0) with
     |false=>
      go_wp2
      go_ret
      exact⟨Yac (Bool.eq_false_iff.2 fun h=>by have h2:=(ZI.out.1 h).1;rw[beq_eq_false_iff_ne] at t3;exact t3 h2.2.2.1).symm,by rw[HR.out];exact hb0⟩
     |true=>
      cases t4:(c.my==0) with
      |false=>
       go_wp2
       go_ret
       exact⟨Yac (Bool.eq_false_iff.2 fun h=>by have h2:=(ZI.out.1 h).1;rw[beq_eq_false_iff_ne] at t4;exact t4 h2.2.2.2).symm,by rw[HR.out];exact hb0⟩
      |true=>
       go_wp2
       go_ret
       exact⟨Yac (ZI.out.2 ⟨⟨by simpa using t1,by simpa using t2,by simpa using t3,by simpa using t4⟩,zs.out⟩).symm,by rw[HR.out];exact hb0⟩
def Yas (k m:Int):Bool:=if Yah k then m==0 else m==Ygx m
theorem Ysj (k mx my:Int):Yj9 k mx my=(Yas k mx&&Yas k my):=by
 unfold Yj9 Yas
 split <;> rfl
set_option maxRecDepth 100000 in
set_option maxHeartbeats 2000000 in
theorem Yk8 (inter:Bool)(c:Cel)(p:Nat→Option Addr)(n k:Nat→Nat)(w:World)(hc:Yc6 w c p n):Calls Tryz.prog 7 #[.bool inter,.agg (Ycs c fun i=>.slice (p i) (n i) (k i)).toArray] w fun e w'=>e=.returned (.bool (Yb0 inter c))∧Below w.heap.size w w':=by
 have hze:=fun x (hx:Below w.heap.size w x)=>Yqd c p n k x (hc.below hx);have hst:=fun x=>Yqb c.step x;have hin:=fun x=>Ydb c.kind x;have hma:=fun i (hi:i<6) x (hx:Below w.heap.size w x)=>Yn6 (Yah c.kind) (c.dc i) (p i) (c.ev i) (k i) x ((hc i hi).2.2.below hx) (by have:=(hc i hi).1;have:=(hc i hi).2.1;omega);have NL:=Lib.hid (fun i hi=>(hc i hi).1)
 obtain⟨A,hA,f0,f1,f2,f3,f4,f5,-,-⟩:=Ycl c fun i=>.slice (p i) (n i) (k i);obtain⟨R,w0,hR,hw0,hz0,hb0,HSZ,hbx⟩:=Yc9 w hA;simp only[hA] at hze;rw[hR] at hze hma;rw[hA];have HW:=Lib.hid hw0;have HR:=Lib.hid hR;have HBX:=Lib.hid hbx;have HZE:=Lib.hid hze;have HMA:=Lib.hid hma
 have ZC:Hid (Yb0 inter c=((decide (0≤c.stuff)&&decide (c.stuff≤64))&&(if c.skip then inter&&Yfg c else (Yeo inter c.kind&&Yd7 c.kind c.step)&&(Yas c.kind c.mx&&Yas c.kind c.my&&Ydo c)))):=Lib.hid (by rw[←Ysj];rfl);have BO:=Lib.hid (Yi3 (c:=c));clear hA hw0 hR hbx hze hma hc;generalize Yb0 inter c=z at *;by_cases h0:c.stuff<0
 ·have t0:decide (c.stuff<0)=true:=decide_eq_true h0;have Z:=Lib.hid (show z=false by rw[ZC.out,decide_eq_false (by omega:¬ 0≤c.stuff)];rfl);clear h0 ZC
  go_enter Tryz.func7,Tryz.ntmps7
  go_wp2
  go_ret
  exact⟨Yac Z.out.symm,by rw[HW.out,HR.out];exact hb0⟩
 by_cases h1:64<c.stuff
 ·have t0:decide (c.stuff<0)=false:=decide_eq_false h0;have t1:decide (64<c.stuff)=true:=decide_eq_true h1;have Z:=Lib.hid (show z=false by rw[ZC.out,decide_eq_false (by omega:¬ c.stuff≤64),Bool.and_false];rfl);clear h0 h1 ZC
  go_enter Tryz.func7,Tryz.ntmps7
  go_wp2
  go_ret
  exact⟨Yac Z.out.symm,by rw[HW.out,HR.out];exact hb0⟩
 have t0:decide (c.stuff<0)=false:=decide_eq_false h0;have t1:decide (64<c.stuff)=false:=decide_eq_false h1;rw[decide_eq_true (by omega:0≤c.stuff),decide_eq_true (by omega:c.stuff≤64)] at ZC;clear h0 h1;cases hsk:c.skip with
 |true=>
  rw[hsk] at ZC f1;cases inter with
  |false=>
   have Z:=Lib.hid (show z=false by rw[ZC.out];rfl)
   go_enter Tryz.func7,Tryz.ntmps7
   go_wp2
   go_ret
   exact⟨Yac Z.out.symm,by rw[HW.out,HR.out];exact hb0⟩
  |true=>
   have Z:=Lib.hid (show z=Yfg c by rw[ZC.out];rfl)
   go_enter Tryz.func7,Tryz.ntmps7
   go_wp2_with (with_reducible refine Yba (by kernel_rfl) 31 _ rfl w.heap.size rfl 31 A (0,0) _ (heap_alloc_new w _) Tryz.underlying31 rfl HSZ ?_)
   rw[HW.out,HR.out];refine(HZE.out _ hb0).mono ?_;rintro e w1 ⟨rfl,hb1⟩;have hb2:=hb0.trans (hb1.mono (by omega))
   go_wp2
   go_ret
   exact⟨Yac Z.out.symm,by rw[HR.out];exact hb2⟩
 |false=>
  rw[hsk] at ZC f1;have ZZ:=Lib.hid (show z=((Yeo inter c.kind&&Yd7 c.kind c.step)&&(Yas c.kind c.mx&&Yas c.kind c.my&&Ydo c)) by rw[ZC.out];rfl);clear ZC;generalize hck:c.kind=kd at *;have HK:=Lib.hid hck;clear hck;have bad:∀(h:Yeo inter kd=false),Hid (z=false):=fun h=>Lib.hid (by rw[ZZ.out,h];rfl);by_cases k0:kd<0
  ·have s0:decide (kd<0)=true:=decide_eq_true k0;have Z:=bad (by unfold Yeo;rw[beq_eq_false_iff_ne.2 (by omega:kd≠3),beq_eq_false_iff_ne.2 (by omega:kd≠4),beq_eq_false_iff_ne.2 (by omega:kd≠0),beq_eq_false_iff_ne.2 (by omega:kd≠1)];cases inter <;> rfl);clear k0 bad
   go_enter Tryz.func7,Tryz.ntmps7
   go_wp2
   go_ret
   exact⟨Yac Z.out.symm,by rw[HW.out,HR.out];exact hb0⟩
  by_cases k4:4<kd
  ·have s0:decide (kd<0)=false:=decide_eq_false k0;have s1:decide (4<kd)=true:=decide_eq_true k4;have Z:=bad (by unfold Yeo;rw[beq_eq_false_iff_ne.2 (by omega:kd≠3),beq_eq_false_iff_ne.2 (by omega:kd≠4),beq_eq_false_iff_ne.2 (by omega:kd≠0),beq_eq_false_iff_ne.2 (by omega:kd≠1)];cases inter <;> rfl);clear k0 k4 bad
   go_enter Tryz.func7,Tryz.ntmps7
   go_wp2
   go_ret
   exact⟨Yac Z.out.symm,by rw[HW.out,HR.out];exact hb0⟩
  have hkd:kd=2∨((kd=0∨kd=1)∧inter=false)∨((kd=3∨kd=4∨kd=0∨kd=1)∧Yeo inter kd=true):=by
   rcases (by omega:kd=0∨kd=1∨kd=2∨kd=3∨kd=4) with rfl|rfl|rfl|rfl|rfl <;> cases inter <;> simp[Yeo]
  clear k0 k4;rcases hkd with rfl|⟨rfl|rfl,rfl⟩|⟨hkd,hko⟩
  ·have Z:=bad (by cases inter <;> rfl);clear bad
   go_enter Tryz.func7,Tryz.ntmps7
   go_wp2
   go_ret
   exact⟨Yac Z.out.symm,by rw[HW.out,HR.out];exact hb0⟩
  ·have Z:=bad rfl;clear bad
   go_enter Tryz.func7,Tryz.ntmps7
   go_wp2
   go_ret
   exact⟨Yac Z.out.symm,by rw[HW.out,HR.out];exact hb0⟩
  ·have Z:=bad rfl;clear bad
   go_enter Tryz.func7,Tryz.ntmps7
   go_wp2
   go_ret
   exact⟨Yac Z.out.symm,by rw[HW.out,HR.out];exact hb0⟩
  rw[hko] at ZZ;have ZS:=Lib.hid (show z=(Yd7 kd c.step&&(Yas kd c.mx&&Yas kd c.my&&Ydo c)) by rw[ZZ.out,Bool.true_and]);have hin2:inter=false→¬ (kd=0∨kd=1):=fun h e=>by subst h;rcases e with rfl|rfl <;> simp[Yeo] at hko
  clear bad ZZ hko;rcases hkd with rfl|rfl|rfl|rfl
  ·clear hin2;by_cases hs:c.step=0
   ·have u:(c.step != 0)=false:=by simpa using hs
    have STP:Hid (Yd7 3 c.step=true):=Lib.hid (by rw[hs];rfl);have hbX:Below (R+1) w0 w0:=Below.refl _ _;clear hs
    go_enter Tryz.func7,Tryz.ntmps7
    go_wp2
    rw[HW.out,HR.out]
    go_loopw [5] (fun v wr=>∃i:Nat,i≤2∧v=.int .i64 i∧Below (R+1) w0 wr∧Hid ((0<i→Yas 3 c.mx=true)∧(1<i→Yas 3 c.my=true))) (fun v _=>2-(RowKit.intOf v).toNat)
    case atStart=>exact⟨0,by omega,rfl,hbX,Lib.hid ⟨fun h=>absurd h (by omega),fun h=>absurd h (by omega)⟩⟩
    case round=>
     obtain⟨i,hi2,rfl,hb,o1⟩:=hrel;obtain⟨-,-,c2,-,c4,c5⟩:=Yaz (HBX.out _ hb).2;rw[HK.out] at c2;rcases (by omega:i=0∨i=1∨i=2) with rfl|rfl|rfl
     ·by_cases m0:c.mx < -32
      ·have u0:decide (c.mx < -32)=true:=decide_eq_true m0;have Z:Hid (z=false):=Lib.hid (by rw[ZS.out,(show Yas 3 c.mx=false by unfold Yas;rw[show Yah 3=true from rfl];exact beq_eq_false_iff_ne.2 (by omega))];simp);clear m0
       go_wp2
       go_ret
       exact⟨Yac Z.out.symm,by rw[HR.out];exact hb0.trans ((hb).mono (by omega))⟩
      have u0:decide (c.mx < -32)=false:=decide_eq_false m0;by_cases m1:31<c.mx
      ·have u1:decide (31<c.mx)=true:=decide_eq_true m1;have Z:Hid (z=false):=Lib.hid (by rw[ZS.out,(show Yas 3 c.mx=false by unfold Yas;rw[show Yah 3=true from rfl];exact beq_eq_false_iff_ne.2 (by omega))];simp);clear m0 m1
       go_wp2
       go_ret
       exact⟨Yac Z.out.symm,by rw[HR.out];exact hb0.trans ((hb).mono (by omega))⟩
      have u1:decide (31<c.mx)=false:=decide_eq_false m1;by_cases m2:c.mx=0
      ·have u2:(c.mx != 0)=false:=by simpa using m2
       have OK:Hid (Yas 3 c.mx=true):=Lib.hid (by unfold Yas;rw[show Yah 3=true from rfl,m2];rfl);clear m0 m1 m2
       go_wp2
       go_roundw
       case rel=>exact⟨0+1,by omega,by first|rfl|trivial,hb,Lib.hid ⟨fun _=>OK.out,fun h=>absurd h (by omega)⟩⟩
       case measure=>simp[RowKit.intOf]
      ·have u2:(c.mx != 0)=true:=by simpa using m2
       have Z:Hid (z=false):=Lib.hid (by rw[ZS.out,(show Yas 3 c.mx=false by unfold Yas;rw[show Yah 3=true from rfl];exact beq_eq_false_iff_ne.2 m2)];simp);clear m0 m1 m2
       go_wp2
       go_ret
       exact⟨Yac Z.out.symm,by rw[HR.out];exact hb0.trans ((hb).mono (by omega))⟩
     ·by_cases m0:c.my < -32
      ·have u0:decide (c.my < -32)=true:=decide_eq_true m0;have Z:Hid (z=false):=Lib.hid (by rw[ZS.out,(show Yas 3 c.my=false by unfold Yas;rw[show Yah 3=true from rfl];exact beq_eq_false_iff_ne.2 (by omega))];simp);clear m0
       go_wp2
       go_ret
       exact⟨Yac Z.out.symm,by rw[HR.out];exact hb0.trans ((hb).mono (by omega))⟩
      have u0:decide (c.my < -32)=false:=decide_eq_false m0;by_cases m1:31<c.my
      ·have u1:decide (31<c.my)=true:=decide_eq_true m1;have Z:Hid (z=false):=Lib.hid (by rw[ZS.out,(show Yas 3 c.my=false by unfold Yas;rw[show Yah 3=true from rfl];exact beq_eq_false_iff_ne.2 (by omega))];simp);clear m0 m1
       go_wp2
       go_ret
       exact⟨Yac Z.out.symm,by rw[HR.out];exact hb0.trans ((hb).mono (by omega))⟩
      have u1:decide (31<c.my)=false:=decide_eq_false m1;by_cases m2:c.my=0
      ·have u2:(c.my != 0)=false:=by simpa using m2
       have OK:Hid (Yas 3 c.my=true):=Lib.hid (by unfold Yas;rw[show Yah 3=true from rfl,m2];rfl);clear m0 m1 m2
       go_wp2
       go_roundw
       case rel=>exact⟨1+1,by omega,by first|rfl|trivial,hb,Lib.hid ⟨fun _=>o1.out.1 (by omega),fun _=>OK.out⟩⟩
       case measure=>simp[RowKit.intOf]
      ·have u2:(c.my != 0)=true:=by simpa using m2
       have Z:Hid (z=false):=Lib.hid (by rw[ZS.out,(show Yas 3 c.my=false by unfold Yas;rw[show Yah 3=true from rfl];exact beq_eq_false_iff_ne.2 m2)];simp);clear m0 m1 m2
       go_wp2
       go_ret
       exact⟨Yac Z.out.symm,by rw[HR.out];exact hb0.trans ((hb).mono (by omega))⟩
     ·have OX:Hid (z=Ydo c):=Lib.hid (by rw[ZS.out,o1.out.1 (by omega),o1.out.2 (by omega),STP.out];rfl);clear c4 c5
      go_wp2
      go_loopw [6] (fun v wr2=>∃i:Nat,i≤6∧v=.int .i64 i∧Below (R+1) w0 wr2∧Hid (∀j,j<i→Yfq (Yah 3) (c.dc j) (c.ev j)=true)) (fun v _=>6-(RowKit.intOf v).toNat)
      case atStart=>exact⟨0,by omega,rfl,hb,Lib.hid fun j h=>absurd h (Nat.not_lt_zero j)⟩
      case round=>
       clear hb c2;obtain⟨i,hi6,rfl,hb,ms⟩:=hrel;obtain⟨-,-,c2,-,-,-⟩:=Yaz (HBX.out _ hb).2;rw[HK.out] at c2;by_cases hlt:i<6
       ·have t3:decide ((i:Int)<6)=true:=by simp;omega
        have d0:=Yae (o:=6+i) (HBX.out _ hb).2 (Yc7 c _ i hlt);have e0:=Yae (o:=12+i) (HBX.out _ hb).2 (Yc8 c (fun i=>.slice (p i) (n i) (k i)) i hlt);rw[NL.out i hlt] at e0;have hm:=HMA.out i hlt;have C2:=Lib.hid (fun x (hx:Below (R+1) w0 x)=>(HK.out▸(Yaz (HBX.out x hx).2).2.2.1:x.cell? ⟨R,2,none⟩=some (.int .i64 3)))
        have D0:=Lib.hid (fun x (hx:Below (R+1) w0 x)=>Yae (o:=6+i) (HBX.out x hx).2 (Yc7 c _ i hlt));have E0:=Lib.hid (fun x (hx:Below (R+1) w0 x)=>(by have h:=Yae (o:=12+i) (HBX.out x hx).2 (Yc8 c (fun i=>.slice (p i) (n i) (k i)) i hlt);rw[NL.out i hlt] at h;exact h:x.cell? ⟨R,12+i,none⟩=some (.slice (p i) (c.ev i).length (k i))))
        have IN:=Lib.hid (fun x (hx:Below (R+1) w0 x)=>((hin x).mono fun e y h=>⟨h.1,h.2▸hx⟩:Calls Tryz.prog 8 #[.int .i64 3] x fun e y=>e=.returned (.bool (Yah 3))∧Below (R+1) w0 y))
        have MA:=Lib.hid (fun x (hx:Below (R+1) w0 x)=>((hm x (hb0.trans (hx.mono (by omega)))).mono fun e y h=>⟨h.1,hx.trans (h.2.mono (by have:=hx.size;omega))⟩:Calls Tryz.prog 18 #[.bool (Yah 3),.int .i64 (c.dc i),.slice (p i) (c.ev i).length (k i)] x fun e y=>e=.returned (.bool (Yfq (Yah 3) (c.dc i) (c.ev i)))∧Below (R+1) w0 y));have hbd:=hb.drew;clear c2 d0 e0 hm
        generalize hmb:Yfq (Yah 3) (c.dc i) (c.ev i)=mb at MA
        go_wp2
        refine Yag (S:=fun x=>Below (R+1) w0 x) 13 (by kernel_rfl) (by kernel_rfl) hbd ?_;simp only[List.take_succ_cons,List.take_zero,List.drop_succ_cons,List.drop_zero];refine Yab (by kernel_rfl) (fun x _=>by go_simp;try with_reducible rfl) ?_;simp only[Yaa];refine Yaf 3 _ ⟨R,2,none⟩ (.int .i64 3) (by kernel_rfl) rfl rfl (fun x hx=>by have c0:=C2.out x hx;go_simp) ?_;simp only[Yaa]
        refine Yai (by kernel_rfl) IN.out (fun _=>by kernel_rfl) ?_;simp only[Yaa]
        iterate 2 (refine Yab (by kernel_rfl) (fun x _=>by go_simp;try with_reducible rfl) ?_;simp only[Yaa])
        refine Yab (by kernel_rfl) (fun x _=>by go_simp;rw[if_pos (by omega)]) ?_;simp only[Yaa];refine Yaf 3 _ ⟨R,6+i,none⟩ (.int .i64 (c.dc i)) (by kernel_rfl) rfl rfl (fun x hx=>by have c0:=D0.out x hx;go_simp) ?_;simp only[Yaa]
        iterate 2 (refine Yab (by kernel_rfl) (fun x _=>by go_simp;try with_reducible rfl) ?_;simp only[Yaa])
        refine Yab (by kernel_rfl) (fun x _=>by go_simp;rw[if_pos (by omega)]) ?_;simp only[Yaa];refine Yaf 28 _ ⟨R,12+i,none⟩ (.slice (p i) (c.ev i).length (k i)) (by kernel_rfl) rfl rfl (fun x hx=>by have c0:=E0.out x hx;go_simp) ?_;simp only[Yaa];refine Yai (by kernel_rfl) MA.out (fun _=>by kernel_rfl) ?_;simp only[Yaa]
        refine Yab (by kernel_rfl) (fun x _=>by go_simp;try with_reducible rfl) ?_;simp only[Yaa];refine Yar fun x hx=>?_;cases mb with
        |true=>
         have HM:=Lib.hid hmb;clear hmb
         go_wp2
         go_roundw
         case rel=>exact⟨i+1,by omega,by go_num,hx,Lib.hid fun j hj=>(Nat.lt_succ_iff_lt_or_eq.1 hj).elim (ms.out j) fun h=>h▸HM.out⟩
         case measure=>simp[RowKit.intOf];omega
        |false=>
         have Z:Hid (z=false):=Lib.hid (by rw[OX.out];exact Bool.eq_false_iff.2 fun h=>by rw[BO.out.1 h i hlt] at hmb;cases hmb);clear hmb
         go_wp2
         go_ret
         exact⟨Yac Z.out.symm,by rw[HR.out];exact hb0.trans (hx.mono (by omega))⟩
       ·obtain rfl:i=6:=by omega
        have Z:Hid (z=true):=Lib.hid (by rw[OX.out];exact BO.out.2 ms.out)
        go_wp2
        go_ret
        exact⟨Yac Z.out.symm,by rw[HR.out];exact hb0.trans (hb.mono (by omega))⟩
   ·have u:(c.step != 0)=true:=by simpa using hs
    have Z:Hid (z=false):=Lib.hid (by rw[ZS.out,show Yd7 3 c.step=false from beq_eq_false_iff_ne.2 hs];rfl);clear hs
    go_enter Tryz.func7,Tryz.ntmps7
    go_wp2
    go_ret
    exact⟨Yac Z.out.symm,by rw[HW.out,HR.out];exact hb0⟩
  ·clear hin2;have SE:Hid (Yd7 4 c.step = !(Ybx c.step).data.toList.isEmpty):=Lib.hid rfl
   go_enter Tryz.func7,Tryz.ntmps7
   go_wp2_with fail
   rw[HW.out,HR.out];refine(hst _).mono ?_;rintro e w1 ⟨rfl,hb1⟩;rw[hz0] at hb1;have hbX:Below (R+1) w0 w1:=hb1;obtain⟨-,-,c2,c3,-,-⟩:=Yaz (HBX.out _ hbX).2;rw[HK.out] at c2;have ue:(Ybx c.step).data.toList.isEmpty=false→(Ybx c.step).toList.isEmpty=false:=fun h=>by rcases Yfo.1 h with e|e|e|e <;> rw[e] <;> decide +kernel
   generalize Ybx c.step=sr at *;cases hse:sr.data.toList.isEmpty
   ·have STP:Hid (Yd7 4 c.step=true):=Lib.hid (by rw[SE.out,hse];rfl);have u:=ue hse;clear hse ue
    go_wp2
    go_loopw [5] (fun v wr=>∃i:Nat,i≤2∧v=.int .i64 i∧Below (R+1) w0 wr∧Hid ((0<i→Yas 4 c.mx=true)∧(1<i→Yas 4 c.my=true))) (fun v _=>2-(RowKit.intOf v).toNat)
    case atStart=>exact⟨0,by omega,rfl,hbX,Lib.hid ⟨fun h=>absurd h (by omega),fun h=>absurd h (by omega)⟩⟩
    case round=>
     obtain⟨i,hi2,rfl,hb,o1⟩:=hrel;obtain⟨-,-,c2,-,c4,c5⟩:=Yaz (HBX.out _ hb).2;rw[HK.out] at c2;rcases (by omega:i=0∨i=1∨i=2) with rfl|rfl|rfl
     ·by_cases m0:c.mx < -32
      ·have u0:decide (c.mx < -32)=true:=decide_eq_true m0;have Z:Hid (z=false):=Lib.hid (by rw[ZS.out,(show Yas 4 c.mx=false by unfold Yas;rw[show Yah 4=true from rfl];exact beq_eq_false_iff_ne.2 (by omega))];simp);clear m0
       go_wp2
       go_ret
       exact⟨Yac Z.out.symm,by rw[HR.out];exact hb0.trans ((hb).mono (by omega))⟩
      have u0:decide (c.mx < -32)=false:=decide_eq_false m0;by_cases m1:31<c.mx
      ·have u1:decide (31<c.mx)=true:=decide_eq_true m1;have Z:Hid (z=false):=Lib.hid (by rw[ZS.out,(show Yas 4 c.mx=false by unfold Yas;rw[show Yah 4=true from rfl];exact beq_eq_false_iff_ne.2 (by omega))];simp);clear m0 m1
       go_wp2
       go_ret
       exact⟨Yac Z.out.symm,by rw[HR.out];exact hb0.trans ((hb).mono (by omega))⟩
      have u1:decide (31<c.mx)=false:=decide_eq_false m1;by_cases m2:c.mx=0
      ·have u2:(c.mx != 0)=false:=by simpa using m2
       have OK:Hid (Yas 4 c.mx=true):=Lib.hid (by unfold Yas;rw[show Yah 4=true from rfl,m2];rfl);clear m0 m1 m2
       go_wp2
       go_roundw
       case rel=>exact⟨0+1,by omega,by first|rfl|trivial,hb,Lib.hid ⟨fun _=>OK.out,fun h=>absurd h (by omega)⟩⟩
       case measure=>simp[RowKit.intOf]
      ·have u2:(c.mx != 0)=true:=by simpa using m2
       have Z:Hid (z=false):=Lib.hid (by rw[ZS.out,(show Yas 4 c.mx=false by unfold Yas;rw[show Yah 4=true from rfl];exact beq_eq_false_iff_ne.2 m2)];simp);clear m0 m1 m2
       go_wp2
       go_ret
       exact⟨Yac Z.out.symm,by rw[HR.out];exact hb0.trans ((hb).mono (by omega))⟩
     ·by_cases m0:c.my < -32
      ·have u0:decide (c.my < -32)=true:=decide_eq_true m0;have Z:Hid (z=false):=Lib.hid (by rw[ZS.out,(show Yas 4 c.my=false by unfold Yas;rw[show Yah 4=true from rfl];exact beq_eq_false_iff_ne.2 (by omega))];simp);clear m0
       go_wp2
       go_ret
       exact⟨Yac Z.out.symm,by rw[HR.out];exact hb0.trans ((hb).mono (by omega))⟩
      have u0:decide (c.my < -32)=false:=decide_eq_false m0;by_cases m1:31<c.my
      ·have u1:decide (31<c.my)=true:=decide_eq_true m1;have Z:Hid (z=false):=Lib.hid (by rw[ZS.out,(show Yas 4 c.my=false by unfold Yas;rw[show Yah 4=true from rfl];exact beq_eq_false_iff_ne.2 (by omega))];simp);clear m0 m1
       go_wp2
       go_ret
       exact⟨Yac Z.out.symm,by rw[HR.out];exact hb0.trans ((hb).mono (by omega))⟩
      have u1:decide (31<c.my)=false:=decide_eq_false m1;by_cases m2:c.my=0
      ·have u2:(c.my != 0)=false:=by simpa using m2
       have OK:Hid (Yas 4 c.my=true):=Lib.hid (by unfold Yas;rw[show Yah 4=true from rfl,m2];rfl);clear m0 m1 m2
       go_wp2
       go_roundw
       case rel=>exact⟨1+1,by omega,by first|rfl|trivial,hb,Lib.hid ⟨fun _=>o1.out.1 (by omega),fun _=>OK.out⟩⟩
       case measure=>simp[RowKit.intOf]
      ·have u2:(c.my != 0)=true:=by simpa using m2
       have Z:Hid (z=false):=Lib.hid (by rw[ZS.out,(show Yas 4 c.my=false by unfold Yas;rw[show Yah 4=true from rfl];exact beq_eq_false_iff_ne.2 m2)];simp);clear m0 m1 m2
       go_wp2
       go_ret
       exact⟨Yac Z.out.symm,by rw[HR.out];exact hb0.trans ((hb).mono (by omega))⟩
     ·have OX:Hid (z=Ydo c):=Lib.hid (by rw[ZS.out,o1.out.1 (by omega),o1.out.2 (by omega),STP.out];rfl);clear c4 c5
      go_wp2
      go_loopw [6] (fun v wr2=>∃i:Nat,i≤6∧v=.int .i64 i∧Below (R+1) w0 wr2∧Hid (∀j,j<i→Yfq (Yah 4) (c.dc j) (c.ev j)=true)) (fun v _=>6-(RowKit.intOf v).toNat)
      case atStart=>exact⟨0,by omega,rfl,hb,Lib.hid fun j h=>absurd h (Nat.not_lt_zero j)⟩
      case round=>
       clear hb c2;obtain⟨i,hi6,rfl,hb,ms⟩:=hrel;obtain⟨-,-,c2,-,-,-⟩:=Yaz (HBX.out _ hb).2;rw[HK.out] at c2;by_cases hlt:i<6
       ·have t3:decide ((i:Int)<6)=true:=by simp;omega
        have d0:=Yae (o:=6+i) (HBX.out _ hb).2 (Yc7 c _ i hlt);have e0:=Yae (o:=12+i) (HBX.out _ hb).2 (Yc8 c (fun i=>.slice (p i) (n i) (k i)) i hlt);rw[NL.out i hlt] at e0;have hm:=HMA.out i hlt;have C2:=Lib.hid (fun x (hx:Below (R+1) w0 x)=>(HK.out▸(Yaz (HBX.out x hx).2).2.2.1:x.cell? ⟨R,2,none⟩=some (.int .i64 4)))
        have D0:=Lib.hid (fun x (hx:Below (R+1) w0 x)=>Yae (o:=6+i) (HBX.out x hx).2 (Yc7 c _ i hlt));have E0:=Lib.hid (fun x (hx:Below (R+1) w0 x)=>(by have h:=Yae (o:=12+i) (HBX.out x hx).2 (Yc8 c (fun i=>.slice (p i) (n i) (k i)) i hlt);rw[NL.out i hlt] at h;exact h:x.cell? ⟨R,12+i,none⟩=some (.slice (p i) (c.ev i).length (k i))))
        have IN:=Lib.hid (fun x (hx:Below (R+1) w0 x)=>((hin x).mono fun e y h=>⟨h.1,h.2▸hx⟩:Calls Tryz.prog 8 #[.int .i64 4] x fun e y=>e=.returned (.bool (Yah 4))∧Below (R+1) w0 y))
        have MA:=Lib.hid (fun x (hx:Below (R+1) w0 x)=>((hm x (hb0.trans (hx.mono (by omega)))).mono fun e y h=>⟨h.1,hx.trans (h.2.mono (by have:=hx.size;omega))⟩:Calls Tryz.prog 18 #[.bool (Yah 4),.int .i64 (c.dc i),.slice (p i) (c.ev i).length (k i)] x fun e y=>e=.returned (.bool (Yfq (Yah 4) (c.dc i) (c.ev i)))∧Below (R+1) w0 y));have hbd:=hb.drew;clear c2 d0 e0 hm
        generalize hmb:Yfq (Yah 4) (c.dc i) (c.ev i)=mb at MA
        go_wp2
        refine Yag (S:=fun x=>Below (R+1) w0 x) 13 (by kernel_rfl) (by kernel_rfl) hbd ?_;simp only[List.take_succ_cons,List.take_zero,List.drop_succ_cons,List.drop_zero];refine Yab (by kernel_rfl) (fun x _=>by go_simp;try with_reducible rfl) ?_;simp only[Yaa];refine Yaf 3 _ ⟨R,2,none⟩ (.int .i64 4) (by kernel_rfl) rfl rfl (fun x hx=>by have c0:=C2.out x hx;go_simp) ?_;simp only[Yaa]
        refine Yai (by kernel_rfl) IN.out (fun _=>by kernel_rfl) ?_;simp only[Yaa]
        iterate 2 (refine Yab (by kernel_rfl) (fun x _=>by go_simp;try with_reducible rfl) ?_;simp only[Yaa])
        refine Yab (by kernel_rfl) (fun x _=>by go_simp;rw[if_pos (by omega)]) ?_;simp only[Yaa];refine Yaf 3 _ ⟨R,6+i,none⟩ (.int .i64 (c.dc i)) (by kernel_rfl) rfl rfl (fun x hx=>by have c0:=D0.out x hx;go_simp) ?_;simp only[Yaa]
        iterate 2 (refine Yab (by kernel_rfl) (fun x _=>by go_simp;try with_reducible rfl) ?_;simp only[Yaa])
        refine Yab (by kernel_rfl) (fun x _=>by go_simp;rw[if_pos (by omega)]) ?_;simp only[Yaa];refine Yaf 28 _ ⟨R,12+i,none⟩ (.slice (p i) (c.ev i).length (k i)) (by kernel_rfl) rfl rfl (fun x hx=>by have c0:=E0.out x hx;go_simp) ?_;simp only[Yaa];refine Yai (by kernel_rfl) MA.out (fun _=>by kernel_rfl) ?_;simp only[Yaa]
        refine Yab (by kernel_rfl) (fun x _=>by go_simp;try with_reducible rfl) ?_;simp only[Yaa];refine Yar fun x hx=>?_;cases mb with
        |true=>
         have HM:=Lib.hid hmb;clear hmb
         go_wp2
         go_roundw
         case rel=>exact⟨i+1,by omega,by go_num,hx,Lib.hid fun j hj=>(Nat.lt_succ_iff_lt_or_eq.1 hj).elim (ms.out j) fun h=>h▸HM.out⟩
         case measure=>simp[RowKit.intOf];omega
        |false=>
         have Z:Hid (z=false):=Lib.hid (by rw[OX.out];exact Bool.eq_false_iff.2 fun h=>by rw[BO.out.1 h i hlt] at hmb;cases hmb);clear hmb
         go_wp2
         go_ret
         exact⟨Yac Z.out.symm,by rw[HR.out];exact hb0.trans (hx.mono (by omega))⟩
       ·obtain rfl:i=6:=by omega
        have Z:Hid (z=true):=Lib.hid (by rw[OX.out];exact BO.out.2 ms.out)
        go_wp2
        go_ret
        exact⟨Yac Z.out.symm,by rw[HR.out];exact hb0.trans (hb.mono (by omega))⟩
   ·have Z:Hid (z=false):=Lib.hid (by rw[ZS.out,SE.out,hse];rfl);have u0:sr=⟨#[]⟩:=by
     have h:=List.isEmpty_iff.1 hse;exact Ytv.2 h
    subst u0;clear hse c3
    go_wp2
    go_ret
    exact⟨Yac Z.out.symm,by rw[HR.out];exact hb0.trans (hbX.mono (by omega))⟩
  ·obtain rfl:inter=true:=by cases inter with|true=>rfl|false=>exact absurd (hin2 rfl) (by simp)
   clear hin2;by_cases hs:c.step=0
   ·have u:(c.step != 0)=false:=by simpa using hs
    have STP:Hid (Yd7 0 c.step=true):=Lib.hid (by rw[hs];rfl);have hbX:Below (R+1) w0 w0:=Below.refl _ _;clear hs
    go_enter Tryz.func7,Tryz.ntmps7
    go_wp2
    rw[HW.out,HR.out]
    go_loopw [5] (fun v wr=>∃i:Nat,i≤2∧v=.int .i64 i∧Below (R+1) w0 wr∧Hid ((0<i→Yas 0 c.mx=true)∧(1<i→Yas 0 c.my=true))) (fun v _=>2-(RowKit.intOf v).toNat)
    case atStart=>exact⟨0,by omega,rfl,hbX,Lib.hid ⟨fun h=>absurd h (by omega),fun h=>absurd h (by omega)⟩⟩
    case round=>
     obtain⟨i,hi2,rfl,hb,o1⟩:=hrel;obtain⟨-,-,c2,-,c4,c5⟩:=Yaz (HBX.out _ hb).2;rw[HK.out] at c2;rcases (by omega:i=0∨i=1∨i=2) with rfl|rfl|rfl
     ·by_cases m0:c.mx < -32
      ·have u0:decide (c.mx < -32)=true:=decide_eq_true m0;have Z:Hid (z=false):=Lib.hid (by rw[ZS.out,(show Yas 0 c.mx=false by unfold Yas;rw[show Yah 0=false from rfl];exact beq_eq_false_iff_ne.2 (fun h=>by have:=Yd9 c.mx;omega))];simp);clear m0
       go_wp2
       go_ret
       exact⟨Yac Z.out.symm,by rw[HR.out];exact hb0.trans ((hb).mono (by omega))⟩
      have u0:decide (c.mx < -32)=false:=decide_eq_false m0;by_cases m1:31<c.mx
      ·have u1:decide (31<c.mx)=true:=decide_eq_true m1;have Z:Hid (z=false):=Lib.hid (by rw[ZS.out,(show Yas 0 c.mx=false by unfold Yas;rw[show Yah 0=false from rfl];exact beq_eq_false_iff_ne.2 (fun h=>by have:=Yd9 c.mx;omega))];simp);clear m0 m1
       go_wp2
       go_ret
       exact⟨Yac Z.out.symm,by rw[HR.out];exact hb0.trans ((hb).mono (by omega))⟩
      have u1:decide (31<c.mx)=false:=decide_eq_false m1;have OK:Hid (Yas 0 c.mx=true):=Lib.hid (by unfold Yas;rw[show Yah 0=false from rfl];exact beq_iff_eq.2 (Ye1.2 ⟨by omega,by omega⟩));clear m0 m1
      go_wp2
      go_roundw
      case rel=>exact⟨0+1,by omega,by first|rfl|trivial,hb,Lib.hid ⟨fun _=>OK.out,fun h=>absurd h (by omega)⟩⟩
      case measure=>simp[RowKit.intOf]
     ·by_cases m0:c.my < -32
      ·have u0:decide (c.my < -32)=true:=decide_eq_true m0;have Z:Hid (z=false):=Lib.hid (by rw[ZS.out,(show Yas 0 c.my=false by unfold Yas;rw[show Yah 0=false from rfl];exact beq_eq_false_iff_ne.2 (fun h=>by have:=Yd9 c.my;omega))];simp);clear m0
       go_wp2
       go_ret
       exact⟨Yac Z.out.symm,by rw[HR.out];exact hb0.trans ((hb).mono (by omega))⟩
      have u0:decide (c.my < -32)=false:=decide_eq_false m0;by_cases m1:31<c.my
      ·have u1:decide (31<c.my)=true:=decide_eq_true m1;have Z:Hid (z=false):=Lib.hid (by rw[ZS.out,(show Yas 0 c.my=false by unfold Yas;rw[show Yah 0=false from rfl];exact beq_eq_false_iff_ne.2 (fun h=>by have:=Yd9 c.my;omega))];simp);clear m0 m1
       go_wp2
       go_ret
       exact⟨Yac Z.out.symm,by rw[HR.out];exact hb0.trans ((hb).mono (by omega))⟩
      have u1:decide (31<c.my)=false:=decide_eq_false m1;have OK:Hid (Yas 0 c.my=true):=Lib.hid (by unfold Yas;rw[show Yah 0=false from rfl];exact beq_iff_eq.2 (Ye1.2 ⟨by omega,by omega⟩));clear m0 m1
      go_wp2
      go_roundw
      case rel=>exact⟨1+1,by omega,by first|rfl|trivial,hb,Lib.hid ⟨fun _=>o1.out.1 (by omega),fun _=>OK.out⟩⟩
      case measure=>simp[RowKit.intOf]
     ·have OX:Hid (z=Ydo c):=Lib.hid (by rw[ZS.out,o1.out.1 (by omega),o1.out.2 (by omega),STP.out];rfl);clear c4 c5
      go_wp2
      go_loopw [6] (fun v wr2=>∃i:Nat,i≤6∧v=.int .i64 i∧Below (R+1) w0 wr2∧Hid (∀j,j<i→Yfq (Yah 0) (c.dc j) (c.ev j)=true)) (fun v _=>6-(RowKit.intOf v).toNat)
      case atStart=>exact⟨0,by omega,rfl,hb,Lib.hid fun j h=>absurd h (Nat.not_lt_zero j)⟩
      case round=>
       clear hb c2;obtain⟨i,hi6,rfl,hb,ms⟩:=hrel;obtain⟨-,-,c2,-,-,-⟩:=Yaz (HBX.out _ hb).2;rw[HK.out] at c2;by_cases hlt:i<6
       ·have t3:decide ((i:Int)<6)=true:=by simp;omega
        have d0:=Yae (o:=6+i) (HBX.out _ hb).2 (Yc7 c _ i hlt);have e0:=Yae (o:=12+i) (HBX.out _ hb).2 (Yc8 c (fun i=>.slice (p i) (n i) (k i)) i hlt);rw[NL.out i hlt] at e0;have hm:=HMA.out i hlt;have C2:=Lib.hid (fun x (hx:Below (R+1) w0 x)=>(HK.out▸(Yaz (HBX.out x hx).2).2.2.1:x.cell? ⟨R,2,none⟩=some (.int .i64 0)))
        have D0:=Lib.hid (fun x (hx:Below (R+1) w0 x)=>Yae (o:=6+i) (HBX.out x hx).2 (Yc7 c _ i hlt));have E0:=Lib.hid (fun x (hx:Below (R+1) w0 x)=>(by have h:=Yae (o:=12+i) (HBX.out x hx).2 (Yc8 c (fun i=>.slice (p i) (n i) (k i)) i hlt);rw[NL.out i hlt] at h;exact h:x.cell? ⟨R,12+i,none⟩=some (.slice (p i) (c.ev i).length (k i))))
        have IN:=Lib.hid (fun x (hx:Below (R+1) w0 x)=>((hin x).mono fun e y h=>⟨h.1,h.2▸hx⟩:Calls Tryz.prog 8 #[.int .i64 0] x fun e y=>e=.returned (.bool (Yah 0))∧Below (R+1) w0 y))
        have MA:=Lib.hid (fun x (hx:Below (R+1) w0 x)=>((hm x (hb0.trans (hx.mono (by omega)))).mono fun e y h=>⟨h.1,hx.trans (h.2.mono (by have:=hx.size;omega))⟩:Calls Tryz.prog 18 #[.bool (Yah 0),.int .i64 (c.dc i),.slice (p i) (c.ev i).length (k i)] x fun e y=>e=.returned (.bool (Yfq (Yah 0) (c.dc i) (c.ev i)))∧Below (R+1) w0 y));have hbd:=hb.drew;clear c2 d0 e0 hm
        generalize hmb:Yfq (Yah 0) (c.dc i) (c.ev i)=mb at MA
        go_wp2
        refine Yag (S:=fun x=>Below (R+1) w0 x) 13 (by kernel_rfl) (by kernel_rfl) hbd ?_;simp only[List.take_succ_cons,List.take_zero,List.drop_succ_cons,List.drop_zero];refine Yab (by kernel_rfl) (fun x _=>by go_simp;try with_reducible rfl) ?_;simp only[Yaa];refine Yaf 3 _ ⟨R,2,none⟩ (.int .i64 0) (by kernel_rfl) rfl rfl (fun x hx=>by have c0:=C2.out x hx;go_simp) ?_;simp only[Yaa]
        refine Yai (by kernel_rfl) IN.out (fun _=>by kernel_rfl) ?_;simp only[Yaa]
        iterate 2 (refine Yab (by kernel_rfl) (fun x _=>by go_simp;try with_reducible rfl) ?_;simp only[Yaa])
        refine Yab (by kernel_rfl) (fun x _=>by go_simp;rw[if_pos (by omega)]) ?_;simp only[Yaa];refine Yaf 3 _ ⟨R,6+i,none⟩ (.int .i64 (c.dc i)) (by kernel_rfl) rfl rfl (fun x hx=>by have c0:=D0.out x hx;go_simp) ?_;simp only[Yaa]
        iterate 2 (refine Yab (by kernel_rfl) (fun x _=>by go_simp;try with_reducible rfl) ?_;simp only[Yaa])
        refine Yab (by kernel_rfl) (fun x _=>by go_simp;rw[if_pos (by omega)]) ?_;simp only[Yaa];refine Yaf 28 _ ⟨R,12+i,none⟩ (.slice (p i) (c.ev i).length (k i)) (by kernel_rfl) rfl rfl (fun x hx=>by have c0:=E0.out x hx;go_simp) ?_;simp only[Yaa];refine Yai (by kernel_rfl) MA.out (fun _=>by kernel_rfl) ?_;simp only[Yaa]
        refine Yab (by kernel_rfl) (fun x _=>by go_simp;try with_reducible rfl) ?_;simp only[Yaa];refine Yar fun x hx=>?_;cases mb with
        |true=>
         have HM:=Lib.hid hmb;clear hmb
         go_wp2
         go_roundw
         case rel=>exact⟨i+1,by omega,by go_num,hx,Lib.hid fun j hj=>(Nat.lt_succ_iff_lt_or_eq.1 hj).elim (ms.out j) fun h=>h▸HM.out⟩
         case measure=>simp[RowKit.intOf];omega
        |false=>
         have Z:Hid (z=false):=Lib.hid (by rw[OX.out];exact Bool.eq_false_iff.2 fun h=>by rw[BO.out.1 h i hlt] at hmb;cases hmb);clear hmb
         go_wp2
         go_ret
         exact⟨Yac Z.out.symm,by rw[HR.out];exact hb0.trans (hx.mono (by omega))⟩
       ·obtain rfl:i=6:=by omega
        have Z:Hid (z=true):=Lib.hid (by rw[OX.out];exact BO.out.2 ms.out)
        go_wp2
        go_ret
        exact⟨Yac Z.out.symm,by rw[HR.out];exact hb0.trans (hb.mono (by omega))⟩
   ·have u:(c.step != 0)=true:=by simpa using hs
    have Z:Hid (z=false):=Lib.hid (by rw[ZS.out,show Yd7 0 c.step=false from beq_eq_false_iff_ne.2 hs];rfl);clear hs
    go_enter Tryz.func7,Tryz.ntmps7
    go_wp2
    go_ret
    exact⟨Yac Z.out.symm,by rw[HW.out,HR.out];exact hb0⟩
  ·obtain rfl:inter=true:=by cases inter with|true=>rfl|false=>exact absurd (hin2 rfl) (by simp)
   clear hin2;have SE:Hid (Yd7 1 c.step = !(Ybx c.step).data.toList.isEmpty):=Lib.hid rfl
   go_enter Tryz.func7,Tryz.ntmps7
   go_wp2_with fail
   rw[HW.out,HR.out];refine(hst _).mono ?_;rintro e w1 ⟨rfl,hb1⟩;rw[hz0] at hb1;have hbX:Below (R+1) w0 w1:=hb1;obtain⟨-,-,c2,c3,-,-⟩:=Yaz (HBX.out _ hbX).2;rw[HK.out] at c2;have ue:(Ybx c.step).data.toList.isEmpty=false→(Ybx c.step).toList.isEmpty=false:=fun h=>by rcases Yfo.1 h with e|e|e|e <;> rw[e] <;> decide +kernel
   generalize Ybx c.step=sr at *;cases hse:sr.data.toList.isEmpty
   ·have STP:Hid (Yd7 1 c.step=true):=Lib.hid (by rw[SE.out,hse];rfl);have u:=ue hse;clear hse ue
    go_wp2
    go_loopw [5] (fun v wr=>∃i:Nat,i≤2∧v=.int .i64 i∧Below (R+1) w0 wr∧Hid ((0<i→Yas 1 c.mx=true)∧(1<i→Yas 1 c.my=true))) (fun v _=>2-(RowKit.intOf v).toNat)
    case atStart=>exact⟨0,by omega,rfl,hbX,Lib.hid ⟨fun h=>absurd h (by omega),fun h=>absurd h (by omega)⟩⟩
    case round=>
     obtain⟨i,hi2,rfl,hb,o1⟩:=hrel;obtain⟨-,-,c2,-,c4,c5⟩:=Yaz (HBX.out _ hb).2;rw[HK.out] at c2;rcases (by omega:i=0∨i=1∨i=2) with rfl|rfl|rfl
     ·by_cases m0:c.mx < -32
      ·have u0:decide (c.mx < -32)=true:=decide_eq_true m0;have Z:Hid (z=false):=Lib.hid (by rw[ZS.out,(show Yas 1 c.mx=false by unfold Yas;rw[show Yah 1=false from rfl];exact beq_eq_false_iff_ne.2 (fun h=>by have:=Yd9 c.mx;omega))];simp);clear m0
       go_wp2
       go_ret
       exact⟨Yac Z.out.symm,by rw[HR.out];exact hb0.trans ((hb).mono (by omega))⟩
      have u0:decide (c.mx < -32)=false:=decide_eq_false m0;by_cases m1:31<c.mx
      ·have u1:decide (31<c.mx)=true:=decide_eq_true m1;have Z:Hid (z=false):=Lib.hid (by rw[ZS.out,(show Yas 1 c.mx=false by unfold Yas;rw[show Yah 1=false from rfl];exact beq_eq_false_iff_ne.2 (fun h=>by have:=Yd9 c.mx;omega))];simp);clear m0 m1
       go_wp2
       go_ret
       exact⟨Yac Z.out.symm,by rw[HR.out];exact hb0.trans ((hb).mono (by omega))⟩
      have u1:decide (31<c.mx)=false:=decide_eq_false m1;have OK:Hid (Yas 1 c.mx=true):=Lib.hid (by unfold Yas;rw[show Yah 1=false from rfl];exact beq_iff_eq.2 (Ye1.2 ⟨by omega,by omega⟩));clear m0 m1
      go_wp2
      go_roundw
      case rel=>exact⟨0+1,by omega,by first|rfl|trivial,hb,Lib.hid ⟨fun _=>OK.out,fun h=>absurd h (by omega)⟩⟩
      case measure=>simp[RowKit.intOf]
     ·by_cases m0:c.my < -32
      ·have u0:decide (c.my < -32)=true:=decide_eq_true m0;have Z:Hid (z=false):=Lib.hid (by rw[ZS.out,(show Yas 1 c.my=false by unfold Yas;rw[show Yah 1=false from rfl];exact beq_eq_false_iff_ne.2 (fun h=>by have:=Yd9 c.my;omega))];simp);clear m0
       go_wp2
       go_ret
       exact⟨Yac Z.out.symm,by rw[HR.out];exact hb0.trans ((hb).mono (by omega))⟩
      have u0:decide (c.my < -32)=false:=decide_eq_false m0;by_cases m1:31<c.my
      ·have u1:decide (31<c.my)=true:=decide_eq_true m1;have Z:Hid (z=false):=Lib.hid (by rw[ZS.out,(show Yas 1 c.my=false by unfold Yas;rw[show Yah 1=false from rfl];exact beq_eq_false_iff_ne.2 (fun h=>by have:=Yd9 c.my;omega))];simp);clear m0 m1
       go_wp2
       go_ret
       exact⟨Yac Z.out.symm,by rw[HR.out];exact hb0.trans ((hb).mono (by omega))⟩
      have u1:decide (31<c.my)=false:=decide_eq_false m1;have OK:Hid (Yas 1 c.my=true):=Lib.hid (by unfold Yas;rw[show Yah 1=false from rfl];exact beq_iff_eq.2 (Ye1.2 ⟨by omega,by omega⟩));clear m0 m1
      go_wp2
      go_roundw
      case rel=>exact⟨1+1,by omega,by first|rfl|trivial,hb,Lib.hid ⟨fun _=>o1.out.1 (by omega),fun _=>OK.out⟩⟩
      case measure=>simp[RowKit.intOf]
     ·have OX:Hid (z=Ydo c):=Lib.hid (by rw[ZS.out,o1.out.1 (by omega),o1.out.2 (by omega),STP.out];rfl);clear c4 c5
      go_wp2
      go_loopw [6] (fun v wr2=>∃i:Nat,i≤6∧v=.int .i64 i∧Below (R+1) w0 wr2∧Hid (∀j,j<i→Yfq (Yah 1) (c.dc j) (c.ev j)=true)) (fun v _=>6-(RowKit.intOf v).toNat)
      case atStart=>exact⟨0,by omega,rfl,hb,Lib.hid fun j h=>absurd h (Nat.not_lt_zero j)⟩
      case round=>
       clear hb c2;obtain⟨i,hi6,rfl,hb,ms⟩:=hrel;obtain⟨-,-,c2,-,-,-⟩:=Yaz (HBX.out _ hb).2;rw[HK.out] at c2;by_cases hlt:i<6
       ·have t3:decide ((i:Int)<6)=true:=by simp;omega
        have d0:=Yae (o:=6+i) (HBX.out _ hb).2 (Yc7 c _ i hlt);have e0:=Yae (o:=12+i) (HBX.out _ hb).2 (Yc8 c (fun i=>.slice (p i) (n i) (k i)) i hlt);rw[NL.out i hlt] at e0;have hm:=HMA.out i hlt;have C2:=Lib.hid (fun x (hx:Below (R+1) w0 x)=>(HK.out▸(Yaz (HBX.out x hx).2).2.2.1:x.cell? ⟨R,2,none⟩=some (.int .i64 1)))
        have D0:=Lib.hid (fun x (hx:Below (R+1) w0 x)=>Yae (o:=6+i) (HBX.out x hx).2 (Yc7 c _ i hlt));have E0:=Lib.hid (fun x (hx:Below (R+1) w0 x)=>(by have h:=Yae (o:=12+i) (HBX.out x hx).2 (Yc8 c (fun i=>.slice (p i) (n i) (k i)) i hlt);rw[NL.out i hlt] at h;exact h:x.cell? ⟨R,12+i,none⟩=some (.slice (p i) (c.ev i).length (k i))))
        have IN:=Lib.hid (fun x (hx:Below (R+1) w0 x)=>((hin x).mono fun e y h=>⟨h.1,h.2▸hx⟩:Calls Tryz.prog 8 #[.int .i64 1] x fun e y=>e=.returned (.bool (Yah 1))∧Below (R+1) w0 y))
        have MA:=Lib.hid (fun x (hx:Below (R+1) w0 x)=>((hm x (hb0.trans (hx.mono (by omega)))).mono fun e y h=>⟨h.1,hx.trans (h.2.mono (by have:=hx.size;omega))⟩:Calls Tryz.prog 18 #[.bool (Yah 1),.int .i64 (c.dc i),.slice (p i) (c.ev i).length (k i)] x fun e y=>e=.returned (.bool (Yfq (Yah 1) (c.dc i) (c.ev i)))∧Below (R+1) w0 y));have hbd:=hb.drew;clear c2 d0 e0 hm
        generalize hmb:Yfq (Yah 1) (c.dc i) (c.ev i)=mb at MA
        go_wp2
        refine Yag (S:=fun x=>Below (R+1) w0 x) 13 (by kernel_rfl) (by kernel_rfl) hbd ?_;simp only[List.take_succ_cons,List.take_zero,List.drop_succ_cons,List.drop_zero];refine Yab (by kernel_rfl) (fun x _=>by go_simp;try with_reducible rfl) ?_;simp only[Yaa];refine Yaf 3 _ ⟨R,2,none⟩ (.int .i64 1) (by kernel_rfl) rfl rfl (fun x hx=>by have c0:=C2.out x hx;go_simp) ?_;simp only[Yaa]
        refine Yai (by kernel_rfl) IN.out (fun _=>by kernel_rfl) ?_;simp only[Yaa]
        iterate 2 (refine Yab (by kernel_rfl) (fun x _=>by go_simp;try with_reducible rfl) ?_;simp only[Yaa])
        refine Yab (by kernel_rfl) (fun x _=>by go_simp;rw[if_pos (by omega)]) ?_;simp only[Yaa];refine Yaf 3 _ ⟨R,6+i,none⟩ (.int .i64 (c.dc i)) (by kernel_rfl) rfl rfl (fun x hx=>by have c0:=D0.out x hx;go_simp) ?_;simp only[Yaa]
        iterate 2 (refine Yab (by kernel_rfl) (fun x _=>by go_simp;try with_reducible rfl) ?_;simp only[Yaa])
        refine Yab (by kernel_rfl) (fun x _=>by go_simp;rw[if_pos (by omega)]) ?_;simp only[Yaa];refine Yaf 28 _ ⟨R,12+i,none⟩ (.slice (p i) (c.ev i).length (k i)) (by kernel_rfl) rfl rfl (fun x hx=>by have c0:=E0.out x hx;go_simp) ?_;simp only[Yaa];refine Yai (by kernel_rfl) MA.out (fun _=>by kernel_rfl) ?_;simp only[Yaa]
        refine Yab (by kernel_rfl) (fun x _=>by go_simp;try with_reducible rfl) ?_;simp only[Yaa];refine Yar fun x hx=>?_;cases mb with
        |true=>
         have HM:=Lib.hid hmb;clear hmb
         go_wp2
         go_roundw
         case rel=>exact⟨i+1,by omega,by go_num,hx,Lib.hid fun j hj=>(Nat.lt_succ_iff_lt_or_eq.1 hj).elim (ms.out j) fun h=>h▸HM.out⟩
         case measure=>simp[RowKit.intOf];omega
        |false=>
         have Z:Hid (z=false):=Lib.hid (by rw[OX.out];exact Bool.eq_false_iff.2 fun h=>by rw[BO.out.1 h i hlt] at hmb;cases hmb);clear hmb
         go_wp2
         go_ret
         exact⟨Yac Z.out.symm,by rw[HR.out];exact hb0.trans (hx.mono (by omega))⟩
       ·obtain rfl:i=6:=by omega
        have Z:Hid (z=true):=Lib.hid (by rw[OX.out];exact BO.out.2 ms.out)
        go_wp2
        go_ret
        exact⟨Yac Z.out.symm,by rw[HR.out];exact hb0.trans (hb.mono (by omega))⟩
   ·have Z:Hid (z=false):=Lib.hid (by rw[ZS.out,SE.out,hse];rfl);have u0:sr=⟨#[]⟩:=by
     have h:=List.isEmpty_iff.1 hse;exact Ytv.2 h
    subst u0;clear hse c3
    go_wp2
    go_ret
    exact⟨Yac Z.out.symm,by rw[HR.out];exact hb0.trans (hbX.mono (by omega))⟩
end Go.Proofs.YtdnjefldijjgdaaGreatDoor
namespace Go.Proofs.YtdnjefldijjgdaaGreatDoor
open Go.RowKit Go.Lib Go.ChangeShapes Go.WideShapes Go.ChangeAt
section
variable {H:Type}{enc:TypeId×Value→H}{P:Program}
theorem Ym6 {w:World}{r:Reach}{b0 base:Nat}{sp:Nat→Bool}{held:Bool}{t tc ti:TypeId}{g0 g1:Field}{v:Value}{d:DataW H}{ps:List MemPlace}(c:Nat)(Q:List Value→Prop)
  (ht:P.underlying t=some (.struct #[g0,g1]))(hi:P.underlying ti=some (.int .i64))(e:g0.type=tc∧g1.type=ti)(o:g0.offset=0∧g1.offset=18)(cc:P.cellsOf tc=18)(ci:P.cellsOf ti=1)(hc:P.cellsOf t=19)
  (hcel:∀(cs':Array Value) (d:DataW H) (ps:List MemPlace),cs'.size=18→DataW.Trod enc P w base sp held tc (.agg cs') d ps→∃(k:Cel) (p:Nat→Option Addr) (n cap:Nat→Nat),cs'=(Ycs k fun i=>.slice (p i) (n i) (cap i)).toArray∧∀i,i<6→n i≤maxLen∧Yf4 w Q c (p i) (n i))
  (hval:Value.okWide P w r b0 t v)(hd:DataW.Trod enc P w base sp held t v d ps):
  ∃(k:Cel) (p:Nat→Option Addr) (n cap:Nat→Nat) (q:Int),v=.agg (Ygw k (fun i=>.slice (p i) (n i) (cap i)) q).toArray∧(∀i,i<6→n i≤maxLen∧Yf4 w Q c (p i) (n i))∧(Lit.int .i64 q).wf=true:=by
 obtain⟨cs',rfl,hsz,_⟩:∃cs,v=.agg cs∧cs.size=P.cellsOf t∧Row.okWide P w r b0 t cs:=by
  simpa [Value.okWide,ht] using hval
 rw[hc] at hsz;obtain⟨fuel,hf⟩:=hd;obtain⟨xs,k,hk,hxy,_,hxl,hfs⟩:=DataW.trod_struct ht hf;have hl:cs'.toList.length=19:=by rw[Array.length_toList,hsz]
 match xs,hxl with
 |[y0,y1],_=>
  have z0:=hfs 0 g0 rfl;have z1:=hfs 1 g1 rfl;rw[e.1,o.1,cc] at z0;rw[e.2,o.2,ci] at z1
  replace z0:DataW.trod enc P w base sp held k tc (cs'.toList.take 18)=some y0:=z0
  replace z1:DataW.trod enc P w base sp held k ti ((cs'.toList.drop 18).take 1)=some y1:=z1
  obtain⟨k',p,n,cap,hA,hR⟩:=hcel (cs'.toList.take 18).toArray y0.1 y0.2 (by simp[hsz]) ⟨k,by rw[show (Value.agg (cs'.toList.take 18).toArray).cells.toList=cs'.toList.take 18 from rfl];exact z0⟩;have h18:18<cs'.toList.length:=by omega
  rw[List.drop_eq_getElem_cons h18,List.take_succ_cons,List.take_zero] at z1;obtain⟨q,eq,wq⟩:=Yeg hi z1;refine⟨k',p,n,cap,q,?_,hR,wq⟩;have hA':cs'.toList.take 18=Ycs k' fun i=>.slice (p i) (n i) (cap i):=congrArg Array.toList hA
  congr 1
  apply Array.ext';show cs'.toList=Ycs k' (fun i=>.slice (p i) (n i) (cap i))++[.int .i64 q];rw[←hA',←eq];have h19:=List.take_append_drop 18 cs'.toList;rw[List.drop_eq_getElem_cons h18,List.drop_eq_nil_of_le (show cs'.toList.length≤18+1 by omega)] at h19;exact h19.symm
end
end Go.Proofs.YtdnjefldijjgdaaGreatDoor