/- No condition. -/
import Derived.Test.YtnamlooifcpoaaaGreatDoorScreensNextMa
import Derived.Test.YtnamlooifcpoaaaGreatDoorScreensNextMf
import Derived.Test.YtnamlooifcpoaaaGreatDoorScreensNextMba
import Derived.Test.YtnamlooifcpoaaaGreatDoorScreensNextMbs
import Derived.Test.YtnamlooifcpoaaaGreatDoorScreensNextMbu
import Derived.Test.YtnamlooifcpoaaaGreatDoorScreensNextMbx
namespace Go.Proofs.YtnamlooifcpoaaaGreatDoor
open Go.RowKit Go.Lib
theorem Y0g {k:Int}{n:Nat→Nat}{f:Nat→Nat→Int}{m a b:Int}(h:(Yxr k n f m a b).2=0):Yb7 k n=true∧Yi3 k m a b=true∧Yxr k n f m a b=(Ybp k m.toNat f a b,0):=by
 unfold Yxr at h ⊢;cases hn:Yb7 k n&&Yi3 k m a b with
 |true=>exact⟨(Bool.and_eq_true _ _▸hn).1,(Bool.and_eq_true _ _▸hn).2,rfl⟩
 |false=>
  rw[hn] at h
  replace h:(if Yb7 k n&&Yoi k m then (8:Int) else 1)=0:=h
  split at h <;> cases h
set_option maxRecDepth 1000000 in
set_option maxHeartbeats 8000000 in
theorem Yt3 (k:Int)(v:Nat→Value)(n:Nat→Nat)(f:Nat→Nat→Int)(m:Int)(c:Cel)(p:Nat→Option Addr)(nn kk:Nat→Nat)(q:Int)(w:World)(h:Yfs w v n f)(hc:Yea w c p nn)(hp:(Ygq k n f m c).2=0):
  Calls Tryz.prog 25 #[.agg (frA k v),.int .i64 m,.agg (Ycd c fun i=>.slice (p i) (nn i) (kk i)).toArray,.int .i64 q] w fun e w'=>e=.returned (.agg (arn 384 (Ydb (Ygq k n f m c).1 (ptF (Yf2 c q)))))∧Below w.heap.size w w':=by
 obtain⟨B,wA,wB,wC,wD,hB,hwA,hwB,hwC,hwD,hzA,hzB,hzC,hzD,hD0,hD1,hD2,hD3,hbD⟩:=Ytn w (.cells (frA k v) 25 (0,0)) (.cells (Ycd c fun i=>.slice (p i) (nn i) (kk i)).toArray 48 (0,0)) (.cells (arn 384 fun _=>0) 62 (0,0)) (.cells (arn 384 fun _=>0) 62 (0,0));have UP:∀x,Below B w x→Below w.heap.size w x:=fun x hx=>hB▸hx;have CO:=fun(x:World) (hx:Below B w x)=>Yw9 c p nn kk q x (hc.below (UP x hx))
 have CS:=fun(x:World)=>Yyd (Ygq k n f m c).1 (ptF (Yf2 c q)) x;have CI:=Lib.hid (fun(x:World)=>Yek c.kind x);have CV:Yaj c.kind=false→Calls Tryz.prog 44 #[.agg (frA k v),.int .i64 m,.agg [Value.int .i64 c.mx,.int .i64 c.my].toArray] wD fun e w'=>e=.returned (.agg (arn 384 (Ygq k n f m c).1))∧Below wD.heap.size wD w':=fun hk=>by
  have e1:Ygq k n f m c=Yxr k n f m c.mx c.my:=by unfold Ygq;rw[hk];rfl
  rw[e1] at hp ⊢;obtain⟨hr,hy,e2⟩:=Y0g hp;obtain⟨hc1,-,-⟩:=Yi4.1 hy;obtain⟨j,rfl⟩:∃j:Nat,m=(j:Int):=⟨m.toNat,by omega⟩;have hj:j<Ybg k:=by simpa using hc1.2
  rw[e2];exact Yxm k v n f j c.mx c.my wD (h.below (UP wD hbD)) hr hj hy
 have CN:Yaj c.kind=true→arn 384 (Ygq k n f m c).1=arn 384 fun _=>0:=fun hk=>by unfold Ygq;rw[hk];rfl
 unfold Yeb at CO;have ck:wD.cell? ⟨B+1,2,none⟩=some (.int .i64 c.kind):=Yac (o:=2) hD1 rfl;have rg:=Ypo hD1;have hz0:=Ydl;have HSX:=Ya1 Ybh k v;have HSA:=Yd0 c (fun i=>.slice (p i) (nn i) (kk i));have HYZ:(arn 384 fun _=>0).size=384:=Yan _ _;have HSP:=Ybr (Ygq k n f m c).1;have HOP:=Ybd 384 (Ygq k n f m c).1;have HZP:(arn 384 (Ygq k n f m c).1).size=384:=Yan _ _
 have HST:=Ybr (Ydb (Ygq k n f m c).1 (ptF (Yf2 c q)));have HOT:=Ybd 384 (Ydb (Ygq k n f m c).1 (ptF (Yf2 c q)));have HZT:(arn 384 (Ydb (Ygq k n f m c).1 (ptF (Yf2 c q)))).size=384:=Yan _ _;have HS2:(Tryz.prog.info? 43).map (·.size)=some [Value.int .i64 c.mx,.int .i64 c.my].length:=by kernel_rfl
 generalize [Value.int .i64 c.mx,.int .i64 c.my]=Z at rg HS2 CV;generalize arn 384 (Ydb (Ygq k n f m c).1 (ptF (Yf2 c q)))=T at *;generalize arn 384 (ptF (Yf2 c q))=R at *;generalize arn 384 (Ygq k n f m c).1=V at *;generalize (arn 384 fun _=>0)=Y at *;generalize frA k v=X at *;generalize (Ycd c fun i=>.slice (p i) (nn i) (kk i)).toArray=A at *;have HYV:Y.size=V.size:=by rw[HYZ,HZP]
 have HYT:Y.size=T.size:=by rw[HYZ,HZT]
 have ck0:=ck;rw[←hwD,←hwC,←hwB,←hwA,←hB] at ck0;have HWA:=Lib.hid hwA;have HWB:=Lib.hid hwB;have HWC:=Lib.hid hwC;have HWD:=Lib.hid hwD;have HB:=Lib.hid hB
 replace CO:=Lib.hid CO
 replace CS:=Lib.hid CS
 have END:∀y,Below B w y→B+4≤y.heap.size→y.heap[B+1]? =some (.cells A 48 (0,0))→y.heap[B+2]? =some (.cells Y 62 (0,0))→y.heap[B+3]? =some (.cells V 62 (0,0))→
   (∀x,Below y.heap.size y x→x.heap[B+3]? =some (.cells V 62 (0,0)))∧(∀x,Below y.heap.size y x→x.heap[B+1]? =some (.cells A 48 (0,0)))∧(∀x,Below y.heap.size y x→x.heap[B+2]? =some (.cells Y 62 (0,0)))∧
   (∀x,Below y.heap.size y x→Calls Tryz.prog 46 #[.agg A,.int .i64 q] x fun e z=>e=.returned (.agg R)∧Below y.heap.size y z)∧(∀x,Below y.heap.size y x→Calls Tryz.prog 45 #[.agg V,.agg R] x fun e z=>e=.returned (.agg T)∧Below y.heap.size y z)∧(∀x,Below y.heap.size y x→Below B w x∧B+4≤x.heap.size):=fun y hb hs h1 h2 h3=>
  ⟨fun x hx=>(hx.block (B+3) (by omega)).trans h3,fun x hx=>(hx.block (B+1) (by omega)).trans h1,fun x hx=>(hx.block (B+2) (by omega)).trans h2,
   fun x hx=>(CO.out x (hb.trans (hx.mono (by omega)))).mono fun e z he=>⟨he.1,hx.trans (he.2.mono hx.size)⟩,fun x hx=>(CS.out x).mono fun e z he=>⟨he.1,hx.trans (he.2.mono hx.size)⟩,fun x hx=>⟨hb.trans (hx.mono (by omega)),Nat.le_trans hs hx.size⟩⟩
 replace END:=Lib.hid END
 clear hwA hwB hwC hwD hB h hc hp UP HYZ HZP HZT CO CS;generalize c.kind=kd at *;have HBD:=Lib.hid hbD;have HZD:=Lib.hid hzD;cases hk:Yaj kd with
 |true=>
  rw[hk] at CI;obtain rfl:V=Y:=CN hk;obtain⟨e3,e1,e2,co,cs,cb⟩:=END.out wD hbD (by omega) hD1 hD2 hD3
  replace e3:=Lib.hid e3
  replace e1:=Lib.hid e1
  replace co:=Lib.hid co
  replace cs:=Lib.hid cs
  clear CV CN hk END hzA hzB hzC hzD hbD HYV HOP
  go_enter Tryz.func25,Tryz.ntmps25
  go_wp2_with (rw[HWA.out,HB.out,HWB.out,HWC.out,HWD.out])
  refine(CI.out _).mono ?_;rintro e x1 ⟨rfl,rfl⟩
  go_wp2
  refine Yaf (S:=fun x=>Below wD.heap.size wD x) 5 (by kernel_rfl) (by kernel_rfl) (Below.refl _ _).drew ?_;simp only[List.take_succ_cons,List.take_zero,List.drop_succ_cons,List.drop_zero];refine Ya0 62 _ (B+3) 62 V (0,0) _ (by kernel_rfl) rfl rfl (fun x hx=>e3.out x hx) Tryz.underlying62 rfl HSP ?_;simp only[Yaa]
  refine Ya0 48 _ (B+1) 48 A (0,0) _ (by kernel_rfl) rfl rfl (fun x hx=>e1.out x hx) Tryz.underlying48 rfl HSA ?_;simp only[Yaa];refine Yab (by kernel_rfl) (fun x _=>by go_simp;try with_reducible rfl) ?_;simp only[Yaa];refine Yah (by kernel_rfl) co.out (fun _=>by kernel_rfl) ?_;simp only[Yaa];refine Yah (by kernel_rfl) cs.out (fun _=>by kernel_rfl) ?_;simp only[Yaa];refine Yar fun x hx=>?_
  have f2:=e2 x hx;obtain⟨fb,fs⟩:=cb x hx;clear hx e1 e2 e3 co cs cb
  go_wp2_with (with_reducible refine Yae rfl 62 _ _ rfl (B+2) T V rfl rfl 62 f2 HST HYT HOT ?_;intro w5 hh5 hg5)
  refine bodyPost_ret (results_cell_row rfl _ _ (B+2) 62 _ (0,0) _ rfl hh5 Tryz.underlying62 rfl HST) rfl ?_;exact⟨rfl,by rw[HB.out];exact fb.grown hg5 (by omega) (fun k hk=>by injection hk with hk;omega)⟩
 |false=>
  rw[hk] at CI;have cv:=CV hk;clear CV CN hk
  go_enter Tryz.func25,Tryz.ntmps25
  go_wp2_with (rw[HWA.out,HB.out,HWB.out,HWC.out,HWD.out])
  refine(CI.out _).mono ?_;rintro e x1 ⟨rfl,rfl⟩
  go_wp2_with (first|(with_reducible refine wpList_load_row rfl 25 _ rfl B rfl 25 X (0,0) _ hD0 Tryz.underlying25 rfl HSX ?_)|(with_reducible refine wpList_load_mid rfl 43 _ rfl (B+1) 4 rfl Z _ rg Tryz.underlying43 rfl HS2 ?_))
  refine cv.mono ?_;rintro e x2 ⟨rfl,hb2⟩;have d1:=(hb2.block (B+1) (by omega)).trans hD1;have d2:=(hb2.block (B+2) (by omega)).trans hD2;have d3:=(hb2.block (B+3) (by omega)).trans hD3;have db:=HBD.out.trans (hb2.mono (by omega));have ds:B+4≤x2.heap.size:=by have:=hb2.size;omega
  clear hb2 cv rg hD0 hD1 hD2 hD3 hzA hzB hzC hzD hbD
  go_wp2_with (with_reducible refine Yae rfl 62 _ _ rfl (B+3) V Y rfl rfl 62 d3 HSP HYV HOP ?_;intro y5 hh5 hg5)
  obtain⟨e3,e1,e2,co,cs,cb⟩:=END.out y5 (db.grown hg5 (by omega) (fun k hk=>by injection hk with hk;omega)) (Nat.le_trans ds hg5.size) ((hg5.block (B+1) (by omega) (by intro e;injection e with e;omega)).trans d1) ((hg5.block (B+2) (by omega) (by intro e;injection e with e;omega)).trans d2) hh5
  replace e3:=Lib.hid e3
  replace e1:=Lib.hid e1
  replace co:=Lib.hid co
  replace cs:=Lib.hid cs
  clear d1 d2 d3 db ds hh5 hg5 END;refine Yaf (S:=fun x=>Below y5.heap.size y5 x) 5 (by kernel_rfl) (by kernel_rfl) (Below.refl _ _).drew ?_;simp only[List.take_succ_cons,List.take_zero,List.drop_succ_cons,List.drop_zero];refine Ya0 62 _ (B+3) 62 V (0,0) _ (by kernel_rfl) rfl rfl (fun x hx=>e3.out x hx) Tryz.underlying62 rfl HSP ?_;simp only[Yaa]
  refine Ya0 48 _ (B+1) 48 A (0,0) _ (by kernel_rfl) rfl rfl (fun x hx=>e1.out x hx) Tryz.underlying48 rfl HSA ?_;simp only[Yaa];refine Yab (by kernel_rfl) (fun x _=>by go_simp;try with_reducible rfl) ?_;simp only[Yaa];refine Yah (by kernel_rfl) co.out (fun _=>by kernel_rfl) ?_;simp only[Yaa];refine Yah (by kernel_rfl) cs.out (fun _=>by kernel_rfl) ?_;simp only[Yaa];refine Yar fun x hx=>?_
  have f2:=e2 x hx;obtain⟨fb,fs⟩:=cb x hx;clear hx e1 e2 e3 co cs cb
  go_wp2_with (with_reducible refine Yae rfl 62 _ _ rfl (B+2) T Y rfl rfl 62 f2 HST HYT HOT ?_;intro w5 hh5 hg5)
  refine bodyPost_ret (results_cell_row rfl _ _ (B+2) 62 _ (0,0) _ rfl hh5 Tryz.underlying62 rfl HST) rfl ?_;exact⟨rfl,by rw[HB.out];exact fb.grown hg5 (by omega) (fun k hk=>by injection hk with hk;omega)⟩
theorem Y3n {F:Nat→Nat→Int}{s b i:Nat}(h1:s / 64=b)(h2:s%64=i):ptF F s=F b i:=by
 unfold ptF;rw[h1,h2]
def exI:Cel:={Y3w with kind:=3,dc:=fun _=>10}
end Go.Proofs.YtnamlooifcpoaaaGreatDoor