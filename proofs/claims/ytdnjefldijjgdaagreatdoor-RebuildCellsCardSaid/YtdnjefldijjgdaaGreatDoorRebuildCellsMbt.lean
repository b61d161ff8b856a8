/- No condition. -/
import Derived.Test.YtdnjefldijjgdaaGreatDoorRebuildCellsMa
import Derived.Test.YtdnjefldijjgdaaGreatDoorRebuildCellsMg
import Derived.Test.YtdnjefldijjgdaaGreatDoorRebuildCellsMh
import Derived.Test.YtdnjefldijjgdaaGreatDoorRebuildCellsMv
import Derived.Test.YtdnjefldijjgdaaGreatDoorRebuildCellsMy
import Derived.Test.YtdnjefldijjgdaaGreatDoorRebuildCellsMbd
import Derived.Test.YtdnjefldijjgdaaGreatDoorRebuildCellsMbm
import Derived.Test.YtdnjefldijjgdaaGreatDoorRebuildCellsMbo
import Derived.Test.YtdnjefldijjgdaaGreatDoorRebuildCellsMbp
import Derived.Test.YtdnjefldijjgdaaGreatDoorRebuildCellsMbs
namespace Go.Proofs.YtdnjefldijjgdaaGreatDoor
open Go.RowKit Go.Lib
def exI:Cel:={celZ with kind:=3,dc:=fun _=>10}
theorem Ys5:Yb0 true exI=true:=by decide +kernel
theorem Yq7:∀i,i<64→Ydy exI 3 0 i=Yki 80 i:=by decide +kernel
theorem Yq8:∀i,i<64→Ydy exI 3 5 i=Yki 80 i:=by decide +kernel
theorem Yq5:∀i,i<64→Ycx exI 3 0 i=10:=fun i hi=>((Yfa (k:=kI) (lo:=-256) (hi:=255) Yq7 i hi).trans (Yku 80 i hi)).trans (by decide +kernel)
theorem Yq6:∀i,i<64→Ycx exI 3 5 i=10:=fun i hi=>((Yfa (k:=kI) (lo:=-256) (hi:=255) Yq8 i hi).trans (Yku 80 i hi)).trans (by decide +kernel)
theorem Yty (w:World):Yc6 w exI (fun _=>none) (fun _=>0):=fun _ _=>⟨rfl,Nat.zero_le _,.inl rfl⟩
theorem Ys6:Yec 0 (fun _=>0) (fun _ _=>0) 0 exI 3=(Yby (fun _=>0) (ptF (Ycx exI 3)),0):=by
 have hp:Yc4 0 (fun _=>0) (fun _ _=>0) 0 exI=(fun _=>0,0):=by
  unfold Yc4;rw[if_pos (by decide)]
 unfold Yec;rw[if_pos Ys5,hp]
 rfl
theorem Yoq:Yby (fun _=>0) (ptF (Ycx exI 3)) 0=10:=by
 show Yqg 0 (ptF (Ycx exI 3) 0)=10;rw[Ysn (b:=0) (i:=0) rfl rfl,Yq5 0 (by omega)]
 decide +kernel
theorem Yq4:Yby (fun _=>0) (ptF (Ycx exI 3)) 383=10:=by
 show Yqg 0 (ptF (Ycx exI 3) 383)=10;rw[Ysn (b:=5) (i:=63) rfl rfl,Yq6 63 (by omega)]
 decide +kernel
set_option maxRecDepth 100000 in
set_option maxHeartbeats 2000000 in
theorem Ytd (w:World)(hR:Ysq w):Calls Tryz.prog 4 #[] w fun e w'=>e=.returned (.bool true)∧Below w.heap.size w w':=by
 obtain⟨hT,hS,hP,hD⟩:=hR
 have CC:Calls Tryz.prog 6 #[.agg #[.int .i64 0,.slice none 0 0,.slice none 0 0,.slice none 0 0],.int .i64 0,.agg #[.int .i64 0,.bool false,.int .i64 3,.int .i64 0,.int .i64 0,.int .i64 0,.int .i64 10,.int .i64 10,.int .i64 10,.int .i64 10,.int .i64 10,.int .i64 10,.slice none 0 0,.slice none 0 0,.slice none 0 0,.slice none 0 0,.slice none 0 0,.slice none 0 0],.int .i64 3] w fun e y=>e=.returned (.tuple #[.agg (arn 384 (Yby (fun _=>0) (ptF (Ycx exI 3)))),.int .i64 0])∧Below w.heap.size w y:=by
  have h:=Yhj 0 Yua (fun _=>0) (fun _ _=>0) 0 exI (fun _=>none) (fun _=>0) (fun _=>0) 3 w (Yiw.nil w) (Yty w) hT hS hP hD;unfold Yea at h;rw[Ys6] at h;exact h
 have L1:=fun(x:World) (b:Nat) (h:x.heap[b]? =some (.cells (arn 384 (Yby (fun _=>0) (ptF (Ycx exI 3)))) 38 (0,0)))=>(⟨(Ya7 (i:=0) h (by omega)).trans (by rw[Yoq]),(Ya7 (i:=383) h (by omega)).trans (by rw[Yq4])⟩:x.cell? ⟨b,0,none⟩=some (.int .i64 10)∧x.cell? ⟨b,383,none⟩=some (.int .i64 10));have HSV:=Ya8 (Yby (fun _=>0) (ptF (Ycx exI 3)));have HOV:=Yau 384 (Yby (fun _=>0) (ptF (Ycx exI 3)))
 have HYV:(arn 384 fun _=>0).size=(arn 384 (Yby (fun _=>0) (ptF (Ycx exI 3)))).size:=by rw[Yaj,Yaj]
 have hz0:=Ycc;generalize arn 384 (Yby (fun _=>0) (ptF (Ycx exI 3)))=V at *;generalize (arn 384 fun _=>0)=Y at *;clear hT hS hP hD
 go_enter Tryz.func4,Tryz.ntmps4
 go_wp2_with fail
 refine CC.mono ?_;rintro e x1 ⟨rfl,hb1⟩;obtain⟨b1,y1,hx1,hy1,hs1,M1⟩:=Ygi hb1 (Nat.le_refl _) V;obtain⟨c1,c2⟩:=L1 y1 b1 M1.cell;have HX1:=Lib.hid hx1;have HY1:=Lib.hid hy1;have hbw:=Lib.hid M1.low;clear hx1 hy1 hb1 M1 CC L1
 go_wp2_with (with_reducible refine Yap rfl 38 _ _ rfl V Y 38 rfl rfl HSV HYV HOV ?_;rw[HY1.out,HX1.out])
 go_ret
 exact⟨rfl,hbw.out⟩
structure QIn (k:Int) (v:Nat→Value) (n:Nat→Nat) (f:Nat→Nat→Int) (m:Int) (c:Cel) (p:Nat→Option Addr) (nn kk:Nat→Nat) (q:Int) (X:Array Value) (L Z:List Value) (Q:Array Value) (B:Nat) (w wB:World):Prop where
 up:∀x,Below (B+2) wB x→Below w.heap.size w x
 down:∀x y,Below (B+2) wB x→Below x.heap.size x y→Below (B+2) wB y
 size:∀x,Below (B+2) wB x→B+2≤x.heap.size
 fr:∀x,Below (B+2) wB x→x.heap[B]? =some (.cells X 25 (0,0))
 frs:(Tryz.prog.info? 25).map (·.size)=some X.size
 form:∀x,Below (B+2) wB x→x.cell? ⟨B,0,none⟩=some (.int .i64 k)
 cel:∀x,Below (B+2) wB x→x.rangeAt (B+1) 0 L
 cels:(Tryz.prog.info? 31).map (·.size)=some L.length
 vec:∀x,Below (B+2) wB x→x.rangeAt (B+1) 4 Z
 vecs:(Tryz.prog.info? 26).map (·.size)=some Z.length
 kind:∀x,Below (B+2) wB x→x.cell? ⟨B+1,2,none⟩=some (.int .i64 c.kind)
 ev:∀i,i<6→∀x,Below (B+2) wB x→x.cell? ⟨B+1,12+i,none⟩=some (.slice (p i) (nn i) (kk i))
 qt:∀x,Below (B+2) wB x→x.cell? ⟨B+1,18,none⟩=some (.int .i64 q)
 light:∀x,Below (B+2) wB x→Calls Tryz.prog 5 #[.agg X] x fun e y=>e=.returned (.bool (Ylx n))∧Below x.heap.size x y
 live:∀x,Below (B+2) wB x→Calls Tryz.prog 4 #[] x fun e y=>e=.returned (.bool true)∧Below x.heap.size x y
 cin:(∀i,i<6→nn i≤100)→∀x,Below (B+2) wB x→Yc6 x c p nn
 fin:∀x,Below (B+2) wB x→Yiw x v n f
 call:(∀i,i<6→nn i≤100)→∀x,Below (B+2) wB x→Calls Tryz.prog 6 #[.agg X,.int .i64 m,.agg L.toArray,.int .i64 q] x fun e y=>e=.returned (.tuple #[.agg (arn 384 (Yec k n f m c q).1),.int .i64 (Yec k n f m c q).2])∧Below x.heap.size x y
theorem Yrz (c:Cel)(sl:Nat→Value)(q:Int):∀j,j<18→(Ygw c sl q)[j]? =(Ycs c sl)[j]?:=fun j hj=>List.getElem?_append_left (show j<(Ycs c sl).length from hj)
theorem q_in {k:Int}{v:Nat→Value}{n:Nat→Nat}{f:Nat→Nat→Int}{m:Int}{c:Cel}{p:Nat→Option Addr}{nn kk:Nat→Nat}{q:Int}{w:World}(h:Yiw w v n f)(hce:∀i,i<6→nn i=(c.ev i).length∧Ydk w (p i) (c.ev i))(hR:Ysq w):
  ∃(X Q:Array Value) (L Z:List Value) (B:Nat) (wA wB:World),frA k v=X∧(Ygw c (fun i=>.slice (p i) (nn i) (kk i)) q).toArray=Q∧(Ycs c fun i=>.slice (p i) (nn i) (kk i))=L∧[Value.int .i64 c.mx,.int .i64 c.my]=Z∧w.heap.size=B∧w.alloc (.cells X 25 (0,0))=wA∧wA.alloc (.cells Q 33 (0,0))=wB∧QIn k v n f m c p nn kk q X L Z Q B w wB:=by
 obtain⟨B,wA,wB,hB,hwA,hwB,hzA,hzB,hC0,hC1,hbB⟩:=Yex w (.cells (frA k v) 25 (0,0)) (.cells (Ygw c (fun i=>.slice (p i) (nn i) (kk i)) q).toArray 33 (0,0));have UP:∀x,Below (B+2) wB x→Below w.heap.size w x:=fun x hx=>hB▸hbB.trans (hx.mono (by omega));have K:∀(x y:World),Below (B+2) wB x→Below x.heap.size x y→Below (B+2) wB y:=fun x y hx hy=>hx.trans (hy.mono (by have:=hx.size;omega))
 have C0:∀x,Below (B+2) wB x→x.heap[B]? =some (.cells (frA k v) 25 (0,0)):=fun x hx=>(hx.block B (by omega)).trans hC0;have C1:∀x,Below (B+2) wB x→x.heap[B+1]? =some (.cells (Ygw c (fun i=>.slice (p i) (nn i) (kk i)) q).toArray 33 (0,0)):=fun x hx=>(hx.block (B+1) (by omega)).trans hC1
 have CE:∀x,Below (B+2) wB x→∀j u,j<18→(Ycs c fun i=>.slice (p i) (nn i) (kk i))[j]? =some u→x.cell? ⟨B+1,j,none⟩=some u:=fun x hx j u hj hu=>Yae (C1 x hx) (by rw[Yrz _ _ _ j hj];exact hu);have CI:(∀i,i<6→nn i≤100)→∀x,Below (B+2) wB x→Yc6 x c p nn:=fun hf x hx i hi=>⟨(hce i hi).1,by have:=hf i hi;omega,(hce i hi).2.below (UP x hx)⟩;refine⟨frA k v,_,_,_,B,wA,wB,rfl,rfl,rfl,rfl,hB,hwA,hwB,?_⟩;exact{
  up:=UP
  down:=K
  size:=fun x hx=>by have:=hx.size;omega
  fr:=C0
  frs:=Ydf Yd0 k v
  form:=fun x hx=>Ycm (T:=25) (v:=v) (C0 x hx)
  cel:=fun x hx j u hj=>by
   have hj18:j<18:=(List.getElem?_eq_some_iff.1 hj).1;rw[Nat.zero_add];exact CE x hx j u hj18 hj
  cels:=Yco c fun i=>.slice (p i) (nn i) (kk i)
  vec:=fun x hx j u hj=>by
   have hj2:j<2:=(List.getElem?_eq_some_iff.1 hj).1
   match j,hj2 with
   |0,_=>exact CE x hx 4 u (by omega) hj
   |1,_=>exact CE x hx 5 u (by omega) hj
  vecs:=by kernel_rfl
  kind:=fun x hx=>CE x hx 2 _ (by omega) rfl
  ev:=fun i hi x hx=>CE x hx (12+i) _ (by omega) (Yc8 c (fun i=>.slice (p i) (nn i) (kk i)) i hi)
  qt:=fun x hx=>Yae (C1 x hx) rfl
  light:=fun x _=>Ym4 k v n x h.slices
  live:=fun x hx=>Ytd x (hR.below (UP x hx))
  cin:=CI
  fin:=fun x hx=>h.below (UP x hx)
  call:=fun hf x hx=>by
   obtain⟨hT,hS,hP,hD⟩:=hR.below (UP x hx);exact(Yhj k v n f m c p nn kk q x (h.below (UP x hx)) (CI hf x hx) hT hS hP hD)}
theorem Yry {k:Int}{n:Nat→Nat}{f:Nat→Nat→Int}{m a b:Int}(h:(Yk4 k n f m a b).2=0):Ybf k n=true∧Ygj k m a b=true∧Yk4 k n f m a b=(Ya5 k m.toNat f a b,0):=by
 unfold Yk4 at h ⊢;cases hn:Ybf k n&&Ygj k m a b with
 |true=>exact⟨(Bool.and_eq_true _ _▸hn).1,(Bool.and_eq_true _ _▸hn).2,rfl⟩
 |false=>
  rw[hn] at h
  replace h:(if Ybf k n&&Yjk k m then (8:Int) else 1)=0:=h
  split at h <;> cases h
set_option maxRecDepth 1000000 in
set_option maxHeartbeats 8000000 in
theorem Ync (k:Int)(v:Nat→Value)(n:Nat→Nat)(f:Nat→Nat→Int)(m:Int)(c:Cel)(p:Nat→Option Addr)(nn kk:Nat→Nat)(q:Int)(w:World)(h:Yiw w v n f)(hc:Yc6 w c p nn)(hp:(Yc4 k n f m c).2=0):
  Calls Tryz.prog 12 #[.agg (frA k v),.int .i64 m,.agg (Ycs c fun i=>.slice (p i) (nn i) (kk i)).toArray,.int .i64 q] w fun e w'=>e=.returned (.agg (arn 384 (Yby (Yc4 k n f m c).1 (ptF (Ycx c q)))))∧Below w.heap.size w w':=by
 obtain⟨B,wA,wB,wC,wD,hB,hwA,hwB,hwC,hwD,hzA,hzB,hzC,hzD,hD0,hD1,hD2,hD3,hbD⟩:=Ym2 w (.cells (frA k v) 25 (0,0)) (.cells (Ycs c fun i=>.slice (p i) (nn i) (kk i)).toArray 31 (0,0)) (.cells (arn 384 fun _=>0) 38 (0,0)) (.cells (arn 384 fun _=>0) 38 (0,0));have UP:∀x,Below B w x→Below w.heap.size w x:=fun x hx=>hB▸hx;have CO:=fun(x:World) (hx:Below B w x)=>Ypd c p nn kk q x (hc.below (UP x hx))
 have CS:=fun(x:World)=>Yp4 (Yc4 k n f m c).1 (ptF (Ycx c q)) x;have CI:=Lib.hid (fun(x:World)=>Ydb c.kind x);have CV:Yah c.kind=false→Calls Tryz.prog 24 #[.agg (frA k v),.int .i64 m,.agg [Value.int .i64 c.mx,.int .i64 c.my].toArray] wD fun e w'=>e=.returned (.agg (arn 384 (Yc4 k n f m c).1))∧Below wD.heap.size wD w':=fun hk=>by
  have e1:Yc4 k n f m c=Yk4 k n f m c.mx c.my:=by unfold Yc4;rw[hk];rfl
  rw[e1] at hp ⊢;obtain⟨hr,hy,e2⟩:=Yry hp;obtain⟨hc1,-,-⟩:=Yfy.1 hy;obtain⟨j,rfl⟩:∃j:Nat,m=(j:Int):=⟨m.toNat,by omega⟩;have hj:j<Ybr k:=by simpa using hc1.2
  rw[e2];exact Ypo k v n f j c.mx c.my wD (h.below (UP wD hbD)) hr hj hy
 have CN:Yah c.kind=true→arn 384 (Yc4 k n f m c).1=arn 384 fun _=>0:=fun hk=>by unfold Yc4;rw[hk];rfl
 unfold Ycz at CO;have ck:wD.cell? ⟨B+1,2,none⟩=some (.int .i64 c.kind):=Yae (o:=2) hD1 rfl;have rg:=Yka hD1;have hz0:=Ycc;have HSX:=Ydf Yd0 k v;have HSA:=Yco c (fun i=>.slice (p i) (nn i) (kk i));have HYZ:(arn 384 fun _=>0).size=384:=Yaj _ _;have HSP:=Ya8 (Yc4 k n f m c).1;have HOP:=Yau 384 (Yc4 k n f m c).1;have HZP:(arn 384 (Yc4 k n f m c).1).size=384:=Yaj _ _
 have HST:=Ya8 (Yby (Yc4 k n f m c).1 (ptF (Ycx c q)));have HOT:=Yau 384 (Yby (Yc4 k n f m c).1 (ptF (Ycx c q)));have HZT:(arn 384 (Yby (Yc4 k n f m c).1 (ptF (Ycx c q)))).size=384:=Yaj _ _;have HS2:(Tryz.prog.info? 26).map (·.size)=some [Value.int .i64 c.mx,.int .i64 c.my].length:=by kernel_rfl
 generalize [Value.int .i64 c.mx,.int .i64 c.my]=Z at rg HS2 CV;generalize arn 384 (Yby (Yc4 k n f m c).1 (ptF (Ycx c q)))=T at *;generalize arn 384 (ptF (Ycx c q))=R at *;generalize arn 384 (Yc4 k n f m c).1=V at *;generalize (arn 384 fun _=>0)=Y at *;generalize frA k v=X at *;generalize (Ycs c fun i=>.slice (p i) (nn i) (kk i)).toArray=A at *;have HYV:Y.size=V.size:=by rw[HYZ,HZP]
 have HYT:Y.size=T.size:=by rw[HYZ,HZT]
 have ck0:=ck;rw[←hwD,←hwC,←hwB,←hwA,←hB] at ck0;have HWA:=Lib.hid hwA;have HWB:=Lib.hid hwB;have HWC:=Lib.hid hwC;have HWD:=Lib.hid hwD;have HB:=Lib.hid hB
 replace CO:=Lib.hid CO
 replace CS:=Lib.hid CS
 have END:∀y,Below B w y→B+4≤y.heap.size→y.heap[B+1]? =some (.cells A 31 (0,0))→y.heap[B+2]? =some (.cells Y 38 (0,0))→y.heap[B+3]? =some (.cells V 38 (0,0))→
   (∀x,Below y.heap.size y x→x.heap[B+3]? =some (.cells V 38 (0,0)))∧(∀x,Below y.heap.size y x→x.heap[B+1]? =some (.cells A 31 (0,0)))∧(∀x,Below y.heap.size y x→x.heap[B+2]? =some (.cells Y 38 (0,0)))∧
   (∀x,Below y.heap.size y x→Calls Tryz.prog 26 #[.agg A,.int .i64 q] x fun e z=>e=.returned (.agg R)∧Below y.heap.size y z)∧(∀x,Below y.heap.size y x→Calls Tryz.prog 25 #[.agg V,.agg R] x fun e z=>e=.returned (.agg T)∧Below y.heap.size y z)∧(∀x,Below y.heap.size y x→Below B w x∧B+4≤x.heap.size):=fun y hb hs h1 h2 h3=>
  ⟨fun x hx=>(hx.block (B+3) (by omega)).trans h3,fun x hx=>(hx.block (B+1) (by omega)).trans h1,fun x hx=>(hx.block (B+2) (by omega)).trans h2,
   fun x hx=>(CO.out x (hb.trans (hx.mono (by omega)))).mono fun e z he=>⟨he.1,hx.trans (he.2.mono hx.size)⟩,fun x hx=>(CS.out x).mono fun e z he=>⟨he.1,hx.trans (he.2.mono hx.size)⟩,fun x hx=>⟨hb.trans (hx.mono (by omega)),Nat.le_trans hs hx.size⟩⟩
 replace END:=Lib.hid END
 clear hwA hwB hwC hwD hB h hc hp UP HYZ HZP HZT CO CS;generalize c.kind=kd at *;have HBD:=Lib.hid hbD;have HZD:=Lib.hid hzD;cases hk:Yah kd with
 |true=>
  rw[hk] at CI;obtain rfl:V=Y:=CN hk;obtain⟨e3,e1,e2,co,cs,cb⟩:=END.out wD hbD (by omega) hD1 hD2 hD3
  replace e3:=Lib.hid e3
  replace e1:=Lib.hid e1
  replace co:=Lib.hid co
  replace cs:=Lib.hid cs
  clear CV CN hk END hzA hzB hzC hzD hbD HYV HOP
  go_enter Tryz.func12,Tryz.ntmps12
  go_wp2_with (rw[HWA.out,HB.out,HWB.out,HWC.out,HWD.out])
  refine(CI.out _).mono ?_;rintro e x1 ⟨rfl,rfl⟩
  go_wp2
  refine Yag (S:=fun x=>Below wD.heap.size wD x) 5 (by kernel_rfl) (by kernel_rfl) (Below.refl _ _).drew ?_;simp only[List.take_succ_cons,List.take_zero,List.drop_succ_cons,List.drop_zero];refine Ybl 38 _ (B+3) 38 V (0,0) _ (by kernel_rfl) rfl rfl (fun x hx=>e3.out x hx) Tryz.underlying38 rfl HSP ?_;simp only[Yaa]
  refine Ybl 31 _ (B+1) 31 A (0,0) _ (by kernel_rfl) rfl rfl (fun x hx=>e1.out x hx) Tryz.underlying31 rfl HSA ?_;simp only[Yaa];refine Yab (by kernel_rfl) (fun x _=>by go_simp;try with_reducible rfl) ?_;simp only[Yaa];refine Yai (by kernel_rfl) co.out (fun _=>by kernel_rfl) ?_;simp only[Yaa];refine Yai (by kernel_rfl) cs.out (fun _=>by kernel_rfl) ?_;simp only[Yaa];refine Yar fun x hx=>?_
  have f2:=e2 x hx;obtain⟨fb,fs⟩:=cb x hx;clear hx e1 e2 e3 co cs cb
  go_wp2_with (with_reducible refine Yad rfl 38 _ _ rfl (B+2) T V rfl rfl 38 f2 HST HYT HOT ?_;intro w5 hh5 hg5)
  refine bodyPost_ret (results_cell_row rfl _ _ (B+2) 38 _ (0,0) _ rfl hh5 Tryz.underlying38 rfl HST) rfl ?_;exact⟨rfl,by rw[HB.out];exact fb.grown hg5 (by omega) (fun k hk=>by injection hk with hk;omega)⟩
 |false=>
  rw[hk] at CI;have cv:=CV hk;clear CV CN hk
  go_enter Tryz.func12,Tryz.ntmps12
  go_wp2_with (rw[HWA.out,HB.out,HWB.out,HWC.out,HWD.out])
  refine(CI.out _).mono ?_;rintro e x1 ⟨rfl,rfl⟩
  go_wp2_with (first|(with_reducible refine wpList_load_row rfl 25 _ rfl B rfl 25 X (0,0) _ hD0 Tryz.underlying25 rfl HSX ?_)|(with_reducible refine wpList_load_mid rfl 26 _ rfl (B+1) 4 rfl Z _ rg Tryz.underlying26 rfl HS2 ?_))
  refine cv.mono ?_;rintro e x2 ⟨rfl,hb2⟩;have d1:=(hb2.block (B+1) (by omega)).trans hD1;have d2:=(hb2.block (B+2) (by omega)).trans hD2;have d3:=(hb2.block (B+3) (by omega)).trans hD3;have db:=HBD.out.trans (hb2.mono (by omega));have ds:B+4≤x2.heap.size:=by have:=hb2.size;omega
  clear hb2 cv rg hD0 hD1 hD2 hD3 hzA hzB hzC hzD hbD
  go_wp2_with (with_reducible refine Yad rfl 38 _ _ rfl (B+3) V Y rfl rfl 38 d3 HSP HYV HOP ?_;intro y5 hh5 hg5)
  obtain⟨e3,e1,e2,co,cs,cb⟩:=END.out y5 (db.grown hg5 (by omega) (fun k hk=>by injection hk with hk;omega)) (Nat.le_trans ds hg5.size) ((hg5.block (B+1) (by omega) (by intro e;injection e with e;omega)).trans d1) ((hg5.block (B+2) (by omega) (by intro e;injection e with e;omega)).trans d2) hh5
  replace e3:=Lib.hid e3
  replace e1:=Lib.hid e1
  replace co:=Lib.hid co
  replace cs:=Lib.hid cs
  clear d1 d2 d3 db ds hh5 hg5 END;refine Yag (S:=fun x=>Below y5.heap.size y5 x) 5 (by kernel_rfl) (by kernel_rfl) (Below.refl _ _).drew ?_;simp only[List.take_succ_cons,List.take_zero,List.drop_succ_cons,List.drop_zero];refine Ybl 38 _ (B+3) 38 V (0,0) _ (by kernel_rfl) rfl rfl (fun x hx=>e3.out x hx) Tryz.underlying38 rfl HSP ?_;simp only[Yaa]
  refine Ybl 31 _ (B+1) 31 A (0,0) _ (by kernel_rfl) rfl rfl (fun x hx=>e1.out x hx) Tryz.underlying31 rfl HSA ?_;simp only[Yaa];refine Yab (by kernel_rfl) (fun x _=>by go_simp;try with_reducible rfl) ?_;simp only[Yaa];refine Yai (by kernel_rfl) co.out (fun _=>by kernel_rfl) ?_;simp only[Yaa];refine Yai (by kernel_rfl) cs.out (fun _=>by kernel_rfl) ?_;simp only[Yaa];refine Yar fun x hx=>?_
  have f2:=e2 x hx;obtain⟨fb,fs⟩:=cb x hx;clear hx e1 e2 e3 co cs cb
  go_wp2_with (with_reducible refine Yad rfl 38 _ _ rfl (B+2) T Y rfl rfl 38 f2 HST HYT HOT ?_;intro w5 hh5 hg5)
  refine bodyPost_ret (results_cell_row rfl _ _ (B+2) 38 _ (0,0) _ rfl hh5 Tryz.underlying38 rfl HST) rfl ?_;exact⟨rfl,by rw[HB.out];exact fb.grown hg5 (by omega) (fun k hk=>by injection hk with hk;omega)⟩
theorem Ypt (k:Int)(n:Nat→Nat)(f:Nat→Nat→Int)(m:Int)(c:Cel)(q:Int):
  (Yb0 true c=false∧arn 384 (Yec k n f m c q).1=(arn 384 fun _=>0)∧(Yec k n f m c q).2=12)∨
  (Yb0 true c=true∧Yah c.kind=true∧(Yc4 k n f m c).2=0∧arn 384 (Yec k n f m c q).1=arn 384 (Yby (Yc4 k n f m c).1 (ptF (Ycx c q)))∧(Yec k n f m c q).2=0)∨
  (Yb0 true c=true∧Yah c.kind=false∧Ybf k n=false∧arn 384 (Yec k n f m c q).1=(arn 384 fun _=>0)∧(Yec k n f m c q).2=1)∨
  (Yb0 true c=true∧Yah c.kind=false∧Ybf k n=true∧m<0∧arn 384 (Yec k n f m c q).1=(arn 384 fun _=>0)∧(Yec k n f m c q).2=1)∨
  (Yb0 true c=true∧Yah c.kind=false∧Ybf k n=true∧¬ m<0∧(Ybr k:Int)≤m∧arn 384 (Yec k n f m c q).1=(arn 384 fun _=>0)∧(Yec k n f m c q).2=1)∨
  (Yb0 true c=true∧Yah c.kind=false∧Ybf k n=true∧¬ m<0∧¬ (Ybr k:Int)≤m∧Ygj k m c.mx c.my=false∧arn 384 (Yec k n f m c q).1=(arn 384 fun _=>0)∧(Yec k n f m c q).2=8)∨
  (Yb0 true c=true∧Yah c.kind=false∧Ybf k n=true∧¬ m<0∧¬ (Ybr k:Int)≤m∧Ygj k m c.mx c.my=true∧(Yc4 k n f m c).2=0∧arn 384 (Yec k n f m c q).1=arn 384 (Yby (Yc4 k n f m c).1 (ptF (Ycx c q)))∧(Yec k n f m c q).2=0):=by
 cases hm:Yb0 true c with
 |false=>
  refine .inl ⟨rfl,?_⟩;unfold Yec;rw[hm];exact⟨rfl,rfl⟩
 |true=>
  refine .inr ?_;have hR:Yec k n f m c q=if (Yc4 k n f m c).2=0 then (Yby (Yc4 k n f m c).1 (ptF (Ycx c q)),0) else (fun _=>0,(Yc4 k n f m c).2):=by
   unfold Yec;rw[hm]
   rfl
  have bad:∀e:Int,e≠0→Yc4 k n f m c=(fun _=>0,e)→arn 384 (Yec k n f m c q).1=(arn 384 fun _=>0)∧(Yec k n f m c q).2=e:=fun e he hp=>by
   rw[hR,hp,if_neg he];exact⟨rfl,rfl⟩
  have good:(Yc4 k n f m c).2=0→arn 384 (Yec k n f m c q).1=arn 384 (Yby (Yc4 k n f m c).1 (ptF (Ycx c q)))∧(Yec k n f m c q).2=0:=fun hp=>by
   rw[hR,if_pos hp];exact⟨rfl,rfl⟩
  cases hk:Yah c.kind with
  |true=>
   have hp:(Yc4 k n f m c).2=0:=by
    unfold Yc4;rw[hk]
    rfl
   exact .inl ⟨rfl,rfl,hp,good hp⟩
  |false=>
   refine .inr ?_;have hp:Yc4 k n f m c=Yk4 k n f m c.mx c.my:=by
    unfold Yc4;rw[hk]
    rfl
   cases hr:Ybf k n with
   |false=>
    refine .inl ⟨rfl,rfl,rfl,bad 1 (by decide) (hp.trans ?_)⟩;unfold Yk4;rw[hr]
    rfl
   |true=>
    refine .inr ?_;have none:Yjk k m=false→Yc4 k n f m c=(fun _=>0,1):=fun hc=>by
     rw[hp];unfold Yk4;rw[Yte hc,hr,hc]
     rfl
    by_cases h0:m<0
    ·refine .inl ⟨rfl,rfl,rfl,h0,bad 1 (by decide) (none (Bool.eq_false_iff.2 fun h=>?_))⟩;have:=(Ydg.1 h).1;omega
    ·refine .inr ?_;by_cases h1:(Ybr k:Int)≤m
     ·refine .inl ⟨rfl,rfl,rfl,h0,h1,bad 1 (by decide) (none (Bool.eq_false_iff.2 fun h=>?_))⟩;have:=(Ydg.1 h).2;omega
     ·refine .inr ?_;have hc:Yjk k m=true:=Ydg.2 ⟨by omega,by omega⟩;cases hy:Ygj k m c.mx c.my with
      |false=>
       refine .inl ⟨rfl,rfl,rfl,h0,h1,rfl,bad 8 (by decide) (hp.trans ?_)⟩;unfold Yk4;rw[hr,hy,hc]
       rfl
      |true=>
       have h2:(Yc4 k n f m c).2=0:=by
        rw[hp];unfold Yk4;rw[hr,hy]
        rfl
       exact .inr ⟨rfl,rfl,rfl,h0,h1,rfl,h2,good h2⟩
set_option maxRecDepth 100000 in
set_option maxHeartbeats 8000000 in
theorem Yfe (k:Int)(v:Nat→Value)(n:Nat→Nat)(f:Nat→Nat→Int)(m:Int)(k0:Cel)(p:Nat→Option Addr)(nn kk:Nat→Nat)(q:Int)(w:World)(_:(Lit.int .i64 k).wf=true)(h:Yiw w v n f)(_:∀p,p<3→n p≤maxLen)(_:(Lit.int .i64 m).wf=true)(w2:∀i,i<6→nn i≤maxLen∧Yf4 w Ye3 3 (p i) (nn i))(_:(Lit.int .i64 q).wf=true)(hR:Ysq w):
  Calls Tryz.prog 3 #[.agg (frA k v),.int .i64 m,.agg (Ygw k0 (fun i=>.slice (p i) (nn i) (kk i)) q).toArray] w fun e w'=>e=.returned (.bool true)∧Below w.heap.size w w':=by
 obtain⟨c,hca,hce⟩:=Yko k0 p nn kk w2;have hq0:Ygw k0 (fun i=>.slice (p i) (nn i) (kk i)) q=Ygw c (fun i=>.slice (p i) (nn i) (kk i)) q:=congrArg (· ++ [Value.int .i64 q]) hca;rw[hq0];clear hca hq0;have hn0:∀i,i<6→nn i≤maxLen:=fun i hi=>(w2 i hi).1;clear w2;obtain⟨X,Q,L,Z,B,wA,wB,hX,hQ,hL,hZ,hB,hwA,hwB,QI⟩:=q_in (k:=k) (m:=m) (kk:=kk) (q:=q) h hce hR;have UP:=Lib.hid QI.up;have DN:=Lib.hid QI.down
 have SZ:=Lib.hid QI.size;have FR:=Lib.hid QI.fr;have FRS:=QI.frs;have FM:=Lib.hid QI.form;have CE:=Lib.hid QI.cel;have CLS:=QI.cels;have VC:=Lib.hid QI.vec;have VCS:=QI.vecs;have KD:=Lib.hid QI.kind;have EV:=Lib.hid QI.ev;have QT:=Lib.hid QI.qt;have LI:=Lib.hid QI.light;have LIV:=Lib.hid QI.live;have CALL:=Lib.hid QI.call;have hz0:=Ycc
 have HZG:=Lib.hid (fun(g:Nat→Int)=>(by rw[Yaj,Yaj]:(arn 384 fun _=>0).size=(arn 384 g).size));have RT:=Lib.hid (fun(hf:∀i,i<6→nn i≤100) (x:World) (hx:Below (B+2) wB x)=>(by rw[←hL];exact Yk8 true c p nn kk x (QI.cin hf x hx):Calls Tryz.prog 7 #[.bool true,.agg L.toArray] x fun e y=>e=.returned (.bool (Yb0 true c))∧Below x.heap.size x y));have IN:=Lib.hid (fun(x:World)=>Ydb c.kind x)
 have RR:=Lib.hid (fun(x:World)=>(by rw[←hX];exact Yjh k v n x h.slices:Calls Tryz.prog 9 #[.agg X] x fun e y=>e=.returned (.bool (Ybf k n))∧Below x.heap.size x y));have MN:=Lib.hid (fun(x:World)=>Yjp k x)
 have MY:=Lib.hid (fun(x:World)=>(by rw[←hZ];exact Yrj k m c.mx c.my x:Calls Tryz.prog 11 #[.int .i64 k,.int .i64 m,.agg Z.toArray] x fun e y=>e=.returned (.bool (Ygj k m c.mx c.my))∧Below x.heap.size x y))
 have PG:=Lib.hid (fun(hf:∀i,i<6→nn i≤100) (hp:(Yc4 k n f m c).2=0) (x:World) (hx:Below (B+2) wB x)=>(by rw[←hX,←hL];exact Ync k v n f m c p nn kk q x (QI.fin x hx) (QI.cin hf x hx) hp:Calls Tryz.prog 12 #[.agg X,.int .i64 m,.agg L.toArray,.int .i64 q] x fun e y=>e=.returned (.agg (arn 384 (Yby (Yc4 k n f m c).1 (ptF (Ycx c q)))))∧Below x.heap.size x y));have CAS:=Lib.hid (Ypt k n f m c q)
 have hbz:=Yf0;have HSV:=Ya8 (Yec k n f m c q).1;have HOV:=Yau 384 (Yec k n f m c q).1;have HZV:=HZG.out (Yec k n f m c q).1;have qV:=Yrv (Yec k n f m c q).1;generalize (Yec k n f m c q).2=er at *;generalize arn 384 (Yec k n f m c q).1=V at *;generalize arn 384 (Yby (Yc4 k n f m c).1 (ptF (Ycx c q)))=T at *;generalize (arn 384 fun _=>0)=Y at *;generalize (Yc4 k n f m c).2=pe at *
 generalize Yb0 true c=ok at *;generalize Ygj k m c.mx c.my=yy at *;generalize Ybf k n=rf at *;generalize Ybr k=cn at *;obtain⟨kd,hkd⟩:∃kd,c.kind=kd:=⟨_,rfl⟩;rw[hkd] at KD IN CAS;generalize Yah kd=ik at *;clear HZG hkd;have S0:=Lib.hid (Below.refl (B+2) wB);have NL:=Lib.hid hn0;rw[hX,hQ];have HWA:=Lib.hid hwA;have HWB:=Lib.hid hwB;have HB:=Lib.hid hB;clear QI hX hQ hL hZ hB hwA hwB h hce hR hn0
 go_enter Tryz.func3,Tryz.ntmps3
 go_wp2
 rw[HWA.out,HB.out,HWB.out]
 go_loopw [7] (fun z wr=>∃i:Nat,i≤6∧z=.int .i64 i∧Hid (Below (B+2) wB wr)∧Hid (∀j,j<i→nn j≤100)) (fun z _=>6-(RowKit.intOf z).toNat)
 case atStart=>exact⟨0,by omega,rfl,S0,Lib.hid fun j h=>absurd h (Nat.not_lt_zero j)⟩
 case round=>
  clear S0;obtain⟨i,hi6,rfl,hx,zs⟩:=hrel;by_cases hlt:i<6
  ·have t0:decide ((i:Int)<6)=true:=by simp;omega
   have e0:=EV.out i hlt _ hx.out;have hnl:=NL.out i hlt;by_cases hn:100<nn i
   ·have t1:decide (100<nn i)=true:=decide_eq_true hn;have t2:decide (100<(nn i:Int))=true:=decide_eq_true (by omega);clear hn
    go_wp2_with fail
    refine(LIV.out _ hx.out).mono ?_;rintro e x1 ⟨rfl,hx1⟩;have hend:=UP.out _ (DN.out _ _ hx.out hx1)
    go_wp2
    go_ret
    exact⟨rfl,hend⟩
   ·have t1:decide (100<nn i)=false:=decide_eq_false hn;have t2:decide (100<(nn i:Int))=false:=decide_eq_false (by omega);have ZN:=Lib.hid (show nn i≤100 by omega);clear hn
    go_wp2
    go_roundw
    case rel=>exact⟨i+1,by omega,by go_num,hx,Lib.hid fun j hj=>(Nat.lt_succ_iff_lt_or_eq.1 hj).elim (zs.out j) fun h=>h▸ZN.out⟩
    case measure=>simp[RowKit.intOf];omega
  ·obtain rfl:i=6:=by omega
   have t0:decide ((6:Int)<6)=false:=by simp
   have CAL:=Lib.hid (CALL.out zs.out);have RTL:=Lib.hid (RT.out zs.out);have PGL:=Lib.hid (PG.out zs.out);have a0:=FR.out _ hx.out;have li:=LI.out _ hx.out;clear zs NL EV CALL RT PG hi6 hlt;cases hl:Ylx n with
   |false=>
    rw[hl] at li;clear hl
    go_wp2_with (with_reducible refine wpList_load_row rfl 25 _ rfl B rfl 25 X (0,0) _ a0 Tryz.underlying25 rfl FRS ?_)
    refine li.mono ?_;rintro e x1 ⟨rfl,hx1⟩;have hs1:=DN.out _ _ hx.out hx1
    go_wp2_with fail
    refine(LIV.out _ hs1).mono ?_;rintro e x2 ⟨rfl,hx2⟩;have hend:=UP.out _ (DN.out _ _ hs1 hx2)
    go_wp2
    go_ret
    exact⟨rfl,hend⟩
   |true=>
    rw[hl] at li;clear hl
    go_wp2_with (with_reducible refine wpList_load_row rfl 25 _ rfl B rfl 25 X (0,0) _ a0 Tryz.underlying25 rfl FRS ?_)
    refine li.mono ?_;rintro e x1 ⟨rfl,hx1⟩;have s1:=DN.out _ _ hx.out hx1;clear hx hx1 li a0;have a1:=FR.out _ s1;have c1:=CE.out _ s1;have q1:=QT.out _ s1
    go_wp2_with (first|(with_reducible refine wpList_load_row rfl 25 _ rfl B rfl 25 X (0,0) _ a1 Tryz.underlying25 rfl FRS ?_)|(with_reducible refine wpList_load_mid rfl 31 _ rfl (B+1) 0 rfl L _ c1 Tryz.underlying31 rfl CLS ?_))
    refine(CAL.out _ s1).mono ?_;rintro e x2 ⟨rfl,hx2⟩;obtain⟨b1,y1,hb1,hy1,hz1,M1⟩:=Ygi (DN.out _ _ s1 hx2) (SZ.out _ (Below.refl _ _)) V;have c2:=CE.out _ M1.low;have rt:=RTL.out _ M1.low;have HX1:=Lib.hid hb1;have HY1:=Lib.hid hy1;clear hb1 hy1 hx2 s1 a1 c1 q1
    go_wp2_with (first|(with_reducible refine Yap rfl 38 _ _ rfl V Y 38 rfl rfl HSV HZV HOV ?_;rw[HY1.out,HX1.out])|(with_reducible refine wpList_load_mid rfl 31 _ rfl (B+1) 0 rfl L _ c2 Tryz.underlying31 rfl CLS ?_))
    refine rt.mono ?_;rintro e x3 ⟨rfl,hx3⟩;have M3:=M1.below hx3 (by omega);have z3:b1<x3.heap.size:=by have:=hx3.size;omega
    have k3:=KD.out _ M3.low;clear hx3 rt c2 M1 hz1;rcases CAS.out with ⟨hok,hV,her⟩|⟨hok,hik,hpe,hV,her⟩|⟨hok,hik,hrf,hV,her⟩|⟨hok,hik,hrf,hm0,hV,her⟩|⟨hok,hik,hrf,hm0,hm1,hV,her⟩|⟨hok,hik,hrf,hm0,hm1,hyy,hV,her⟩|⟨hok,hik,hrf,hm0,hm1,hyy,hpe,hV,her⟩
    case _=>
     subst hok hV her;clear CAS;have gv:=M3.cell
     go_wp2_with (with_reducible refine wpList_load_row rfl 38 _ rfl b1 rfl 38 V (0,0) _ gv Tryz.underlying38 rfl HSV ?_)
     refine(LIV.out _ M3.low).mono ?_;rintro e xl ⟨rfl,hxl⟩;have hend:=UP.out _ (DN.out _ _ M3.low hxl)
     go_wp2
     go_ret
     exact⟨rfl,hend⟩
    case _=>
     subst hok hik hV her;clear CAS
     go_wp2_with fail
     refine(IN.out _).mono ?_;rintro e x4 ⟨rfl,rfl⟩;have HP:=Lib.hid (fun y (hy:Below x3.heap.size x3 y)=>(hy.block b1 z3).trans M3.cell);have DD:=Lib.hid (fun y (hy:Below x3.heap.size x3 y)=>DN.out _ _ M3.low hy);have HF:=Lib.hid (fun y (hy:Below x3.heap.size x3 y)=>FR.out y (DD.out y hy));have HC:=Lib.hid (fun y (hy:Below x3.heap.size x3 y)=>CE.out y (DD.out y hy))
     have HQ:=Lib.hid (fun y (hy:Below x3.heap.size x3 y)=>QT.out y (DD.out y hy));have PC:=Lib.hid (fun y (hy:Below x3.heap.size x3 y)=>(PGL.out hpe y (DD.out y hy)).mono fun e z he=>(⟨he.1,hy.trans (he.2.mono hy.size)⟩:_∧Below x3.heap.size x3 z))
     have LV:=Lib.hid (fun y (hy:Below x3.heap.size x3 y)=>(LIV.out y (DD.out y hy)).mono fun e z he=>(⟨he.1,hy.trans (he.2.mono hy.size)⟩:_∧Below x3.heap.size x3 z));clear hpe
     go_wp2
     refine Yag (S:=fun y=>Below x3.heap.size x3 y) 17 (by kernel_rfl) (by kernel_rfl) (Below.refl _ _).drew ?_;simp only[List.take_succ_cons,List.take_zero,List.drop_succ_cons,List.drop_zero];refine Ybl 38 _ b1 38 V (0,0) _ (by kernel_rfl) rfl rfl (fun x hx=>HP.out x hx) Tryz.underlying38 rfl HSV ?_;simp only[Yaa]
     refine Ybl 25 _ B 25 X (0,0) _ (by kernel_rfl) rfl rfl (fun x hx=>HF.out x hx) Tryz.underlying25 rfl FRS ?_;simp only[Yaa]
     iterate 2 (refine Yab (by kernel_rfl) (fun x _=>by go_simp;try with_reducible rfl) ?_;simp only[Yaa])
     refine Yh5 31 _ (B+1) 0 L _ (by kernel_rfl) rfl rfl (fun x hx=>HC.out x hx) Tryz.underlying31 rfl CLS ?_;simp only[Yaa];refine Yab (by kernel_rfl) (fun x _=>by go_simp;try with_reducible rfl) ?_;simp only[Yaa];refine Yaf 3 _ ⟨B+1,18,none⟩ (.int .i64 q) (by kernel_rfl) rfl rfl (fun x hx=>by have c0:=HQ.out x hx;go_simp) ?_;simp only[Yaa]
     refine Yai (by kernel_rfl) PC.out (fun _=>by kernel_rfl) ?_;simp only[Yaa]
     iterate 6 (refine Yab (by kernel_rfl) (fun x _=>by go_simp;try with_reducible rfl) ?_;simp only[Yaa])
     refine Yai (by kernel_rfl) LV.out (fun _=>by kernel_rfl) ?_;simp only[Yaa]
     iterate 2 (refine Yab (by kernel_rfl) (fun x _=>by go_simp;try with_reducible rfl) ?_;simp only[Yaa])
     refine Yar fun x hx=>?_;have hend:=UP.out _ (DD.out _ hx)
     go_wp2
     go_ret
     exact⟨rfl,hend⟩
    case _=>
     subst hok hik hrf hV her;clear CAS
     go_wp2_with fail
     refine(IN.out _).mono ?_;rintro e x4 ⟨rfl,rfl⟩;have a3:=FR.out _ M3.low
     go_wp2_with (with_reducible refine wpList_load_row rfl 25 _ rfl B rfl 25 X (0,0) _ a3 Tryz.underlying25 rfl FRS ?_)
     refine(RR.out _).mono ?_;rintro e x5 ⟨rfl,hx5⟩;have M5:=M3.below hx5 z3;have z5:b1<x5.heap.size:=Nat.lt_of_lt_of_le z3 hx5.size;clear hx5 a3 k3 M3 z3;have gv:=M5.cell
     go_wp2_with (with_reducible refine wpList_load_row rfl 38 _ rfl b1 rfl 38 V (0,0) _ gv Tryz.underlying38 rfl HSV ?_)
     refine(LIV.out _ M5.low).mono ?_;rintro e xl ⟨rfl,hxl⟩;have hend:=UP.out _ (DN.out _ _ M5.low hxl)
     go_wp2
     go_ret
     exact⟨rfl,hend⟩
    case _=>
     have t3:decide (m<0)=true:=decide_eq_true (by omega);clear hm0;subst hok hik hrf hV her;clear CAS
     go_wp2_with fail
     refine(IN.out _).mono ?_;rintro e x4 ⟨rfl,rfl⟩;have a3:=FR.out _ M3.low
     go_wp2_with (with_reducible refine wpList_load_row rfl 25 _ rfl B rfl 25 X (0,0) _ a3 Tryz.underlying25 rfl FRS ?_)
     refine(RR.out _).mono ?_;rintro e x5 ⟨rfl,hx5⟩;have M5:=M3.below hx5 z3;have z5:b1<x5.heap.size:=Nat.lt_of_lt_of_le z3 hx5.size;clear hx5 a3 k3 M3 z3;have gv:=M5.cell
     go_wp2_with (with_reducible refine wpList_load_row rfl 38 _ rfl b1 rfl 38 V (0,0) _ gv Tryz.underlying38 rfl HSV ?_)
     refine(LIV.out _ M5.low).mono ?_;rintro e xl ⟨rfl,hxl⟩;have hend:=UP.out _ (DN.out _ _ M5.low hxl)
     go_wp2
     go_ret
     exact⟨rfl,hend⟩
    case _=>
     have t3:decide (m<0)=false:=decide_eq_false (by omega);have t4:decide ((cn:Int)≤m)=true:=decide_eq_true (by omega);clear hm0 hm1;subst hok hik hrf hV her;clear CAS
     go_wp2_with fail
     refine(IN.out _).mono ?_;rintro e x4 ⟨rfl,rfl⟩;have a3:=FR.out _ M3.low
     go_wp2_with (with_reducible refine wpList_load_row rfl 25 _ rfl B rfl 25 X (0,0) _ a3 Tryz.underlying25 rfl FRS ?_)
     refine(RR.out _).mono ?_;rintro e x5 ⟨rfl,hx5⟩;have M5:=M3.below hx5 z3;have z5:b1<x5.heap.size:=Nat.lt_of_lt_of_le z3 hx5.size;clear hx5 a3 k3 M3 z3;have f5:=FM.out _ M5.low
     go_wp2_with fail
     refine(MN.out _).mono ?_;rintro e x6 ⟨rfl,hx6⟩;have M6:=M5.below hx6 z5;have z6:b1<x6.heap.size:=Nat.lt_of_lt_of_le z5 hx6.size;clear hx6 f5 M5 z5;have gv:=M6.cell
     go_wp2_with (with_reducible refine wpList_load_row rfl 38 _ rfl b1 rfl 38 V (0,0) _ gv Tryz.underlying38 rfl HSV ?_)
     refine(LIV.out _ M6.low).mono ?_;rintro e xl ⟨rfl,hxl⟩;have hend:=UP.out _ (DN.out _ _ M6.low hxl)
     go_wp2
     go_ret
     exact⟨rfl,hend⟩
    case _=>
     have t3:decide (m<0)=false:=decide_eq_false (by omega);have t4:decide ((cn:Int)≤m)=false:=decide_eq_false (by omega);clear hm0 hm1;subst hyy;subst hok hik hrf hV her;clear CAS
     go_wp2_with fail
     refine(IN.out _).mono ?_;rintro e x4 ⟨rfl,rfl⟩;have a3:=FR.out _ M3.low
     go_wp2_with (with_reducible refine wpList_load_row rfl 25 _ rfl B rfl 25 X (0,0) _ a3 Tryz.underlying25 rfl FRS ?_)
     refine(RR.out _).mono ?_;rintro e x5 ⟨rfl,hx5⟩;have M5:=M3.below hx5 z3;have z5:b1<x5.heap.size:=Nat.lt_of_lt_of_le z3 hx5.size;clear hx5 a3 k3 M3 z3;have f5:=FM.out _ M5.low
     go_wp2_with fail
     refine(MN.out _).mono ?_;rintro e x6 ⟨rfl,hx6⟩;have M6:=M5.below hx6 z5;have z6:b1<x6.heap.size:=Nat.lt_of_lt_of_le z5 hx6.size;clear hx6 f5 M5 z5;have f6:=FM.out _ M6.low;have v6:=VC.out _ M6.low
     go_wp2_with (with_reducible refine wpList_load_mid rfl 26 _ rfl (B+1) 4 rfl Z _ v6 Tryz.underlying26 rfl VCS ?_)
     refine(MY.out _).mono ?_;rintro e x7 ⟨rfl,hx7⟩;have M7:=M6.below hx7 z6;have z7:b1<x7.heap.size:=Nat.lt_of_lt_of_le z6 hx7.size;clear hx7 f6 v6 M6 z6;have gv:=M7.cell
     go_wp2_with (with_reducible refine wpList_load_row rfl 38 _ rfl b1 rfl 38 V (0,0) _ gv Tryz.underlying38 rfl HSV ?_)
     refine(LIV.out _ M7.low).mono ?_;rintro e xl ⟨rfl,hxl⟩;have hend:=UP.out _ (DN.out _ _ M7.low hxl)
     go_wp2
     go_ret
     exact⟨rfl,hend⟩
    case _=>
     have t3:decide (m<0)=false:=decide_eq_false (by omega);have t4:decide ((cn:Int)≤m)=false:=decide_eq_false (by omega);clear hm0 hm1;subst hyy;subst hok hik hrf hV her;clear CAS
     go_wp2_with fail
     refine(IN.out _).mono ?_;rintro e x4 ⟨rfl,rfl⟩;have a3:=FR.out _ M3.low
     go_wp2_with (with_reducible refine wpList_load_row rfl 25 _ rfl B rfl 25 X (0,0) _ a3 Tryz.underlying25 rfl FRS ?_)
     refine(RR.out _).mono ?_;rintro e x5 ⟨rfl,hx5⟩;have M5:=M3.below hx5 z3;have z5:b1<x5.heap.size:=Nat.lt_of_lt_of_le z3 hx5.size;clear hx5 a3 k3 M3 z3;have f5:=FM.out _ M5.low
     go_wp2_with fail
     refine(MN.out _).mono ?_;rintro e x6 ⟨rfl,hx6⟩;have M6:=M5.below hx6 z5;have z6:b1<x6.heap.size:=Nat.lt_of_lt_of_le z5 hx6.size;clear hx6 f5 M5 z5;have f6:=FM.out _ M6.low;have v6:=VC.out _ M6.low
     go_wp2_with (with_reducible refine wpList_load_mid rfl 26 _ rfl (B+1) 4 rfl Z _ v6 Tryz.underlying26 rfl VCS ?_)
     refine(MY.out _).mono ?_;rintro e x7 ⟨rfl,hx7⟩;have M7:=M6.below hx7 z6;have z7:b1<x7.heap.size:=Nat.lt_of_lt_of_le z6 hx7.size;clear hx7 f6 v6 M6 z6;have HP:=Lib.hid (fun y (hy:Below x7.heap.size x7 y)=>(hy.block b1 z7).trans M7.cell);have DD:=Lib.hid (fun y (hy:Below x7.heap.size x7 y)=>DN.out _ _ M7.low hy);have HF:=Lib.hid (fun y (hy:Below x7.heap.size x7 y)=>FR.out y (DD.out y hy))
     have HC:=Lib.hid (fun y (hy:Below x7.heap.size x7 y)=>CE.out y (DD.out y hy));have HQ:=Lib.hid (fun y (hy:Below x7.heap.size x7 y)=>QT.out y (DD.out y hy));have PC:=Lib.hid (fun y (hy:Below x7.heap.size x7 y)=>(PGL.out hpe y (DD.out y hy)).mono fun e z he=>(⟨he.1,hy.trans (he.2.mono hy.size)⟩:_∧Below x7.heap.size x7 z))
     have LV:=Lib.hid (fun y (hy:Below x7.heap.size x7 y)=>(LIV.out y (DD.out y hy)).mono fun e z he=>(⟨he.1,hy.trans (he.2.mono hy.size)⟩:_∧Below x7.heap.size x7 z));clear hpe
     go_wp2
     refine Yag (S:=fun y=>Below x7.heap.size x7 y) 17 (by kernel_rfl) (by kernel_rfl) (Below.refl _ _).drew ?_;simp only[List.take_succ_cons,List.take_zero,List.drop_succ_cons,List.drop_zero];refine Ybl 38 _ b1 38 V (0,0) _ (by kernel_rfl) rfl rfl (fun x hx=>HP.out x hx) Tryz.underlying38 rfl HSV ?_;simp only[Yaa]
     refine Ybl 25 _ B 25 X (0,0) _ (by kernel_rfl) rfl rfl (fun x hx=>HF.out x hx) Tryz.underlying25 rfl FRS ?_;simp only[Yaa]
     iterate 2 (refine Yab (by kernel_rfl) (fun x _=>by go_simp;try with_reducible rfl) ?_;simp only[Yaa])
     refine Yh5 31 _ (B+1) 0 L _ (by kernel_rfl) rfl rfl (fun x hx=>HC.out x hx) Tryz.underlying31 rfl CLS ?_;simp only[Yaa];refine Yab (by kernel_rfl) (fun x _=>by go_simp;try with_reducible rfl) ?_;simp only[Yaa];refine Yaf 3 _ ⟨B+1,18,none⟩ (.int .i64 q) (by kernel_rfl) rfl rfl (fun x hx=>by have c0:=HQ.out x hx;go_simp) ?_;simp only[Yaa]
     refine Yai (by kernel_rfl) PC.out (fun _=>by kernel_rfl) ?_;simp only[Yaa]
     iterate 6 (refine Yab (by kernel_rfl) (fun x _=>by go_simp;try with_reducible rfl) ?_;simp only[Yaa])
     refine Yai (by kernel_rfl) LV.out (fun _=>by kernel_rfl) ?_;simp only[Yaa]
     iterate 2 (refine Yab (by kernel_rfl) (fun x _=>by go_simp;try with_reducible rfl) ?_;simp only[Yaa])
     refine Yar fun x hx=>?_;have hend:=UP.out _ (DD.out _ hx)
     go_wp2
     go_ret
     exact⟨rfl,hend⟩
end Go.Proofs.YtdnjefldijjgdaaGreatDoor