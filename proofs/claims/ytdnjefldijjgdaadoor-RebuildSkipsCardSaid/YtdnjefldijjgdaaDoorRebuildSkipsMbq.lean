/- No condition. -/
import Derived.Test.YtdnjefldijjgdaaDoorRebuildSkipsMa
import Derived.Test.YtdnjefldijjgdaaDoorRebuildSkipsMg
import Derived.Test.YtdnjefldijjgdaaDoorRebuildSkipsMh
import Derived.Test.YtdnjefldijjgdaaDoorRebuildSkipsMy
import Derived.Test.YtdnjefldijjgdaaDoorRebuildSkipsMbk
import Derived.Test.YtdnjefldijjgdaaDoorRebuildSkipsMbm
import Derived.Test.YtdnjefldijjgdaaDoorRebuildSkipsMbp
namespace Go.Proofs.YtdnjefldijjgdaaDoor
open Go.RowKit Go.Lib
def exI:Cel:={Ysg with kind:=3,dc:=fun _=>10}
theorem Yq7:Ycl true exI=true:=by decide +kernel
theorem Yo5:∀i,i<64→Ylt exI 3 0 i=Yit 80 i:=by decide +kernel
theorem Yo6:∀i,i<64→Ylt exI 3 5 i=Yit 80 i:=by decide +kernel
theorem Yo3:∀i,i<64→Yds exI 3 0 i=10:=fun i hi=>((Yec (k:=kI) (lo:=-256) (hi:=255) Yo5 i hi).trans (Yi7 80 i hi)).trans (by decide +kernel)
theorem Yo4:∀i,i<64→Yds exI 3 5 i=10:=fun i hi=>((Yec (k:=kI) (lo:=-256) (hi:=255) Yo6 i hi).trans (Yi7 80 i hi)).trans (by decide +kernel)
theorem Yr4 (w:World):Ycz w exI (fun _=>none) (fun _=>0):=fun _ _=>⟨rfl,Nat.zero_le _,.inl rfl⟩
theorem Yq8:Yka 0 (fun _=>0) (fun _ _=>0) 0 exI 3=(Ycy (fun _=>0) (ptF (Yds exI 3)),0):=by
 have hp:Yk6 0 (fun _=>0) (fun _ _=>0) 0 exI=(fun _=>0,0):=by
  unfold Yk6;rw[if_pos (by decide)]
 unfold Yka;rw[if_pos Yq7,hp]
 rfl
theorem Ymq:Ycy (fun _=>0) (ptF (Yds exI 3)) 0=10:=by
 show Yke 0 (ptF (Yds exI 3) 0)=10;rw[Yqo (b:=0) (i:=0) rfl rfl,Yo3 0 (by omega)]
 decide +kernel
theorem Yo2:Ycy (fun _=>0) (ptF (Yds exI 3)) 383=10:=by
 show Yke 0 (ptF (Yds exI 3) 383)=10;rw[Yqo (b:=5) (i:=63) rfl rfl,Yo4 63 (by omega)]
 decide +kernel
set_option maxRecDepth 100000 in
set_option maxHeartbeats 2000000 in
theorem Yrh (w:World)(hR:Yqm w):Calls Tryd.prog 7 #[] w fun e w'=>e=.returned (.bool true)∧Below w.heap.size w w':=by
 obtain⟨hT,hS,hP,hD⟩:=hR
 have CC:Calls Tryd.prog 9 #[.agg #[.int .i64 0,.slice none 0 0,.slice none 0 0,.slice none 0 0],.int .i64 0,.agg #[.int .i64 0,.bool false,.int .i64 3,.int .i64 0,.int .i64 0,.int .i64 0,.int .i64 10,.int .i64 10,.int .i64 10,.int .i64 10,.int .i64 10,.int .i64 10,.slice none 0 0,.slice none 0 0,.slice none 0 0,.slice none 0 0,.slice none 0 0,.slice none 0 0],.int .i64 3] w fun e y=>e=.returned (.tuple #[.agg (arn 384 (Ycy (fun _=>0) (ptF (Yds exI 3)))),.int .i64 0])∧Below w.heap.size w y:=by
  have h:=Yeg 0 Ysl (fun _=>0) (fun _ _=>0) 0 exI (fun _=>none) (fun _=>0) (fun _=>0) 3 w (Ygl.nil w) (Yr4 w) hT hS hP hD;unfold Yby at h;rw[Yq8] at h;exact h
 have L1:=fun(x:World) (b:Nat) (h:x.heap[b]? =some (.cells (arn 384 (Ycy (fun _=>0) (ptF (Yds exI 3)))) 24 (0,0)))=>(⟨(Ybk (i:=0) h (by omega)).trans (by rw[Ymq]),(Ybk (i:=383) h (by omega)).trans (by rw[Yo2])⟩:x.cell? ⟨b,0,none⟩=some (.int .i64 10)∧x.cell? ⟨b,383,none⟩=some (.int .i64 10));have HSV:=Ya6 (Ycy (fun _=>0) (ptF (Yds exI 3)));have HOV:=Yay 384 (Ycy (fun _=>0) (ptF (Yds exI 3)))
 have HYV:(arn 384 fun _=>0).size=(arn 384 (Ycy (fun _=>0) (ptF (Yds exI 3)))).size:=by rw[Yai,Yai]
 have hz0:=Yb9;generalize arn 384 (Ycy (fun _=>0) (ptF (Yds exI 3)))=V at *;generalize (arn 384 fun _=>0)=Y at *;clear hT hS hP hD
 go_enter Tryd.func7,Tryd.ntmps7
 go_wp2_with fail
 refine CC.mono ?_;rintro e x1 ⟨rfl,hb1⟩;obtain⟨b1,y1,hx1,hy1,hs1,M1⟩:=Ydq hb1 (Nat.le_refl _) V;obtain⟨c1,c2⟩:=L1 y1 b1 M1.cell;have HX1:=Lib.hid hx1;have HY1:=Lib.hid hy1;have hbw:=Lib.hid M1.low;clear hx1 hy1 hb1 M1 CC L1
 go_wp2_with (with_reducible refine Yam rfl 24 _ _ rfl V Y 24 rfl rfl HSV HYV HOV ?_;rw[HY1.out,HX1.out])
 go_ret
 exact⟨rfl,hbw.out⟩
structure QIn (k:Int) (v:Nat→Value) (n:Nat→Nat) (f:Nat→Nat→Int) (m:Int) (c:Cel) (p:Nat→Option Addr) (nn kk:Nat→Nat) (q:Int) (X:Array Value) (L Z:List Value) (Q:Array Value) (B:Nat) (w wB:World):Prop where
 up:∀x,Below (B+2) wB x→Below w.heap.size w x
 down:∀x y,Below (B+2) wB x→Below x.heap.size x y→Below (B+2) wB y
 size:∀x,Below (B+2) wB x→B+2≤x.heap.size
 fr:∀x,Below (B+2) wB x→x.heap[B]? =some (.cells X 31 (0,0))
 frs:(Tryd.prog.info? 31).map (·.size)=some X.size
 form:∀x,Below (B+2) wB x→x.cell? ⟨B,0,none⟩=some (.int .i64 k)
 cel:∀x,Below (B+2) wB x→x.rangeAt (B+1) 0 L
 cels:(Tryd.prog.info? 37).map (·.size)=some L.length
 vec:∀x,Below (B+2) wB x→x.rangeAt (B+1) 4 Z
 vecs:(Tryd.prog.info? 32).map (·.size)=some Z.length
 kind:∀x,Below (B+2) wB x→x.cell? ⟨B+1,2,none⟩=some (.int .i64 c.kind)
 ev:∀i,i<6→∀x,Below (B+2) wB x→x.cell? ⟨B+1,12+i,none⟩=some (.slice (p i) (nn i) (kk i))
 qt:∀x,Below (B+2) wB x→x.cell? ⟨B+1,18,none⟩=some (.int .i64 q)
 light:∀x,Below (B+2) wB x→Calls Tryd.prog 8 #[.agg X] x fun e y=>e=.returned (.bool (Yjz n))∧Below x.heap.size x y
 live:∀x,Below (B+2) wB x→Calls Tryd.prog 7 #[] x fun e y=>e=.returned (.bool true)∧Below x.heap.size x y
 cin:(∀i,i<6→nn i≤100)→∀x,Below (B+2) wB x→Ycz x c p nn
 fin:∀x,Below (B+2) wB x→Ygl x v n f
 call:(∀i,i<6→nn i≤100)→∀x,Below (B+2) wB x→Calls Tryd.prog 9 #[.agg X,.int .i64 m,.agg L.toArray,.int .i64 q] x fun e y=>e=.returned (.tuple #[.agg (arn 384 (Yka k n f m c q).1),.int .i64 (Yka k n f m c q).2])∧Below x.heap.size x y
theorem Ypw (c:Cel)(sl:Nat→Value)(q:Int):∀j,j<18→(Yfo c sl q)[j]? =(Yck c sl)[j]?:=fun j hj=>List.getElem?_append_left (show j<(Yck c sl).length from hj)
theorem q_in {k:Int}{v:Nat→Value}{n:Nat→Nat}{f:Nat→Nat→Int}{m:Int}{c:Cel}{p:Nat→Option Addr}{nn kk:Nat→Nat}{q:Int}{w:World}(h:Ygl w v n f)(hce:∀i,i<6→nn i=(c.ev i).length∧Yc0 w (p i) (c.ev i))(hR:Yqm w):
  ∃(X Q:Array Value) (L Z:List Value) (B:Nat) (wA wB:World),frA k v=X∧(Yfo c (fun i=>.slice (p i) (nn i) (kk i)) q).toArray=Q∧(Yck c fun i=>.slice (p i) (nn i) (kk i))=L∧[Value.int .i64 c.mx,.int .i64 c.my]=Z∧w.heap.size=B∧w.alloc (.cells X 31 (0,0))=wA∧wA.alloc (.cells Q 39 (0,0))=wB∧QIn k v n f m c p nn kk q X L Z Q B w wB:=by
 obtain⟨B,wA,wB,hB,hwA,hwB,hzA,hzB,hC0,hC1,hbB⟩:=Yh0 w (.cells (frA k v) 31 (0,0)) (.cells (Yfo c (fun i=>.slice (p i) (nn i) (kk i)) q).toArray 39 (0,0));have UP:∀x,Below (B+2) wB x→Below w.heap.size w x:=fun x hx=>hB▸hbB.trans (hx.mono (by omega));have K:∀(x y:World),Below (B+2) wB x→Below x.heap.size x y→Below (B+2) wB y:=fun x y hx hy=>hx.trans (hy.mono (by have:=hx.size;omega))
 have C0:∀x,Below (B+2) wB x→x.heap[B]? =some (.cells (frA k v) 31 (0,0)):=fun x hx=>(hx.block B (by omega)).trans hC0;have C1:∀x,Below (B+2) wB x→x.heap[B+1]? =some (.cells (Yfo c (fun i=>.slice (p i) (nn i) (kk i)) q).toArray 39 (0,0)):=fun x hx=>(hx.block (B+1) (by omega)).trans hC1
 have CE:∀x,Below (B+2) wB x→∀j u,j<18→(Yck c fun i=>.slice (p i) (nn i) (kk i))[j]? =some u→x.cell? ⟨B+1,j,none⟩=some u:=fun x hx j u hj hu=>Yad (C1 x hx) (by rw[Ypw _ _ _ j hj];exact hu);have CI:(∀i,i<6→nn i≤100)→∀x,Below (B+2) wB x→Ycz x c p nn:=fun hf x hx i hi=>⟨(hce i hi).1,by have:=hf i hi;omega,(hce i hi).2.below (UP x hx)⟩;refine⟨frA k v,_,_,_,B,wA,wB,rfl,rfl,rfl,rfl,hB,hwA,hwB,?_⟩;exact{
  up:=UP
  down:=K
  size:=fun x hx=>by have:=hx.size;omega
  fr:=C0
  frs:=Ycs Ydn k v
  form:=fun x hx=>Ybm (T:=31) (v:=v) (C0 x hx)
  cel:=fun x hx j u hj=>by
   have hj18:j<18:=(List.getElem?_eq_some_iff.1 hj).1;rw[Nat.zero_add];exact CE x hx j u hj18 hj
  cels:=Ydz c fun i=>.slice (p i) (nn i) (kk i)
  vec:=fun x hx j u hj=>by
   have hj2:j<2:=(List.getElem?_eq_some_iff.1 hj).1
   match j,hj2 with
   |0,_=>exact CE x hx 4 u (by omega) hj
   |1,_=>exact CE x hx 5 u (by omega) hj
  vecs:=by kernel_rfl
  kind:=fun x hx=>CE x hx 2 _ (by omega) rfl
  ev:=fun i hi x hx=>CE x hx (12+i) _ (by omega) (Yqz c (fun i=>.slice (p i) (nn i) (kk i)) i hi)
  qt:=fun x hx=>Yad (C1 x hx) rfl
  light:=fun x _=>Yk3 k v n x h.slices
  live:=fun x hx=>Yrh x (hR.below (UP x hx))
  cin:=CI
  fin:=fun x hx=>h.below (UP x hx)
  call:=fun hf x hx=>by
   obtain⟨hT,hS,hP,hD⟩:=hR.below (UP x hx);exact(Yeg k v n f m c p nn kk q x (h.below (UP x hx)) (CI hf x hx) hT hS hP hD)}
theorem Ymk (k:Int)(v:Nat→Value)(n:Nat→Nat)(f:Nat→Nat→Int)(m:Int)(w:World)(h:Ygl w v n f):Calls Tryd.prog 10 #[.agg (frA k v),.int .i64 m] w (Yby (Yis k n f m) w):=by
 cases hn:Ybf k n&&Yfu k m with
 |false=>
  refine(Yoz k v n m w h.slices hn).mono fun e y he=>⟨?_,he.2⟩;rw[he.1];unfold Yis;rw[hn]
  rfl
 |true=>
  have hr:Ybf k n=true:=(Bool.and_eq_true _ _▸hn).1;obtain⟨q0,q1⟩:=Yct.1 (Bool.and_eq_true _ _▸hn).2;obtain⟨j,rfl⟩:∃j:Nat,m=(j:Int):=⟨m.toNat,by omega⟩;rw[Int.toNat_natCast] at q1;refine(Yoy k v n f j w h hr q1).mono fun e y he=>⟨?_,he.2⟩;rw[he.1];unfold Yis;rw[hn,if_pos rfl,Int.toNat_natCast]
theorem Yse (w:World):Ycz w (Ylg 0) (fun _=>none) (fun _=>0):=fun _ _=>⟨rfl,Nat.zero_le _,.inl rfl⟩
theorem Yn5 (k:Int)(v:Nat→Value)(n:Nat→Nat)(f:Nat→Nat→Int)(m q:Int)(w:World)(h:Ygl w v n f)(hR:Yqm w):Calls Tryd.prog 9 #[.agg (frA k v),.int .i64 m,.agg #[.int .i64 0,.bool true,.int .i64 0,.int .i64 0,.int .i64 0,.int .i64 0,.int .i64 0,.int .i64 0,.int .i64 0,.int .i64 0,.int .i64 0,.int .i64 0,.slice none 0 0,.slice none 0 0,.slice none 0 0,.slice none 0 0,.slice none 0 0,.slice none 0 0],.int .i64 q] w (Yby (Yis k n f m) w):=by
 obtain⟨hT,hS,hP,hD⟩:=hR;obtain⟨e1,e2⟩:=Ypv (k:=k) (n:=n) (f:=f) (fun p hp i hi=>(h p hp).range i hi) m q;have hc:=Yeg k v n f m (Ylg 0) (fun _=>none) (fun _=>0) (fun _=>0) q w h (Yse w) hT hS hP hD;unfold Yby at hc ⊢;rw[e1,e2] at hc;exact hc
set_option maxRecDepth 100000 in
set_option maxHeartbeats 8000000 in
theorem Yeh (k:Int)(v:Nat→Value)(n:Nat→Nat)(f:Nat→Nat→Int)(m:Int)(k0:Cel)(p:Nat→Option Addr)(nn kk:Nat→Nat)(q:Int)(w:World)(_:(Lit.int .i64 k).wf=true)(h:Ygl w v n f)(_:∀p,p<3→n p≤maxLen)(_:(Lit.int .i64 m).wf=true)(w2:∀i,i<6→nn i≤maxLen∧Ye0 w Yd6 3 (p i) (nn i))(_:(Lit.int .i64 q).wf=true)(hR:Yqm w):
  Calls Tryd.prog 4 #[.agg (frA k v),.int .i64 m,.agg (Yfo k0 (fun i=>.slice (p i) (nn i) (kk i)) q).toArray] w fun e w'=>e=.returned (.bool true)∧Below w.heap.size w w':=by
 obtain⟨c,hca,hce⟩:=Yiz k0 p nn kk w2;have hq0:Yfo k0 (fun i=>.slice (p i) (nn i) (kk i)) q=Yfo c (fun i=>.slice (p i) (nn i) (kk i)) q:=congrArg (· ++ [Value.int .i64 q]) hca;rw[hq0];clear hca hq0;have hn0:∀i,i<6→nn i≤maxLen:=fun i hi=>(w2 i hi).1;clear w2;obtain⟨X,Q,L,Z,B,wA,wB,hX,hQ,hL,hZ,hB,hwA,hwB,QI⟩:=q_in (k:=k) (m:=m) (kk:=kk) (q:=q) h hce hR;have UP:=Lib.hid QI.up;have DN:=Lib.hid QI.down
 have SZ:=Lib.hid QI.size;have FR:=Lib.hid QI.fr;have FRS:=QI.frs;have FM:=Lib.hid QI.form;have CE:=Lib.hid QI.cel;have CLS:=QI.cels;have VC:=Lib.hid QI.vec;have VCS:=QI.vecs;have KD:=Lib.hid QI.kind;have EV:=Lib.hid QI.ev;have QT:=Lib.hid QI.qt;have LI:=Lib.hid QI.light;have LIV:=Lib.hid QI.live;have CALL:=Lib.hid QI.call;have hz0:=Yb9
 have HZG:=Lib.hid (fun(g:Nat→Int)=>(by rw[Yai,Yai]:(arn 384 fun _=>0).size=(arn 384 g).size));have SK:=fun(x:World) (hx:Below (B+2) wB x)=>Yn5 k v n f m q x (QI.fin x hx) (hR.below (QI.up x hx));have CT:=fun(x:World) (hx:Below (B+2) wB x)=>Ymk k v n f m x (QI.fin x hx);have GB:=Lib.hid (fun s=>Ysb k n f m c q s);generalize Yka k n f m c q=G at *;generalize Yis k n f m=E at *;obtain⟨g,er⟩:=G
 obtain⟨u,e1⟩:=E;unfold Yby at SK CT;rw[hX] at SK CT;dsimp only at SK CT CALL GB;have HSV:=Ya6 u;have HOV:=Yay 384 u;have HZV:=HZG.out u;have qV:=Yj7 u;have HSW:=Ya6 g;have HOW:=Yay 384 g;have HZW:=HZG.out g;have qW:=Yj7 g;have CW:=Lib.hid (fun(x:World) (b s:Nat) (hx:x.heap[b]? =some (.cells (arn 384 g) 24 (0,0))) (hs:s<384)=>Ybk (T:=24) hx hs);have HNE:(e1 != e1)=false:=by simp
 generalize arn 384 u=V at *;generalize arn 384 g=W at *;generalize (arn 384 fun _=>0)=Y at *
 replace SK:=Lib.hid SK
 replace CT:=Lib.hid CT
 clear HZG;have S0:=Lib.hid (Below.refl (B+2) wB);have NL:=Lib.hid hn0;rw[hX,hQ];have HWA:=Lib.hid hwA;have HWB:=Lib.hid hwB;have HB:=Lib.hid hB;clear QI hX hQ hL hZ hB hwA hwB h hce hR hn0
 go_enter Tryd.func4,Tryd.ntmps4
 go_wp2
 rw[HWA.out,HB.out,HWB.out]
 go_loopw [7] (fun z wr=>∃i:Nat,i≤6∧z=.int .i64 i∧Hid (Below (B+2) wB wr)∧Hid (∀j,j<i→nn j≤100)) (fun z _=>6-(RowKit.intOf z).toNat)
 case atStart=>exact⟨0,by omega,rfl,S0,Lib.hid fun j h=>absurd h (Nat.not_lt_zero j)⟩
 case round=>
  clear S0;obtain⟨i,hi6,rfl,hx,zs⟩:=hrel;by_cases hlt:i<6
  ·have t0:decide ((i:Int)<6)=true:=by simp;omega
   have e0:=EV.out i hlt _ hx.out;have hnl:=NL.out i hlt;by_cases hn:100<nn i
   ·have t1:decide (100<nn i)=true:=decide_eq_true hn;have t2:decide (100<(nn i:Int))=true:=decide_eq_true (by omega);clear hn
    go_wp2_with fail
    refine(LIV.out _ hx.out).mono ?_;rintro e x1 ⟨rfl,hx1⟩;have hend:=UP.out _ (DN.out _ _ hx.out hx1)
    go_wp2
    go_ret
    exact⟨rfl,hend⟩
   ·have t1:decide (100<nn i)=false:=decide_eq_false hn;have t2:decide (100<(nn i:Int))=false:=decide_eq_false (by omega);have ZN:=Lib.hid (show nn i≤100 by omega);clear hn
    go_wp2
    go_roundw
    case rel=>exact⟨i+1,by omega,by go_num,hx,Lib.hid fun j hj=>(Nat.lt_succ_iff_lt_or_eq.1 hj).elim (zs.out j) fun h=>h▸ZN.out⟩
    case measure=>simp[RowKit.intOf];omega
  ·obtain rfl:i=6:=by omega
   have t0:decide ((6:Int)<6)=false:=by simp
   have CAL:=Lib.hid (CALL.out zs.out);have a0:=FR.out _ hx.out;have li:=LI.out _ hx.out;clear zs NL EV CALL hi6 hlt;cases hl:Yjz n with
   |false=>
    rw[hl] at li;clear hl
    go_wp2_with (with_reducible refine wpList_load_row rfl 31 _ rfl B rfl 31 X (0,0) _ a0 Tryd.underlying31 rfl FRS ?_)
    refine li.mono ?_;rintro e x1 ⟨rfl,hx1⟩;have hs1:=DN.out _ _ hx.out hx1
    go_wp2_with fail
    refine(LIV.out _ hs1).mono ?_;rintro e x2 ⟨rfl,hx2⟩;have hend:=UP.out _ (DN.out _ _ hs1 hx2)
    go_wp2
    go_ret
    exact⟨rfl,hend⟩
   |true=>
    rw[hl] at li;clear hl
    go_wp2_with (with_reducible refine wpList_load_row rfl 31 _ rfl B rfl 31 X (0,0) _ a0 Tryd.underlying31 rfl FRS ?_)
    refine li.mono ?_;rintro e x1 ⟨rfl,hx1⟩;have s1:=DN.out _ _ hx.out hx1;clear hx hx1 li a0;have a1:=FR.out _ s1;have q1:=QT.out _ s1
    go_wp2_with (with_reducible refine wpList_load_row rfl 31 _ rfl B rfl 31 X (0,0) _ a1 Tryd.underlying31 rfl FRS ?_)
    refine(SK.out _ s1).mono ?_;rintro e x2 ⟨rfl,hx2⟩;obtain⟨b1,y1,hb1,hy1,hz1,M1⟩:=Ydq (DN.out _ _ s1 hx2) (SZ.out _ (Below.refl _ _)) V;have a2:=FR.out _ M1.low;have HX1:=Lib.hid hb1;have HY1:=Lib.hid hy1;clear hb1 hy1 hx2 s1 a1 q1
    go_wp2_with (first|(with_reducible refine Yam rfl 24 _ _ rfl V Y 24 rfl rfl HSV HZV HOV ?_;rw[HY1.out,HX1.out])|(with_reducible refine wpList_load_row rfl 31 _ rfl B rfl 31 X (0,0) _ a2 Tryd.underlying31 rfl FRS ?_))
    refine(CT.out _ M1.low).mono ?_;rintro e x3 ⟨rfl,hx3⟩;have M2:=M1.below hx3 (by omega);have hs3:=hx3.size;obtain⟨b3,y3,hb3,hy3,hz3,M3⟩:=Ydq M2.low (SZ.out _ (Below.refl _ _)) V;have g1:y3.heap[b1]? =some (.cells V 24 (0,0)):=by rw[←hy3];exact Yak M2.cell
    have g3:=M3.cell;have a3:=FR.out _ M3.low;have c3:=CE.out _ M3.low;have q3:=QT.out _ M3.low;have cal:=CAL.out _ M3.low;have HX3:=Lib.hid hb3;have HY3:=Lib.hid hy3;have S3:=Lib.hid M3.low;clear hb3 hy3 hx3 M1 M2 M3 a2 hz1 hs3
    go_wp2_with (first|(with_reducible refine Yam rfl 24 _ _ rfl V Y 24 rfl rfl HSV HZV HOV ?_;rw[HY3.out,HX3.out])|(with_reducible refine wpList_load_row rfl 24 _ rfl b1 rfl 24 V (0,0) _ g1 Tryd.underlying24 rfl HSV ?_)|(with_reducible refine wpList_load_row rfl 24 _ rfl b3 rfl 24 V (0,0) _ g3 Tryd.underlying24 rfl HSV ?_)|(with_reducible refine wpList_load_row rfl 31 _ rfl B rfl 31 X (0,0) _ a3 Tryd.underlying31 rfl FRS ?_)|(with_reducible refine wpList_load_mid rfl 37 _ rfl (B+1) 0 rfl L _ c3 Tryd.underlying37 rfl CLS ?_))
    refine cal.mono ?_;rintro e x4 ⟨rfl,hx4⟩;obtain⟨b5,y5,hb5,hy5,hz5,M5⟩:=Ydq (DN.out _ _ S3.out hx4) (SZ.out _ (Below.refl _ _)) W;have HX5:=Lib.hid hb5;have HY5:=Lib.hid hy5;have S5:=Lib.hid M5.low;have P5:=Lib.hid M5.cell;clear hb5 hy5 hx4 M5 g1 g3 a3 c3 q3 cal S3 hz3 hz5
    go_wp2_with (with_reducible refine Yam rfl 24 _ _ rfl W Y 24 rfl rfl HSW HZW HOW ?_;rw[HY5.out,HX5.out])
    go_loopw [14] (fun z wr=>∃b:Nat,b≤6∧z=.int .i64 b∧Hid (Below (B+2) wB wr)∧Hid (wr.heap[b5]? =some (.cells W 24 (0,0)))) (fun z _=>6-(RowKit.intOf z).toNat)
    case atStart=>exact⟨0,by omega,rfl,S5,P5⟩
    case round=>
     clear S5 P5;obtain⟨b,hb6,rfl,hs,hp⟩:=hrel;obtain⟨wo,rfl⟩:∃x,x=wr:=⟨_,rfl⟩;by_cases hlb:b<6
     ·have t3:decide ((b:Int)<6)=true:=by simp;omega
      go_wp2
      go_loopw [15] (fun z wr=>∃i:Nat,i≤64∧z=.int .i64 i∧Hid (Below (B+2) wB wr)∧Hid (wr.heap[b5]? =some (.cells W 24 (0,0)))) (fun z _=>64-(RowKit.intOf z).toNat)
      case atStart=>exact⟨0,by omega,rfl,hs,hp⟩
      case round=>
       clear hs hp;obtain⟨i,hi64,rfl,hs,hp⟩:=hrel;by_cases hli:i<64
       ·have t4:decide ((i:Int)<64)=true:=by simp;omega
        have cw:=CW.out _ b5 (b*64+i) hp.out (by omega);obtain⟨l1,l2⟩:=GB.out (b*64+i);generalize g (b*64+i)=z0 at *;have t5:decide (z0<0)=false:=decide_eq_false (by omega);have t6:decide (255<z0)=false:=decide_eq_false (by omega);clear l1 l2
        go_wp2
        go_roundw
        case rel=>exact⟨i+1,by omega,by go_num,hs,hp⟩
        case measure=>simp[RowKit.intOf];omega
       ·obtain rfl:i=64:=by omega
        have t4:decide ((64:Int)<64)=false:=by simp
        go_wp2
        go_roundw
        case rel=>exact⟨b+1,by omega,by go_num,hs,hp⟩
        case measure=>simp[RowKit.intOf];omega
     ·obtain rfl:b=6:=by omega
      have t3:decide ((6:Int)<6)=false:=by simp
      go_wp2_with fail
      refine(LIV.out _ hs.out).mono ?_;rintro e x6 ⟨rfl,hx6⟩;have hend:=UP.out _ (DN.out _ _ hs.out hx6)
      go_wp2
      go_ret
      exact⟨rfl,hend⟩
end Go.Proofs.YtdnjefldijjgdaaDoor