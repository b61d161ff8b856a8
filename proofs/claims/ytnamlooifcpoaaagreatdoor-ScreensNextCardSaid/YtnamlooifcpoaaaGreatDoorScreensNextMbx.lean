/- No condition. -/
import Derived.Test.YtnamlooifcpoaaaGreatDoorScreensNextMa
import Derived.Test.YtnamlooifcpoaaaGreatDoorScreensNextMq
import Derived.Test.YtnamlooifcpoaaaGreatDoorScreensNextMr
import Derived.Test.YtnamlooifcpoaaaGreatDoorScreensNextMu
import Derived.Test.YtnamlooifcpoaaaGreatDoorScreensNextMw
import Derived.Test.YtnamlooifcpoaaaGreatDoorScreensNextMx
import Derived.Test.YtnamlooifcpoaaaGreatDoorScreensNextMbj
import Derived.Test.YtnamlooifcpoaaaGreatDoorScreensNextMbt
import Derived.Test.YtnamlooifcpoaaaGreatDoorScreensNextMbw
namespace Go.Proofs.YtnamlooifcpoaaaGreatDoor
open Go.RowKit Go.Lib
theorem Ynz {w:World}{X i:Nat}{T:TypeId}{F G:Nat→Nat→Int}(h:w.heap[X]? =some (Yc4 T 384 (Yii F G i)))(hi:i<6):w.rangeAt X (i*64) (Yma (G i)):=fun j v hj=>by
 have hj64:j<64:=by
  have:=(List.getElem?_eq_some_iff.1 hj).1;rwa [Yed] at this
 rw[Yh0 _ hj64] at hj;injection hj with hj;rw[←hj,←Yw2 F G i j hj64];exact Ybt h (by omega)
theorem Yk1 (f:Nat→Int):(Tryz.prog.info? 60).map (·.size)=some (Yma f).length:=by rw[Yed];exact Yrk
def Yeb (F:Nat→Nat→Int)(w:World)(e:Ending)(w':World):Prop:=e=.returned (.agg (arn 384 (ptF F)))∧Below w.heap.size w w'
set_option maxRecDepth 100000 in
set_option maxHeartbeats 2000000 in
theorem Ymr (c:Cel)(p:Nat→Option Addr)(n k:Nat→Nat)(w:World)(hc:Yea w c p n):
  Calls Tryz.prog 86 #[.agg (Ycd c fun i=>.slice (p i) (n i) (k i)).toArray] w (Yeb (Yfx c) w):=by
 obtain⟨A,hA⟩:∃A,(Ycd c fun i=>.slice (p i) (n i) (k i)).toArray=A:=⟨_,rfl⟩;have HSA:(Tryz.prog.info? 48).map (·.size)=some A.size:=hA▸Yd0 c _;obtain⟨Y,hY⟩:∃Y,(arn 384 fun _=>0)=Y:=⟨_,rfl⟩;have hz0:∀w,(zeroValue 62).run Tryz.prog w=.ok (.agg Y) w:=by rw[←hY];exact Ydl
 have HYZ:Y.size=384:=by rw[←hY,Yan]
 obtain⟨B,wA,wB,hB,hwA,hwB,hzA,hzB,hC0,hC1,hbB⟩:=Yej w (.cells A 48 (0,0)) (.cells Y 62 (0,0));have UP:∀x,Below (B+2) wB x→Below w.heap.size w x:=fun x hx=>hB▸hbB.trans (hx.mono (by omega));have C0:=Lib.hid (fun(x:World) (hx:Below (B+2) wB x)=>((hx.block B (by omega)).trans hC0:x.heap[B]? =some (.cells A 48 (0,0))))
 have C1:=Lib.hid (fun(x:World) (hx:Below (B+2) wB x)=>((hx.block (B+1) (by omega)).trans hC1:x.heap[B+1]? =some (.cells Y 62 (0,0))));have CK:=Lib.hid (fun(x:World) (hx:Below (B+2) wB x)=>(Yac (o:=2) (by rw[←hA] at hC0;exact(hx.block B (by omega)).trans hC0) rfl:x.cell? ⟨B,2,none⟩=some (.int .i64 c.kind)))
 have FIN:=Lib.hid (show∀V y,arn 384 (ptF (Yfx c))=V→Below B w y→Yeb (Yfx c) w (.returned (.agg V)) y from fun V y hV hy=>⟨by rw[hV],by rw[hB];exact hy⟩);obtain⟨Z,hZ⟩:∃Z,Ybb (fun _=>0)=Z:=⟨_,rfl⟩;have hz1:∀w,(zeroValue 60).run Tryz.prog w=.ok (.agg Z) w:=by rw[←hZ];exact Ybx
 have HZZ:Z.size=64:=by rw[←hZ,Yak]
 obtain⟨wC,hwC⟩:∃wC,wB.alloc (.cells Y 62 (0,0))=wC:=⟨_,rfl⟩;have k2:wC.heap[B+2]? =some (Yc4 62 384 (Yii (Yfx c) (fun _ _=>0) 0)):=by
  rw[←hwC,←hzB,Yi5,Yr9];refine(heap_alloc_new wB _).trans ?_;rw[←hY]
  rfl
 have kb:Below (B+2) wB wC:=by rw[←hwC];exact(Below.refl _ wB).alloc (by omega) _
 have kz:B+2+1≤wC.heap.size:=by rw[←hwC];simp;omega
 have LV:=Lib.hid (fun(a:Int) (ha:a=Yk8 c.kind) (b:Nat) (hb:b<6) (x:World) (hx:Below (B+2) wB x)=>(by
  obtain⟨hn1,hn2,hev⟩:=hc b hb;have h:=Yju (p b) (c.ev b) (k b) (Yk8 c.kind) x (hev.below (UP x hx)) (by omega);unfold Yfj at h;rw[←hn1,←ha] at h;exact⟨(lvG (c.ev b) a).2,by rw[ha] at h ⊢;exact h⟩:∃er,Calls Tryz.prog 108 #[.slice (p b) (n b) (k b),.int .i64 a] x fun e y=>e=.returned (.tuple #[.agg (Ybb (lvG (c.ev b) (Yk8 c.kind)).1),.int .i64 er])∧Below x.heap.size x y))
 have RS:=Lib.hid (fun(b:Nat) (x:World)=>(by
  have h:=Yql (lvG (c.ev b) (Yk8 c.kind)).1 x;unfold Ybq at h;exact h:Calls Tryz.prog 110 #[.agg (Ybb (lvG (c.ev b) (Yk8 c.kind)).1)] x fun e y=>e=.returned (.agg (Ybb (Yfx c b)))∧Below x.heap.size x y))
 have EV:=Lib.hid (fun(b:Nat) (hb:b<6) (x:World) (hx:Below (B+2) wB x)=>(Yac (o:=12+b) (by rw[←hA] at hC0;exact(hx.block B (by omega)).trans hC0) (Yez c (fun i=>.slice (p i) (n i) (k i)) b hb):x.cell? ⟨B,12+b,none⟩=some (.slice (p b) (n b) (k b))));have FR0:=Lib.hid (fun(h:Yaj c.kind=true)=>(by unfold Yk8;rw[if_pos h]:(1:Int)=Yk8 c.kind))
 have FR1:=Lib.hid (fun(h:Yaj c.kind=false)=>(by unfold Yk8;rw[if_neg (by rw[h];decide)]:(0:Int)=Yk8 c.kind));have IN:=Lib.hid (fun x=>Yek c.kind x);have e2:=CK.out wB (Below.refl _ _);rw[hA];have HWA:=Lib.hid hwA;have HWB:=Lib.hid hwB;have HWC:=Lib.hid hwC;have HB:=Lib.hid hB;have HBW:=Lib.hid hbB;clear hA hY hZ hwA hwB hwC hB hC0 hC1 hbB hc UP;obtain⟨kk,hkk⟩:∃kk,c.kind=kk:=⟨_,rfl⟩
 rw[hkk] at e2 IN;rw[show Yaj c.kind=Yaj kk by rw[hkk]] at FR0 FR1;clear hkk;generalize Yaj kk=ik at IN FR0 FR1;obtain⟨a,ha⟩:∃a,(if ik=true then (1:Int) else 0)=a:=⟨_,rfl⟩;have LW:=LV.out a (by rw[←ha];cases ik;exact FR1.out rfl;exact FR0.out rfl);clear LV FR0 FR1
 replace LW:=Lib.hid LW
 cases ik <;> (
  simp only[if_true,Bool.false_eq_true,if_false] at ha;subst ha
  go_enter Tryz.func86,Tryz.ntmps86
  go_wp2_with (rw[HWA.out,HB.out,HWB.out])
  refine(IN.out _).mono ?_;rintro e x1 ⟨rfl,rfl⟩
  go_wp2
  rw[HWC.out]
  go_loopw [5] (fun z wr=>∃i:Nat,i≤6∧z=.int .i64 i∧wr.heap[B+2]? =some (Yc4 62 384 (Yii (Yfx c) (fun _ _=>0) i))∧Below (B+2) wB wr∧B+2+1≤wr.heap.size) (fun z _=>6-(RowKit.intOf z).toNat)
  case atStart=>exact⟨0,by omega,rfl,k2,kb,kz⟩
  case round=>
   clear k2 kb kz e2;obtain⟨i,hi6,rfl,k2,kb,kz⟩:=hrel;by_cases hlt:i<6
   ·have t0:decide ((i:Int)<6)=true:=by simp;omega
    obtain⟨er,lw⟩:=LW.out i hlt wr kb;have rs:=RS.out i;have e1:=EV.out i hlt wr kb;obtain⟨G,hG⟩:∃G,Ybb (lvG (c.ev i) (Yk8 c.kind)).1=G:=⟨_,rfl⟩;obtain⟨V,hV⟩:∃V,Ybb (Yfx c i)=V:=⟨_,rfl⟩;rw[hG] at lw rs;rw[hV] at rs;have HSG:(Tryz.prog.info? 60).map (·.size)=some G.size:=hG▸Yau _;have HOG:G.all (·.oneCell')=true:=hG▸Ya9 _;have HZG:Z.size=G.size:=by rw[HZZ,←hG,Yak]
    have HSV:(Tryz.prog.info? 60).map (·.size)=some V.size:=hV▸Yau _;have HV:=Lib.hid hV
    replace rs:=Lib.hid rs
    clear hG hV;generalize p i=P at lw e1;generalize n i=N at lw e1;generalize k i=K at lw e1
    go_wp2_with fail
    refine lw.mono ?_;rintro e x2 ⟨rfl,hb2⟩;have hb3:Below (B+2) wB x2:=kb.trans (hb2.mono (by omega));have j2:=(hb2.block (B+2) (by omega)).trans k2;have jz:=Nat.le_trans kz hb2.size;obtain⟨X,hX⟩:∃X,x2.heap.size=X:=⟨_,rfl⟩;obtain⟨x3,hx3⟩:∃x3,x2.alloc (.cells G 60 (0,0))=x3:=⟨_,rfl⟩;have h3:x3.heap[X]? =some (.cells G 60 (0,0)):=by rw[←hx3,←hX];exact heap_alloc_new x2 _
    have j3:x3.heap[B+2]? =some (Yc4 62 384 (Yii (Yfx c) (fun _ _=>0) i)):=by rw[←hx3];exact Yap j2
    have hb4:Below (B+2) wB x3:=by rw[←hx3];exact hb3.alloc (by have:=hb3.size;omega) _
    have jz3:B+2+1≤x3.heap.size:=by rw[←hx3];simp;omega
    have HX:=Lib.hid hX;have HX3:=Lib.hid hx3;clear hb2 hb3 hX hx3 e1 k2 kb kz j2 jz lw
    go_wp2_with (first|(with_reducible refine Yai rfl 60 _ _ rfl G Z 60 rfl rfl HSG HZG HOG ?_;rw[HX3.out,HX.out])|(with_reducible refine wpList_load_row rfl 60 _ rfl X rfl 60 G (0,0) _ h3 Tryz.underlying60 rfl HSG ?_))
    refine(rs.out _).mono ?_;rintro e x4 ⟨rfl,hb5⟩;have m2:=(hb5.block (B+2) (by omega)).trans j3;have mb:=hb4.trans (hb5.mono (by omega));have mz:=Nat.le_trans jz3 hb5.size;clear hb4 hb5 j3 jz3 h3
    go_wp2_with (refine Yey rfl 60 _ _ rfl (B+2) i _ (by omega) 62 (Yfx c) (fun _ _=>0) (Yfx c i) V HV.out rfl rfl m2 hlt (fun _ _=>rfl) HSV ?_;intro w5 hh5 hg5)
    have nb:Below (B+2) wB w5:=mb.grown hg5 (by omega) (fun k hk=>by injection hk with hk;omega);have nz:=Nat.le_trans mz hg5.size
    go_roundw
    case rel=>exact⟨i+1,by omega,by go_num,hh5.out,nb,nz⟩
    case measure=>simp[RowKit.intOf];omega
   ·obtain rfl:i=6:=by omega
    have t0:decide ((6:Int)<6)=false:=by simp
    obtain⟨V,hV⟩:∃V,arn 384 (ptF (Yfx c))=V:=⟨_,rfl⟩;have k3:wr.heap[B+2]? =some (.cells V 62 (0,0)):=by rw[←hV,←Ymw (Yfx c) (fun _ _=>0)];exact k2
    have HSV:(Tryz.prog.info? 62).map (·.size)=some V.size:=hV▸Ybr _;have HOV:V.all (·.oneCell')=true:=hV▸Ybd _ _;have HYV:Y.size=V.size:=by rw[HYZ,←hV,Yan]
    have F1:=Lib.hid (fun y hy=>FIN.out V y hV hy);have k1:=C1.out wr kb;have kw:Below B w wr:=HBW.out.trans (kb.mono (by omega));clear hV k2
    go_wp2_with (first|(with_reducible refine wpList_load_row rfl 62 _ rfl (B+2) rfl 62 V (0,0) _ k3 Tryz.underlying62 rfl HSV ?_)|(with_reducible refine Yae rfl 62 _ _ rfl (B+1) V Y rfl rfl 62 k1 HSV HYV HOV ?_;intro w5 hh5 hg5))
    refine bodyPost_ret (results_cell_row rfl _ _ (B+1) 62 _ (0,0) _ rfl hh5 Tryz.underlying62 rfl HSV) rfl ?_;exact F1.out _ (kw.grown hg5 (by omega) (fun k hk=>by injection hk with hk;omega))
)
set_option maxRecDepth 100000 in
set_option maxHeartbeats 2000000 in
theorem Yne (c:Cel)(p:Nat→Option Addr)(n k:Nat→Nat)(q:Int)(w:World)(hc:Yea w c p n):
  Calls Tryz.prog 66 #[.agg (Ycd c fun i=>.slice (p i) (n i) (k i)).toArray,.int .i64 q] w (Yeb (Yfr c q) w):=by
 obtain⟨A,hA⟩:∃A,(Ycd c fun i=>.slice (p i) (n i) (k i)).toArray=A:=⟨_,rfl⟩;have HSA:(Tryz.prog.info? 48).map (·.size)=some A.size:=hA▸Yd0 c _;obtain⟨Y,hY⟩:∃Y,(arn 384 fun _=>0)=Y:=⟨_,rfl⟩;have hz0:∀w,(zeroValue 62).run Tryz.prog w=.ok (.agg Y) w:=by rw[←hY];exact Ydl
 have HYZ:Y.size=384:=by rw[←hY,Yan]
 obtain⟨B,wA,wB,hB,hwA,hwB,hzA,hzB,hC0,hC1,hbB⟩:=Yej w (.cells A 48 (0,0)) (.cells Y 62 (0,0));have UP:∀x,Below (B+2) wB x→Below w.heap.size w x:=fun x hx=>hB▸hbB.trans (hx.mono (by omega));have C0:=Lib.hid (fun(x:World) (hx:Below (B+2) wB x)=>((hx.block B (by omega)).trans hC0:x.heap[B]? =some (.cells A 48 (0,0))))
 have C1:=Lib.hid (fun(x:World) (hx:Below (B+2) wB x)=>((hx.block (B+1) (by omega)).trans hC1:x.heap[B+1]? =some (.cells Y 62 (0,0))));have CK:=Lib.hid (fun(x:World) (hx:Below (B+2) wB x)=>(Yac (o:=2) (by rw[←hA] at hC0;exact(hx.block B (by omega)).trans hC0) rfl:x.cell? ⟨B,2,none⟩=some (.int .i64 c.kind)))
 have FIN:=Lib.hid (show∀V y,arn 384 (ptF (Yfr c q))=V→Below B w y→Yeb (Yfr c q) w (.returned (.agg V)) y from fun V y hV hy=>⟨by rw[hV],by rw[hB];exact hy⟩);have LE:=Lib.hid (fun(x:World) (hx:Below (B+2) wB x)=>(by
  have h:=Ymr c p n k x (hc.below (UP x hx));unfold Yeb at h;rw[hA] at h;exact h:Calls Tryz.prog 86 #[.agg A] x fun e y=>e=.returned (.agg (arn 384 (ptF (Yfx c))))∧Below x.heap.size x y))
 have CD0:=Lib.hid (fun(b:Nat) (hb:b<6) (x:World) (hx:Below (B+2) wB x)=>(Yac (o:=6+b) (by rw[←hA] at hC0;exact(hx.block B (by omega)).trans hC0) (Yeh c _ b hb):x.cell? ⟨B,6+b,none⟩=some (.int .i64 (c.dc b))));obtain⟨G0,hG0⟩:∃V,arn 384 (ptF (Yfx c))=V:=⟨_,rfl⟩;rw[hG0] at LE;have HSG:(Tryz.prog.info? 62).map (·.size)=some G0.size:=hG0▸Ybr _;have HOG:G0.all (·.oneCell')=true:=hG0▸Ybd _ _
 have HYG:Y.size=G0.size:=by rw[HYZ,←hG0,Yan]
 have HG0:=Lib.hid hG0;rw[hA];have HWA:=Lib.hid hwA;have HWB:=Lib.hid hwB;have HB:=Lib.hid hB;have HBW:=Lib.hid hbB;have c0:=C0.out wB (Below.refl _ _);clear hA hY hwA hwB hB hC0 hC1 hbB hc UP hG0 C0
 go_enter Tryz.func66,Tryz.ntmps66
 go_wp2_with (rw[HWA.out,HB.out,HWB.out];with_reducible refine wpList_load_row rfl 48 _ rfl B rfl 48 A (0,0) _ c0 Tryz.underlying48 rfl HSA ?_)
 refine(LE.out _ (Below.refl _ _)).mono ?_;rintro e x2 ⟨rfl,hb2⟩;rw[hzB] at hb2;obtain⟨X,hX⟩:∃X,x2.heap.size=X:=⟨_,rfl⟩;obtain⟨x3,hx3⟩:∃x3,x2.alloc (.cells G0 62 (0,0))=x3:=⟨_,rfl⟩;have k2:x3.heap[X]? =some (Yc4 62 384 (Yii (Yfr c q) (Yfx c) 0)):=by
  rw[←hx3,←hX,Yi5];refine(heap_alloc_new x2 _).trans ?_;rw[←HG0.out]
  rfl
 have kb:Below (B+2) wB x3:=by rw[←hx3];exact hb2.alloc (by have:=hb2.size;omega) _
 have kz:X+1≤x3.heap.size:=by rw[←hx3];simp;omega
 have hXB:B+2≤X:=by have:=hb2.size;omega
 have HX:=Lib.hid hX;have HX3:=Lib.hid hx3;clear hb2 hX hx3 c0 hzA hzB LE
 go_wp2_with (with_reducible refine Yai rfl 62 _ _ rfl G0 Y 62 rfl rfl HSG HYG HOG ?_;rw[HX3.out,HX.out])
 go_loopw [6] (fun z wr=>∃i:Nat,i≤6∧z=.int .i64 i∧wr.heap[X]? =some (Yc4 62 384 (Yii (Yfr c q) (Yfx c) i))∧Below (B+2) wB wr∧X+1≤wr.heap.size) (fun z _=>6-(RowKit.intOf z).toNat)
 case atStart=>exact⟨0,by omega,rfl,k2,kb,kz⟩
 case round=>
  clear k2 kb kz;obtain⟨i,hi6,rfl,k2,kb,kz⟩:=hrel;by_cases hlt:i<6
  ·have t0:decide ((i:Int)<6)=true:=by simp;omega
   obtain⟨V,hV⟩:∃V,Ybb (Yfr c q i)=V:=⟨_,rfl⟩;have HSV:(Tryz.prog.info? 60).map (·.size)=some V.size:=hV▸Yau _;have HSL:=Yk1 (Yfx c i);have HV:=Lib.hid hV;have BL:=Lib.hid (fun(x:World) (hx:Below (B+2) wB x∧x.heap[X]? =some (Yc4 62 384 (Yii (Yfr c q) (Yfx c) i))∧X+1≤x.heap.size)=>(by
    have h:=Yy4 (Yfx c i) q (Yaj c.kind) (c.dc i) x;unfold Ybq at h;rw[show Ybb (Ysp (Yfx c i) q (Yaj c.kind) (c.dc i))=V from hV] at h
    exact h.mono fun e y he=>⟨he.1,hx.1.trans (he.2.mono (by omega)),(he.2.block X (by omega)).trans hx.2.1,Nat.le_trans hx.2.2 he.2.size⟩:Calls Tryz.prog 87 #[.agg (Yma (Yfx c i)).toArray,.int .i64 q,.bool (Yaj c.kind),.int .i64 (c.dc i)] x fun e y=>e=.returned (.agg V)∧(Below (B+2) wB y∧y.heap[X]? =some (Yc4 62 384 (Yii (Yfr c q) (Yfx c) i))∧X+1≤y.heap.size)))
   have IN:=Lib.hid (fun(x:World) (hx:Below (B+2) wB x∧x.heap[X]? =some (Yc4 62 384 (Yii (Yfr c q) (Yfx c) i))∧X+1≤x.heap.size)=>((Yek c.kind x).mono fun e y he=>⟨he.1,he.2▸hx⟩:Calls Tryz.prog 36 #[.int .i64 c.kind] x fun e y=>e=.returned (.bool (Yaj c.kind))∧(Below (B+2) wB y∧y.heap[X]? =some (Yc4 62 384 (Yii (Yfr c q) (Yfx c) i))∧X+1≤y.heap.size)));have CD:=Lib.hid (CD0.out i hlt);have CK2:=CK
   generalize c.dc i=d at CD BL;generalize Yaj c.kind=ik at IN BL;generalize c.kind=kk at IN CK2
   replace CK:=CK2
   clear CK2 hV
   go_wp2
   refine Yaf (S:=fun x=>Below (B+2) wB x∧x.heap[X]? =some (Yc4 62 384 (Yii (Yfr c q) (Yfx c) i))∧X+1≤x.heap.size) 14 (by kernel_rfl) (by kernel_rfl) ⟨kb.drew,k2,kz⟩ ?_;simp only[List.take_succ_cons,List.take_zero,List.drop_succ_cons,List.drop_zero]
   iterate 2 (refine Yab (by kernel_rfl) (fun x _=>by go_simp;try with_reducible rfl) ?_;simp only[Yaa])
   refine Yab (by kernel_rfl) (fun x _=>by go_simp;rw[if_pos (by omega)]) ?_;simp only[Yaa];refine Yro 60 _ X (i*64) (Yma (Yfx c i)) _ (by kernel_rfl) rfl rfl (fun x hx=>Ynz hx.2.1 hlt) Tryz.underlying60 rfl HSL ?_;simp only[Yaa]
   iterate 2 (refine Yab (by kernel_rfl) (fun x _=>by go_simp;try with_reducible rfl) ?_;simp only[Yaa])
   refine Yag 3 _ ⟨B,2,none⟩ (.int .i64 kk) (by kernel_rfl) rfl rfl (fun x hx=>by have c0:=CK.out x hx.1;go_simp) ?_;simp only[Yaa];refine Yah (by kernel_rfl) IN.out (fun _=>by kernel_rfl) ?_;simp only[Yaa]
   iterate 2 (refine Yab (by kernel_rfl) (fun x _=>by go_simp;try with_reducible rfl) ?_;simp only[Yaa])
   refine Yab (by kernel_rfl) (fun x _=>by go_simp;rw[if_pos (by omega)]) ?_;simp only[Yaa];refine Yag 3 _ ⟨B,6+i,none⟩ (.int .i64 d) (by kernel_rfl) rfl rfl (fun x hx=>by have c0:=CD.out x hx.1;go_simp) ?_;simp only[Yaa];refine Yah (by kernel_rfl) BL.out (fun _=>by kernel_rfl) ?_;simp only[Yaa];refine Yab (by kernel_rfl) (fun x _=>by go_simp;rw[if_pos (by omega)]) ?_;simp only[Yaa]
   refine Yar fun x hx=>?_;obtain⟨mb,m2,mz⟩:=hx
   go_wp2_with (refine Yey rfl 60 _ _ rfl X i _ (by omega) 62 (Yfr c q) (Yfx c) (Yfr c q i) V HV.out rfl rfl m2 hlt (fun _ _=>rfl) HSV ?_;intro w5 hh5 hg5)
   have nb:Below (B+2) wB w5:=mb.grown hg5 (by omega) (fun k hk=>by injection hk with hk;omega);have nz:=Nat.le_trans mz hg5.size
   go_roundw
   case rel=>exact⟨i+1,by omega,by go_num,hh5.out,nb,nz⟩
   case measure=>simp[RowKit.intOf];omega
  ·obtain rfl:i=6:=by omega
   have t0:decide ((6:Int)<6)=false:=by simp
   obtain⟨V,hV⟩:∃V,arn 384 (ptF (Yfr c q))=V:=⟨_,rfl⟩;have k3:wr.heap[X]? =some (.cells V 62 (0,0)):=by rw[←hV,←Ymw (Yfr c q) (Yfx c)];exact k2
   have HSV:(Tryz.prog.info? 62).map (·.size)=some V.size:=hV▸Ybr _;have HOV:V.all (·.oneCell')=true:=hV▸Ybd _ _;have HYV:Y.size=V.size:=by rw[HYZ,←hV,Yan]
   have F1:=Lib.hid (fun y hy=>FIN.out V y hV hy);have k1:=C1.out wr kb;have kw:Below B w wr:=HBW.out.trans (kb.mono (by omega));clear hV k2
   go_wp2_with (first|(with_reducible refine wpList_load_row rfl 62 _ rfl (X) rfl 62 V (0,0) _ k3 Tryz.underlying62 rfl HSV ?_)|(with_reducible refine Yae rfl 62 _ _ rfl (B+1) V Y rfl rfl 62 k1 HSV HYV HOV ?_;intro w5 hh5 hg5))
   refine bodyPost_ret (results_cell_row rfl _ _ (B+1) 62 _ (0,0) _ rfl hh5 Tryz.underlying62 rfl HSV) rfl ?_;exact F1.out _ (kw.grown hg5 (by omega) (fun k hk=>by injection hk with hk;omega))
set_option maxRecDepth 100000 in
set_option maxHeartbeats 2000000 in
theorem Yw9 (c:Cel)(p:Nat→Option Addr)(n k:Nat→Nat)(q:Int)(w:World)(hc:Yea w c p n):
  Calls Tryz.prog 46 #[.agg (Ycd c fun i=>.slice (p i) (n i) (k i)).toArray,.int .i64 q] w (Yeb (Yf2 c q) w):=by
 obtain⟨A,hA⟩:∃A,(Ycd c fun i=>.slice (p i) (n i) (k i)).toArray=A:=⟨_,rfl⟩;have HSA:(Tryz.prog.info? 48).map (·.size)=some A.size:=hA▸Yd0 c _;obtain⟨Y,hY⟩:∃Y,(arn 384 fun _=>0)=Y:=⟨_,rfl⟩;have hz0:∀w,(zeroValue 62).run Tryz.prog w=.ok (.agg Y) w:=by rw[←hY];exact Ydl
 have HYZ:Y.size=384:=by rw[←hY,Yan]
 obtain⟨B,wA,wB,hB,hwA,hwB,hzA,hzB,hC0,hC1,hbB⟩:=Yej w (.cells A 48 (0,0)) (.cells Y 62 (0,0));have UP:∀x,Below (B+2) wB x→Below w.heap.size w x:=fun x hx=>hB▸hbB.trans (hx.mono (by omega));have C0:=Lib.hid (fun(x:World) (hx:Below (B+2) wB x)=>((hx.block B (by omega)).trans hC0:x.heap[B]? =some (.cells A 48 (0,0))))
 have C1:=Lib.hid (fun(x:World) (hx:Below (B+2) wB x)=>((hx.block (B+1) (by omega)).trans hC1:x.heap[B+1]? =some (.cells Y 62 (0,0))));have CK:=Lib.hid (fun(x:World) (hx:Below (B+2) wB x)=>(Yac (o:=2) (by rw[←hA] at hC0;exact(hx.block B (by omega)).trans hC0) rfl:x.cell? ⟨B,2,none⟩=some (.int .i64 c.kind)))
 have FIN:=Lib.hid (show∀V y,arn 384 (ptF (Yf2 c q))=V→Below B w y→Yeb (Yf2 c q) w (.returned (.agg V)) y from fun V y hV hy=>⟨by rw[hV],by rw[hB];exact hy⟩);have LE:=Lib.hid (fun(x:World) (hx:Below (B+2) wB x)=>(by
  have h:=Yne c p n k q x (hc.below (UP x hx));unfold Yeb at h;rw[hA] at h;exact h:Calls Tryz.prog 66 #[.agg A,.int .i64 q] x fun e y=>e=.returned (.agg (arn 384 (ptF (Yfr c q))))∧Below x.heap.size x y))
 obtain⟨G0,hG0⟩:∃V,arn 384 (ptF (Yfr c q))=V:=⟨_,rfl⟩;rw[hG0] at LE;have HSG:(Tryz.prog.info? 62).map (·.size)=some G0.size:=hG0▸Ybr _;have HOG:G0.all (·.oneCell')=true:=hG0▸Ybd _ _;have HYG:Y.size=G0.size:=by rw[HYZ,←hG0,Yan]
 have HG0:=Lib.hid hG0;rw[hA];have HWA:=Lib.hid hwA;have HWB:=Lib.hid hwB;have HB:=Lib.hid hB;have HBW:=Lib.hid hbB;have c0:=C0.out wB (Below.refl _ _);clear hA hY hwA hwB hB hC0 hC1 hbB hc UP hG0 C0
 go_enter Tryz.func46,Tryz.ntmps46
 go_wp2_with (rw[HWA.out,HB.out,HWB.out];with_reducible refine wpList_load_row rfl 48 _ rfl B rfl 48 A (0,0) _ c0 Tryz.underlying48 rfl HSA ?_)
 refine(LE.out _ (Below.refl _ _)).mono ?_;rintro e x2 ⟨rfl,hb2⟩;rw[hzB] at hb2;obtain⟨X,hX⟩:∃X,x2.heap.size=X:=⟨_,rfl⟩;obtain⟨x3,hx3⟩:∃x3,x2.alloc (.cells G0 62 (0,0))=x3:=⟨_,rfl⟩;have k2:x3.heap[X]? =some (Yc4 62 384 (Yii (Yf2 c q) (Yfr c q) 0)):=by
  rw[←hx3,←hX,Yi5];refine(heap_alloc_new x2 _).trans ?_;rw[←HG0.out]
  rfl
 have kb:Below (B+2) wB x3:=by rw[←hx3];exact hb2.alloc (by have:=hb2.size;omega) _
 have kz:X+1≤x3.heap.size:=by rw[←hx3];simp;omega
 have hXB:B+2≤X:=by have:=hb2.size;omega
 have HX:=Lib.hid hX;have HX3:=Lib.hid hx3;clear hb2 hX hx3 c0 hzA hzB LE
 go_wp2_with (with_reducible refine Yai rfl 62 _ _ rfl G0 Y 62 rfl rfl HSG HYG HOG ?_;rw[HX3.out,HX.out])
 go_loopw [6] (fun z wr=>∃i:Nat,i≤6∧z=.int .i64 i∧wr.heap[X]? =some (Yc4 62 384 (Yii (Yf2 c q) (Yfr c q) i))∧Below (B+2) wB wr∧X+1≤wr.heap.size) (fun z _=>6-(RowKit.intOf z).toNat)
 case atStart=>exact⟨0,by omega,rfl,k2,kb,kz⟩
 case round=>
  clear k2 kb kz;obtain⟨i,hi6,rfl,k2,kb,kz⟩:=hrel;by_cases hlt:i<6
  ·have t0:decide ((i:Int)<6)=true:=by simp;omega
   obtain⟨V,hV⟩:∃V,Ybb (Yf2 c q i)=V:=⟨_,rfl⟩;have HSV:(Tryz.prog.info? 60).map (·.size)=some V.size:=hV▸Yau _;have HSL:=Yk1 (Yfr c q i);have HV:=Lib.hid hV;have ci:=Yzv (Yfr c q i) wr;unfold Yb8 at ci;rw[show arn 64 (Yi0 (Yfr c q i))=V from hV,show Ybb (Yfr c q i)=(Yma (Yfr c q i)).toArray from rfl] at ci;have rg:=Ynz k2 hlt;clear hV;generalize hLL:Yma (Yfr c q i)=LL at ci rg HSL;clear hLL
   go_wp2_with (with_reducible refine wpList_load_mid rfl 60 _ rfl X (i*64) rfl LL _ rg Tryz.underlying60 rfl HSL ?_)
   refine ci.mono ?_;rintro e x4 ⟨rfl,hb5⟩;have m2:=(hb5.block X (by omega)).trans k2;have mb:=kb.trans (hb5.mono (by omega));have mz:=Nat.le_trans kz hb5.size;clear k2 kb kz hb5 rg ci
   go_wp2_with (refine Yey rfl 60 _ _ rfl X i _ (by omega) 62 (Yf2 c q) (Yfr c q) (Yf2 c q i) V HV.out rfl rfl m2 hlt (fun _ _=>rfl) HSV ?_;intro w5 hh5 hg5)
   have nb:Below (B+2) wB w5:=mb.grown hg5 (by omega) (fun k hk=>by injection hk with hk;omega);have nz:=Nat.le_trans mz hg5.size
   go_roundw
   case rel=>exact⟨i+1,by omega,by go_num,hh5.out,nb,nz⟩
   case measure=>simp[RowKit.intOf];omega
  ·obtain rfl:i=6:=by omega
   have t0:decide ((6:Int)<6)=false:=by simp
   obtain⟨V,hV⟩:∃V,arn 384 (ptF (Yf2 c q))=V:=⟨_,rfl⟩;have k3:wr.heap[X]? =some (.cells V 62 (0,0)):=by rw[←hV,←Ymw (Yf2 c q) (Yfr c q)];exact k2
   have HSV:(Tryz.prog.info? 62).map (·.size)=some V.size:=hV▸Ybr _;have HOV:V.all (·.oneCell')=true:=hV▸Ybd _ _;have HYV:Y.size=V.size:=by rw[HYZ,←hV,Yan]
   have F1:=Lib.hid (fun y hy=>FIN.out V y hV hy);have k1:=C1.out wr kb;have kw:Below B w wr:=HBW.out.trans (kb.mono (by omega));clear hV k2
   go_wp2_with (first|(with_reducible refine wpList_load_row rfl 62 _ rfl (X) rfl 62 V (0,0) _ k3 Tryz.underlying62 rfl HSV ?_)|(with_reducible refine Yae rfl 62 _ _ rfl (B+1) V Y rfl rfl 62 k1 HSV HYV HOV ?_;intro w5 hh5 hg5))
   refine bodyPost_ret (results_cell_row rfl _ _ (B+1) 62 _ (0,0) _ rfl hh5 Tryz.underlying62 rfl HSV) rfl ?_;exact F1.out _ (kw.grown hg5 (by omega) (fun k hk=>by injection hk with hk;omega))
end Go.Proofs.YtnamlooifcpoaaaGreatDoor
namespace Go.Proofs.YtnamlooifcpoaaaGreatDoor
open Go.RowKit Go.Lib Go.ChangeShapes Go.WideShapes Go.ChangeAt
def Y1c (w:World):Prop:=Yg6 w∧Yb9 w∧Ycl w∧Ydo w
theorem Y1c.below {w x:World}(h:Y1c w)(hb:Below w.heap.size w x):Y1c x:=⟨h.1.below hb,h.2.1.below hb,h.2.2.1.below hb,h.2.2.2.below hb⟩
theorem Y0r {laid:List (String×DataW Unit)}{W:World}(hL:laidMetH Tryz.prog laid W)
  (hm : ((("overspill/steps.codes", Rows.laid_overspill_steps_codes) ∈ laid ∧
   (("overspill/tcoef.codes", Rows.laid_overspill_tcoef_codes) ∈ laid ∧ ("overspill/tcoef.lengths", Rows.laid_overspill_tcoef_lengths) ∈ laid ∧ ("overspill/tcoef.ahead", Rows.laid_overspill_tcoef_ahead) ∈ laid)) ∧ ("overspill/scan.places", Rows.laid_overspill_scan_places) ∈ laid ∧ ("overspill/dct.weights", Rows.laid_overspill_dct_weights) ∈ laid) ∧ (laid.all fun x => x.2.handleName?.isNone) = true) : Y1c W :=
 ⟨(Ysk hL ⟨hm.1.1,hm.2⟩).1,(Ysk hL ⟨hm.1.1,hm.2⟩).2,Yyg hL ⟨hm.1.2.1,hm.2⟩,Yzj hL ⟨hm.1.2.2,hm.2⟩⟩
end Go.Proofs.YtnamlooifcpoaaaGreatDoor