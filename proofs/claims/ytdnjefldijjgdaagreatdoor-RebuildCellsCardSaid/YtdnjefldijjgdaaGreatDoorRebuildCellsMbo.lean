/- No condition. -/
import Derived.Test.YtdnjefldijjgdaaGreatDoorRebuildCellsMa
import Derived.Test.YtdnjefldijjgdaaGreatDoorRebuildCellsMq
import Derived.Test.YtdnjefldijjgdaaGreatDoorRebuildCellsMr
import Derived.Test.YtdnjefldijjgdaaGreatDoorRebuildCellsMu
import Derived.Test.YtdnjefldijjgdaaGreatDoorRebuildCellsMba
import Derived.Test.YtdnjefldijjgdaaGreatDoorRebuildCellsMbl
import Derived.Test.YtdnjefldijjgdaaGreatDoorRebuildCellsMbn
namespace Go.Proofs.YtdnjefldijjgdaaGreatDoor
open Go.RowKit Go.Lib
theorem Yi4 {w:World}{X i:Nat}{T:TypeId}{F G:Nat→Nat→Int}(h:w.heap[X]? =some (Yca T 384 (Yfn F G i)))(hi:i<6):w.rangeAt X (i*64) (Yhy (G i)):=fun j v hj=>by
 have hj64:j<64:=by
  have:=(List.getElem?_eq_some_iff.1 hj).1;rwa [Yc1] at this
 rw[Ye6 _ hj64] at hj;injection hj with hj;rw[←hj,←Yo8 F G i j hj64];exact Ya7 h (by omega)
theorem Yhc (f:Nat→Int):(Tryz.prog.info? 36).map (·.size)=some (Yhy f).length:=by rw[Yc1];exact Ylm
def Ycz (F:Nat→Nat→Int)(w:World)(e:Ending)(w':World):Prop:=e=.returned (.agg (arn 384 (ptF F)))∧Below w.heap.size w w'
set_option maxRecDepth 100000 in
set_option maxHeartbeats 2000000 in
theorem Yid (c:Cel)(p:Nat→Option Addr)(n k:Nat→Nat)(w:World)(hc:Yc6 w c p n):
  Calls Tryz.prog 52 #[.agg (Ycs c fun i=>.slice (p i) (n i) (k i)).toArray] w (Ycz (Yd2 c) w):=by
 obtain⟨A,hA⟩:∃A,(Ycs c fun i=>.slice (p i) (n i) (k i)).toArray=A:=⟨_,rfl⟩;have HSA:(Tryz.prog.info? 31).map (·.size)=some A.size:=hA▸Yco c _;obtain⟨Y,hY⟩:∃Y,(arn 384 fun _=>0)=Y:=⟨_,rfl⟩;have hz0:∀w,(zeroValue 38).run Tryz.prog w=.ok (.agg Y) w:=by rw[←hY];exact Ycc
 have HYZ:Y.size=384:=by rw[←hY,Yaj]
 obtain⟨B,wA,wB,hB,hwA,hwB,hzA,hzB,hC0,hC1,hbB⟩:=Yex w (.cells A 31 (0,0)) (.cells Y 38 (0,0));have UP:∀x,Below (B+2) wB x→Below w.heap.size w x:=fun x hx=>hB▸hbB.trans (hx.mono (by omega));have C0:=Lib.hid (fun(x:World) (hx:Below (B+2) wB x)=>((hx.block B (by omega)).trans hC0:x.heap[B]? =some (.cells A 31 (0,0))))
 have C1:=Lib.hid (fun(x:World) (hx:Below (B+2) wB x)=>((hx.block (B+1) (by omega)).trans hC1:x.heap[B+1]? =some (.cells Y 38 (0,0))));have CK:=Lib.hid (fun(x:World) (hx:Below (B+2) wB x)=>(Yae (o:=2) (by rw[←hA] at hC0;exact(hx.block B (by omega)).trans hC0) rfl:x.cell? ⟨B,2,none⟩=some (.int .i64 c.kind)))
 have FIN:=Lib.hid (show∀V y,arn 384 (ptF (Yd2 c))=V→Below B w y→Ycz (Yd2 c) w (.returned (.agg V)) y from fun V y hV hy=>⟨by rw[hV],by rw[hB];exact hy⟩);obtain⟨Z,hZ⟩:∃Z,Yay (fun _=>0)=Z:=⟨_,rfl⟩;have hz1:∀w,(zeroValue 36).run Tryz.prog w=.ok (.agg Z) w:=by rw[←hZ];exact Ybd
 have HZZ:Z.size=64:=by rw[←hZ,Yak]
 obtain⟨wC,hwC⟩:∃wC,wB.alloc (.cells Y 38 (0,0))=wC:=⟨_,rfl⟩;have k2:wC.heap[B+2]? =some (Yca 38 384 (Yfn (Yd2 c) (fun _ _=>0) 0)):=by
  rw[←hwC,←hzB,Yfz,Yl7];refine(heap_alloc_new wB _).trans ?_;rw[←hY]
  rfl
 have kb:Below (B+2) wB wC:=by rw[←hwC];exact(Below.refl _ wB).alloc (by omega) _
 have kz:B+2+1≤wC.heap.size:=by rw[←hwC];simp;omega
 have LV:=Lib.hid (fun(a:Int) (ha:a=Yhe c.kind) (b:Nat) (hb:b<6) (x:World) (hx:Below (B+2) wB x)=>(by
  obtain⟨hn1,hn2,hev⟩:=hc b hb;have h:=Ygg (p b) (c.ev b) (k b) (Yhe c.kind) x (hev.below (UP x hx)) (by omega);unfold Ydv at h;rw[←hn1,←ha] at h;exact⟨(lvG (c.ev b) a).2,by rw[ha] at h ⊢;exact h⟩:∃er,Calls Tryz.prog 31 #[.slice (p b) (n b) (k b),.int .i64 a] x fun e y=>e=.returned (.tuple #[.agg (Yay (lvG (c.ev b) (Yhe c.kind)).1),.int .i64 er])∧Below x.heap.size x y))
 have RS:=Lib.hid (fun(b:Nat) (x:World)=>(by
  have h:=Yk6 (lvG (c.ev b) (Yhe c.kind)).1 x;unfold Ya6 at h;exact h:Calls Tryz.prog 75 #[.agg (Yay (lvG (c.ev b) (Yhe c.kind)).1)] x fun e y=>e=.returned (.agg (Yay (Yd2 c b)))∧Below x.heap.size x y))
 have EV:=Lib.hid (fun(b:Nat) (hb:b<6) (x:World) (hx:Below (B+2) wB x)=>(Yae (o:=12+b) (by rw[←hA] at hC0;exact(hx.block B (by omega)).trans hC0) (Yc8 c (fun i=>.slice (p i) (n i) (k i)) b hb):x.cell? ⟨B,12+b,none⟩=some (.slice (p b) (n b) (k b))));have FR0:=Lib.hid (fun(h:Yah c.kind=true)=>(by unfold Yhe;rw[if_pos h]:(1:Int)=Yhe c.kind))
 have FR1:=Lib.hid (fun(h:Yah c.kind=false)=>(by unfold Yhe;rw[if_neg (by rw[h];decide)]:(0:Int)=Yhe c.kind));have IN:=Lib.hid (fun x=>Ydb c.kind x);have e2:=CK.out wB (Below.refl _ _);rw[hA];have HWA:=Lib.hid hwA;have HWB:=Lib.hid hwB;have HWC:=Lib.hid hwC;have HB:=Lib.hid hB;have HBW:=Lib.hid hbB;clear hA hY hZ hwA hwB hwC hB hC0 hC1 hbB hc UP;obtain⟨kk,hkk⟩:∃kk,c.kind=kk:=⟨_,rfl⟩
 rw[hkk] at e2 IN;rw[show Yah c.kind=Yah kk by rw[hkk]] at FR0 FR1;clear hkk;generalize Yah kk=ik at IN FR0 FR1;obtain⟨a,ha⟩:∃a,(if ik=true then (1:Int) else 0)=a:=⟨_,rfl⟩;have LW:=LV.out a (by rw[←ha];cases ik;exact FR1.out rfl;exact FR0.out rfl);clear LV FR0 FR1
 replace LW:=Lib.hid LW
 cases ik <;> (
  simp only[if_true,Bool.false_eq_true,if_false] at ha;subst ha
  go_enter Tryz.func52,Tryz.ntmps52
  go_wp2_with (rw[HWA.out,HB.out,HWB.out])
  refine(IN.out _).mono ?_;rintro e x1 ⟨rfl,rfl⟩
  go_wp2
  rw[HWC.out]
  go_loopw [5] (fun z wr=>∃i:Nat,i≤6∧z=.int .i64 i∧wr.heap[B+2]? =some (Yca 38 384 (Yfn (Yd2 c) (fun _ _=>0) i))∧Below (B+2) wB wr∧B+2+1≤wr.heap.size) (fun z _=>6-(RowKit.intOf z).toNat)
  case atStart=>exact⟨0,by omega,rfl,k2,kb,kz⟩
  case round=>
   clear k2 kb kz e2;obtain⟨i,hi6,rfl,k2,kb,kz⟩:=hrel;by_cases hlt:i<6
   ·have t0:decide ((i:Int)<6)=true:=by simp;omega
    obtain⟨er,lw⟩:=LW.out i hlt wr kb;have rs:=RS.out i;have e1:=EV.out i hlt wr kb;obtain⟨G,hG⟩:∃G,Yay (lvG (c.ev i) (Yhe c.kind)).1=G:=⟨_,rfl⟩;obtain⟨V,hV⟩:∃V,Yay (Yd2 c i)=V:=⟨_,rfl⟩;rw[hG] at lw rs;rw[hV] at rs;have HSG:(Tryz.prog.info? 36).map (·.size)=some G.size:=hG▸Yan _;have HOG:G.all (·.oneCell')=true:=hG▸Ya0 _;have HZG:Z.size=G.size:=by rw[HZZ,←hG,Yak]
    have HSV:(Tryz.prog.info? 36).map (·.size)=some V.size:=hV▸Yan _;have HV:=Lib.hid hV
    replace rs:=Lib.hid rs
    clear hG hV;generalize p i=P at lw e1;generalize n i=N at lw e1;generalize k i=K at lw e1
    go_wp2_with fail
    refine lw.mono ?_;rintro e x2 ⟨rfl,hb2⟩;have hb3:Below (B+2) wB x2:=kb.trans (hb2.mono (by omega));have j2:=(hb2.block (B+2) (by omega)).trans k2;have jz:=Nat.le_trans kz hb2.size;obtain⟨X,hX⟩:∃X,x2.heap.size=X:=⟨_,rfl⟩;obtain⟨x3,hx3⟩:∃x3,x2.alloc (.cells G 36 (0,0))=x3:=⟨_,rfl⟩;have h3:x3.heap[X]? =some (.cells G 36 (0,0)):=by rw[←hx3,←hX];exact heap_alloc_new x2 _
    have j3:x3.heap[B+2]? =some (Yca 38 384 (Yfn (Yd2 c) (fun _ _=>0) i)):=by rw[←hx3];exact Yao j2
    have hb4:Below (B+2) wB x3:=by rw[←hx3];exact hb3.alloc (by have:=hb3.size;omega) _
    have jz3:B+2+1≤x3.heap.size:=by rw[←hx3];simp;omega
    have HX:=Lib.hid hX;have HX3:=Lib.hid hx3;clear hb2 hb3 hX hx3 e1 k2 kb kz j2 jz lw
    go_wp2_with (first|(with_reducible refine Yap rfl 36 _ _ rfl G Z 36 rfl rfl HSG HZG HOG ?_;rw[HX3.out,HX.out])|(with_reducible refine wpList_load_row rfl 36 _ rfl X rfl 36 G (0,0) _ h3 Tryz.underlying36 rfl HSG ?_))
    refine(rs.out _).mono ?_;rintro e x4 ⟨rfl,hb5⟩;have m2:=(hb5.block (B+2) (by omega)).trans j3;have mb:=hb4.trans (hb5.mono (by omega));have mz:=Nat.le_trans jz3 hb5.size;clear hb4 hb5 j3 jz3 h3
    go_wp2_with (refine Ydj rfl 36 _ _ rfl (B+2) i _ (by omega) 38 (Yd2 c) (fun _ _=>0) (Yd2 c i) V HV.out rfl rfl m2 hlt (fun _ _=>rfl) HSV ?_;intro w5 hh5 hg5)
    have nb:Below (B+2) wB w5:=mb.grown hg5 (by omega) (fun k hk=>by injection hk with hk;omega);have nz:=Nat.le_trans mz hg5.size
    go_roundw
    case rel=>exact⟨i+1,by omega,by go_num,hh5.out,nb,nz⟩
    case measure=>simp[RowKit.intOf];omega
   ·obtain rfl:i=6:=by omega
    have t0:decide ((6:Int)<6)=false:=by simp
    obtain⟨V,hV⟩:∃V,arn 384 (ptF (Yd2 c))=V:=⟨_,rfl⟩;have k3:wr.heap[B+2]? =some (.cells V 38 (0,0)):=by rw[←hV,←Yig (Yd2 c) (fun _ _=>0)];exact k2
    have HSV:(Tryz.prog.info? 38).map (·.size)=some V.size:=hV▸Ya8 _;have HOV:V.all (·.oneCell')=true:=hV▸Yau _ _;have HYV:Y.size=V.size:=by rw[HYZ,←hV,Yaj]
    have F1:=Lib.hid (fun y hy=>FIN.out V y hV hy);have k1:=C1.out wr kb;have kw:Below B w wr:=HBW.out.trans (kb.mono (by omega));clear hV k2
    go_wp2_with (first|(with_reducible refine wpList_load_row rfl 38 _ rfl (B+2) rfl 38 V (0,0) _ k3 Tryz.underlying38 rfl HSV ?_)|(with_reducible refine Yad rfl 38 _ _ rfl (B+1) V Y rfl rfl 38 k1 HSV HYV HOV ?_;intro w5 hh5 hg5))
    refine bodyPost_ret (results_cell_row rfl _ _ (B+1) 38 _ (0,0) _ rfl hh5 Tryz.underlying38 rfl HSV) rfl ?_;exact F1.out _ (kw.grown hg5 (by omega) (fun k hk=>by injection hk with hk;omega))
)
set_option maxRecDepth 100000 in
set_option maxHeartbeats 2000000 in
theorem Yit (c:Cel)(p:Nat→Option Addr)(n k:Nat→Nat)(q:Int)(w:World)(hc:Yc6 w c p n):
  Calls Tryz.prog 37 #[.agg (Ycs c fun i=>.slice (p i) (n i) (k i)).toArray,.int .i64 q] w (Ycz (Ydy c q) w):=by
 obtain⟨A,hA⟩:∃A,(Ycs c fun i=>.slice (p i) (n i) (k i)).toArray=A:=⟨_,rfl⟩;have HSA:(Tryz.prog.info? 31).map (·.size)=some A.size:=hA▸Yco c _;obtain⟨Y,hY⟩:∃Y,(arn 384 fun _=>0)=Y:=⟨_,rfl⟩;have hz0:∀w,(zeroValue 38).run Tryz.prog w=.ok (.agg Y) w:=by rw[←hY];exact Ycc
 have HYZ:Y.size=384:=by rw[←hY,Yaj]
 obtain⟨B,wA,wB,hB,hwA,hwB,hzA,hzB,hC0,hC1,hbB⟩:=Yex w (.cells A 31 (0,0)) (.cells Y 38 (0,0));have UP:∀x,Below (B+2) wB x→Below w.heap.size w x:=fun x hx=>hB▸hbB.trans (hx.mono (by omega));have C0:=Lib.hid (fun(x:World) (hx:Below (B+2) wB x)=>((hx.block B (by omega)).trans hC0:x.heap[B]? =some (.cells A 31 (0,0))))
 have C1:=Lib.hid (fun(x:World) (hx:Below (B+2) wB x)=>((hx.block (B+1) (by omega)).trans hC1:x.heap[B+1]? =some (.cells Y 38 (0,0))));have CK:=Lib.hid (fun(x:World) (hx:Below (B+2) wB x)=>(Yae (o:=2) (by rw[←hA] at hC0;exact(hx.block B (by omega)).trans hC0) rfl:x.cell? ⟨B,2,none⟩=some (.int .i64 c.kind)))
 have FIN:=Lib.hid (show∀V y,arn 384 (ptF (Ydy c q))=V→Below B w y→Ycz (Ydy c q) w (.returned (.agg V)) y from fun V y hV hy=>⟨by rw[hV],by rw[hB];exact hy⟩);have LE:=Lib.hid (fun(x:World) (hx:Below (B+2) wB x)=>(by
  have h:=Yid c p n k x (hc.below (UP x hx));unfold Ycz at h;rw[hA] at h;exact h:Calls Tryz.prog 52 #[.agg A] x fun e y=>e=.returned (.agg (arn 384 (ptF (Yd2 c))))∧Below x.heap.size x y))
 have CD0:=Lib.hid (fun(b:Nat) (hb:b<6) (x:World) (hx:Below (B+2) wB x)=>(Yae (o:=6+b) (by rw[←hA] at hC0;exact(hx.block B (by omega)).trans hC0) (Yc7 c _ b hb):x.cell? ⟨B,6+b,none⟩=some (.int .i64 (c.dc b))));obtain⟨G0,hG0⟩:∃V,arn 384 (ptF (Yd2 c))=V:=⟨_,rfl⟩;rw[hG0] at LE;have HSG:(Tryz.prog.info? 38).map (·.size)=some G0.size:=hG0▸Ya8 _;have HOG:G0.all (·.oneCell')=true:=hG0▸Yau _ _
 have HYG:Y.size=G0.size:=by rw[HYZ,←hG0,Yaj]
 have HG0:=Lib.hid hG0;rw[hA];have HWA:=Lib.hid hwA;have HWB:=Lib.hid hwB;have HB:=Lib.hid hB;have HBW:=Lib.hid hbB;have c0:=C0.out wB (Below.refl _ _);clear hA hY hwA hwB hB hC0 hC1 hbB hc UP hG0 C0
 go_enter Tryz.func37,Tryz.ntmps37
 go_wp2_with (rw[HWA.out,HB.out,HWB.out];with_reducible refine wpList_load_row rfl 31 _ rfl B rfl 31 A (0,0) _ c0 Tryz.underlying31 rfl HSA ?_)
 refine(LE.out _ (Below.refl _ _)).mono ?_;rintro e x2 ⟨rfl,hb2⟩;rw[hzB] at hb2;obtain⟨X,hX⟩:∃X,x2.heap.size=X:=⟨_,rfl⟩;obtain⟨x3,hx3⟩:∃x3,x2.alloc (.cells G0 38 (0,0))=x3:=⟨_,rfl⟩;have k2:x3.heap[X]? =some (Yca 38 384 (Yfn (Ydy c q) (Yd2 c) 0)):=by
  rw[←hx3,←hX,Yfz];refine(heap_alloc_new x2 _).trans ?_;rw[←HG0.out]
  rfl
 have kb:Below (B+2) wB x3:=by rw[←hx3];exact hb2.alloc (by have:=hb2.size;omega) _
 have kz:X+1≤x3.heap.size:=by rw[←hx3];simp;omega
 have hXB:B+2≤X:=by have:=hb2.size;omega
 have HX:=Lib.hid hX;have HX3:=Lib.hid hx3;clear hb2 hX hx3 c0 hzA hzB LE
 go_wp2_with (with_reducible refine Yap rfl 38 _ _ rfl G0 Y 38 rfl rfl HSG HYG HOG ?_;rw[HX3.out,HX.out])
 go_loopw [6] (fun z wr=>∃i:Nat,i≤6∧z=.int .i64 i∧wr.heap[X]? =some (Yca 38 384 (Yfn (Ydy c q) (Yd2 c) i))∧Below (B+2) wB wr∧X+1≤wr.heap.size) (fun z _=>6-(RowKit.intOf z).toNat)
 case atStart=>exact⟨0,by omega,rfl,k2,kb,kz⟩
 case round=>
  clear k2 kb kz;obtain⟨i,hi6,rfl,k2,kb,kz⟩:=hrel;by_cases hlt:i<6
  ·have t0:decide ((i:Int)<6)=true:=by simp;omega
   obtain⟨V,hV⟩:∃V,Yay (Ydy c q i)=V:=⟨_,rfl⟩;have HSV:(Tryz.prog.info? 36).map (·.size)=some V.size:=hV▸Yan _;have HSL:=Yhc (Yd2 c i);have HV:=Lib.hid hV;have BL:=Lib.hid (fun(x:World) (hx:Below (B+2) wB x∧x.heap[X]? =some (Yca 38 384 (Yfn (Ydy c q) (Yd2 c) i))∧X+1≤x.heap.size)=>(by
    have h:=Yqq (Yd2 c i) q (Yah c.kind) (c.dc i) x;unfold Ya6 at h;rw[show Yay (Yme (Yd2 c i) q (Yah c.kind) (c.dc i))=V from hV] at h
    exact h.mono fun e y he=>⟨he.1,hx.1.trans (he.2.mono (by omega)),(he.2.block X (by omega)).trans hx.2.1,Nat.le_trans hx.2.2 he.2.size⟩:Calls Tryz.prog 53 #[.agg (Yhy (Yd2 c i)).toArray,.int .i64 q,.bool (Yah c.kind),.int .i64 (c.dc i)] x fun e y=>e=.returned (.agg V)∧(Below (B+2) wB y∧y.heap[X]? =some (Yca 38 384 (Yfn (Ydy c q) (Yd2 c) i))∧X+1≤y.heap.size)))
   have IN:=Lib.hid (fun(x:World) (hx:Below (B+2) wB x∧x.heap[X]? =some (Yca 38 384 (Yfn (Ydy c q) (Yd2 c) i))∧X+1≤x.heap.size)=>((Ydb c.kind x).mono fun e y he=>⟨he.1,he.2▸hx⟩:Calls Tryz.prog 8 #[.int .i64 c.kind] x fun e y=>e=.returned (.bool (Yah c.kind))∧(Below (B+2) wB y∧y.heap[X]? =some (Yca 38 384 (Yfn (Ydy c q) (Yd2 c) i))∧X+1≤y.heap.size)));have CD:=Lib.hid (CD0.out i hlt);have CK2:=CK
   generalize c.dc i=d at CD BL;generalize Yah c.kind=ik at IN BL;generalize c.kind=kk at IN CK2
   replace CK:=CK2
   clear CK2 hV
   go_wp2
   refine Yag (S:=fun x=>Below (B+2) wB x∧x.heap[X]? =some (Yca 38 384 (Yfn (Ydy c q) (Yd2 c) i))∧X+1≤x.heap.size) 14 (by kernel_rfl) (by kernel_rfl) ⟨kb.drew,k2,kz⟩ ?_;simp only[List.take_succ_cons,List.take_zero,List.drop_succ_cons,List.drop_zero]
   iterate 2 (refine Yab (by kernel_rfl) (fun x _=>by go_simp;try with_reducible rfl) ?_;simp only[Yaa])
   refine Yab (by kernel_rfl) (fun x _=>by go_simp;rw[if_pos (by omega)]) ?_;simp only[Yaa];refine Yh5 36 _ X (i*64) (Yhy (Yd2 c i)) _ (by kernel_rfl) rfl rfl (fun x hx=>Yi4 hx.2.1 hlt) Tryz.underlying36 rfl HSL ?_;simp only[Yaa]
   iterate 2 (refine Yab (by kernel_rfl) (fun x _=>by go_simp;try with_reducible rfl) ?_;simp only[Yaa])
   refine Yaf 3 _ ⟨B,2,none⟩ (.int .i64 kk) (by kernel_rfl) rfl rfl (fun x hx=>by have c0:=CK.out x hx.1;go_simp) ?_;simp only[Yaa];refine Yai (by kernel_rfl) IN.out (fun _=>by kernel_rfl) ?_;simp only[Yaa]
   iterate 2 (refine Yab (by kernel_rfl) (fun x _=>by go_simp;try with_reducible rfl) ?_;simp only[Yaa])
   refine Yab (by kernel_rfl) (fun x _=>by go_simp;rw[if_pos (by omega)]) ?_;simp only[Yaa];refine Yaf 3 _ ⟨B,6+i,none⟩ (.int .i64 d) (by kernel_rfl) rfl rfl (fun x hx=>by have c0:=CD.out x hx.1;go_simp) ?_;simp only[Yaa];refine Yai (by kernel_rfl) BL.out (fun _=>by kernel_rfl) ?_;simp only[Yaa];refine Yab (by kernel_rfl) (fun x _=>by go_simp;rw[if_pos (by omega)]) ?_;simp only[Yaa]
   refine Yar fun x hx=>?_;obtain⟨mb,m2,mz⟩:=hx
   go_wp2_with (refine Ydj rfl 36 _ _ rfl X i _ (by omega) 38 (Ydy c q) (Yd2 c) (Ydy c q i) V HV.out rfl rfl m2 hlt (fun _ _=>rfl) HSV ?_;intro w5 hh5 hg5)
   have nb:Below (B+2) wB w5:=mb.grown hg5 (by omega) (fun k hk=>by injection hk with hk;omega);have nz:=Nat.le_trans mz hg5.size
   go_roundw
   case rel=>exact⟨i+1,by omega,by go_num,hh5.out,nb,nz⟩
   case measure=>simp[RowKit.intOf];omega
  ·obtain rfl:i=6:=by omega
   have t0:decide ((6:Int)<6)=false:=by simp
   obtain⟨V,hV⟩:∃V,arn 384 (ptF (Ydy c q))=V:=⟨_,rfl⟩;have k3:wr.heap[X]? =some (.cells V 38 (0,0)):=by rw[←hV,←Yig (Ydy c q) (Yd2 c)];exact k2
   have HSV:(Tryz.prog.info? 38).map (·.size)=some V.size:=hV▸Ya8 _;have HOV:V.all (·.oneCell')=true:=hV▸Yau _ _;have HYV:Y.size=V.size:=by rw[HYZ,←hV,Yaj]
   have F1:=Lib.hid (fun y hy=>FIN.out V y hV hy);have k1:=C1.out wr kb;have kw:Below B w wr:=HBW.out.trans (kb.mono (by omega));clear hV k2
   go_wp2_with (first|(with_reducible refine wpList_load_row rfl 38 _ rfl (X) rfl 38 V (0,0) _ k3 Tryz.underlying38 rfl HSV ?_)|(with_reducible refine Yad rfl 38 _ _ rfl (B+1) V Y rfl rfl 38 k1 HSV HYV HOV ?_;intro w5 hh5 hg5))
   refine bodyPost_ret (results_cell_row rfl _ _ (B+1) 38 _ (0,0) _ rfl hh5 Tryz.underlying38 rfl HSV) rfl ?_;exact F1.out _ (kw.grown hg5 (by omega) (fun k hk=>by injection hk with hk;omega))
set_option maxRecDepth 100000 in
set_option maxHeartbeats 2000000 in
theorem Ypd (c:Cel)(p:Nat→Option Addr)(n k:Nat→Nat)(q:Int)(w:World)(hc:Yc6 w c p n):
  Calls Tryz.prog 26 #[.agg (Ycs c fun i=>.slice (p i) (n i) (k i)).toArray,.int .i64 q] w (Ycz (Ycx c q) w):=by
 obtain⟨A,hA⟩:∃A,(Ycs c fun i=>.slice (p i) (n i) (k i)).toArray=A:=⟨_,rfl⟩;have HSA:(Tryz.prog.info? 31).map (·.size)=some A.size:=hA▸Yco c _;obtain⟨Y,hY⟩:∃Y,(arn 384 fun _=>0)=Y:=⟨_,rfl⟩;have hz0:∀w,(zeroValue 38).run Tryz.prog w=.ok (.agg Y) w:=by rw[←hY];exact Ycc
 have HYZ:Y.size=384:=by rw[←hY,Yaj]
 obtain⟨B,wA,wB,hB,hwA,hwB,hzA,hzB,hC0,hC1,hbB⟩:=Yex w (.cells A 31 (0,0)) (.cells Y 38 (0,0));have UP:∀x,Below (B+2) wB x→Below w.heap.size w x:=fun x hx=>hB▸hbB.trans (hx.mono (by omega));have C0:=Lib.hid (fun(x:World) (hx:Below (B+2) wB x)=>((hx.block B (by omega)).trans hC0:x.heap[B]? =some (.cells A 31 (0,0))))
 have C1:=Lib.hid (fun(x:World) (hx:Below (B+2) wB x)=>((hx.block (B+1) (by omega)).trans hC1:x.heap[B+1]? =some (.cells Y 38 (0,0))));have CK:=Lib.hid (fun(x:World) (hx:Below (B+2) wB x)=>(Yae (o:=2) (by rw[←hA] at hC0;exact(hx.block B (by omega)).trans hC0) rfl:x.cell? ⟨B,2,none⟩=some (.int .i64 c.kind)))
 have FIN:=Lib.hid (show∀V y,arn 384 (ptF (Ycx c q))=V→Below B w y→Ycz (Ycx c q) w (.returned (.agg V)) y from fun V y hV hy=>⟨by rw[hV],by rw[hB];exact hy⟩);have LE:=Lib.hid (fun(x:World) (hx:Below (B+2) wB x)=>(by
  have h:=Yit c p n k q x (hc.below (UP x hx));unfold Ycz at h;rw[hA] at h;exact h:Calls Tryz.prog 37 #[.agg A,.int .i64 q] x fun e y=>e=.returned (.agg (arn 384 (ptF (Ydy c q))))∧Below x.heap.size x y))
 obtain⟨G0,hG0⟩:∃V,arn 384 (ptF (Ydy c q))=V:=⟨_,rfl⟩;rw[hG0] at LE;have HSG:(Tryz.prog.info? 38).map (·.size)=some G0.size:=hG0▸Ya8 _;have HOG:G0.all (·.oneCell')=true:=hG0▸Yau _ _;have HYG:Y.size=G0.size:=by rw[HYZ,←hG0,Yaj]
 have HG0:=Lib.hid hG0;rw[hA];have HWA:=Lib.hid hwA;have HWB:=Lib.hid hwB;have HB:=Lib.hid hB;have HBW:=Lib.hid hbB;have c0:=C0.out wB (Below.refl _ _);clear hA hY hwA hwB hB hC0 hC1 hbB hc UP hG0 C0
 go_enter Tryz.func26,Tryz.ntmps26
 go_wp2_with (rw[HWA.out,HB.out,HWB.out];with_reducible refine wpList_load_row rfl 31 _ rfl B rfl 31 A (0,0) _ c0 Tryz.underlying31 rfl HSA ?_)
 refine(LE.out _ (Below.refl _ _)).mono ?_;rintro e x2 ⟨rfl,hb2⟩;rw[hzB] at hb2;obtain⟨X,hX⟩:∃X,x2.heap.size=X:=⟨_,rfl⟩;obtain⟨x3,hx3⟩:∃x3,x2.alloc (.cells G0 38 (0,0))=x3:=⟨_,rfl⟩;have k2:x3.heap[X]? =some (Yca 38 384 (Yfn (Ycx c q) (Ydy c q) 0)):=by
  rw[←hx3,←hX,Yfz];refine(heap_alloc_new x2 _).trans ?_;rw[←HG0.out]
  rfl
 have kb:Below (B+2) wB x3:=by rw[←hx3];exact hb2.alloc (by have:=hb2.size;omega) _
 have kz:X+1≤x3.heap.size:=by rw[←hx3];simp;omega
 have hXB:B+2≤X:=by have:=hb2.size;omega
 have HX:=Lib.hid hX;have HX3:=Lib.hid hx3;clear hb2 hX hx3 c0 hzA hzB LE
 go_wp2_with (with_reducible refine Yap rfl 38 _ _ rfl G0 Y 38 rfl rfl HSG HYG HOG ?_;rw[HX3.out,HX.out])
 go_loopw [6] (fun z wr=>∃i:Nat,i≤6∧z=.int .i64 i∧wr.heap[X]? =some (Yca 38 384 (Yfn (Ycx c q) (Ydy c q) i))∧Below (B+2) wB wr∧X+1≤wr.heap.size) (fun z _=>6-(RowKit.intOf z).toNat)
 case atStart=>exact⟨0,by omega,rfl,k2,kb,kz⟩
 case round=>
  clear k2 kb kz;obtain⟨i,hi6,rfl,k2,kb,kz⟩:=hrel;by_cases hlt:i<6
  ·have t0:decide ((i:Int)<6)=true:=by simp;omega
   obtain⟨V,hV⟩:∃V,Yay (Ycx c q i)=V:=⟨_,rfl⟩;have HSV:(Tryz.prog.info? 36).map (·.size)=some V.size:=hV▸Yan _;have HSL:=Yhc (Ydy c q i);have HV:=Lib.hid hV;have ci:=Yrf (Ydy c q i) wr;unfold Ybj at ci;rw[show arn 64 (Yfw (Ydy c q i))=V from hV,show Yay (Ydy c q i)=(Yhy (Ydy c q i)).toArray from rfl] at ci;have rg:=Yi4 k2 hlt;clear hV;generalize hLL:Yhy (Ydy c q i)=LL at ci rg HSL;clear hLL
   go_wp2_with (with_reducible refine wpList_load_mid rfl 36 _ rfl X (i*64) rfl LL _ rg Tryz.underlying36 rfl HSL ?_)
   refine ci.mono ?_;rintro e x4 ⟨rfl,hb5⟩;have m2:=(hb5.block X (by omega)).trans k2;have mb:=kb.trans (hb5.mono (by omega));have mz:=Nat.le_trans kz hb5.size;clear k2 kb kz hb5 rg ci
   go_wp2_with (refine Ydj rfl 36 _ _ rfl X i _ (by omega) 38 (Ycx c q) (Ydy c q) (Ycx c q i) V HV.out rfl rfl m2 hlt (fun _ _=>rfl) HSV ?_;intro w5 hh5 hg5)
   have nb:Below (B+2) wB w5:=mb.grown hg5 (by omega) (fun k hk=>by injection hk with hk;omega);have nz:=Nat.le_trans mz hg5.size
   go_roundw
   case rel=>exact⟨i+1,by omega,by go_num,hh5.out,nb,nz⟩
   case measure=>simp[RowKit.intOf];omega
  ·obtain rfl:i=6:=by omega
   have t0:decide ((6:Int)<6)=false:=by simp
   obtain⟨V,hV⟩:∃V,arn 384 (ptF (Ycx c q))=V:=⟨_,rfl⟩;have k3:wr.heap[X]? =some (.cells V 38 (0,0)):=by rw[←hV,←Yig (Ycx c q) (Ydy c q)];exact k2
   have HSV:(Tryz.prog.info? 38).map (·.size)=some V.size:=hV▸Ya8 _;have HOV:V.all (·.oneCell')=true:=hV▸Yau _ _;have HYV:Y.size=V.size:=by rw[HYZ,←hV,Yaj]
   have F1:=Lib.hid (fun y hy=>FIN.out V y hV hy);have k1:=C1.out wr kb;have kw:Below B w wr:=HBW.out.trans (kb.mono (by omega));clear hV k2
   go_wp2_with (first|(with_reducible refine wpList_load_row rfl 38 _ rfl (X) rfl 38 V (0,0) _ k3 Tryz.underlying38 rfl HSV ?_)|(with_reducible refine Yad rfl 38 _ _ rfl (B+1) V Y rfl rfl 38 k1 HSV HYV HOV ?_;intro w5 hh5 hg5))
   refine bodyPost_ret (results_cell_row rfl _ _ (B+1) 38 _ (0,0) _ rfl hh5 Tryz.underlying38 rfl HSV) rfl ?_;exact F1.out _ (kw.grown hg5 (by omega) (fun k hk=>by injection hk with hk;omega))
end Go.Proofs.YtdnjefldijjgdaaGreatDoor