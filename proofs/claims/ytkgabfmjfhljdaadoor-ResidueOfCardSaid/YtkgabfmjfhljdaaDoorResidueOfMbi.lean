/- No condition. -/
import Derived.Test.YtkgabfmjfhljdaaDoorResidueOfMa
import Derived.Test.YtkgabfmjfhljdaaDoorResidueOfMq
import Derived.Test.YtkgabfmjfhljdaaDoorResidueOfMr
import Derived.Test.YtkgabfmjfhljdaaDoorResidueOfMt
import Derived.Test.YtkgabfmjfhljdaaDoorResidueOfMu
import Derived.Test.YtkgabfmjfhljdaaDoorResidueOfMbg
import Derived.Test.YtkgabfmjfhljdaaDoorResidueOfMbh
namespace Go.Proofs.YtkgabfmjfhljdaaDoor
open Go.RowKit Go.Lib
theorem Yhb {w:World}{X i:Nat}{T:TypeId}{F G:Nat→Nat→Int}(h:w.heap[X]? =some (Yb1 T 384 (Yef F G i)))(hi:i<6):w.rangeAt X (i*64) (Ygc (G i)):=fun j v hj=>by
 have hj64:j<64:=by
  have:=(List.getElem?_eq_some_iff.1 hj).1;rwa [Ycf] at this
 rw[Yd7 _ hj64] at hj;injection hj with hj;rw[←hj,←Yme F G i j hj64];exact Ybb h (by omega)
theorem Yfy (f:Nat→Int):(Tryd.prog.info? 30).map (·.size)=some (Ygc f).length:=by rw[Ycf];exact Yi7
def Yce (F:Nat→Nat→Int)(w:World)(e:Ending)(w':World):Prop:=e=.returned (.agg (arn 384 (ptF F)))∧Below w.heap.size w w'
set_option maxRecDepth 100000 in
set_option maxHeartbeats 2000000 in
theorem Ygm (c:Cel)(p:Nat→Option Addr)(n k:Nat→Nat)(w:World)(hc:Ycr w c p n):
  Calls Tryd.prog 10 #[.agg (Ycn c fun i=>.slice (p i) (n i) (k i)).toArray] w (Yce (Ycg c) w):=by
 obtain⟨A,hA⟩:∃A,(Ycn c fun i=>.slice (p i) (n i) (k i)).toArray=A:=⟨_,rfl⟩;have HSA:(Tryd.prog.info? 27).map (·.size)=some A.size:=hA▸Yck c _;obtain⟨Y,hY⟩:∃Y,(arn 384 fun _=>0)=Y:=⟨_,rfl⟩;have hz0:∀w,(zeroValue 32).run Tryd.prog w=.ok (.agg Y) w:=by rw[←hY];exact Yc9
 have HYZ:Y.size=384:=by rw[←hY,Yak]
 obtain⟨B,wA,wB,hB,hwA,hwB,hzA,hzB,hC0,hC1,hbB⟩:=Ydq w (.cells A 27 (0,0)) (.cells Y 32 (0,0));have UP:∀x,Below (B+2) wB x→Below w.heap.size w x:=fun x hx=>hB▸hbB.trans (hx.mono (by omega));have C0:=Lib.hid (fun(x:World) (hx:Below (B+2) wB x)=>((hx.block B (by omega)).trans hC0:x.heap[B]? =some (.cells A 27 (0,0))))
 have C1:=Lib.hid (fun(x:World) (hx:Below (B+2) wB x)=>((hx.block (B+1) (by omega)).trans hC1:x.heap[B+1]? =some (.cells Y 32 (0,0))));have CK:=Lib.hid (fun(x:World) (hx:Below (B+2) wB x)=>(Yad (o:=2) (by rw[←hA] at hC0;exact(hx.block B (by omega)).trans hC0) rfl:x.cell? ⟨B,2,none⟩=some (.int .i64 c.kind)))
 have FIN:=Lib.hid (show∀V y,arn 384 (ptF (Ycg c))=V→Below B w y→Yce (Ycg c) w (.returned (.agg V)) y from fun V y hV hy=>⟨by rw[hV],by rw[hB];exact hy⟩);obtain⟨Z,hZ⟩:∃Z,Ya0 (fun _=>0)=Z:=⟨_,rfl⟩;have hz1:∀w,(zeroValue 30).run Tryd.prog w=.ok (.agg Z) w:=by rw[←hZ];exact Ya6
 have HZZ:Z.size=64:=by rw[←hZ,Yag]
 obtain⟨wC,hwC⟩:∃wC,wB.alloc (.cells Y 32 (0,0))=wC:=⟨_,rfl⟩;have k2:wC.heap[B+2]? =some (Yb1 32 384 (Yef (Ycg c) (fun _ _=>0) 0)):=by
  rw[←hwC,←hzB,Yes,Yjn];refine(heap_alloc_new wB _).trans ?_;rw[←hY]
  rfl
 have kb:Below (B+2) wB wC:=by rw[←hwC];exact(Below.refl _ wB).alloc (by omega) _
 have kz:B+2+1≤wC.heap.size:=by rw[←hwC];simp;omega
 have LV:=Lib.hid (fun(a:Int) (ha:a=Yfk c.kind) (b:Nat) (hb:b<6) (x:World) (hx:Below (B+2) wB x)=>(by
  obtain⟨hn1,hn2,hev⟩:=hc b hb;have h:=Ye3 (p b) (c.ev b) (k b) (Yfk c.kind) x (hev.below (UP x hx)) (by omega);unfold Yc1 at h;rw[←hn1,←ha] at h;exact⟨(lvG (c.ev b) a).2,by rw[ha] at h ⊢;exact h⟩:∃er,Calls Tryd.prog 21 #[.slice (p b) (n b) (k b),.int .i64 a] x fun e y=>e=.returned (.tuple #[.agg (Ya0 (lvG (c.ev b) (Yfk c.kind)).1),.int .i64 er])∧Below x.heap.size x y))
 have RS:=Lib.hid (fun(b:Nat) (x:World)=>(by
  have h:=Yir (lvG (c.ev b) (Yfk c.kind)).1 x;unfold Yax at h;exact h:Calls Tryd.prog 22 #[.agg (Ya0 (lvG (c.ev b) (Yfk c.kind)).1)] x fun e y=>e=.returned (.agg (Ya0 (Ycg c b)))∧Below x.heap.size x y))
 have EV:=Lib.hid (fun(b:Nat) (hb:b<6) (x:World) (hx:Below (B+2) wB x)=>(Yad (o:=12+b) (by rw[←hA] at hC0;exact(hx.block B (by omega)).trans hC0) (Ycj c (fun i=>.slice (p i) (n i) (k i)) b hb):x.cell? ⟨B,12+b,none⟩=some (.slice (p b) (n b) (k b))));have FR0:=Lib.hid (fun(h:Yaf c.kind=true)=>(by unfold Yfk;rw[if_pos h]:(1:Int)=Yfk c.kind))
 have FR1:=Lib.hid (fun(h:Yaf c.kind=false)=>(by unfold Yfk;rw[if_neg (by rw[h];decide)]:(0:Int)=Yfk c.kind));have IN:=Lib.hid (fun x=>Yds c.kind x);have e2:=CK.out wB (Below.refl _ _);rw[hA];have HWA:=Lib.hid hwA;have HWB:=Lib.hid hwB;have HWC:=Lib.hid hwC;have HB:=Lib.hid hB;have HBW:=Lib.hid hbB;clear hA hY hZ hwA hwB hwC hB hC0 hC1 hbB hc UP;obtain⟨kk,hkk⟩:∃kk,c.kind=kk:=⟨_,rfl⟩
 rw[hkk] at e2 IN;rw[show Yaf c.kind=Yaf kk by rw[hkk]] at FR0 FR1;clear hkk;generalize Yaf kk=ik at IN FR0 FR1;obtain⟨a,ha⟩:∃a,(if ik=true then (1:Int) else 0)=a:=⟨_,rfl⟩;have LW:=LV.out a (by rw[←ha];cases ik;exact FR1.out rfl;exact FR0.out rfl);clear LV FR0 FR1
 replace LW:=Lib.hid LW
 cases ik <;> (
  simp only[if_true,Bool.false_eq_true,if_false] at ha;subst ha
  go_enter Tryd.func10,Tryd.ntmps10
  go_wp2_with (rw[HWA.out,HB.out,HWB.out])
  refine(IN.out _).mono ?_;rintro e x1 ⟨rfl,rfl⟩
  go_wp2
  rw[HWC.out]
  go_loopw [5] (fun z wr=>∃i:Nat,i≤6∧z=.int .i64 i∧wr.heap[B+2]? =some (Yb1 32 384 (Yef (Ycg c) (fun _ _=>0) i))∧Below (B+2) wB wr∧B+2+1≤wr.heap.size) (fun z _=>6-(RowKit.intOf z).toNat)
  case atStart=>exact⟨0,by omega,rfl,k2,kb,kz⟩
  case round=>
   clear k2 kb kz e2;obtain⟨i,hi6,rfl,k2,kb,kz⟩:=hrel;by_cases hlt:i<6
   ·have t0:decide ((i:Int)<6)=true:=by simp;omega
    obtain⟨er,lw⟩:=LW.out i hlt wr kb;have rs:=RS.out i;have e1:=EV.out i hlt wr kb;obtain⟨G,hG⟩:∃G,Ya0 (lvG (c.ev i) (Yfk c.kind)).1=G:=⟨_,rfl⟩;obtain⟨V,hV⟩:∃V,Ya0 (Ycg c i)=V:=⟨_,rfl⟩;rw[hG] at lw rs;rw[hV] at rs;have HSG:(Tryd.prog.info? 30).map (·.size)=some G.size:=hG▸Yal _;have HOG:G.all (·.oneCell')=true:=hG▸Yay _;have HZG:Z.size=G.size:=by rw[HZZ,←hG,Yag]
    have HSV:(Tryd.prog.info? 30).map (·.size)=some V.size:=hV▸Yal _;have HV:=Lib.hid hV
    replace rs:=Lib.hid rs
    clear hG hV;generalize p i=P at lw e1;generalize n i=N at lw e1;generalize k i=K at lw e1
    go_wp2_with fail
    refine lw.mono ?_;rintro e x2 ⟨rfl,hb2⟩;have hb3:Below (B+2) wB x2:=kb.trans (hb2.mono (by omega));have j2:=(hb2.block (B+2) (by omega)).trans k2;have jz:=Nat.le_trans kz hb2.size;obtain⟨X,hX⟩:∃X,x2.heap.size=X:=⟨_,rfl⟩;obtain⟨x3,hx3⟩:∃x3,x2.alloc (.cells G 30 (0,0))=x3:=⟨_,rfl⟩;have h3:x3.heap[X]? =some (.cells G 30 (0,0)):=by rw[←hx3,←hX];exact heap_alloc_new x2 _
    have j3:x3.heap[B+2]? =some (Yb1 32 384 (Yef (Ycg c) (fun _ _=>0) i)):=by rw[←hx3];exact Yai j2
    have hb4:Below (B+2) wB x3:=by rw[←hx3];exact hb3.alloc (by have:=hb3.size;omega) _
    have jz3:B+2+1≤x3.heap.size:=by rw[←hx3];simp;omega
    have HX:=Lib.hid hX;have HX3:=Lib.hid hx3;clear hb2 hb3 hX hx3 e1 k2 kb kz j2 jz lw
    go_wp2_with (first|(with_reducible refine Yaj rfl 30 _ _ rfl G Z 30 rfl rfl HSG HZG HOG ?_;rw[HX3.out,HX.out])|(with_reducible refine wpList_load_row rfl 30 _ rfl X rfl 30 G (0,0) _ h3 Tryd.underlying30 rfl HSG ?_))
    refine(rs.out _).mono ?_;rintro e x4 ⟨rfl,hb5⟩;have m2:=(hb5.block (B+2) (by omega)).trans j3;have mb:=hb4.trans (hb5.mono (by omega));have mz:=Nat.le_trans jz3 hb5.size;clear hb4 hb5 j3 jz3 h3
    go_wp2_with (refine Ycq rfl 30 _ _ rfl (B+2) i _ (by omega) 32 (Ycg c) (fun _ _=>0) (Ycg c i) V HV.out rfl rfl m2 hlt (fun _ _=>rfl) HSV ?_;intro w5 hh5 hg5)
    have nb:Below (B+2) wB w5:=mb.grown hg5 (by omega) (fun k hk=>by injection hk with hk;omega);have nz:=Nat.le_trans mz hg5.size
    go_roundw
    case rel=>exact⟨i+1,by omega,by go_num,hh5.out,nb,nz⟩
    case measure=>simp[RowKit.intOf];omega
   ·obtain rfl:i=6:=by omega
    have t0:decide ((6:Int)<6)=false:=by simp
    obtain⟨V,hV⟩:∃V,arn 384 (ptF (Ycg c))=V:=⟨_,rfl⟩;have k3:wr.heap[B+2]? =some (.cells V 32 (0,0)):=by rw[←hV,←Ygp (Ycg c) (fun _ _=>0)];exact k2
    have HSV:(Tryd.prog.info? 32).map (·.size)=some V.size:=hV▸Ybk _;have HOV:V.all (·.oneCell')=true:=hV▸Ya3 _ _;have HYV:Y.size=V.size:=by rw[HYZ,←hV,Yak]
    have F1:=Lib.hid (fun y hy=>FIN.out V y hV hy);have k1:=C1.out wr kb;have kw:Below B w wr:=HBW.out.trans (kb.mono (by omega));clear hV k2
    go_wp2_with (first|(with_reducible refine wpList_load_row rfl 32 _ rfl (B+2) rfl 32 V (0,0) _ k3 Tryd.underlying32 rfl HSV ?_)|(with_reducible refine Yae rfl 32 _ _ rfl (B+1) V Y rfl rfl 32 k1 HSV HYV HOV ?_;intro w5 hh5 hg5))
    refine bodyPost_ret (results_cell_row rfl _ _ (B+1) 32 _ (0,0) _ rfl hh5 Tryd.underlying32 rfl HSV) rfl ?_;exact F1.out _ (kw.grown hg5 (by omega) (fun k hk=>by injection hk with hk;omega))
)
set_option maxRecDepth 100000 in
set_option maxHeartbeats 2000000 in
theorem Yg0 (c:Cel)(p:Nat→Option Addr)(n k:Nat→Nat)(q:Int)(w:World)(hc:Ycr w c p n):
  Calls Tryd.prog 11 #[.agg (Ycn c fun i=>.slice (p i) (n i) (k i)).toArray,.int .i64 q] w (Yce (Yc0 c q) w):=by
 obtain⟨A,hA⟩:∃A,(Ycn c fun i=>.slice (p i) (n i) (k i)).toArray=A:=⟨_,rfl⟩;have HSA:(Tryd.prog.info? 27).map (·.size)=some A.size:=hA▸Yck c _;obtain⟨Y,hY⟩:∃Y,(arn 384 fun _=>0)=Y:=⟨_,rfl⟩;have hz0:∀w,(zeroValue 32).run Tryd.prog w=.ok (.agg Y) w:=by rw[←hY];exact Yc9
 have HYZ:Y.size=384:=by rw[←hY,Yak]
 obtain⟨B,wA,wB,hB,hwA,hwB,hzA,hzB,hC0,hC1,hbB⟩:=Ydq w (.cells A 27 (0,0)) (.cells Y 32 (0,0));have UP:∀x,Below (B+2) wB x→Below w.heap.size w x:=fun x hx=>hB▸hbB.trans (hx.mono (by omega));have C0:=Lib.hid (fun(x:World) (hx:Below (B+2) wB x)=>((hx.block B (by omega)).trans hC0:x.heap[B]? =some (.cells A 27 (0,0))))
 have C1:=Lib.hid (fun(x:World) (hx:Below (B+2) wB x)=>((hx.block (B+1) (by omega)).trans hC1:x.heap[B+1]? =some (.cells Y 32 (0,0))));have CK:=Lib.hid (fun(x:World) (hx:Below (B+2) wB x)=>(Yad (o:=2) (by rw[←hA] at hC0;exact(hx.block B (by omega)).trans hC0) rfl:x.cell? ⟨B,2,none⟩=some (.int .i64 c.kind)))
 have FIN:=Lib.hid (show∀V y,arn 384 (ptF (Yc0 c q))=V→Below B w y→Yce (Yc0 c q) w (.returned (.agg V)) y from fun V y hV hy=>⟨by rw[hV],by rw[hB];exact hy⟩);have LE:=Lib.hid (fun(x:World) (hx:Below (B+2) wB x)=>(by
  have h:=Ygm c p n k x (hc.below (UP x hx));unfold Yce at h;rw[hA] at h;exact h:Calls Tryd.prog 10 #[.agg A] x fun e y=>e=.returned (.agg (arn 384 (ptF (Ycg c))))∧Below x.heap.size x y))
 have CD0:=Lib.hid (fun(b:Nat) (hb:b<6) (x:World) (hx:Below (B+2) wB x)=>(Yad (o:=6+b) (by rw[←hA] at hC0;exact(hx.block B (by omega)).trans hC0) (Yci c _ b hb):x.cell? ⟨B,6+b,none⟩=some (.int .i64 (c.dc b))));obtain⟨G0,hG0⟩:∃V,arn 384 (ptF (Ycg c))=V:=⟨_,rfl⟩;rw[hG0] at LE;have HSG:(Tryd.prog.info? 32).map (·.size)=some G0.size:=hG0▸Ybk _;have HOG:G0.all (·.oneCell')=true:=hG0▸Ya3 _ _
 have HYG:Y.size=G0.size:=by rw[HYZ,←hG0,Yak]
 have HG0:=Lib.hid hG0;rw[hA];have HWA:=Lib.hid hwA;have HWB:=Lib.hid hwB;have HB:=Lib.hid hB;have HBW:=Lib.hid hbB;have c0:=C0.out wB (Below.refl _ _);clear hA hY hwA hwB hB hC0 hC1 hbB hc UP hG0 C0
 go_enter Tryd.func11,Tryd.ntmps11
 go_wp2_with (rw[HWA.out,HB.out,HWB.out];with_reducible refine wpList_load_row rfl 27 _ rfl B rfl 27 A (0,0) _ c0 Tryd.underlying27 rfl HSA ?_)
 refine(LE.out _ (Below.refl _ _)).mono ?_;rintro e x2 ⟨rfl,hb2⟩;rw[hzB] at hb2;obtain⟨X,hX⟩:∃X,x2.heap.size=X:=⟨_,rfl⟩;obtain⟨x3,hx3⟩:∃x3,x2.alloc (.cells G0 32 (0,0))=x3:=⟨_,rfl⟩;have k2:x3.heap[X]? =some (Yb1 32 384 (Yef (Yc0 c q) (Ycg c) 0)):=by
  rw[←hx3,←hX,Yes];refine(heap_alloc_new x2 _).trans ?_;rw[←HG0.out]
  rfl
 have kb:Below (B+2) wB x3:=by rw[←hx3];exact hb2.alloc (by have:=hb2.size;omega) _
 have kz:X+1≤x3.heap.size:=by rw[←hx3];simp;omega
 have hXB:B+2≤X:=by have:=hb2.size;omega
 have HX:=Lib.hid hX;have HX3:=Lib.hid hx3;clear hb2 hX hx3 c0 hzA hzB LE
 go_wp2_with (with_reducible refine Yaj rfl 32 _ _ rfl G0 Y 32 rfl rfl HSG HYG HOG ?_;rw[HX3.out,HX.out])
 go_loopw [6] (fun z wr=>∃i:Nat,i≤6∧z=.int .i64 i∧wr.heap[X]? =some (Yb1 32 384 (Yef (Yc0 c q) (Ycg c) i))∧Below (B+2) wB wr∧X+1≤wr.heap.size) (fun z _=>6-(RowKit.intOf z).toNat)
 case atStart=>exact⟨0,by omega,rfl,k2,kb,kz⟩
 case round=>
  clear k2 kb kz;obtain⟨i,hi6,rfl,k2,kb,kz⟩:=hrel;by_cases hlt:i<6
  ·have t0:decide ((i:Int)<6)=true:=by simp;omega
   obtain⟨V,hV⟩:∃V,Ya0 (Yc0 c q i)=V:=⟨_,rfl⟩;have HSV:(Tryd.prog.info? 30).map (·.size)=some V.size:=hV▸Yal _;have HSL:=Yfy (Ycg c i);have HV:=Lib.hid hV;have BL:=Lib.hid (fun(x:World) (hx:Below (B+2) wB x∧x.heap[X]? =some (Yb1 32 384 (Yef (Yc0 c q) (Ycg c) i))∧X+1≤x.heap.size)=>(by
    have h:=Ynk (Ycg c i) q (Yaf c.kind) (c.dc i) x;unfold Yax at h;rw[show Ya0 (Yiz (Ycg c i) q (Yaf c.kind) (c.dc i))=V from hV] at h
    exact h.mono fun e y he=>⟨he.1,hx.1.trans (he.2.mono (by omega)),(he.2.block X (by omega)).trans hx.2.1,Nat.le_trans hx.2.2 he.2.size⟩:Calls Tryd.prog 23 #[.agg (Ygc (Ycg c i)).toArray,.int .i64 q,.bool (Yaf c.kind),.int .i64 (c.dc i)] x fun e y=>e=.returned (.agg V)∧(Below (B+2) wB y∧y.heap[X]? =some (Yb1 32 384 (Yef (Yc0 c q) (Ycg c) i))∧X+1≤y.heap.size)))
   have IN:=Lib.hid (fun(x:World) (hx:Below (B+2) wB x∧x.heap[X]? =some (Yb1 32 384 (Yef (Yc0 c q) (Ycg c) i))∧X+1≤x.heap.size)=>((Yds c.kind x).mono fun e y he=>⟨he.1,he.2▸hx⟩:Calls Tryd.prog 20 #[.int .i64 c.kind] x fun e y=>e=.returned (.bool (Yaf c.kind))∧(Below (B+2) wB y∧y.heap[X]? =some (Yb1 32 384 (Yef (Yc0 c q) (Ycg c) i))∧X+1≤y.heap.size)));have CD:=Lib.hid (CD0.out i hlt);have CK2:=CK
   generalize c.dc i=d at CD BL;generalize Yaf c.kind=ik at IN BL;generalize c.kind=kk at IN CK2
   replace CK:=CK2
   clear CK2 hV
   go_wp2
   refine Yar (S:=fun x=>Below (B+2) wB x∧x.heap[X]? =some (Yb1 32 384 (Yef (Yc0 c q) (Ycg c) i))∧X+1≤x.heap.size) 14 (by kernel_rfl) (by kernel_rfl) ⟨kb.drew,k2,kz⟩ ?_;simp only[List.take_succ_cons,List.take_zero,List.drop_succ_cons,List.drop_zero]
   iterate 2 (refine Yab (by kernel_rfl) (fun x _=>by go_simp;try with_reducible rfl) ?_;simp only[Yaa])
   refine Yab (by kernel_rfl) (fun x _=>by go_simp;rw[if_pos (by omega)]) ?_;simp only[Yaa];refine Ynp 30 _ X (i*64) (Ygc (Ycg c i)) _ (by kernel_rfl) rfl rfl (fun x hx=>Yhb hx.2.1 hlt) Tryd.underlying30 rfl HSL ?_;simp only[Yaa]
   iterate 2 (refine Yab (by kernel_rfl) (fun x _=>by go_simp;try with_reducible rfl) ?_;simp only[Yaa])
   refine Yat 3 _ ⟨B,2,none⟩ (.int .i64 kk) (by kernel_rfl) rfl rfl (fun x hx=>by have c0:=CK.out x hx.1;go_simp) ?_;simp only[Yaa];refine Yav (by kernel_rfl) IN.out (fun _=>by kernel_rfl) ?_;simp only[Yaa]
   iterate 2 (refine Yab (by kernel_rfl) (fun x _=>by go_simp;try with_reducible rfl) ?_;simp only[Yaa])
   refine Yab (by kernel_rfl) (fun x _=>by go_simp;rw[if_pos (by omega)]) ?_;simp only[Yaa];refine Yat 3 _ ⟨B,6+i,none⟩ (.int .i64 d) (by kernel_rfl) rfl rfl (fun x hx=>by have c0:=CD.out x hx.1;go_simp) ?_;simp only[Yaa];refine Yav (by kernel_rfl) BL.out (fun _=>by kernel_rfl) ?_;simp only[Yaa];refine Yab (by kernel_rfl) (fun x _=>by go_simp;rw[if_pos (by omega)]) ?_;simp only[Yaa]
   refine Ybu fun x hx=>?_;obtain⟨mb,m2,mz⟩:=hx
   go_wp2_with (refine Ycq rfl 30 _ _ rfl X i _ (by omega) 32 (Yc0 c q) (Ycg c) (Yc0 c q i) V HV.out rfl rfl m2 hlt (fun _ _=>rfl) HSV ?_;intro w5 hh5 hg5)
   have nb:Below (B+2) wB w5:=mb.grown hg5 (by omega) (fun k hk=>by injection hk with hk;omega);have nz:=Nat.le_trans mz hg5.size
   go_roundw
   case rel=>exact⟨i+1,by omega,by go_num,hh5.out,nb,nz⟩
   case measure=>simp[RowKit.intOf];omega
  ·obtain rfl:i=6:=by omega
   have t0:decide ((6:Int)<6)=false:=by simp
   obtain⟨V,hV⟩:∃V,arn 384 (ptF (Yc0 c q))=V:=⟨_,rfl⟩;have k3:wr.heap[X]? =some (.cells V 32 (0,0)):=by rw[←hV,←Ygp (Yc0 c q) (Ycg c)];exact k2
   have HSV:(Tryd.prog.info? 32).map (·.size)=some V.size:=hV▸Ybk _;have HOV:V.all (·.oneCell')=true:=hV▸Ya3 _ _;have HYV:Y.size=V.size:=by rw[HYZ,←hV,Yak]
   have F1:=Lib.hid (fun y hy=>FIN.out V y hV hy);have k1:=C1.out wr kb;have kw:Below B w wr:=HBW.out.trans (kb.mono (by omega));clear hV k2
   go_wp2_with (first|(with_reducible refine wpList_load_row rfl 32 _ rfl (X) rfl 32 V (0,0) _ k3 Tryd.underlying32 rfl HSV ?_)|(with_reducible refine Yae rfl 32 _ _ rfl (B+1) V Y rfl rfl 32 k1 HSV HYV HOV ?_;intro w5 hh5 hg5))
   refine bodyPost_ret (results_cell_row rfl _ _ (B+1) 32 _ (0,0) _ rfl hh5 Tryd.underlying32 rfl HSV) rfl ?_;exact F1.out _ (kw.grown hg5 (by omega) (fun k hk=>by injection hk with hk;omega))
set_option maxRecDepth 100000 in
set_option maxHeartbeats 2000000 in
theorem Ymj (c:Cel)(p:Nat→Option Addr)(n k:Nat→Nat)(q:Int)(w:World)(hc:Ycr w c p n):
  Calls Tryd.prog 13 #[.agg (Ycn c fun i=>.slice (p i) (n i) (k i)).toArray,.int .i64 q] w (Yce (Ydt c q) w):=by
 obtain⟨A,hA⟩:∃A,(Ycn c fun i=>.slice (p i) (n i) (k i)).toArray=A:=⟨_,rfl⟩;have HSA:(Tryd.prog.info? 27).map (·.size)=some A.size:=hA▸Yck c _;obtain⟨Y,hY⟩:∃Y,(arn 384 fun _=>0)=Y:=⟨_,rfl⟩;have hz0:∀w,(zeroValue 32).run Tryd.prog w=.ok (.agg Y) w:=by rw[←hY];exact Yc9
 have HYZ:Y.size=384:=by rw[←hY,Yak]
 obtain⟨B,wA,wB,hB,hwA,hwB,hzA,hzB,hC0,hC1,hbB⟩:=Ydq w (.cells A 27 (0,0)) (.cells Y 32 (0,0));have UP:∀x,Below (B+2) wB x→Below w.heap.size w x:=fun x hx=>hB▸hbB.trans (hx.mono (by omega));have C0:=Lib.hid (fun(x:World) (hx:Below (B+2) wB x)=>((hx.block B (by omega)).trans hC0:x.heap[B]? =some (.cells A 27 (0,0))))
 have C1:=Lib.hid (fun(x:World) (hx:Below (B+2) wB x)=>((hx.block (B+1) (by omega)).trans hC1:x.heap[B+1]? =some (.cells Y 32 (0,0))));have CK:=Lib.hid (fun(x:World) (hx:Below (B+2) wB x)=>(Yad (o:=2) (by rw[←hA] at hC0;exact(hx.block B (by omega)).trans hC0) rfl:x.cell? ⟨B,2,none⟩=some (.int .i64 c.kind)))
 have FIN:=Lib.hid (show∀V y,arn 384 (ptF (Ydt c q))=V→Below B w y→Yce (Ydt c q) w (.returned (.agg V)) y from fun V y hV hy=>⟨by rw[hV],by rw[hB];exact hy⟩);have LE:=Lib.hid (fun(x:World) (hx:Below (B+2) wB x)=>(by
  have h:=Yg0 c p n k q x (hc.below (UP x hx));unfold Yce at h;rw[hA] at h;exact h:Calls Tryd.prog 11 #[.agg A,.int .i64 q] x fun e y=>e=.returned (.agg (arn 384 (ptF (Yc0 c q))))∧Below x.heap.size x y))
 obtain⟨G0,hG0⟩:∃V,arn 384 (ptF (Yc0 c q))=V:=⟨_,rfl⟩;rw[hG0] at LE;have HSG:(Tryd.prog.info? 32).map (·.size)=some G0.size:=hG0▸Ybk _;have HOG:G0.all (·.oneCell')=true:=hG0▸Ya3 _ _;have HYG:Y.size=G0.size:=by rw[HYZ,←hG0,Yak]
 have HG0:=Lib.hid hG0;rw[hA];have HWA:=Lib.hid hwA;have HWB:=Lib.hid hwB;have HB:=Lib.hid hB;have HBW:=Lib.hid hbB;have c0:=C0.out wB (Below.refl _ _);clear hA hY hwA hwB hB hC0 hC1 hbB hc UP hG0 C0
 go_enter Tryd.func13,Tryd.ntmps13
 go_wp2_with (rw[HWA.out,HB.out,HWB.out];with_reducible refine wpList_load_row rfl 27 _ rfl B rfl 27 A (0,0) _ c0 Tryd.underlying27 rfl HSA ?_)
 refine(LE.out _ (Below.refl _ _)).mono ?_;rintro e x2 ⟨rfl,hb2⟩;rw[hzB] at hb2;obtain⟨X,hX⟩:∃X,x2.heap.size=X:=⟨_,rfl⟩;obtain⟨x3,hx3⟩:∃x3,x2.alloc (.cells G0 32 (0,0))=x3:=⟨_,rfl⟩;have k2:x3.heap[X]? =some (Yb1 32 384 (Yef (Ydt c q) (Yc0 c q) 0)):=by
  rw[←hx3,←hX,Yes];refine(heap_alloc_new x2 _).trans ?_;rw[←HG0.out]
  rfl
 have kb:Below (B+2) wB x3:=by rw[←hx3];exact hb2.alloc (by have:=hb2.size;omega) _
 have kz:X+1≤x3.heap.size:=by rw[←hx3];simp;omega
 have hXB:B+2≤X:=by have:=hb2.size;omega
 have HX:=Lib.hid hX;have HX3:=Lib.hid hx3;clear hb2 hX hx3 c0 hzA hzB LE
 go_wp2_with (with_reducible refine Yaj rfl 32 _ _ rfl G0 Y 32 rfl rfl HSG HYG HOG ?_;rw[HX3.out,HX.out])
 go_loopw [6] (fun z wr=>∃i:Nat,i≤6∧z=.int .i64 i∧wr.heap[X]? =some (Yb1 32 384 (Yef (Ydt c q) (Yc0 c q) i))∧Below (B+2) wB wr∧X+1≤wr.heap.size) (fun z _=>6-(RowKit.intOf z).toNat)
 case atStart=>exact⟨0,by omega,rfl,k2,kb,kz⟩
 case round=>
  clear k2 kb kz;obtain⟨i,hi6,rfl,k2,kb,kz⟩:=hrel;by_cases hlt:i<6
  ·have t0:decide ((i:Int)<6)=true:=by simp;omega
   obtain⟨V,hV⟩:∃V,Ya0 (Ydt c q i)=V:=⟨_,rfl⟩;have HSV:(Tryd.prog.info? 30).map (·.size)=some V.size:=hV▸Yal _;have HSL:=Yfy (Yc0 c q i);have HV:=Lib.hid hV;have ci:=Yn6 (Yc0 c q i) wr;unfold Ya8 at ci;rw[show arn 64 (Yeq (Yc0 c q i))=V from hV,show Ya0 (Yc0 c q i)=(Ygc (Yc0 c q i)).toArray from rfl] at ci;have rg:=Yhb k2 hlt;clear hV;generalize hLL:Ygc (Yc0 c q i)=LL at ci rg HSL;clear hLL
   go_wp2_with (with_reducible refine wpList_load_mid rfl 30 _ rfl X (i*64) rfl LL _ rg Tryd.underlying30 rfl HSL ?_)
   refine ci.mono ?_;rintro e x4 ⟨rfl,hb5⟩;have m2:=(hb5.block X (by omega)).trans k2;have mb:=kb.trans (hb5.mono (by omega));have mz:=Nat.le_trans kz hb5.size;clear k2 kb kz hb5 rg ci
   go_wp2_with (refine Ycq rfl 30 _ _ rfl X i _ (by omega) 32 (Ydt c q) (Yc0 c q) (Ydt c q i) V HV.out rfl rfl m2 hlt (fun _ _=>rfl) HSV ?_;intro w5 hh5 hg5)
   have nb:Below (B+2) wB w5:=mb.grown hg5 (by omega) (fun k hk=>by injection hk with hk;omega);have nz:=Nat.le_trans mz hg5.size
   go_roundw
   case rel=>exact⟨i+1,by omega,by go_num,hh5.out,nb,nz⟩
   case measure=>simp[RowKit.intOf];omega
  ·obtain rfl:i=6:=by omega
   have t0:decide ((6:Int)<6)=false:=by simp
   obtain⟨V,hV⟩:∃V,arn 384 (ptF (Ydt c q))=V:=⟨_,rfl⟩;have k3:wr.heap[X]? =some (.cells V 32 (0,0)):=by rw[←hV,←Ygp (Ydt c q) (Yc0 c q)];exact k2
   have HSV:(Tryd.prog.info? 32).map (·.size)=some V.size:=hV▸Ybk _;have HOV:V.all (·.oneCell')=true:=hV▸Ya3 _ _;have HYV:Y.size=V.size:=by rw[HYZ,←hV,Yak]
   have F1:=Lib.hid (fun y hy=>FIN.out V y hV hy);have k1:=C1.out wr kb;have kw:Below B w wr:=HBW.out.trans (kb.mono (by omega));clear hV k2
   go_wp2_with (first|(with_reducible refine wpList_load_row rfl 32 _ rfl (X) rfl 32 V (0,0) _ k3 Tryd.underlying32 rfl HSV ?_)|(with_reducible refine Yae rfl 32 _ _ rfl (B+1) V Y rfl rfl 32 k1 HSV HYV HOV ?_;intro w5 hh5 hg5))
   refine bodyPost_ret (results_cell_row rfl _ _ (B+1) 32 _ (0,0) _ rfl hh5 Tryd.underlying32 rfl HSV) rfl ?_;exact F1.out _ (kw.grown hg5 (by omega) (fun k hk=>by injection hk with hk;omega))
end Go.Proofs.YtkgabfmjfhljdaaDoor