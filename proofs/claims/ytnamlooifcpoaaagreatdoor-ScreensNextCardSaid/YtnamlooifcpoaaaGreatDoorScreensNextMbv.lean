/- No condition. -/
import Derived.Test.YtnamlooifcpoaaaGreatDoorScreensNextMa
import Derived.Test.YtnamlooifcpoaaaGreatDoorScreensNextMy
import Derived.Test.YtnamlooifcpoaaaGreatDoorScreensNextMba
import Derived.Lib.SliceRun
namespace Go.Proofs.YtnamlooifcpoaaaGreatDoor
open Go.RowKit Go.Lib
theorem Yvn {n:Nat}(f:Nat→Int){i:Nat}(h:i<n):((byL n f).map (Value.int .u8))[i]? =some (.int .u8 (f i)):=by simp[byL,h]
theorem Yn0 (n:Nat)(f:Nat→Int):((byL n f).map (Value.int .u8)).length=n:=by rw[List.length_map,Ymh]
theorem Yxd {w:World}{base n:Nat}{v:Value}{f:Nat→Int}(hn:0<n)(hr:∀i,i<n→0≤f i∧f i≤255)(h:w.ownsRow base 5 1 v n ((byL n f).map (Value.int .u8))):∃g,base≤g∧Ydg w v g n f:=by
 rcases h.2 with ⟨_,h0⟩|⟨g,cap,cur,rfl,hg,hh,hc,_,_,ht⟩
 ·omega
 ·refine⟨g,hg,cap,rfl,hc,fun i hi=>⟨?_,frozen_of_row w g i _ _ hh,hr i hi⟩⟩;rw[cell_of_row w g i _ _ _ hh];rw[Nat.mul_one] at ht;have e:=congrArg (fun l=>l[i]?) ht;simp only[Yvn f hi,List.getElem?_take,if_pos hi] at e
  simpa using e
set_option maxRecDepth 100000 in
set_option maxHeartbeats 2000000 in
theorem Ys7 (v:Value)(g n:Nat)(f:Nat→Int)(w:World)(h:Ydg w v g n f)(hn:0<n)(hm:n≤1073741824):
  Calls Tryz.prog 59 #[v] w fun e w'=>∃v' R,e=.returned v'∧w.heap.size≤R∧Ydg w' v' R n f∧Below w.heap.size w w':=by
 obtain⟨c,rfl,hc,h⟩:=h;have HR:=Lib.hid (fun i (hi:i<n)=>(h i hi).2.2);obtain⟨i0,hi,hz0,hz1,hz2⟩:=info_parts (show (Tryz.prog.info? 5).map (fun i=>(i.zero,i.size,i.bytes))=some (some (Value.int IntKind.u8 0),1,1) by kernel_rfl)
 have q22:∀(w:World) (a:Option Addr) (n c n' c':Nat),(binOp .eql 22 (.slice a n c) (.slice none n' c')).run Tryz.prog w=.ok (.bool a.isNone) w:=fun w a n c n' c'=>Lib.run_eql_slice_nil w _ _ a n c n' c' Tryz.underlying22;have A:=Lib.hid (fun i (hi:i<n)=>(h i hi).1);clear h
 go_enter Tryz.func59,Tryz.ntmps59
 go_wp2_with (at_builtin;refine wpList_append_own _ rfl _ _ 22 rfl w.heap.size 5 i0 (.int .u8 0) 1 1 Tryz.underlying22 hi hz0 hz1 hz2 rfl (by decide) _ _ _ rfl (World.ownsRow_made w #[] 0 (Nat.le_refl _) (Nat.zero_le _) rfl) ⟨g,0,none⟩ n c ((byL n f).map (Value.int .u8)) rfl ?qc1 ?qc2 ?qc3 ?qc4 ?qc5 ?qc6 ?_)
 case qc1=>rw[Yn0];omega
 case qc2=>
  intro j u hj;have hjn:j<n:=by
   have:=(List.getElem?_eq_some_iff.1 hj).1;rwa [Yn0] at this
  have e1:(⟨g,0,none⟩:Addr).add j=⟨g,j,none⟩:=by unfold Addr.add;split <;> simp_all
  rw[Yvn f hjn] at hj;injection hj with hj;subst hj;rw[e1];exact(((Below.refl _ w).alloc (Nat.le_refl _) _).cell (p:=⟨g,j,none⟩) (World.block_lt_of_cell? w ⟨g,j,none⟩ (A.out j hjn))).trans (A.out j hjn)
 case qc3=>intro u hu;obtain⟨x,_,rfl⟩:=List.mem_map.1 hu;rfl
 case qc4=>unfold maxLen;omega
 case qc5=>omega
 case qc6=>simp
 intro v' w1 hown hgrow _
 go_wp2
 go_ret
 obtain⟨R,hR,hO⟩:=Yxd hn HR.out (by simpa using hown);exact⟨v',R,rfl,hR,hO,((Below.refl _ w).alloc (Nat.le_refl _) _).grown hgrow (by simp) (by intro k hk;simp[Value.ownBlock] at hk;omega)⟩
theorem Yjl:Yax 0 0 255=0:=by decide +kernel
structure Yl2 (w:World) (lo C:Nat) (k:Int) (v:Nat→Value) (g:Nat→Nat) (f:Nat→Nat→Int):Prop where
 there:w.heap[C]? =some (frO 98 k v)
 own:Ybu w lo v g (siz k) f
 low:lo≤C
 far:∀p,p<3→C≠g p
theorem Yl2.below {w w':World}{lo C:Nat}{k:Int}{v:Nat→Value}{g:Nat→Nat}{f:Nat→Nat→Int}(h:Yl2 w lo C k v g f)(hk:Yb6 k=true)(hb:Below w.heap.size w w'):Yl2 w' lo C k v g f:=
 ⟨(hb.block C (Array.getElem?_eq_some_iff.1 h.there).1).trans h.there,h.own.below (fun p _=>Yb4 hk p) hb,h.low,h.far⟩
set_option maxRecDepth 1000000 in
set_option maxHeartbeats 8000000 in
theorem Y2g (k:Int)(w:World)(hk:Yb6 k=true):Calls Tryz.prog 29 #[.int .i64 k] w fun e w'=>∃C v g,e=.returned (.tuple #[.pointer (some ⟨C,0,none⟩),.int .i64 0])∧Yl2 w' w.heap.size C k v g (fun _ _=>0)∧Below w.heap.size w w':=by
 have c1:=Yxj k 0 w hk;rw[Yjl] at c1;have hFz:∀w,(zeroValue 25).run Tryz.prog w=.ok (.agg (frA 0 Ycf)) w:=Yg1;have hYs:(frA 0 Ycf).size=4:=rfl;generalize frA 0 Ycf=Y at *
 go_enter Tryz.func29,Tryz.ntmps29
 go_wp2_with fail
 refine c1.mono ?_;rintro e x ⟨v,g,rfl,hO,hb⟩;have hHN:∀p,p<3→0<siz k p:=fun p _=>Yb4 hk p;have HSV:=Ya1 Ybh k v;have HOV:=Ycx k v hO.ones;have HYV:Y.size=(frA k v).size:=hYs;obtain⟨x1,hx1⟩:∃x1,x.alloc (.cells (frA k v) 25 (0,0))=x1:=⟨_,rfl⟩;have h1:x1.heap[x.heap.size]? =some (frO 25 k v):=by rw[←hx1];exact heap_alloc_new x _
 have hb1:Below x.heap.size x x1:=by rw[←hx1];exact(Below.refl _ x).alloc (Nat.le_refl _) _
 have hO1:=hO.below hHN hb1;have ck:=Ybn h1;have p0:=Yce h1 (p:=0) (by omega);have p1:=Yce h1 (p:=1) (by omega);have p2:=Yce h1 (p:=2) (by omega);have HW1:=Lib.hid hx1;have hlt:∀p,p<3→g p<x1.heap.size:=fun p hp=>(hO1.pl p hp).lt (hHN p hp)
 have REL:=Lib.hid (⟨heap_alloc_new x1 _,hO1.below hHN ((Below.refl _ x1).alloc (Nat.le_refl _) _),by have:=hb.size;have:=hb1.size;omega,fun p hp=>by have:=hlt p hp;omega⟩:Yl2 (x1.alloc (.cells (frA k v) 98 (0,0))) w.heap.size x1.heap.size k v g (fun _ _=>0));have RB:=Lib.hid ((hb.trans (hb1.mono hb.size)).alloc (by have:=hb.size;have:=hb1.size;omega) (.cells (frA k v) 98 (0,0)))
 unfold frA frL at REL RB;obtain⟨Z,hZ⟩:∃Z,frA k v=Z:=⟨_,rfl⟩;rw[hZ] at HSV HOV HYV HW1;rw[hZ];clear hx1 hZ h1 hb1 hO1 hO hb hlt hYs
 go_wp2_with (with_reducible refine Yai rfl 25 _ _ rfl Z Y 25 rfl rfl HSV HYV HOV ?_;rw[HW1.out])
 go_ret2
 exact⟨_,v,g,rfl,REL.out,RB.out⟩
set_option maxRecDepth 1000000 in
set_option maxHeartbeats 8000000 in
theorem Ytg (k:Int)(lo C:Nat)(v:Nat→Value)(g:Nat→Nat)(f:Nat→Nat→Int)(w:World)(hk:Yb6 k=true)(hc:Yl2 w lo C k v g f):
  Calls Tryz.prog 32 #[.pointer (some ⟨C,0,none⟩)] w (Yft k f w):=by
 have HN:=Lib.hid (fun p=>Yb4 hk p);have HM:=Lib.hid (fun p=>Ydx k p);obtain⟨B,hB⟩:∃B,w.heap.size=B:=⟨_,rfl⟩;have hC:=hc.there;have hCs:C<B:=by rw[←hB];exact(Array.getElem?_eq_some_iff.1 hC).1
 obtain⟨wA,hwA⟩:∃wA,w.alloc (.cells (frA 0 Ycf) 25 (0,0))=wA:=⟨_,rfl⟩;obtain⟨wB,hwB⟩:∃wB,wA.alloc (.cells (frA k Ycf) 25 (0,0))=wB:=⟨_,rfl⟩;have hzA:wA.heap.size=B+1:=by rw[←hwA,←hB];simp
 have hzB:wB.heap.size=B+2:=by rw[←hwB];simp[hzA]
 have hC0:wB.heap[B]? =some (frO 25 0 Ycf):=by rw[←hwB];refine Yap ?_;rw[←hwA,←hB];exact heap_alloc_new w _
 have hC1:wB.heap[B+1]? =some (frO 25 k Ycf):=by rw[←hwB,←hzA];exact heap_alloc_new wA _
 have hbC:Below B w wB:=by rw[←hwB,←hwA,←hB];exact((Below.refl _ w).alloc (Nat.le_refl _) _).alloc (by simp) _
 have HCC:=Lib.hid (fun(x:World) (hx:Below B w x)=>(hx.block C hCs).trans hC);have HO:=Lib.hid (fun(x:World) (hx:Below B w x)=>hc.own.below (fun p _=>Yb4 hk p) (by rw[hB];exact hx));have HP0:=Lib.hid (Ykh.none wB (B+2) (fun _=>0) (siz k) f);have HIX:=Lib.hid (fun p (hp:p<3) w=>Yiy v hp w);have ck:=Ybn (HCC.out wB hbC);have p0:=Yce (HCC.out wB hbC) (p:=0) (by omega)
 have p1:=Yce (HCC.out wB hbC) (p:=1) (by omega);have p2:=Yce (HCC.out wB hbC) (p:=2) (by omega);have ckA:wA.cell? ⟨C,0,none⟩=some (.int .i64 k):=by
  rw[←hwA];exact Ybn (T:=98) (v:=v) (Yap hC)
 have ckW:(w.alloc (.cells (frA 0 Ycf) 25 (0,0))).cell? ⟨C,0,none⟩=some (.int .i64 k):=by rw[hwA];exact ckA
 unfold frA frL Ycf at hwA hwB ckW;rw[←hwB,←hwA] at p0 p1 p2;have HWA:=Lib.hid hwA;have HWB:=Lib.hid hwB;have HB:=Lib.hid hB;clear hwA hwB hB hC hk hc hzA
 go_enter Tryz.func32,Tryz.ntmps32
 go_wp2
 rw[HWA.out,HB.out,HWB.out];clear p0 p1 p2 ck ckA ckW
 go_loopw [20] (fun z wr=>∃i:Nat,i≤3∧z=.int .i64 i∧∃v' g',wr.heap[B]? =some (frO 25 0 Ycf)∧wr.heap[B+1]? =some (frO 25 k v')∧Ykh wr (B+2) v' g' (siz k) f i∧Below B w wr∧B+2≤wr.heap.size) (fun z _=>3-(RowKit.intOf z).toNat)
 case atStart=>exact⟨0,by omega,rfl,Ycf,fun _=>0,hC0,hC1,HP0.out,hbC,by omega⟩
 case round=>
  clear hC0 hC1 hbC hzB HP0;obtain⟨i,hi,rfl,v',g',h0,h1,hP,hb,hz⟩:=hrel;by_cases hlt:i<3
  ·have t0:decide ((i:Int)<3)=true:=by simp;omega
   have hix:=fun w=>HIX.out i hlt w;have hOi:=(HO.out wr hb).pl i hlt;have hn0:=HN.out i;have hnm:=HM.out i
   go_wp2_with fail
   refine(Ys7 (v i) (g i) (siz k i) (f i) _ hOi hn0 (by omega)).mono ?_;rintro e w3 ⟨x,R,rfl,hR,hx,hbx⟩;obtain⟨cx,hxe⟩:∃c,x=.slice (some ⟨R,0,none⟩) (siz k i) c:=by
    obtain⟨c,h,_⟩:=hx;exact⟨c,h⟩
   subst hxe;have h03:=(hbx.block B (by omega)).trans h0;have h13:=(hbx.block (B+1) (by omega)).trans h1;have cc:=Yce h13 hlt;have ff:=Yp3 h13 (1+i);generalize hNE:siz k i=N at *
   have PUT:=Lib.hid (⟨Y0t v' i (.slice (some ⟨R,0,none⟩) N cx),_,Yat h03 (by simp),Ywe h13 hlt _,(hP.next HN.out hbx hz (by rw[hNE];exact hx) hR).set (by simp) _,(hb.trans (hbx.mono (by omega))).setCell (by simp) _,by have:=hbx.size;simp[World.setCell];omega⟩:∃v' g',(w3.setCell ⟨B+1,1+i,none⟩ (.slice (some ⟨R,0,none⟩) N cx)).heap[B]? =some (frO 25 0 Ycf)∧(w3.setCell ⟨B+1,1+i,none⟩ (.slice (some ⟨R,0,none⟩) N cx)).heap[B+1]? =some (frO 25 k v')∧Ykh (w3.setCell ⟨B+1,1+i,none⟩ (.slice (some ⟨R,0,none⟩) N cx)) (B+2) v' g' (siz k) f (i+1)∧Below B w (w3.setCell ⟨B+1,1+i,none⟩ (.slice (some ⟨R,0,none⟩) N cx))∧B+2≤(w3.setCell ⟨B+1,1+i,none⟩ (.slice (some ⟨R,0,none⟩) N cx)).heap.size)
   clear h03 h13 hbx hx hP h0 h1 hb hOi hNE
   go_wp2
   go_roundw
   case rel=>exact⟨i+1,by omega,by go_num,PUT.out⟩
   case measure=>simp[RowKit.intOf];omega
  ·obtain rfl:i=3:=by omega
   have t0:decide ((3:Int)<3)=false:=by simp
   have hA:=hP.all;have HSV:=Ya1 Ybh k v';have HOV:=Ycx k v' hA.ones;have HYV:(frA 0 Ycf).size=(frA k v').size:=rfl;have h0':wr.heap[B]? =some (.cells (frA 0 Ycf) 25 (0,0)):=h0;have h1':wr.heap[B+1]? =some (.cells (frA k v') 25 (0,0)):=h1;have HA:=Lib.hid hA;clear h0 h1 hA hP;obtain⟨Z,hZ⟩:∃Z,frA k v'=Z:=⟨_,rfl⟩;rw[hZ] at HSV HOV HYV h1';have HZ:=Lib.hid hZ;clear hZ;generalize frA 0 Ycf=Y at *
   go_wp2_with (first|(with_reducible refine wpList_load_row rfl 25 _ rfl (B+1) rfl 25 Z (0,0) _ h1' Tryz.underlying25 rfl HSV ?_)|(with_reducible refine Yae rfl 25 _ _ rfl B Z Y rfl rfl 25 h0' HSV HYV HOV ?_;intro w2 hh2 hg2))
   refine bodyPost_ret (results_cell_row rfl _ _ B 25 _ (0,0) _ rfl hh2 Tryz.underlying25 rfl HSV) rfl ?_;refine⟨v',g',by rw[HZ.out],?_,?_⟩
   ·rw[HB.out];refine(HA.out.mono (by omega)).keep fun p hp=>hg2.block _ ((HA.out.pl p hp).lt (HN.out p)) ?_;have:=HA.out.from_ p hp;intro e;injection e with e;omega
   ·rw[HB.out];exact hb.grown hg2 (by omega) (fun k hk=>by injection hk with hk;omega)
theorem Ywt (k:Int)(m:Nat)(pt:Nat→Int)(f:Nat→Nat→Int)(b i:Nat)(hi:i<64)(p j:Nat):
  (if p=plc b∧j=pos k m b i then Yax (pt (64*b+i)) 0 255 else Ygi k m pt f (64*b+i) p j)=Ygi k m pt f (64*b+(i+1)) p j:=by
 show _=(if p=plc ((64*b+i) / 64)∧j=pos k m ((64*b+i) / 64) ((64*b+i)%64) then Yax (pt (64*b+i)) 0 255 else Ygi k m pt f (64*b+i) p j);rw[show (64*b+i) / 64=b by omega,show (64*b+i)%64=i by omega]
set_option maxRecDepth 1000000 in
set_option maxHeartbeats 8000000 in
theorem Yzz (k:Int)(lo:Nat)(v:Nat→Value)(g:Nat→Nat)(f:Nat→Nat→Int)(m:Nat)(pt:Nat→Int)(w:World)(hO:Ybu w lo v g (siz k) f)(hm:m<Ybg k):
  Calls Tryz.prog 24 #[.agg (frA k v),.int .i64 (m:Int),.agg (arn 384 pt)] w fun e w'=>e=.returned (.tuple #[])∧Yb3 g w w'∧Ybu w' lo v g (siz k) (Ygi k m pt f 384):=by
 have hHN:∀p,p<3→0<siz k p:=fun p _=>Yb4 (Yn2 hm) p;have HN:=Lib.hid hHN;have hgs:∀p,p<3→g p<w.heap.size:=fun p hp=>(hO.pl p hp).lt (hHN p hp);have HGS:=Lib.hid hgs;obtain⟨B,wA,wB,hB,hwA,hwB,hzA,hzB,hC0,hC1,hbC⟩:=Yej w (.cells (frA k v) 25 (0,0)) (.cells (arn 384 pt) 62 (0,0))
 replace hC0:wB.heap[B]? =some (frO 25 k v):=hC0
 replace hC1:wB.heap[B+1]? =some (ptO pt):=hC1
 have hOB:=hO.below hHN (by rw[hB];exact hbC);have hKB:Yb3 g w wB:=Yb3.of_below (by rw[hB];exact hbC);have CP:=Lib.hid (fun b i (hb:b<6) (hi:i<64) x=>Ylf k m b i x hm hb hi);have CW:=Lib.hid (fun b (hb:b<6) x=>Yhu k (plc b) (Ygd hb) x);have CC:=Lib.hid (fun n x=>Ybm n 0 255 x)
 have HPI:=Lib.hid (fun b i (hb:b<6) (hi:i<64)=>(⟨Ym0 k m b i,Y3m hm hb hi⟩:(8*lin k m b+i / 8)*wid k (plc b)+(8*col k m b+i%8)=pos k m b i∧pos k m b i<siz k (plc b)));have HSM:=Lib.hid (fun p=>Ydx k p);generalize frA k v=X at *;generalize arn 384 pt=Y at *;have HWA:=Lib.hid hwA;have HWB:=Lib.hid hwB;have HB:=Lib.hid hB;clear hwA hwB hB hO hHN hgs hzA
 go_enter Tryz.func24,Tryz.ntmps24
 go_wp2
 rw[HWA.out,HB.out,HWB.out]
 go_loopw [6] (fun z wr=>∃b:Nat,b≤6∧z=.int .i64 b∧wr.heap[B]? =some (frO 25 k v)∧wr.heap[B+1]? =some (ptO pt)∧Ybu wr lo v g (siz k) (Ygi k m pt f (64*b))∧Yb3 g w wr∧B+2≤wr.heap.size) (fun z _=>6-(RowKit.intOf z).toNat)
 case atStart=>exact⟨0,by omega,rfl,hC0,hC1,hOB,hKB,by omega⟩
 case round=>
  clear hC0 hC1 hbC hzB hOB hKB;obtain⟨b,hb6,rfl,h0,h1,hO,hK,hz⟩:=hrel;generalize wr=wo at *;by_cases hlt:b<6
  ·have t0:decide ((b:Int)<6)=true:=by simp;omega
   go_wp2
   go_loopw [7] (fun z wr=>∃i:Nat,i≤64∧z=.int .i64 i∧wr.heap[B]? =some (frO 25 k v)∧wr.heap[B+1]? =some (ptO pt)∧Ybu wr lo v g (siz k) (Ygi k m pt f (64*b+i))∧Yb3 g w wr∧B+2≤wr.heap.size) (fun z _=>64-(RowKit.intOf z).toNat)
   case atStart=>exact⟨0,by omega,rfl,h0,h1,hO,hK,hz⟩
   case round=>
    clear h0 h1 hO hK hz;obtain⟨i,hi64,rfl,h0,h1,hO,hK,hz⟩:=hrel;by_cases hli:i<64
    ·have t1:decide ((i:Int)<64)=true:=by simp;omega
     have cp:=fun x=>CP.out b i hlt hli x;have ck:=Ybn h0;obtain⟨hpe,hpl⟩:=HPI.out b i hlt hli;have hP3:=Ygd hlt;have hnm:=HSM.out (plc b)
     go_wp2_with fail
     refine(cp _).mono ?_;rintro e x ⟨rfl,hx⟩;have g0:=(hx.block B (by omega)).trans h0;have g1:=(hx.block (B+1) (by omega)).trans h1;have gO:=hO.below HN.out hx;have gK:=hK.trans (Yb3.of_below hx);have gz:B+2≤x.heap.size:=by have:=hx.size;omega
     obtain⟨cv,hv,hcv,hcell⟩:=gO.pl _ hP3;have HKC:=Lib.hid (fun(y:World) (hy:Below x.heap.size x y)=>Ybn ((hy.block B (by omega)).trans g0));have HVC:=Lib.hid (fun(y:World) (hy:Below x.heap.size x y)=>((Yce ((hy.block B (by omega)).trans g0) hP3).trans (by rw[hv]):y.cell? ⟨B,1+plc b,none⟩=some (.slice (some ⟨g (plc b),0,none⟩) (siz k (plc b)) cv)))
     have HPC:=Lib.hid (fun(y:World) (hy:Below x.heap.size x y)=>Ybt (T:=62) (i:=b*64+i) ((hy.block (B+1) (by omega)).trans g1) (by omega))
     have C1:=Lib.hid (fun(y:World) (hy:Below x.heap.size x y)=>((CW.out b hlt y).mono fun e z h=>⟨h.1,hy.trans (h.2.mono hy.size)⟩:Calls Tryz.prog 38 #[.int .i64 k,.int .i64 (plc b:Int)] y fun e z=>e=.returned (.int .i64 (wid k (plc b):Int))∧Below x.heap.size x z))
     have C2:=Lib.hid (fun(y:World) (hy:Below x.heap.size x y)=>((CC.out (pt (b*64+i)) y).mono fun e z h=>⟨h.1,h.2▸hy⟩:Calls Tryz.prog 40 #[.int .i64 (pt (b*64+i)),.int .i64 0,.int .i64 255] y fun e z=>e=.returned (.int .i64 (Yax (pt (b*64+i)) 0 255))∧Below x.heap.size x z))
     have HGE:=Lib.hid (fun(y:World) (hy:Below x.heap.size x y)=>(⟨(hy.block B (by omega)).trans g0,(hy.block (B+1) (by omega)).trans g1,gO.below HN.out hy,gK.trans (Yb3.of_below hy),by have:=hy.size;omega⟩:y.heap[B]? =some (frO 25 k v)∧y.heap[B+1]? =some (ptO pt)∧Ybu y lo v g (siz k) (Ygi k m pt f (64*b+i))∧Yb3 g w y∧B+2≤y.heap.size))
     have hr:0≤Yax (pt (b*64+i)) 0 255∧Yax (pt (b*64+i)) 0 255≤255:=⟨Ybl _ _ _,Ybk _ _ _ (by omega)⟩;have hu:IntKind.u8.wrap (Yax (pt (b*64+i)) 0 255)=Yax (pt (b*64+i)) 0 255:=by rw[IntKind.wrap_u8];omega
     have hgB:g (plc b)<B:=by rw[←HB.out];exact HGS.out _ hP3
     have HNX:=Lib.hid (fun p j=>Ywt k m pt f b i hli p j);rw[show 64*b+i=b*64+i by omega] at HNX;generalize Yax (pt (b*64+i)) 0 255=zc at C2 hr hu HNX;generalize pt (b*64+i)=za at C2 HPC;generalize 8*col k m b+i%8=xx at *;generalize 8*lin k m b+i / 8=yy at *;obtain⟨mm,hmm⟩:∃mm,yy*wid k (plc b)=mm:=⟨_,rfl⟩;rw[hmm] at hpe
     have M:(yy:Int)*(wid k (plc b):Int)=(mm:Int):=by rw[←hmm];exact(Int.natCast_mul _ _).symm
     have S:(mm:Int)+(xx:Int)=(pos k m b i:Int):=by omega
     have W1:IntKind.i64.wrap (mm:Int)=(mm:Int):=Ya7 (by omega);have W2:IntKind.i64.wrap (pos k m b i:Int)=(pos k m b i:Int):=Ya7 (by omega);have HPO:=Lib.hid hpl;generalize hPG:plc b=P at *;generalize hPS:pos k m b i=q at *;generalize wid k P=W at *;generalize siz k P=N at hpl hnm HVC;clear hmm h0 h1 hO hK hz g0 g1 gO gK gz hv hcell cp ck hx
     go_wp2
     refine Yaf (S:=fun y=>Below x.heap.size x y) 20 (by kernel_rfl) (by kernel_rfl) (Below.refl _ _).drew ?_;simp only[List.take_succ_cons,List.take_zero,List.drop_succ_cons,List.drop_zero];refine Yab (v:=?v0) (by kernel_rfl) ?m ?_;(case m=>(intro x _;go_simp;try with_reducible rfl));simp only[Yaa];refine Yab (v:=?v1) (by kernel_rfl) ?m ?_;(case m=>(intro x _;go_simp;try with_reducible rfl))
     simp only[Yaa];refine Yab (v:=?v2) (by kernel_rfl) ?m ?_;(case m=>(intro x _;go_simp;rw[if_pos (by omega)]));simp only[Yaa];refine Yag 22 _ ⟨B,1+P,none⟩ (.slice (some ⟨g P,0,none⟩) N cv) (by kernel_rfl) rfl rfl (fun x hx=>by have c0:=(HVC.out x hx);go_simp) ?_;simp only[Yaa];refine Yab (v:=?v4) (by kernel_rfl) ?m ?_;(case m=>(intro x _;go_simp;try with_reducible rfl));simp only[Yaa]
     refine Yab (v:=?v5) (by kernel_rfl) ?m ?_;(case m=>(intro x _;go_simp;try with_reducible rfl));simp only[Yaa];refine Yag 3 _ ⟨B,0,none⟩ (.int .i64 k) (by kernel_rfl) rfl rfl (fun x hx=>by have c0:=(HKC.out x hx);go_simp) ?_;simp only[Yaa];refine Yab (v:=?v7) (by kernel_rfl) ?m ?_;(case m=>(intro x _;go_simp;try with_reducible rfl));simp only[Yaa]
     refine Yah (by kernel_rfl) C1.out (fun _=>by kernel_rfl) ?_;simp only[Yaa];refine Yab (v:=?v9) (by kernel_rfl) ?m ?_;(case m=>(intro x _;go_simp;try with_reducible rfl));simp only[Yaa];refine Yab (v:=?v10) (by kernel_rfl) ?m ?_;(case m=>(intro x _;go_simp;try with_reducible rfl));simp only[Yaa];refine Yab (v:=?v11) (by kernel_rfl) ?m ?_;(case m=>(intro x _;go_simp;try with_reducible rfl))
     simp only[Yaa];refine Yab (v:=?v12) (by kernel_rfl) ?m ?_;(case m=>(intro x _;go_simp;try with_reducible rfl));simp only[Yaa];refine Yab (v:=?v13) (by kernel_rfl) ?m ?_;(case m=>(intro x _;go_simp;try with_reducible rfl));simp only[Yaa];refine Yab (v:=?v14) (by kernel_rfl) ?m ?_;(case m=>(intro x _;go_simp;rw[if_pos (by omega)]));simp only[Yaa]
     refine Yab (v:=?v15) (by kernel_rfl) ?m ?_;(case m=>(intro x _;go_simp;rw[if_pos (by omega)]));simp only[Yaa];refine Yag 3 _ ⟨B+1,b*64+i,none⟩ (.int .i64 za) (by kernel_rfl) rfl rfl (fun x hx=>by have c0:=(HPC.out x hx);go_simp) ?_;simp only[Yaa];refine Yah (by kernel_rfl) C2.out (fun _=>by kernel_rfl) ?_;simp only[Yaa]
     refine Yab (v:=?v18) (by kernel_rfl) ?m ?_;(case m=>(intro x _;go_simp;try with_reducible rfl));simp only[Yaa];refine Yab (v:=?v19) (by kernel_rfl) ?m ?_;(case m=>(intro x _;go_simp;try with_reducible rfl));simp only[Yaa];refine Yar fun x2 hx=>?_;obtain⟨g0,g1,gO,gK,gz⟩:=HGE.out x2 hx;obtain⟨cz,-,-,hcell⟩:=gO.pl P hP3;obtain⟨cc,ff,-⟩:=hcell q HPO.out
     have n0:=(heap_setCell_other x2 ⟨g P,q,none⟩ B (.int .u8 zc) (by show B≠g P;omega)).trans g0;have n1:=(heap_setCell_other x2 ⟨g P,q,none⟩ (B+1) (.int .u8 zc) (by show B+1≠g P;omega)).trans g1;have nO:=(gO.set hP3 q zc hr HPO.out).congr (f':=Ygi k m pt f (64*b+(i+1))) (fun p _ j _=>by
      rw[←HNX.out p j,show b*64+i=64*b+i by omega])
     have nK:=gK.trans (Yb3.of_grown hP3 rfl (Ya8 x2 ⟨g P,q,none⟩ (.int .u8 zc)));have nz:B+2≤(x2.setCell ⟨g P,q,none⟩ (.int .u8 zc)).heap.size:=by simp[World.setCell];omega
     have REL:=Lib.hid (⟨n0,n1,nO,nK,nz⟩:(x2.setCell ⟨g P,q,none⟩ (.int .u8 zc)).heap[B]? =some (frO 25 k v)∧(x2.setCell ⟨g P,q,none⟩ (.int .u8 zc)).heap[B+1]? =some (ptO pt)∧Ybu (x2.setCell ⟨g P,q,none⟩ (.int .u8 zc)) lo v g (siz k) (Ygi k m pt f (64*b+(i+1)))∧Yb3 g w (x2.setCell ⟨g P,q,none⟩ (.int .u8 zc))∧B+2≤(x2.setCell ⟨g P,q,none⟩ (.int .u8 zc)).heap.size)
     clear n0 n1 nO nK nz g0 g1 gO gK gz hcell hx
     go_wp2
     go_roundw
     case rel=>exact⟨i+1,by omega,by go_num,REL.out⟩
     case measure=>simp[RowKit.intOf];omega
    ·obtain rfl:i=64:=by omega
     have t1:decide ((64:Int)<64)=false:=by simp
     have hO':Ybu wr lo v g (siz k) (Ygi k m pt f (64*(b+1))):=hO;clear hO
     go_wp2
     go_roundw
     case rel=>exact⟨b+1,by omega,by go_num,h0,h1,hO',hK,hz⟩
     case measure=>simp[RowKit.intOf];omega
  ·obtain rfl:b=6:=by omega
   have t0:decide ((6:Int)<6)=false:=by simp
   have hO':Ybu wo lo v g (siz k) (Ygi k m pt f 384):=hO;clear hO
   go_wp2
   go_end0
   exact⟨rfl,hK,hO'⟩
end Go.Proofs.YtnamlooifcpoaaaGreatDoor