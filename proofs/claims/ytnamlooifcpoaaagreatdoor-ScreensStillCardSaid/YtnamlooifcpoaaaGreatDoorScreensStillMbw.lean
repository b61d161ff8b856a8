/- No condition. -/
import Derived.Test.YtnamlooifcpoaaaGreatDoorScreensStillMx
import Derived.Test.YtnamlooifcpoaaaGreatDoorScreensStillMz
import Derived.Lib.SliceRun
namespace Go.Proofs.YtnamlooifcpoaaaGreatDoor
open Go.RowKit Go.Lib
theorem Yr3 {n:Nat}(f:Nat→Int){i:Nat}(h:i<n):((byL n f).map (Value.int .u8))[i]? =some (.int .u8 (f i)):=by simp[byL,h]
theorem Yli (n:Nat)(f:Nat→Int):((byL n f).map (Value.int .u8)).length=n:=by rw[List.length_map,Yj7]
theorem Ytn {w:World}{base n:Nat}{v:Value}{f:Nat→Int}(hn:0<n)(hr:∀i,i<n→0≤f i∧f i≤255)(h:w.ownsRow base 5 1 v n ((byL n f).map (Value.int .u8))):∃g,base≤g∧Yc7 w v g n f:=by
 rcases h.2 with ⟨_,h0⟩|⟨g,cap,cur,rfl,hg,hh,hc,_,_,ht⟩
 ·omega
 ·refine⟨g,hg,cap,rfl,hc,fun i hi=>⟨?_,frozen_of_row w g i _ _ hh,hr i hi⟩⟩;rw[cell_of_row w g i _ _ _ hh];rw[Nat.mul_one] at ht;have e:=congrArg (fun l=>l[i]?) ht;simp only[Yr3 f hi,List.getElem?_take,if_pos hi] at e
  simpa using e
set_option maxRecDepth 100000 in
set_option maxHeartbeats 2000000 in
theorem Ypt (v:Value)(g n:Nat)(f:Nat→Int)(w:World)(h:Yc7 w v g n f)(hn:0<n)(hm:n≤1073741824):
  Calls Tryz.prog 59 #[v] w fun e w'=>∃v' R,e=.returned v'∧w.heap.size≤R∧Yc7 w' v' R n f∧Below w.heap.size w w':=by
 obtain⟨c,rfl,hc,h⟩:=h;have HR:=Lib.hid (fun i (hi:i<n)=>(h i hi).2.2);obtain⟨i0,hi,hz0,hz1,hz2⟩:=info_parts (show (Tryz.prog.info? 5).map (fun i=>(i.zero,i.size,i.bytes))=some (some (Value.int IntKind.u8 0),1,1) by kernel_rfl)
 have q22:∀(w:World) (a:Option Addr) (n c n' c':Nat),(binOp .eql 22 (.slice a n c) (.slice none n' c')).run Tryz.prog w=.ok (.bool a.isNone) w:=fun w a n c n' c'=>Lib.run_eql_slice_nil w _ _ a n c n' c' Tryz.underlying22;have A:=Lib.hid (fun i (hi:i<n)=>(h i hi).1);clear h
 go_enter Tryz.func59,Tryz.ntmps59
 go_wp2_with (at_builtin;refine wpList_append_own _ rfl _ _ 22 rfl w.heap.size 5 i0 (.int .u8 0) 1 1 Tryz.underlying22 hi hz0 hz1 hz2 rfl (by decide) _ _ _ rfl (World.ownsRow_made w #[] 0 (Nat.le_refl _) (Nat.zero_le _) rfl) ⟨g,0,none⟩ n c ((byL n f).map (Value.int .u8)) rfl ?qc1 ?qc2 ?qc3 ?qc4 ?qc5 ?qc6 ?_)
 case qc1=>rw[Yli];omega
 case qc2=>
  intro j u hj;have hjn:j<n:=by
   have:=(List.getElem?_eq_some_iff.1 hj).1;rwa [Yli] at this
  have e1:(⟨g,0,none⟩:Addr).add j=⟨g,j,none⟩:=by unfold Addr.add;split <;> simp_all
  rw[Yr3 f hjn] at hj;injection hj with hj;subst hj;rw[e1];exact(((Below.refl _ w).alloc (Nat.le_refl _) _).cell (p:=⟨g,j,none⟩) (World.block_lt_of_cell? w ⟨g,j,none⟩ (A.out j hjn))).trans (A.out j hjn)
 case qc3=>intro u hu;obtain⟨x,_,rfl⟩:=List.mem_map.1 hu;rfl
 case qc4=>unfold maxLen;omega
 case qc5=>omega
 case qc6=>simp
 intro v' w1 hown hgrow _
 go_wp2
 go_ret
 obtain⟨R,hR,hO⟩:=Ytn hn HR.out (by simpa using hown);exact⟨v',R,rfl,hR,hO,((Below.refl _ w).alloc (Nat.le_refl _) _).grown hgrow (by simp) (by intro k hk;simp[Value.ownBlock] at hk;omega)⟩
theorem Yng:Yay 0 0 255=0:=by decide +kernel
structure Yjx (w:World) (lo C:Nat) (k:Int) (v:Nat→Value) (g:Nat→Nat) (f:Nat→Nat→Int):Prop where
 there:w.heap[C]? =some (frO 98 k v)
 own:Yb0 w lo v g (siz k) f
 low:lo≤C
 far:∀p,p<3→C≠g p
theorem Yjx.below {w w':World}{lo C:Nat}{k:Int}{v:Nat→Value}{g:Nat→Nat}{f:Nat→Nat→Int}(h:Yjx w lo C k v g f)(hk:Ybr k=true)(hb:Below w.heap.size w w'):Yjx w' lo C k v g f:=
 ⟨(hb.block C (Array.getElem?_eq_some_iff.1 h.there).1).trans h.there,h.own.below (fun p _=>Yby hk p) hb,h.low,h.far⟩
set_option maxRecDepth 1000000 in
set_option maxHeartbeats 8000000 in
theorem Yy7 (k:Int)(w:World)(hk:Ybr k=true):Calls Tryz.prog 29 #[.int .i64 k] w fun e w'=>∃C v g,e=.returned (.tuple #[.pointer (some ⟨C,0,none⟩),.int .i64 0])∧Yjx w' w.heap.size C k v g (fun _ _=>0)∧Below w.heap.size w w':=by
 have c1:=Ytr k 0 w hk;rw[Yng] at c1;have hFz:∀w,(zeroValue 25).run Tryz.prog w=.ok (.agg (frA 0 Ycc)) w:=Yf9;have hYs:(frA 0 Ycc).size=4:=rfl;generalize frA 0 Ycc=Y at *
 go_enter Tryz.func29,Tryz.ntmps29
 go_wp2_with fail
 refine c1.mono ?_;rintro e x ⟨v,g,rfl,hO,hb⟩;have hHN:∀p,p<3→0<siz k p:=fun p _=>Yby hk p;have HSV:=Ya0 Ybf k v;have HOV:=Ycv k v hO.ones;have HYV:Y.size=(frA k v).size:=hYs;obtain⟨x1,hx1⟩:∃x1,x.alloc (.cells (frA k v) 25 (0,0))=x1:=⟨_,rfl⟩;have h1:x1.heap[x.heap.size]? =some (frO 25 k v):=by rw[←hx1];exact heap_alloc_new x _
 have hb1:Below x.heap.size x x1:=by rw[←hx1];exact(Below.refl _ x).alloc (Nat.le_refl _) _
 have hO1:=hO.below hHN hb1;have ck:=Ybj h1;have p0:=Yco h1 (p:=0) (by omega);have p1:=Yco h1 (p:=1) (by omega);have p2:=Yco h1 (p:=2) (by omega);have HW1:=Lib.hid hx1;have hlt:∀p,p<3→g p<x1.heap.size:=fun p hp=>(hO1.pl p hp).lt (hHN p hp)
 have REL:=Lib.hid (⟨heap_alloc_new x1 _,hO1.below hHN ((Below.refl _ x1).alloc (Nat.le_refl _) _),by have:=hb.size;have:=hb1.size;omega,fun p hp=>by have:=hlt p hp;omega⟩:Yjx (x1.alloc (.cells (frA k v) 98 (0,0))) w.heap.size x1.heap.size k v g (fun _ _=>0));have RB:=Lib.hid ((hb.trans (hb1.mono hb.size)).alloc (by have:=hb.size;have:=hb1.size;omega) (.cells (frA k v) 98 (0,0)))
 unfold frA frL at REL RB;obtain⟨Z,hZ⟩:∃Z,frA k v=Z:=⟨_,rfl⟩;rw[hZ] at HSV HOV HYV HW1;rw[hZ];clear hx1 hZ h1 hb1 hO1 hO hb hlt hYs
 go_wp2_with (with_reducible refine Yaf rfl 25 _ _ rfl Z Y 25 rfl rfl HSV HYV HOV ?_;rw[HW1.out])
 go_ret2
 exact⟨_,v,g,rfl,REL.out,RB.out⟩
set_option maxRecDepth 1000000 in
set_option maxHeartbeats 8000000 in
theorem Yp0 (k:Int)(lo C:Nat)(v:Nat→Value)(g:Nat→Nat)(f:Nat→Nat→Int)(w:World)(hk:Ybr k=true)(hc:Yjx w lo C k v g f):
  Calls Tryz.prog 32 #[.pointer (some ⟨C,0,none⟩)] w (Yro k f w):=by
 have HN:=Lib.hid (fun p=>Yby hk p);have HM:=Lib.hid (fun p=>Yeu k p);obtain⟨B,hB⟩:∃B,w.heap.size=B:=⟨_,rfl⟩;have hC:=hc.there;have hCs:C<B:=by rw[←hB];exact(Array.getElem?_eq_some_iff.1 hC).1
 obtain⟨wA,hwA⟩:∃wA,w.alloc (.cells (frA 0 Ycc) 25 (0,0))=wA:=⟨_,rfl⟩;obtain⟨wB,hwB⟩:∃wB,wA.alloc (.cells (frA k Ycc) 25 (0,0))=wB:=⟨_,rfl⟩;have hzA:wA.heap.size=B+1:=by rw[←hwA,←hB];simp
 have hzB:wB.heap.size=B+2:=by rw[←hwB];simp[hzA]
 have hC0:wB.heap[B]? =some (frO 25 0 Ycc):=by rw[←hwB];refine Yaq ?_;rw[←hwA,←hB];exact heap_alloc_new w _
 have hC1:wB.heap[B+1]? =some (frO 25 k Ycc):=by rw[←hwB,←hzA];exact heap_alloc_new wA _
 have hbC:Below B w wB:=by rw[←hwB,←hwA,←hB];exact((Below.refl _ w).alloc (Nat.le_refl _) _).alloc (by simp) _
 have HCC:=Lib.hid (fun(x:World) (hx:Below B w x)=>(hx.block C hCs).trans hC);have HO:=Lib.hid (fun(x:World) (hx:Below B w x)=>hc.own.below (fun p _=>Yby hk p) (by rw[hB];exact hx));have HP0:=Lib.hid (Yjy.none wB (B+2) (fun _=>0) (siz k) f);have HIX:=Lib.hid (fun p (hp:p<3) w=>Ygz v hp w);have ck:=Ybj (HCC.out wB hbC);have p0:=Yco (HCC.out wB hbC) (p:=0) (by omega)
 have p1:=Yco (HCC.out wB hbC) (p:=1) (by omega);have p2:=Yco (HCC.out wB hbC) (p:=2) (by omega);have ckA:wA.cell? ⟨C,0,none⟩=some (.int .i64 k):=by
  rw[←hwA];exact Ybj (T:=98) (v:=v) (Yaq hC)
 have ckW:(w.alloc (.cells (frA 0 Ycc) 25 (0,0))).cell? ⟨C,0,none⟩=some (.int .i64 k):=by rw[hwA];exact ckA
 unfold frA frL Ycc at hwA hwB ckW;rw[←hwB,←hwA] at p0 p1 p2;have HWA:=Lib.hid hwA;have HWB:=Lib.hid hwB;have HB:=Lib.hid hB;clear hwA hwB hB hC hk hc hzA
 go_enter Tryz.func32,Tryz.ntmps32
 go_wp2
 rw[HWA.out,HB.out,HWB.out];clear p0 p1 p2 ck ckA ckW
 go_loopw [20] (fun z wr=>∃i:Nat,i≤3∧z=.int .i64 i∧∃v' g',wr.heap[B]? =some (frO 25 0 Ycc)∧wr.heap[B+1]? =some (frO 25 k v')∧Yjy wr (B+2) v' g' (siz k) f i∧Below B w wr∧B+2≤wr.heap.size) (fun z _=>3-(RowKit.intOf z).toNat)
 case atStart=>exact⟨0,by omega,rfl,Ycc,fun _=>0,hC0,hC1,HP0.out,hbC,by omega⟩
 case round=>
  clear hC0 hC1 hbC hzB HP0;obtain⟨i,hi,rfl,v',g',h0,h1,hP,hb,hz⟩:=hrel;by_cases hlt:i<3
  ·have t0:decide ((i:Int)<3)=true:=by simp;omega
   have hix:=fun w=>HIX.out i hlt w;have hOi:=(HO.out wr hb).pl i hlt;have hn0:=HN.out i;have hnm:=HM.out i
   go_wp2_with fail
   refine(Ypt (v i) (g i) (siz k i) (f i) _ hOi hn0 (by omega)).mono ?_;rintro e w3 ⟨x,R,rfl,hR,hx,hbx⟩;obtain⟨cx,hxe⟩:∃c,x=.slice (some ⟨R,0,none⟩) (siz k i) c:=by
    obtain⟨c,h,_⟩:=hx;exact⟨c,h⟩
   subst hxe;have h03:=(hbx.block B (by omega)).trans h0;have h13:=(hbx.block (B+1) (by omega)).trans h1;have cc:=Yco h13 hlt;have ff:=Ysr h13 (1+i);generalize hNE:siz k i=N at *
   have PUT:=Lib.hid (⟨Yx3 v' i (.slice (some ⟨R,0,none⟩) N cx),_,Yba h03 (by simp),Yxz h13 hlt _,(hP.next HN.out hbx hz (by rw[hNE];exact hx) hR).set (by simp) _,(hb.trans (hbx.mono (by omega))).setCell (by simp) _,by have:=hbx.size;simp[World.setCell];omega⟩:∃v' g',(w3.setCell ⟨B+1,1+i,none⟩ (.slice (some ⟨R,0,none⟩) N cx)).heap[B]? =some (frO 25 0 Ycc)∧(w3.setCell ⟨B+1,1+i,none⟩ (.slice (some ⟨R,0,none⟩) N cx)).heap[B+1]? =some (frO 25 k v')∧Yjy (w3.setCell ⟨B+1,1+i,none⟩ (.slice (some ⟨R,0,none⟩) N cx)) (B+2) v' g' (siz k) f (i+1)∧Below B w (w3.setCell ⟨B+1,1+i,none⟩ (.slice (some ⟨R,0,none⟩) N cx))∧B+2≤(w3.setCell ⟨B+1,1+i,none⟩ (.slice (some ⟨R,0,none⟩) N cx)).heap.size)
   clear h03 h13 hbx hx hP h0 h1 hb hOi hNE
   go_wp2
   go_roundw
   case rel=>exact⟨i+1,by omega,by go_num,PUT.out⟩
   case measure=>simp[RowKit.intOf];omega
  ·obtain rfl:i=3:=by omega
   have t0:decide ((3:Int)<3)=false:=by simp
   have hA:=hP.all;have HSV:=Ya0 Ybf k v';have HOV:=Ycv k v' hA.ones;have HYV:(frA 0 Ycc).size=(frA k v').size:=rfl;have h0':wr.heap[B]? =some (.cells (frA 0 Ycc) 25 (0,0)):=h0;have h1':wr.heap[B+1]? =some (.cells (frA k v') 25 (0,0)):=h1;have HA:=Lib.hid hA;clear h0 h1 hA hP;obtain⟨Z,hZ⟩:∃Z,frA k v'=Z:=⟨_,rfl⟩;rw[hZ] at HSV HOV HYV h1';have HZ:=Lib.hid hZ;clear hZ;generalize frA 0 Ycc=Y at *
   go_wp2_with (first|(with_reducible refine wpList_load_row rfl 25 _ rfl (B+1) rfl 25 Z (0,0) _ h1' Tryz.underlying25 rfl HSV ?_)|(with_reducible refine Yad rfl 25 _ _ rfl B Z Y rfl rfl 25 h0' HSV HYV HOV ?_;intro w2 hh2 hg2))
   refine bodyPost_ret (results_cell_row rfl _ _ B 25 _ (0,0) _ rfl hh2 Tryz.underlying25 rfl HSV) rfl ?_;refine⟨v',g',by rw[HZ.out],?_,?_⟩
   ·rw[HB.out];refine(HA.out.mono (by omega)).keep fun p hp=>hg2.block _ ((HA.out.pl p hp).lt (HN.out p)) ?_;have:=HA.out.from_ p hp;intro e;injection e with e;omega
   ·rw[HB.out];exact hb.grown hg2 (by omega) (fun k hk=>by injection hk with hk;omega)
end Go.Proofs.YtnamlooifcpoaaaGreatDoor