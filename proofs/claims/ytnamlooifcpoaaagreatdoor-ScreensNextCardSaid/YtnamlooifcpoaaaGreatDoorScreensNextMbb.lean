/- No condition. -/
import Derived.Test.YtnamlooifcpoaaaGreatDoorScreensNextMa
import Derived.Test.YtnamlooifcpoaaaGreatDoorScreensNextMo
import Derived.Test.YtnamlooifcpoaaaGreatDoorScreensNextMu
import Derived.Test.YtnamlooifcpoaaaGreatDoorScreensNextMba
namespace Go.Proofs.YtnamlooifcpoaaaGreatDoor
open Go.RowKit Go.Lib
def Y0x (a b:Int):Int:=Yax (Yax a (-1024) 1024+Yax b (-1024) 1024) 0 255
def Ydb (f g:Nat→Int):Nat→Int:=fun s=>Y0x (f s) (g s)
def Yxr (k:Int)(n:Nat→Nat)(f:Nat→Nat→Int)(m a b:Int):(Nat→Int)×Int:=
 if Yb7 k n&&Yi3 k m a b then (Ybp k m.toNat f a b,0) else (fun _=>0,if Yb7 k n&&Yoi k m then 8 else 1)
def Ygq (k:Int)(n:Nat→Nat)(f:Nat→Nat→Int)(m:Int)(c:Cel):(Nat→Int)×Int:=if Yaj c.kind then (fun _=>0,0) else Yxr k n f m c.mx c.my
def Y2n (k:Int)(n:Nat→Nat)(f:Nat→Nat→Int)(m:Int)(c:Cel)(q:Int):(Nat→Int)×Int:=
 if Ybi true c then (if (Ygq k n f m c).2=0 then (Ydb (Ygq k n f m c).1 (ptF (Yf2 c q)),0) else (fun _=>0,(Ygq k n f m c).2)) else (fun _=>0,12)
def Y3s (k:Int)(P:Nat→Nat→Int):Nat→(Nat→Nat→Int)
 |0=>fun _ _=>0
 |i+1=>Ygi k i (P i) (Y3s k P i) 384
theorem Ylb (k:Int)(n:Nat){pt pt':Nat→Int}(f:Nat→Nat→Int):∀t,(∀s,s<t→pt s=pt' s)→Ygi k n pt f t=Ygi k n pt' f t
 |0,_=>rfl
 |t+1,h=>by
  funext p j
  unfold Ygi;rw[h t (by omega),Ylb k n f t fun s hs=>h s (by omega)]
theorem Ysg {k:Int}{P:Nat→Nat→Int}{f:Nat→Nat→Int}(hf:∀p j,0≤f p j∧f p j≤255):∀i,(∀m,m<i→∀s,s<384→P m s=Y27 k m f s)→∀m,m<i→∀b q,b<6→q<64→Y3s k P i (plc b) (pos k m b q)=f (plc b) (pos k m b q)
 |0,_,m,hm,_,_,_,_=>absurd hm (Nat.not_lt_zero m)
 |i+1,h,m,hm,b,q,hb,hq=>by
  have ih:=Ysg hf i fun m hm=>h m (by omega);unfold Y3s;rw[Ylb k i _ 384 (h i (by omega))];by_cases e:m=i
  ·subst e;exact Ynu k m f _ hf b q hq 384 (by omega)
  ·exact Ynv k i f _ hf (ih m (by omega) b q hb hq) 384
theorem Y2t {k:Int}{P:Nat→Nat→Int}{f:Nat→Nat→Int}(hf:∀p j,0≤f p j∧f p j≤255)(h:∀m,m<Ybg k→∀s,s<384→P m s=Y27 k m f s):∀p,p<3→∀j,j<siz k p→Y3s k P (Ybg k) p j=f p j:=by
 intro p hp j hj;obtain⟨m,b,q,hm,hb,hq,rfl,rfl⟩:=Yyo hp hj;exact Ysg hf (Ybg k) h m hm b q hb hq
theorem Yo4 (a b:Int)(w:World):Calls Tryz.prog 80 #[.int .i64 a,.int .i64 b] w fun e w'=>e=.returned (.int .i64 (Y0x a b))∧w=w':=by
 have c1:=fun w=>Ybs a (-1024) 1024 w;have c2:=fun w=>Ybs b (-1024) 1024 w;have a1:=Ybl a (-1024) 1024;have a2:=Ybk a (-1024) 1024 (by omega);have b1:=Ybl b (-1024) 1024;have b2:=Ybk b (-1024) 1024 (by omega);have hz:=Lib.hid (show Y0x a b=Yax (Yax a (-1024) 1024+Yax b (-1024) 1024) 0 255 from rfl);generalize Yax a (-1024) 1024=x at *;generalize Yax b (-1024) 1024=y at *
 have c3:=fun w=>Ybs (x+y) 0 255 w;generalize Y0x a b=z at *;generalize Yax (x+y) 0 255=z' at *
 go_enter Tryz.func80,Tryz.ntmps80
 go_wp2_with fail
 refine(c1 _).mono ?_;rintro e w1 ⟨rfl,rfl⟩
 go_wp2_with fail
 refine(c2 _).mono ?_;rintro e w1 ⟨rfl,rfl⟩
 go_wp2_with fail
 refine(c3 _).mono ?_;rintro e w1 ⟨rfl,rfl⟩
 go_wp2
 go_ret
 exact⟨Ya6 hz.out.symm,rfl⟩
structure Ybc (w:World) (B:Nat) (u v:Array Value) (z:Array Value) (T:TypeId) (g:Nat→Int) (t:Nat) (wr:World):Prop where
 u0:wr.heap[B]? =some (.cells u T (0,0))
 v0:wr.heap[B+1]? =some (.cells v T (0,0))
 z:wr.heap[B+2]? =some (.cells z T (0,0))
 p:wr.heap[B+3]? =some (ptO (Ybo g t))
 b:Below B w wr
 s:B+4≤wr.heap.size
theorem Ybc.move {w:World}{B:Nat}{u v z:Array Value}{T:TypeId}{g:Nat→Int}{t:Nat}{x y:World}(h:Ybc w B u v z T g t x)(hb:Below x.heap.size x y):Ybc w B u v z T g t y:=
 have hs:=h.s
 ⟨(hb.block B (by omega)).trans h.u0,(hb.block (B+1) (by omega)).trans h.v0,(hb.block (B+2) (by omega)).trans h.z,(hb.block (B+3) (by omega)).trans h.p,h.b.trans (hb.mono (by omega)),Nat.le_trans h.s hb.size⟩
theorem Ybc.put {w:World}{B:Nat}{u v z:Array Value}{T:TypeId}{g:Nat→Int}{t:Nat}{x:World}(h:Ybc w B u v z T g t x):Ybc w B u v z T g (t+1) (x.setCell ⟨B+3,t,none⟩ (.int .i64 (g t))):=
 have hs:=h.s
 ⟨Yat h.u0 (by simp),Yat h.v0 (by simp),Yat h.z (by simp),Yxn h.p,h.b.setCell (by simp) _,by simp[World.setCell];omega⟩
theorem Ybc.mono {w:World}{B:Nat}{u v z:Array Value}{T:TypeId}{g:Nat→Int}{t t':Nat}{x:World}(h:Ybc w B u v z T g t x)(e:t=t'):Ybc w B u v z T g t' x:=e▸h
set_option maxRecDepth 1000000 in
set_option maxHeartbeats 8000000 in
theorem Yyc (f g:Nat→Int)(w:World):Calls Tryz.prog 54 #[.agg (arn 384 f),.agg (arn 384 g)] w fun e w'=>e=.returned (.agg (arn 384 (Ydb f g)))∧Below w.heap.size w w':=by
 obtain⟨B,wA,wB,wC,wD,hB,hwA,hwB,hwC,hwD,hzA,hzB,hzC,hzD,hD0,hD1,hD2,hD3,hbD⟩:=Ytn w (.cells (arn 384 f) 62 (0,0)) (.cells (arn 384 g) 62 (0,0)) (.cells (arn 384 fun _=>0) 62 (0,0)) (.cells (arn 384 fun _=>0) 62 (0,0));have P0:Ybc w B (arn 384 f) (arn 384 g) (arn 384 fun _=>0) 62 (Ydb f g) 0 wD:=⟨hD0,hD1,hD2,hD3,hbD,by omega⟩;have hz0:=Ydl;have HYS:(arn 384 fun _=>0).size=384:=Yan _ _
 have HPP:=Lib.hid (fun g=>Ybr g);have HF:=Lib.hid (fun(x:World) (s:Nat) (hs:s<384) (h:x.heap[B]? =some (.cells (arn 384 f) 62 (0,0)))=>Ybt (T:=62) h hs);have HG:=Lib.hid (fun(x:World) (s:Nat) (hs:s<384) (h:x.heap[B+1]? =some (.cells (arn 384 g) 62 (0,0)))=>Ybt (T:=62) h hs);generalize (arn 384 fun _=>0)=Y at *;generalize arn 384 f=U at *;generalize arn 384 g=V at *;have HWA:=Lib.hid hwA
 have HWB:=Lib.hid hwB;have HWC:=Lib.hid hwC;have HWD:=Lib.hid hwD;have HB:=Lib.hid hB;have HP0:=Lib.hid P0;clear hwA hwB hwC hwD hB hD0 hD1 hD2 hD3 hbD hzA hzB hzC hzD P0
 go_enter Tryz.func54,Tryz.ntmps54
 go_wp2
 rw[HWA.out,HB.out,HWB.out,HWC.out,HWD.out]
 go_loopw [8] (fun z wr=>∃b:Nat,b≤6∧z=.int .i64 b∧Hid (Ybc w B U V Y 62 (Ydb f g) (64*b) wr)) (fun z _=>6-(RowKit.intOf z).toNat)
 case atStart=>exact⟨0,by omega,rfl,HP0⟩
 case round=>
  clear HP0;obtain⟨b,hb6,rfl,hp⟩:=hrel;obtain⟨wo,rfl⟩:∃x,x=wr:=⟨_,rfl⟩;by_cases hlt:b<6
  ·have t0:decide ((b:Int)<6)=true:=by simp;omega
   go_wp2
   go_loopw [11] (fun z wr=>∃i:Nat,i≤64∧z=.int .i64 i∧Hid (Ybc w B U V Y 62 (Ydb f g) (64*b+i) wr)) (fun z _=>64-(RowKit.intOf z).toNat)
   case atStart=>exact⟨0,by omega,rfl,hp⟩
   case round=>
    clear hp;obtain⟨i,hi64,rfl,hp⟩:=hrel;by_cases hli:i<64
    ·have t1:decide ((i:Int)<64)=true:=by simp;omega
     have CF:=Lib.hid (fun(x:World) (hx:Ybc w B U V Y 62 (Ydb f g) (64*b+i) x)=>(by have h:=HF.out x (64*b+i) (by omega) hx.u0;rw[show 64*b+i=b*64+i by omega] at h;exact h:x.cell? ⟨B,b*64+i,none⟩=some (.int .i64 (f (b*64+i)))))
     have CG:=Lib.hid (fun(x:World) (hx:Ybc w B U V Y 62 (Ydb f g) (64*b+i) x)=>(by have h:=HG.out x (64*b+i) (by omega) hx.v0;rw[show 64*b+i=b*64+i by omega] at h;exact h:x.cell? ⟨B+1,b*64+i,none⟩=some (.int .i64 (g (b*64+i)))));have hv:Ydb f g (64*b+i)=Y0x (f (b*64+i)) (g (b*64+i)):=by rw[show 64*b+i=b*64+i by omega];rfl
     have C1:=Lib.hid (fun(x:World) (hx:Ybc w B U V Y 62 (Ydb f g) (64*b+i) x)=>((Yo4 (f (b*64+i)) (g (b*64+i)) x).mono fun e y h=>⟨h.1,h.2▸hx⟩:Calls Tryz.prog 80 #[.int .i64 (f (b*64+i)),.int .i64 (g (b*64+i))] x fun e y=>e=.returned (.int .i64 (Y0x (f (b*64+i)) (g (b*64+i))))∧Ybc w B U V Y 62 (Ydb f g) (64*b+i) y));generalize f (b*64+i)=fv at *;generalize g (b*64+i)=gv at *
     generalize Y0x fv gv=sv at *;have hpx:=hp.out
     go_wp2
     refine Yaf (S:=fun x=>Ybc w B U V Y 62 (Ydb f g) (64*b+i) x) 15 (by kernel_rfl) (by kernel_rfl) (hpx.move (Below.refl _ _).drew) ?_;simp only[List.take_succ_cons,List.take_zero,List.drop_succ_cons,List.drop_zero]
     iterate 4 (refine Yab (by kernel_rfl) (fun x _=>by go_simp;try with_reducible rfl) ?_;simp only[Yaa])
     iterate 2 (refine Yab (by kernel_rfl) (fun x _=>by go_simp;rw[if_pos (by omega)]) ?_;simp only[Yaa])
     refine Yag 3 _ ⟨B,b*64+i,none⟩ (.int .i64 fv) (by kernel_rfl) rfl rfl (fun x hx=>by have c0:=CF.out x hx;go_simp) ?_;simp only[Yaa]
     iterate 2 (refine Yab (by kernel_rfl) (fun x _=>by go_simp;try with_reducible rfl) ?_;simp only[Yaa])
     iterate 2 (refine Yab (by kernel_rfl) (fun x _=>by go_simp;rw[if_pos (by omega)]) ?_;simp only[Yaa])
     refine Yag 3 _ ⟨B+1,b*64+i,none⟩ (.int .i64 gv) (by kernel_rfl) rfl rfl (fun x hx=>by have c0:=CG.out x hx;go_simp) ?_;simp only[Yaa];refine Yah (by kernel_rfl) C1.out (fun _=>by kernel_rfl) ?_;simp only[Yaa]
     iterate 2 (refine Yab (by kernel_rfl) (fun x _=>by go_simp;rw[if_pos (by omega)]) ?_;simp only[Yaa])
     refine Yar fun x hx=>?_;clear hpx hp CF CG;obtain⟨t,ht⟩:∃t,64*b+i=t:=⟨_,rfl⟩;have et:b*64+i=t:=by omega
     have PT:=hx.put;rw[hv] at PT;rw[ht] at hx PT;have cc2:x.cell? ⟨B+1+1+1,b*64+i,none⟩=some (.int .i64 (Ybo (Ydb f g) t t)):=by rw[et];exact Ybt (n:=384) (T:=62) (i:=t) hx.p (by omega)
     have ff2:x.frozen? ⟨B+1+1+1,b*64+i,none⟩=false:=by rw[et];exact Yec (n:=384) (T:=62) (i:=t) hx.p
     have PUT:=Lib.hid (show Ybc w B U V Y 62 (Ydb f g) (64*b+(i+1)) (x.setCell ⟨B+1+1+1,b*64+i,none⟩ (.int .i64 sv)) by rw[et,show 64*b+(i+1)=t+1 by omega];exact PT);generalize Ybo (Ydb f g) t t=y2 at cc2;clear ht et hx PT hv
     go_wp2
     go_roundw
     case rel=>exact⟨i+1,by omega,by go_num,PUT⟩
     case measure=>simp[RowKit.intOf];omega
    ·obtain rfl:i=64:=by omega
     have t1:decide ((64:Int)<64)=false:=by simp
     have hp':=Lib.hid (hp.out.mono (show 64*b+64=64*(b+1) by omega));clear hp
     go_wp2
     go_roundw
     case rel=>exact⟨b+1,by omega,by go_num,hp'⟩
     case measure=>simp[RowKit.intOf];omega
  ·obtain rfl:b=6:=by omega
   have t0:decide ((6:Int)<6)=false:=by simp
   have HSV:=HPP.out (Ybo (Ydb f g) (64*6));have HOV:=Ybd 384 (Ybo (Ydb f g) (64*6));have HVS:(arn 384 (Ybo (Ydb f g) (64*6))).size=384:=Yan _ _;have HVE:arn 384 (Ybo (Ydb f g) (64*6))=arn 384 (Ydb f g):=Ycg (Yc0 384 (Ydb f g));have h3:wo.heap[B+3]? =some (.cells (arn 384 (Ybo (Ydb f g) (64*6))) 62 (0,0)):=hp.out.p;have h2:=hp.out.z;have hb:=hp.out.b;have hs:=hp.out.s;rw[HVE] at HSV HOV HVS h3
   obtain⟨Z,hZ⟩:∃Z,arn 384 (Ydb f g)=Z:=⟨_,rfl⟩;rw[hZ] at HSV HOV HVS h3;have HZ:=Lib.hid hZ;have HYV:Y.size=Z.size:=by rw[HYS,HVS]
   clear HVE hZ hp
   go_wp2_with (first|(with_reducible refine wpList_load_row rfl 62 _ rfl (B+3) rfl 62 Z (0,0) _ h3 Tryz.underlying62 rfl HSV ?_)|(with_reducible refine Yae rfl 62 _ _ rfl (B+2) Z Y rfl rfl 62 h2 HSV HYV HOV ?_;intro w2 hh2 hg2))
   refine bodyPost_ret (results_cell_row rfl _ _ (B+2) 62 _ (0,0) _ rfl hh2 Tryz.underlying62 rfl HSV) rfl ?_;exact⟨by rw[HZ.out],by rw[HB.out];exact hb.grown hg2 (by omega) (fun k hk=>by injection hk with hk;omega)⟩
set_option maxRecDepth 1000000 in
set_option maxHeartbeats 8000000 in
theorem Yyd (f g:Nat→Int)(w:World):Calls Tryz.prog 45 #[.agg (arn 384 f),.agg (arn 384 g)] w fun e w'=>e=.returned (.agg (arn 384 (Ydb f g)))∧Below w.heap.size w w':=by
 obtain⟨B,wA,wB,wC,wD,hB,hwA,hwB,hwC,hwD,hzA,hzB,hzC,hzD,hD0,hD1,hD2,hD3,hbD⟩:=Ytn w (.cells (arn 384 f) 62 (0,0)) (.cells (arn 384 g) 62 (0,0)) (.cells (arn 384 fun _=>0) 62 (0,0)) (.cells (arn 384 fun _=>0) 62 (0,0));have P0:Ybc w B (arn 384 f) (arn 384 g) (arn 384 fun _=>0) 62 (Ydb f g) 0 wD:=⟨hD0,hD1,hD2,hD3,hbD,by omega⟩;have hz0:=Ydl;have HYS:(arn 384 fun _=>0).size=384:=Yan _ _
 have HPP:=Lib.hid (fun g=>Ybr g);have HF:=Lib.hid (fun(x:World) (s:Nat) (hs:s<384) (h:x.heap[B]? =some (.cells (arn 384 f) 62 (0,0)))=>Ybt (T:=62) h hs);have HG:=Lib.hid (fun(x:World) (s:Nat) (hs:s<384) (h:x.heap[B+1]? =some (.cells (arn 384 g) 62 (0,0)))=>Ybt (T:=62) h hs);generalize (arn 384 fun _=>0)=Y at *;generalize arn 384 f=U at *;generalize arn 384 g=V at *;have HWA:=Lib.hid hwA
 have HWB:=Lib.hid hwB;have HWC:=Lib.hid hwC;have HWD:=Lib.hid hwD;have HB:=Lib.hid hB;have HP0:=Lib.hid P0;clear hwA hwB hwC hwD hB hD0 hD1 hD2 hD3 hbD hzA hzB hzC hzD P0
 go_enter Tryz.func45,Tryz.ntmps45
 go_wp2
 rw[HWA.out,HB.out,HWB.out,HWC.out,HWD.out]
 go_loopw [6] (fun z wr=>∃b:Nat,b≤6∧z=.int .i64 b∧Hid (Ybc w B U V Y 62 (Ydb f g) (64*b) wr)) (fun z _=>6-(RowKit.intOf z).toNat)
 case atStart=>exact⟨0,by omega,rfl,HP0⟩
 case round=>
  clear HP0;obtain⟨b,hb6,rfl,hp⟩:=hrel;obtain⟨wo,rfl⟩:∃x,x=wr:=⟨_,rfl⟩;by_cases hlt:b<6
  ·have t0:decide ((b:Int)<6)=true:=by simp;omega
   go_wp2
   go_loopw [7] (fun z wr=>∃i:Nat,i≤64∧z=.int .i64 i∧Hid (Ybc w B U V Y 62 (Ydb f g) (64*b+i) wr)) (fun z _=>64-(RowKit.intOf z).toNat)
   case atStart=>exact⟨0,by omega,rfl,hp⟩
   case round=>
    clear hp;obtain⟨i,hi64,rfl,hp⟩:=hrel;by_cases hli:i<64
    ·have t1:decide ((i:Int)<64)=true:=by simp;omega
     have CF:=Lib.hid (fun(x:World) (hx:Ybc w B U V Y 62 (Ydb f g) (64*b+i) x)=>(by have h:=HF.out x (64*b+i) (by omega) hx.u0;rw[show 64*b+i=b*64+i by omega] at h;exact h:x.cell? ⟨B,b*64+i,none⟩=some (.int .i64 (f (b*64+i)))))
     have CG:=Lib.hid (fun(x:World) (hx:Ybc w B U V Y 62 (Ydb f g) (64*b+i) x)=>(by have h:=HG.out x (64*b+i) (by omega) hx.v0;rw[show 64*b+i=b*64+i by omega] at h;exact h:x.cell? ⟨B+1,b*64+i,none⟩=some (.int .i64 (g (b*64+i)))));have hv:Ydb f g (64*b+i)=Y0x (f (b*64+i)) (g (b*64+i)):=by rw[show 64*b+i=b*64+i by omega];rfl
     have c1:=fun x=>Ybm (f (b*64+i)) (-1024) 1024 x;have c2:=fun x=>Ybm (g (b*64+i)) (-1024) 1024 x;have a1:=Ybl (f (b*64+i)) (-1024) 1024;have a2:=Ybk (f (b*64+i)) (-1024) 1024 (by omega);have b1:=Ybl (g (b*64+i)) (-1024) 1024;have b2:=Ybk (g (b*64+i)) (-1024) 1024 (by omega);have hv2:Ydb f g (64*b+i)=Yax (Yax (f (b*64+i)) (-1024) 1024+Yax (g (b*64+i)) (-1024) 1024) 0 255:=hv;clear hv
     generalize f (b*64+i)=fv at *;generalize g (b*64+i)=gv at *;generalize Yax fv (-1024) 1024=xv at *;generalize Yax gv (-1024) 1024=yv at *;have c3:=fun x=>Ybm (xv+yv) 0 255 x;have ws:IntKind.i64.wrap (xv+yv)=xv+yv:=Yde (by omega);generalize Yax (xv+yv) 0 255=sv at *;have hv:=hv2;clear hv2
     have C1:=Lib.hid (fun(x:World) (hx:Ybc w B U V Y 62 (Ydb f g) (64*b+i) x)=>((c1 x).mono fun e y h=>⟨h.1,h.2▸hx⟩:Calls Tryz.prog 40 #[.int .i64 fv,.int .i64 (-1024),.int .i64 1024] x fun e y=>e=.returned (.int .i64 xv)∧Ybc w B U V Y 62 (Ydb f g) (64*b+i) y))
     have C2:=Lib.hid (fun(x:World) (hx:Ybc w B U V Y 62 (Ydb f g) (64*b+i) x)=>((c2 x).mono fun e y h=>⟨h.1,h.2▸hx⟩:Calls Tryz.prog 40 #[.int .i64 gv,.int .i64 (-1024),.int .i64 1024] x fun e y=>e=.returned (.int .i64 yv)∧Ybc w B U V Y 62 (Ydb f g) (64*b+i) y))
     have C3:=Lib.hid (fun(x:World) (hx:Ybc w B U V Y 62 (Ydb f g) (64*b+i) x)=>((c3 x).mono fun e y h=>⟨h.1,h.2▸hx⟩:Calls Tryz.prog 40 #[.int .i64 (xv+yv),.int .i64 0,.int .i64 255] x fun e y=>e=.returned (.int .i64 sv)∧Ybc w B U V Y 62 (Ydb f g) (64*b+i) y));clear c1 c2 c3;have hpx:=hp.out
     go_wp2
     refine Yaf (S:=fun x=>Ybc w B U V Y 62 (Ydb f g) (64*b+i) x) 18 (by kernel_rfl) (by kernel_rfl) (hpx.move (Below.refl _ _).drew) ?_;simp only[List.take_succ_cons,List.take_zero,List.drop_succ_cons,List.drop_zero]
     iterate 4 (refine Yab (by kernel_rfl) (fun x _=>by go_simp;try with_reducible rfl) ?_;simp only[Yaa])
     iterate 2 (refine Yab (by kernel_rfl) (fun x _=>by go_simp;rw[if_pos (by omega)]) ?_;simp only[Yaa])
     refine Yag 3 _ ⟨B,b*64+i,none⟩ (.int .i64 fv) (by kernel_rfl) rfl rfl (fun x hx=>by have c0:=CF.out x hx;go_simp) ?_;simp only[Yaa];refine Yah (by kernel_rfl) C1.out (fun _=>by kernel_rfl) ?_;simp only[Yaa]
     iterate 2 (refine Yab (by kernel_rfl) (fun x _=>by go_simp;try with_reducible rfl) ?_;simp only[Yaa])
     iterate 2 (refine Yab (by kernel_rfl) (fun x _=>by go_simp;rw[if_pos (by omega)]) ?_;simp only[Yaa])
     refine Yag 3 _ ⟨B+1,b*64+i,none⟩ (.int .i64 gv) (by kernel_rfl) rfl rfl (fun x hx=>by have c0:=CG.out x hx;go_simp) ?_;simp only[Yaa];refine Yah (by kernel_rfl) C2.out (fun _=>by kernel_rfl) ?_;simp only[Yaa];refine Yab (by kernel_rfl) (fun x _=>by go_simp;try with_reducible rfl) ?_;simp only[Yaa];refine Yah (by kernel_rfl) C3.out (fun _=>by kernel_rfl) ?_;simp only[Yaa]
     iterate 2 (refine Yab (by kernel_rfl) (fun x _=>by go_simp;rw[if_pos (by omega)]) ?_;simp only[Yaa])
     refine Yar fun x hx=>?_;clear hpx hp CF CG;obtain⟨t,ht⟩:∃t,64*b+i=t:=⟨_,rfl⟩;have et:b*64+i=t:=by omega
     have PT:=hx.put;rw[hv] at PT;rw[ht] at hx PT;have cc2:x.cell? ⟨B+1+1+1,b*64+i,none⟩=some (.int .i64 (Ybo (Ydb f g) t t)):=by rw[et];exact Ybt (n:=384) (T:=62) (i:=t) hx.p (by omega)
     have ff2:x.frozen? ⟨B+1+1+1,b*64+i,none⟩=false:=by rw[et];exact Yec (n:=384) (T:=62) (i:=t) hx.p
     have PUT:=Lib.hid (show Ybc w B U V Y 62 (Ydb f g) (64*b+(i+1)) (x.setCell ⟨B+1+1+1,b*64+i,none⟩ (.int .i64 sv)) by rw[et,show 64*b+(i+1)=t+1 by omega];exact PT);generalize Ybo (Ydb f g) t t=y2 at cc2;clear ht et hx PT hv
     go_wp2
     go_roundw
     case rel=>exact⟨i+1,by omega,by go_num,PUT⟩
     case measure=>simp[RowKit.intOf];omega
    ·obtain rfl:i=64:=by omega
     have t1:decide ((64:Int)<64)=false:=by simp
     have hp':=Lib.hid (hp.out.mono (show 64*b+64=64*(b+1) by omega));clear hp
     go_wp2
     go_roundw
     case rel=>exact⟨b+1,by omega,by go_num,hp'⟩
     case measure=>simp[RowKit.intOf];omega
  ·obtain rfl:b=6:=by omega
   have t0:decide ((6:Int)<6)=false:=by simp
   have HSV:=HPP.out (Ybo (Ydb f g) (64*6));have HOV:=Ybd 384 (Ybo (Ydb f g) (64*6));have HVS:(arn 384 (Ybo (Ydb f g) (64*6))).size=384:=Yan _ _;have HVE:arn 384 (Ybo (Ydb f g) (64*6))=arn 384 (Ydb f g):=Ycg (Yc0 384 (Ydb f g));have h3:wo.heap[B+3]? =some (.cells (arn 384 (Ybo (Ydb f g) (64*6))) 62 (0,0)):=hp.out.p;have h2:=hp.out.z;have hb:=hp.out.b;have hs:=hp.out.s;rw[HVE] at HSV HOV HVS h3
   obtain⟨Z,hZ⟩:∃Z,arn 384 (Ydb f g)=Z:=⟨_,rfl⟩;rw[hZ] at HSV HOV HVS h3;have HZ:=Lib.hid hZ;have HYV:Y.size=Z.size:=by rw[HYS,HVS]
   clear HVE hZ hp
   go_wp2_with (first|(with_reducible refine wpList_load_row rfl 62 _ rfl (B+3) rfl 62 Z (0,0) _ h3 Tryz.underlying62 rfl HSV ?_)|(with_reducible refine Yae rfl 62 _ _ rfl (B+2) Z Y rfl rfl 62 h2 HSV HYV HOV ?_;intro w2 hh2 hg2))
   refine bodyPost_ret (results_cell_row rfl _ _ (B+2) 62 _ (0,0) _ rfl hh2 Tryz.underlying62 rfl HSV) rfl ?_;exact⟨by rw[HZ.out],by rw[HB.out];exact hb.grown hg2 (by omega) (fun k hk=>by injection hk with hk;omega)⟩
end Go.Proofs.YtnamlooifcpoaaaGreatDoor