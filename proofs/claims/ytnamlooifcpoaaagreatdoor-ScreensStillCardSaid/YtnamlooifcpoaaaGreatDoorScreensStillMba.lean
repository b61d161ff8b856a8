/- No condition. -/
import Derived.Test.YtnamlooifcpoaaaGreatDoorScreensStillMa
import Derived.Test.YtnamlooifcpoaaaGreatDoorScreensStillMo
import Derived.Test.YtnamlooifcpoaaaGreatDoorScreensStillMv
import Derived.Test.YtnamlooifcpoaaaGreatDoorScreensStillMz
namespace Go.Proofs.YtnamlooifcpoaaaGreatDoor
open Go.RowKit Go.Lib
def Yu1 (a b:Int):Int:=Yay (Yay a (-1024) 1024+Yay b (-1024) 1024) 0 255
theorem Yu2 {a:Int}(h0:0≤a)(h1:a≤255):Yu1 a 0=a:=by
 unfold Yu1 Yay;omega
def Yfc (f g:Nat→Int):Nat→Int:=fun s=>Yu1 (f s) (g s)
def Ynu (k:Int)(n:Nat→Nat)(f:Nat→Nat→Int)(m a b:Int):(Nat→Int)×Int:=
 if Ybk k n&&Yi6 k m a b then (Yc5 k m.toNat f a b,0) else (fun _=>0,if Ybk k n&&Yk1 k m then 8 else 1)
def Yl7 (k:Int)(n:Nat→Nat)(f:Nat→Nat→Int)(m:Int)(c:Cel):(Nat→Int)×Int:=if Ya3 c.kind then (fun _=>0,0) else Ynu k n f m c.mx c.my
def Yt9 (k:Int)(n:Nat→Nat)(f:Nat→Nat→Int)(m:Int)(c:Cel)(q:Int):(Nat→Int)×Int:=
 if Ybb true c then (if (Yl7 k n f m c).2=0 then (Yfc (Yl7 k n f m c).1 (ptF (Yik c q)),0) else (fun _=>0,(Yl7 k n f m c).2)) else (fun _=>0,12)
def Ypv (k:Int)(n:Nat→Nat)(f:Nat→Nat→Int)(m:Int):(Nat→Int)×Int:=if Ybk k n&&Yk1 k m then (Yu7 k m.toNat f,0) else (fun _=>0,1)
theorem Yy4 {k m a b:Int}(h:Yk1 k m=false):Yi6 k m a b=false:=by
 unfold Yi6;rw[h]
 rfl
theorem Yty (k:Int)(n:Nat→Nat)(f:Nat→Nat→Int)(m:Int):arn 384 (Ynu k n f m 0 0).1=arn 384 (Ypv k n f m).1∧(Ynu k n f m 0 0).2=(Ypv k n f m).2:=by
 unfold Ynu Ypv;cases hr:Ybk k n with
 |false=>exact⟨rfl,rfl⟩
 |true=>
  cases hc:Yk1 k m with
  |false=>
   rw[Yy4 hc];exact⟨rfl,rfl⟩
  |true=>
   obtain⟨q0,q1⟩:=Yd3.1 hc;obtain⟨j,rfl⟩:∃j:Nat,m=(j:Int):=⟨m.toNat,by omega⟩;rw[Int.toNat_natCast] at q1;rw[Ykg q1];exact⟨Ybo fun s _=>Ymr k _ f s,rfl⟩
theorem Yv0 {k:Int}{n:Nat→Nat}{f:Nat→Nat→Int}(hf:∀p,p<3→∀i,i<n p→0≤f p i∧f p i≤255)(m:Int){s:Nat}(hs:s<384):0≤(Ypv k n f m).1 s∧(Ypv k n f m).1 s≤255:=by
 unfold Ypv;cases hr:Ybk k n&&Yk1 k m with
 |false=>exact⟨Int.le_refl (0:Int),show (0:Int)≤255 by decide⟩
 |true=>
  have hr1:Ybk k n=true:=(Bool.and_eq_true _ _▸hr).1;obtain⟨q0,q1⟩:=Yd3.1 (Bool.and_eq_true _ _▸hr).2;obtain⟨j,rfl⟩:∃j:Nat,m=(j:Int):=⟨m.toNat,by omega⟩;rw[Int.toNat_natCast] at q1;have h:=Yl9 (k:=k) (m:=j) (f:=f) (a:=0) (b:=0) (lo:=0) (hi:=255) (t:=s / 64) (i:=s%64) q1 (Ykg q1) (by omega) (by omega) fun i hi=>hf _ (Yfv (by omega)) i (by rw[(Ydv.1 hr1).2 _ (Yfv (by omega))];exact hi)
  rw[show 64*(s / 64)+s%64=s by omega,Ymr] at h;exact h
theorem Ywz {k:Int}{n:Nat→Nat}{f:Nat→Nat→Int}(hf:∀p,p<3→∀i,i<n p→0≤f p i∧f p i≤255)(m q:Int):arn 384 (Yt9 k n f m (Yev 0) q).1=arn 384 (Ypv k n f m).1∧(Yt9 k n f m (Yev 0) q).2=(Ypv k n f m).2:=by
 obtain⟨e1,e2⟩:=Yty k n f m;have hp:Yl7 k n f m (Yev 0)=Ynu k n f m 0 0:=rfl;unfold Yt9;rw[if_pos (Yux 0),hp];have hz:∀s,s<384→ptF (Yik (Yev 0) q) s=0:=fun s hs=>Yxd (Yxc 0) q (by omega) _ (by omega);by_cases h0:(Ynu k n f m 0 0).2=0
 ·rw[if_pos h0];refine⟨?_,by rw[←e2,h0]⟩;refine(Ybo fun s hs=>?_).trans e1;show Yu1 ((Ynu k n f m 0 0).1 s) (ptF (Yik (Yev 0) q) s)=(Ynu k n f m 0 0).1 s;have h1:(arn 384 (Ynu k n f m 0 0).1)[s]? =(arn 384 (Ypv k n f m).1)[s]?:=by rw[e1]
  rw[Yfm _ hs,Yfm _ hs] at h1;injection h1 with h1;injection h1 with _ h1;have h2:=Yv0 (k:=k) (n:=n) hf m hs;rw[hz s hs,h1];exact Yu2 h2.1 h2.2
 ·rw[if_neg h0];refine⟨?_,e2⟩;have h3:(Ypv k n f m).2≠0:=by rw[←e2];exact h0
  unfold Ypv at h3 ⊢
  split
  ·next h=>rw[if_pos h] at h3;exact absurd rfl h3
  ·rfl
def Y0j (k:Int)(P:Nat→Nat→Int):Nat→(Nat→Nat→Int)
 |0=>fun _ _=>0
 |i+1=>Yid k i (P i) (Y0j k P i) 384
theorem Yi5 (k:Int)(n:Nat){pt pt':Nat→Int}(f:Nat→Nat→Int):∀t,(∀s,s<t→pt s=pt' s)→Yid k n pt f t=Yid k n pt' f t
 |0,_=>rfl
 |t+1,h=>by
  funext p j
  unfold Yid;rw[h t (by omega),Yi5 k n f t fun s hs=>h s (by omega)]
theorem Yo7 {k:Int}{P:Nat→Nat→Int}{f:Nat→Nat→Int}(hf:∀p j,0≤f p j∧f p j≤255):∀i,(∀m,m<i→∀s,s<384→P m s=Yu7 k m f s)→∀m,m<i→∀b q,b<6→q<64→Y0j k P i (plc b) (pos k m b q)=f (plc b) (pos k m b q)
 |0,_,m,hm,_,_,_,_=>absurd hm (Nat.not_lt_zero m)
 |i+1,h,m,hm,b,q,hb,hq=>by
  have ih:=Yo7 hf i fun m hm=>h m (by omega);unfold Y0j;rw[Yi5 k i _ 384 (h i (by omega))];by_cases e:m=i
  ·subst e;exact Yle k m f _ hf b q hq 384 (by omega)
  ·exact Ylf k i f _ hf (ih m (by omega) b q hb hq) 384
theorem Yuq {k:Int}{P:Nat→Nat→Int}{f:Nat→Nat→Int}(hf:∀p j,0≤f p j∧f p j≤255)(h:∀m,m<Ybc k→∀s,s<384→P m s=Yu7 k m f s):∀p,p<3→∀j,j<siz k p→Y0j k P (Ybc k) p j=f p j:=by
 intro p hp j hj;obtain⟨m,b,q,hm,hb,hq,rfl,rfl⟩:=Yuy hp hj;exact Yo7 hf (Ybc k) h m hm b q hb hq
theorem Ymf (a b:Int)(w:World):Calls Tryz.prog 80 #[.int .i64 a,.int .i64 b] w fun e w'=>e=.returned (.int .i64 (Yu1 a b))∧w=w':=by
 have c1:=fun w=>Ya1 a (-1024) 1024 w;have c2:=fun w=>Ya1 b (-1024) 1024 w;have a1:=Ybw a (-1024) 1024;have a2:=Ybv a (-1024) 1024 (by omega);have b1:=Ybw b (-1024) 1024;have b2:=Ybv b (-1024) 1024 (by omega);have hz:=Lib.hid (show Yu1 a b=Yay (Yay a (-1024) 1024+Yay b (-1024) 1024) 0 255 from rfl);generalize Yay a (-1024) 1024=x at *;generalize Yay b (-1024) 1024=y at *
 have c3:=fun w=>Ya1 (x+y) 0 255 w;generalize Yu1 a b=z at *;generalize Yay (x+y) 0 255=z' at *
 go_enter Tryz.func80,Tryz.ntmps80
 go_wp2_with fail
 refine(c1 _).mono ?_;rintro e w1 ⟨rfl,rfl⟩
 go_wp2_with fail
 refine(c2 _).mono ?_;rintro e w1 ⟨rfl,rfl⟩
 go_wp2_with fail
 refine(c3 _).mono ?_;rintro e w1 ⟨rfl,rfl⟩
 go_wp2
 go_ret
 exact⟨Yca hz.out.symm,rfl⟩
structure Ybu (w:World) (B:Nat) (u v:Array Value) (z:Array Value) (T:TypeId) (g:Nat→Int) (t:Nat) (wr:World):Prop where
 u0:wr.heap[B]? =some (.cells u T (0,0))
 v0:wr.heap[B+1]? =some (.cells v T (0,0))
 z:wr.heap[B+2]? =some (.cells z T (0,0))
 p:wr.heap[B+3]? =some (ptO (Ybn g t))
 b:Below B w wr
 s:B+4≤wr.heap.size
theorem Ybu.move {w:World}{B:Nat}{u v z:Array Value}{T:TypeId}{g:Nat→Int}{t:Nat}{x y:World}(h:Ybu w B u v z T g t x)(hb:Below x.heap.size x y):Ybu w B u v z T g t y:=
 have hs:=h.s
 ⟨(hb.block B (by omega)).trans h.u0,(hb.block (B+1) (by omega)).trans h.v0,(hb.block (B+2) (by omega)).trans h.z,(hb.block (B+3) (by omega)).trans h.p,h.b.trans (hb.mono (by omega)),Nat.le_trans h.s hb.size⟩
theorem Ybu.put {w:World}{B:Nat}{u v z:Array Value}{T:TypeId}{g:Nat→Int}{t:Nat}{x:World}(h:Ybu w B u v z T g t x):Ybu w B u v z T g (t+1) (x.setCell ⟨B+3,t,none⟩ (.int .i64 (g t))):=
 have hs:=h.s
 ⟨Yba h.u0 (by simp),Yba h.v0 (by simp),Yba h.z (by simp),Y0g h.p,h.b.setCell (by simp) _,by simp[World.setCell];omega⟩
theorem Ybu.mono {w:World}{B:Nat}{u v z:Array Value}{T:TypeId}{g:Nat→Int}{t t':Nat}{x:World}(h:Ybu w B u v z T g t x)(e:t=t'):Ybu w B u v z T g t' x:=e▸h
set_option maxRecDepth 1000000 in
set_option maxHeartbeats 8000000 in
theorem Yuj (f g:Nat→Int)(w:World):Calls Tryz.prog 54 #[.agg (arn 384 f),.agg (arn 384 g)] w fun e w'=>e=.returned (.agg (arn 384 (Yfc f g)))∧Below w.heap.size w w':=by
 obtain⟨B,wA,wB,wC,wD,hB,hwA,hwB,hwC,hwD,hzA,hzB,hzC,hzD,hD0,hD1,hD2,hD3,hbD⟩:=Yyy w (.cells (arn 384 f) 62 (0,0)) (.cells (arn 384 g) 62 (0,0)) (.cells (arn 384 fun _=>0) 62 (0,0)) (.cells (arn 384 fun _=>0) 62 (0,0));have P0:Ybu w B (arn 384 f) (arn 384 g) (arn 384 fun _=>0) 62 (Yfc f g) 0 wD:=⟨hD0,hD1,hD2,hD3,hbD,by omega⟩;have hz0:=Yek;have HYS:(arn 384 fun _=>0).size=384:=Yar _ _
 have HPP:=Lib.hid (fun g=>Yb6 g);have HF:=Lib.hid (fun(x:World) (s:Nat) (hs:s<384) (h:x.heap[B]? =some (.cells (arn 384 f) 62 (0,0)))=>Ydj (T:=62) h hs);have HG:=Lib.hid (fun(x:World) (s:Nat) (hs:s<384) (h:x.heap[B+1]? =some (.cells (arn 384 g) 62 (0,0)))=>Ydj (T:=62) h hs);generalize (arn 384 fun _=>0)=Y at *;generalize arn 384 f=U at *;generalize arn 384 g=V at *;have HWA:=Lib.hid hwA
 have HWB:=Lib.hid hwB;have HWC:=Lib.hid hwC;have HWD:=Lib.hid hwD;have HB:=Lib.hid hB;have HP0:=Lib.hid P0;clear hwA hwB hwC hwD hB hD0 hD1 hD2 hD3 hbD hzA hzB hzC hzD P0
 go_enter Tryz.func54,Tryz.ntmps54
 go_wp2
 rw[HWA.out,HB.out,HWB.out,HWC.out,HWD.out]
 go_loopw [8] (fun z wr=>∃b:Nat,b≤6∧z=.int .i64 b∧Hid (Ybu w B U V Y 62 (Yfc f g) (64*b) wr)) (fun z _=>6-(RowKit.intOf z).toNat)
 case atStart=>exact⟨0,by omega,rfl,HP0⟩
 case round=>
  clear HP0;obtain⟨b,hb6,rfl,hp⟩:=hrel;obtain⟨wo,rfl⟩:∃x,x=wr:=⟨_,rfl⟩;by_cases hlt:b<6
  ·have t0:decide ((b:Int)<6)=true:=by simp;omega
   go_wp2
   go_loopw [11] (fun z wr=>∃i:Nat,i≤64∧z=.int .i64 i∧Hid (Ybu w B U V Y 62 (Yfc f g) (64*b+i) wr)) (fun z _=>64-(RowKit.intOf z).toNat)
   case atStart=>exact⟨0,by omega,rfl,hp⟩
   case round=>
    clear hp;obtain⟨i,hi64,rfl,hp⟩:=hrel;by_cases hli:i<64
    ·have t1:decide ((i:Int)<64)=true:=by simp;omega
     have CF:=Lib.hid (fun(x:World) (hx:Ybu w B U V Y 62 (Yfc f g) (64*b+i) x)=>(by have h:=HF.out x (64*b+i) (by omega) hx.u0;rw[show 64*b+i=b*64+i by omega] at h;exact h:x.cell? ⟨B,b*64+i,none⟩=some (.int .i64 (f (b*64+i)))))
     have CG:=Lib.hid (fun(x:World) (hx:Ybu w B U V Y 62 (Yfc f g) (64*b+i) x)=>(by have h:=HG.out x (64*b+i) (by omega) hx.v0;rw[show 64*b+i=b*64+i by omega] at h;exact h:x.cell? ⟨B+1,b*64+i,none⟩=some (.int .i64 (g (b*64+i)))));have hv:Yfc f g (64*b+i)=Yu1 (f (b*64+i)) (g (b*64+i)):=by rw[show 64*b+i=b*64+i by omega];rfl
     have C1:=Lib.hid (fun(x:World) (hx:Ybu w B U V Y 62 (Yfc f g) (64*b+i) x)=>((Ymf (f (b*64+i)) (g (b*64+i)) x).mono fun e y h=>⟨h.1,h.2▸hx⟩:Calls Tryz.prog 80 #[.int .i64 (f (b*64+i)),.int .i64 (g (b*64+i))] x fun e y=>e=.returned (.int .i64 (Yu1 (f (b*64+i)) (g (b*64+i))))∧Ybu w B U V Y 62 (Yfc f g) (64*b+i) y));generalize f (b*64+i)=fv at *;generalize g (b*64+i)=gv at *
     generalize Yu1 fv gv=sv at *;have hpx:=hp.out
     go_wp2
     refine Yan (S:=fun x=>Ybu w B U V Y 62 (Yfc f g) (64*b+i) x) 15 (by kernel_rfl) (by kernel_rfl) (hpx.move (Below.refl _ _).drew) ?_;simp only[List.take_succ_cons,List.take_zero,List.drop_succ_cons,List.drop_zero]
     iterate 4 (refine Yab (by kernel_rfl) (fun x _=>by go_simp;try with_reducible rfl) ?_;simp only[Yaa])
     iterate 2 (refine Yab (by kernel_rfl) (fun x _=>by go_simp;rw[if_pos (by omega)]) ?_;simp only[Yaa])
     refine Yas 3 _ ⟨B,b*64+i,none⟩ (.int .i64 fv) (by kernel_rfl) rfl rfl (fun x hx=>by have c0:=CF.out x hx;go_simp) ?_;simp only[Yaa]
     iterate 2 (refine Yab (by kernel_rfl) (fun x _=>by go_simp;try with_reducible rfl) ?_;simp only[Yaa])
     iterate 2 (refine Yab (by kernel_rfl) (fun x _=>by go_simp;rw[if_pos (by omega)]) ?_;simp only[Yaa])
     refine Yas 3 _ ⟨B+1,b*64+i,none⟩ (.int .i64 gv) (by kernel_rfl) rfl rfl (fun x hx=>by have c0:=CG.out x hx;go_simp) ?_;simp only[Yaa];refine Ya5 (by kernel_rfl) C1.out (fun _=>by kernel_rfl) ?_;simp only[Yaa]
     iterate 2 (refine Yab (by kernel_rfl) (fun x _=>by go_simp;rw[if_pos (by omega)]) ?_;simp only[Yaa])
     refine Ybi fun x hx=>?_;clear hpx hp CF CG;obtain⟨t,ht⟩:∃t,64*b+i=t:=⟨_,rfl⟩;have et:b*64+i=t:=by omega
     have PT:=hx.put;rw[hv] at PT;rw[ht] at hx PT;have cc2:x.cell? ⟨B+1+1+1,b*64+i,none⟩=some (.int .i64 (Ybn (Yfc f g) t t)):=by rw[et];exact Ydj (n:=384) (T:=62) (i:=t) hx.p (by omega)
     have ff2:x.frozen? ⟨B+1+1+1,b*64+i,none⟩=false:=by rw[et];exact Yfn (n:=384) (T:=62) (i:=t) hx.p
     have PUT:=Lib.hid (show Ybu w B U V Y 62 (Yfc f g) (64*b+(i+1)) (x.setCell ⟨B+1+1+1,b*64+i,none⟩ (.int .i64 sv)) by rw[et,show 64*b+(i+1)=t+1 by omega];exact PT);generalize Ybn (Yfc f g) t t=y2 at cc2;clear ht et hx PT hv
     go_wp2
     go_roundw
     case rel=>exact⟨i+1,by omega,by go_num,PUT⟩
     case measure=>simp[RowKit.intOf];omega
    ·obtain rfl:i=64:=by omega
     have t1:decide ((64:Int)<64)=false:=by simp
     have hp':=Lib.hid (hp.out.mono (show 64*b+64=64*(b+1) by omega));clear hp
     go_wp2
     go_roundw
     case rel=>exact⟨b+1,by omega,by go_num,hp'⟩
     case measure=>simp[RowKit.intOf];omega
  ·obtain rfl:b=6:=by omega
   have t0:decide ((6:Int)<6)=false:=by simp
   have HSV:=HPP.out (Ybn (Yfc f g) (64*6));have HOV:=Ybz 384 (Ybn (Yfc f g) (64*6));have HVS:(arn 384 (Ybn (Yfc f g) (64*6))).size=384:=Yar _ _;have HVE:arn 384 (Ybn (Yfc f g) (64*6))=arn 384 (Yfc f g):=Ybo (Ydu 384 (Yfc f g));have h3:wo.heap[B+3]? =some (.cells (arn 384 (Ybn (Yfc f g) (64*6))) 62 (0,0)):=hp.out.p;have h2:=hp.out.z;have hb:=hp.out.b;have hs:=hp.out.s;rw[HVE] at HSV HOV HVS h3
   obtain⟨Z,hZ⟩:∃Z,arn 384 (Yfc f g)=Z:=⟨_,rfl⟩;rw[hZ] at HSV HOV HVS h3;have HZ:=Lib.hid hZ;have HYV:Y.size=Z.size:=by rw[HYS,HVS]
   clear HVE hZ hp
   go_wp2_with (first|(with_reducible refine wpList_load_row rfl 62 _ rfl (B+3) rfl 62 Z (0,0) _ h3 Tryz.underlying62 rfl HSV ?_)|(with_reducible refine Yad rfl 62 _ _ rfl (B+2) Z Y rfl rfl 62 h2 HSV HYV HOV ?_;intro w2 hh2 hg2))
   refine bodyPost_ret (results_cell_row rfl _ _ (B+2) 62 _ (0,0) _ rfl hh2 Tryz.underlying62 rfl HSV) rfl ?_;exact⟨by rw[HZ.out],by rw[HB.out];exact hb.grown hg2 (by omega) (fun k hk=>by injection hk with hk;omega)⟩
end Go.Proofs.YtnamlooifcpoaaaGreatDoor