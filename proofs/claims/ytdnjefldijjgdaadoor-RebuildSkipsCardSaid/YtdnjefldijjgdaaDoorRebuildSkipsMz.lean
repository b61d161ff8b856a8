/- No condition. -/
import Derived.Test.YtdnjefldijjgdaaDoorRebuildSkipsMa
import Derived.Test.YtdnjefldijjgdaaDoorRebuildSkipsMn
import Derived.Test.YtdnjefldijjgdaaDoorRebuildSkipsMt
import Derived.Test.YtdnjefldijjgdaaDoorRebuildSkipsMy
namespace Go.Proofs.YtdnjefldijjgdaaDoor
open Go.RowKit Go.Lib
def Yke (a b:Int):Int:=Ya4 (Ya4 a (-1024) 1024+Ya4 b (-1024) 1024) 0 255
theorem Yrw (a b:Int):0≤Yke a b∧Yke a b≤255:=⟨Ybt _ _ _,Ybs _ _ _ (by omega)⟩
theorem Yn7 {a:Int}(h0:0≤a)(h1:a≤255):Yke a 0=a:=by
 unfold Yke Ya4;omega
def Ycy (f g:Nat→Int):Nat→Int:=fun s=>Yke (f s) (g s)
def Yj9 (k:Int)(n:Nat→Nat)(f:Nat→Nat→Int)(m a b:Int):(Nat→Int)×Int:=
 if Ybf k n&&Yj1 k m a b then (Yb4 k m.toNat f a b,0) else (fun _=>0,if Ybf k n&&Yfu k m then 8 else 1)
def Yk6 (k:Int)(n:Nat→Nat)(f:Nat→Nat→Int)(m:Int)(c:Cel):(Nat→Int)×Int:=if Yau c.kind then (fun _=>0,0) else Yj9 k n f m c.mx c.my
def Yka (k:Int)(n:Nat→Nat)(f:Nat→Nat→Int)(m:Int)(c:Cel)(q:Int):(Nat→Int)×Int:=
 if Ycl true c then (if (Yk6 k n f m c).2=0 then (Ycy (Yk6 k n f m c).1 (ptF (Yds c q)),0) else (fun _=>0,(Yk6 k n f m c).2)) else (fun _=>0,12)
def Yis (k:Int)(n:Nat→Nat)(f:Nat→Nat→Int)(m:Int):(Nat→Int)×Int:=if Ybf k n&&Yfu k m then (Ydd k m.toNat f,0) else (fun _=>0,1)
theorem Ysb (k:Int)(n:Nat→Nat)(f:Nat→Nat→Int)(m:Int)(c:Cel)(q:Int)(s:Nat):0≤(Yka k n f m c q).1 s∧(Yka k n f m c q).1 s≤255:=by
 unfold Yka
 split
 ·split
  ·exact Yrw _ _
  ·exact⟨Int.le_refl (0:Int),show (0:Int)≤255 by decide⟩
 ·exact⟨Int.le_refl (0:Int),show (0:Int)≤255 by decide⟩
theorem Yrj {k m a b:Int}(h:Yfu k m=false):Yj1 k m a b=false:=by
 unfold Yj1;rw[h]
 rfl
theorem Ynr (k:Int)(n:Nat→Nat)(f:Nat→Nat→Int)(m:Int):arn 384 (Yj9 k n f m 0 0).1=arn 384 (Yis k n f m).1∧(Yj9 k n f m 0 0).2=(Yis k n f m).2:=by
 unfold Yj9 Yis;cases hr:Ybf k n with
 |false=>exact⟨rfl,rfl⟩
 |true=>
  cases hc:Yfu k m with
  |false=>
   rw[Yrj hc];exact⟨rfl,rfl⟩
  |true=>
   obtain⟨q0,q1⟩:=Yct.1 hc;obtain⟨j,rfl⟩:∃j:Nat,m=(j:Int):=⟨m.toNat,by omega⟩;rw[Int.toNat_natCast] at q1;rw[Yj3 q1];exact⟨Ya1 fun s _=>Yih k _ f s,rfl⟩
theorem Yox {k:Int}{n:Nat→Nat}{f:Nat→Nat→Int}(hf:∀p,p<3→∀i,i<n p→0≤f p i∧f p i≤255)(m:Int){s:Nat}(hs:s<384):0≤(Yis k n f m).1 s∧(Yis k n f m).1 s≤255:=by
 unfold Yis;cases hr:Ybf k n&&Yfu k m with
 |false=>exact⟨Int.le_refl (0:Int),show (0:Int)≤255 by decide⟩
 |true=>
  have hr1:Ybf k n=true:=(Bool.and_eq_true _ _▸hr).1;obtain⟨q0,q1⟩:=Yct.1 (Bool.and_eq_true _ _▸hr).2;obtain⟨j,rfl⟩:∃j:Nat,m=(j:Int):=⟨m.toNat,by omega⟩;rw[Int.toNat_natCast] at q1;have h:=Yh5 (k:=k) (m:=j) (f:=f) (a:=0) (b:=0) (lo:=0) (hi:=255) (t:=s / 64) (i:=s%64) q1 (Yj3 q1) (by omega) (by omega) fun i hi=>hf _ (Yd2 (by omega)) i (by rw[(Ydb.1 hr1).2 _ (Yd2 (by omega))];exact hi)
  rw[show 64*(s / 64)+s%64=s by omega,Yih] at h;exact h
theorem Ypv {k:Int}{n:Nat→Nat}{f:Nat→Nat→Int}(hf:∀p,p<3→∀i,i<n p→0≤f p i∧f p i≤255)(m q:Int):arn 384 (Yka k n f m (Ylg 0) q).1=arn 384 (Yis k n f m).1∧(Yka k n f m (Ylg 0) q).2=(Yis k n f m).2:=by
 obtain⟨e1,e2⟩:=Ynr k n f m;have hp:Yk6 k n f m (Ylg 0)=Yj9 k n f m 0 0:=rfl;unfold Yka;rw[if_pos (Yru 0),hp];have hz:∀s,s<384→ptF (Yds (Ylg 0) q) s=0:=fun s hs=>Yqa (Yp9 0) q (by omega) _ (by omega);by_cases h0:(Yj9 k n f m 0 0).2=0
 ·rw[if_pos h0];refine⟨?_,by rw[←e2,h0]⟩;refine(Ya1 fun s hs=>?_).trans e1;show Yke ((Yj9 k n f m 0 0).1 s) (ptF (Yds (Ylg 0) q) s)=(Yj9 k n f m 0 0).1 s;have h1:(arn 384 (Yj9 k n f m 0 0).1)[s]? =(arn 384 (Yis k n f m).1)[s]?:=by rw[e1]
  rw[Ye2 _ hs,Ye2 _ hs] at h1;injection h1 with h1;injection h1 with _ h1;have h2:=Yox (k:=k) (n:=n) hf m hs;rw[hz s hs,h1];exact Yn7 h2.1 h2.2
 ·rw[if_neg h0];refine⟨?_,e2⟩;have h3:(Yis k n f m).2≠0:=by rw[←e2];exact h0
  unfold Yis at h3 ⊢
  split
  ·next h=>rw[if_pos h] at h3;exact absurd rfl h3
  ·rfl
theorem Yic (a b:Int)(w:World):Calls Tryd.prog 11 #[.int .i64 a,.int .i64 b] w fun e w'=>e=.returned (.int .i64 (Yke a b))∧w=w':=by
 have c1:=fun w=>Yav a (-1024) 1024 w;have c2:=fun w=>Yav b (-1024) 1024 w;have a1:=Ybt a (-1024) 1024;have a2:=Ybs a (-1024) 1024 (by omega);have b1:=Ybt b (-1024) 1024;have b2:=Ybs b (-1024) 1024 (by omega);have hz:=Lib.hid (show Yke a b=Ya4 (Ya4 a (-1024) 1024+Ya4 b (-1024) 1024) 0 255 from rfl);generalize Ya4 a (-1024) 1024=x at *;generalize Ya4 b (-1024) 1024=y at *
 have c3:=fun w=>Yav (x+y) 0 255 w;generalize Yke a b=z at *;generalize Ya4 (x+y) 0 255=z' at *
 go_enter Tryd.func11,Tryd.ntmps11
 go_wp2_with fail
 refine(c1 _).mono ?_;rintro e w1 ⟨rfl,rfl⟩
 go_wp2_with fail
 refine(c2 _).mono ?_;rintro e w1 ⟨rfl,rfl⟩
 go_wp2_with fail
 refine(c3 _).mono ?_;rintro e w1 ⟨rfl,rfl⟩
 go_wp2
 go_ret
 exact⟨Ybo hz.out.symm,rfl⟩
structure Ya8 (w:World) (B:Nat) (u v:Array Value) (z:Array Value) (T:TypeId) (g:Nat→Int) (t:Nat) (wr:World):Prop where
 u0:wr.heap[B]? =some (.cells u T (0,0))
 v0:wr.heap[B+1]? =some (.cells v T (0,0))
 z:wr.heap[B+2]? =some (.cells z T (0,0))
 p:wr.heap[B+3]? =some (ptO (Ya2 g t))
 b:Below B w wr
 s:B+4≤wr.heap.size
theorem Ya8.move {w:World}{B:Nat}{u v z:Array Value}{T:TypeId}{g:Nat→Int}{t:Nat}{x y:World}(h:Ya8 w B u v z T g t x)(hb:Below x.heap.size x y):Ya8 w B u v z T g t y:=
 have hs:=h.s
 ⟨(hb.block B (by omega)).trans h.u0,(hb.block (B+1) (by omega)).trans h.v0,(hb.block (B+2) (by omega)).trans h.z,(hb.block (B+3) (by omega)).trans h.p,h.b.trans (hb.mono (by omega)),Nat.le_trans h.s hb.size⟩
theorem Ya8.put {w:World}{B:Nat}{u v z:Array Value}{T:TypeId}{g:Nat→Int}{t:Nat}{x:World}(h:Ya8 w B u v z T g t x):Ya8 w B u v z T g (t+1) (x.setCell ⟨B+3,t,none⟩ (.int .i64 (g t))):=
 have hs:=h.s
 ⟨Yaw h.u0 (by simp),Yaw h.v0 (by simp),Yaw h.z (by simp),Yqp h.p,h.b.setCell (by simp) _,by simp[World.setCell];omega⟩
theorem Ya8.mono {w:World}{B:Nat}{u v z:Array Value}{T:TypeId}{g:Nat→Int}{t t':Nat}{x:World}(h:Ya8 w B u v z T g t x)(e:t=t'):Ya8 w B u v z T g t' x:=e▸h
set_option maxRecDepth 1000000 in
set_option maxHeartbeats 8000000 in
theorem Yn0 (f g:Nat→Int)(w:World):Calls Tryd.prog 5 #[.agg (arn 384 f),.agg (arn 384 g)] w fun e w'=>e=.returned (.agg (arn 384 (Ycy f g)))∧Below w.heap.size w w':=by
 obtain⟨B,wA,wB,wC,wD,hB,hwA,hwB,hwC,hwD,hzA,hzB,hzC,hzD,hD0,hD1,hD2,hD3,hbD⟩:=Yrd w (.cells (arn 384 f) 24 (0,0)) (.cells (arn 384 g) 24 (0,0)) (.cells (arn 384 fun _=>0) 24 (0,0)) (.cells (arn 384 fun _=>0) 24 (0,0));have P0:Ya8 w B (arn 384 f) (arn 384 g) (arn 384 fun _=>0) 24 (Ycy f g) 0 wD:=⟨hD0,hD1,hD2,hD3,hbD,by omega⟩;have hz0:=Yb9;have HYS:(arn 384 fun _=>0).size=384:=Yai _ _
 have HPP:=Lib.hid (fun g=>Ya6 g);have HF:=Lib.hid (fun(x:World) (s:Nat) (hs:s<384) (h:x.heap[B]? =some (.cells (arn 384 f) 24 (0,0)))=>Ybk (T:=24) h hs);have HG:=Lib.hid (fun(x:World) (s:Nat) (hs:s<384) (h:x.heap[B+1]? =some (.cells (arn 384 g) 24 (0,0)))=>Ybk (T:=24) h hs);generalize (arn 384 fun _=>0)=Y at *;generalize arn 384 f=U at *;generalize arn 384 g=V at *;have HWA:=Lib.hid hwA
 have HWB:=Lib.hid hwB;have HWC:=Lib.hid hwC;have HWD:=Lib.hid hwD;have HB:=Lib.hid hB;have HP0:=Lib.hid P0;clear hwA hwB hwC hwD hB hD0 hD1 hD2 hD3 hbD hzA hzB hzC hzD P0
 go_enter Tryd.func5,Tryd.ntmps5
 go_wp2
 rw[HWA.out,HB.out,HWB.out,HWC.out,HWD.out]
 go_loopw [8] (fun z wr=>∃b:Nat,b≤6∧z=.int .i64 b∧Hid (Ya8 w B U V Y 24 (Ycy f g) (64*b) wr)) (fun z _=>6-(RowKit.intOf z).toNat)
 case atStart=>exact⟨0,by omega,rfl,HP0⟩
 case round=>
  clear HP0;obtain⟨b,hb6,rfl,hp⟩:=hrel;obtain⟨wo,rfl⟩:∃x,x=wr:=⟨_,rfl⟩;by_cases hlt:b<6
  ·have t0:decide ((b:Int)<6)=true:=by simp;omega
   go_wp2
   go_loopw [11] (fun z wr=>∃i:Nat,i≤64∧z=.int .i64 i∧Hid (Ya8 w B U V Y 24 (Ycy f g) (64*b+i) wr)) (fun z _=>64-(RowKit.intOf z).toNat)
   case atStart=>exact⟨0,by omega,rfl,hp⟩
   case round=>
    clear hp;obtain⟨i,hi64,rfl,hp⟩:=hrel;by_cases hli:i<64
    ·have t1:decide ((i:Int)<64)=true:=by simp;omega
     have CF:=Lib.hid (fun(x:World) (hx:Ya8 w B U V Y 24 (Ycy f g) (64*b+i) x)=>(by have h:=HF.out x (64*b+i) (by omega) hx.u0;rw[show 64*b+i=b*64+i by omega] at h;exact h:x.cell? ⟨B,b*64+i,none⟩=some (.int .i64 (f (b*64+i)))))
     have CG:=Lib.hid (fun(x:World) (hx:Ya8 w B U V Y 24 (Ycy f g) (64*b+i) x)=>(by have h:=HG.out x (64*b+i) (by omega) hx.v0;rw[show 64*b+i=b*64+i by omega] at h;exact h:x.cell? ⟨B+1,b*64+i,none⟩=some (.int .i64 (g (b*64+i)))));have hv:Ycy f g (64*b+i)=Yke (f (b*64+i)) (g (b*64+i)):=by rw[show 64*b+i=b*64+i by omega];rfl
     have C1:=Lib.hid (fun(x:World) (hx:Ya8 w B U V Y 24 (Ycy f g) (64*b+i) x)=>((Yic (f (b*64+i)) (g (b*64+i)) x).mono fun e y h=>⟨h.1,h.2▸hx⟩:Calls Tryd.prog 11 #[.int .i64 (f (b*64+i)),.int .i64 (g (b*64+i))] x fun e y=>e=.returned (.int .i64 (Yke (f (b*64+i)) (g (b*64+i))))∧Ya8 w B U V Y 24 (Ycy f g) (64*b+i) y));generalize f (b*64+i)=fv at *;generalize g (b*64+i)=gv at *
     generalize Yke fv gv=sv at *;have hpx:=hp.out
     go_wp2
     refine Yal (S:=fun x=>Ya8 w B U V Y 24 (Ycy f g) (64*b+i) x) 15 (by kernel_rfl) (by kernel_rfl) (hpx.move (Below.refl _ _).drew) ?_;simp only[List.take_succ_cons,List.take_zero,List.drop_succ_cons,List.drop_zero]
     iterate 4 (refine Yab (by kernel_rfl) (fun x _=>by go_simp;try with_reducible rfl) ?_;simp only[Yaa])
     iterate 2 (refine Yab (by kernel_rfl) (fun x _=>by go_simp;rw[if_pos (by omega)]) ?_;simp only[Yaa])
     refine Yao 3 _ ⟨B,b*64+i,none⟩ (.int .i64 fv) (by kernel_rfl) rfl rfl (fun x hx=>by have c0:=CF.out x hx;go_simp) ?_;simp only[Yaa]
     iterate 2 (refine Yab (by kernel_rfl) (fun x _=>by go_simp;try with_reducible rfl) ?_;simp only[Yaa])
     iterate 2 (refine Yab (by kernel_rfl) (fun x _=>by go_simp;rw[if_pos (by omega)]) ?_;simp only[Yaa])
     refine Yao 3 _ ⟨B+1,b*64+i,none⟩ (.int .i64 gv) (by kernel_rfl) rfl rfl (fun x hx=>by have c0:=CG.out x hx;go_simp) ?_;simp only[Yaa];refine Ybb (by kernel_rfl) C1.out (fun _=>by kernel_rfl) ?_;simp only[Yaa]
     iterate 2 (refine Yab (by kernel_rfl) (fun x _=>by go_simp;rw[if_pos (by omega)]) ?_;simp only[Yaa])
     refine Ybl fun x hx=>?_;clear hpx hp CF CG;obtain⟨t,ht⟩:∃t,64*b+i=t:=⟨_,rfl⟩;have et:b*64+i=t:=by omega
     have PT:=hx.put;rw[hv] at PT;rw[ht] at hx PT;have cc2:x.cell? ⟨B+1+1+1,b*64+i,none⟩=some (.int .i64 (Ya2 (Ycy f g) t t)):=by rw[et];exact Ybk (n:=384) (T:=24) (i:=t) hx.p (by omega)
     have ff2:x.frozen? ⟨B+1+1+1,b*64+i,none⟩=false:=by rw[et];exact Yc9 (n:=384) (T:=24) (i:=t) hx.p
     have PUT:=Lib.hid (show Ya8 w B U V Y 24 (Ycy f g) (64*b+(i+1)) (x.setCell ⟨B+1+1+1,b*64+i,none⟩ (.int .i64 sv)) by rw[et,show 64*b+(i+1)=t+1 by omega];exact PT);generalize Ya2 (Ycy f g) t t=y2 at cc2;clear ht et hx PT hv
     go_wp2
     go_roundw
     case rel=>exact⟨i+1,by omega,by go_num,PUT⟩
     case measure=>simp[RowKit.intOf];omega
    ·obtain rfl:i=64:=by omega
     have t1:decide ((64:Int)<64)=false:=by simp
     have hp':=Lib.hid (hp.out.mono (show 64*b+64=64*(b+1) by omega));clear hp
     go_wp2
     go_roundw
     case rel=>exact⟨b+1,by omega,by go_num,hp'⟩
     case measure=>simp[RowKit.intOf];omega
  ·obtain rfl:b=6:=by omega
   have t0:decide ((6:Int)<6)=false:=by simp
   have HSV:=HPP.out (Ya2 (Ycy f g) (64*6));have HOV:=Yay 384 (Ya2 (Ycy f g) (64*6));have HVS:(arn 384 (Ya2 (Ycy f g) (64*6))).size=384:=Yai _ _;have HVE:arn 384 (Ya2 (Ycy f g) (64*6))=arn 384 (Ycy f g):=Ya1 (Ycn 384 (Ycy f g));have h3:wo.heap[B+3]? =some (.cells (arn 384 (Ya2 (Ycy f g) (64*6))) 24 (0,0)):=hp.out.p;have h2:=hp.out.z;have hb:=hp.out.b;have hs:=hp.out.s;rw[HVE] at HSV HOV HVS h3
   obtain⟨Z,hZ⟩:∃Z,arn 384 (Ycy f g)=Z:=⟨_,rfl⟩;rw[hZ] at HSV HOV HVS h3;have HZ:=Lib.hid hZ;have HYV:Y.size=Z.size:=by rw[HYS,HVS]
   clear HVE hZ hp
   go_wp2_with (first|(with_reducible refine wpList_load_row rfl 24 _ rfl (B+3) rfl 24 Z (0,0) _ h3 Tryd.underlying24 rfl HSV ?_)|(with_reducible refine Yac rfl 24 _ _ rfl (B+2) Z Y rfl rfl 24 h2 HSV HYV HOV ?_;intro w2 hh2 hg2))
   refine bodyPost_ret (results_cell_row rfl _ _ (B+2) 24 _ (0,0) _ rfl hh2 Tryd.underlying24 rfl HSV) rfl ?_;exact⟨by rw[HZ.out],by rw[HB.out];exact hb.grown hg2 (by omega) (fun k hk=>by injection hk with hk;omega)⟩
end Go.Proofs.YtdnjefldijjgdaaDoor