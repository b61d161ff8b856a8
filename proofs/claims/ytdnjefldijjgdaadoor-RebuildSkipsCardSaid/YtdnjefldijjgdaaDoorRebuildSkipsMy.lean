/- No condition. -/
import Derived.Test.YtdnjefldijjgdaaDoorRebuildSkipsMa
import Derived.Test.YtdnjefldijjgdaaDoorRebuildSkipsMf
import Derived.Test.YtdnjefldijjgdaaDoorRebuildSkipsMi
import Derived.Test.YtdnjefldijjgdaaDoorRebuildSkipsMv
import Derived.Test.YtdnjefldijjgdaaDoorRebuildSkipsMw
import Derived.Test.YtdnjefldijjgdaaDoorRebuildSkipsMx
import Derived.Laws.OwnMore
namespace Go.Proofs.YtdnjefldijjgdaaDoor
open Go.RowKit Go.Lib Go.ChangeShapes Go.WideShapes Go.ChangeAt
section
variable {H:Type}{enc:TypeId×Value→H}{P:Program}
theorem Yea {w:World}{base fuel:Nat}{sp:Nat→Bool}{held:Bool}{t e:TypeId}{v:Value}{x:DataW H×List MemPlace}
  (ht:P.underlying t=some (.slice e))(he:P.underlying e=some (.int .u8))(ce:P.cellsOf e=1)
  (hf:DataW.trod enc P w base sp held fuel t [v]=some x):∃n f,Ykh w v n f∧n≤maxLen:=by
 rcases Go.Deep.open_slice1 ht ce hf with ⟨h1,_⟩|⟨a,len,cap,m,n,V,D,Pl,h1,hb,hl,hm,hmm,_,hx⟩
 ·injection h1 with h1;subst h1;exact⟨0,fun _=>0,Ykh.nil w _,Nat.zero_le _⟩
 ·injection h1 with h1;subst h1;have hlm:len≤m:=by rw[hmm];split <;> omega
  have each:∀i,i<len→∃y:Int,w.cell? (a.add i)=some (.int .u8 y)∧0≤y∧y≤255:=by
   intro i hi;obtain⟨h1,h2⟩:=hx i (by omega);obtain⟨y,e0,_,w0⟩:=DataW.trod_int he h2;injection e0 with e0;have h':(decide (IntKind.u8.min≤y)&&decide (y≤IntKind.u8.max))=true:=w0;rw[Bool.and_eq_true,decide_eq_true_iff,decide_eq_true_iff] at h';have e1:IntKind.u8.min=0:=rfl;have e2:IntKind.u8.max=255:=rfl;exact⟨y,by rw[h1,e0],by omega,by omega⟩
  refine⟨len,fun i=>match w.cell? (a.add i) with|some (.int _ y)=>y|_=>0,⟨some a,cap,rfl,hl,?_⟩,by omega⟩;by_cases h0:len=0
  ·exact .inl h0
  ·right
   obtain⟨y0,hy0,_⟩:=each 0 (by omega);have ea:a=⟨a.block,a.off,none⟩:=by
    have:a.add 0=a:=by cases a with|mk b o s=>cases s <;> simp[Addr.add]
    rw[this] at hy0;exact Yif hy0
   refine⟨a.block,a.off,by rw[←ea],fun i hi=>?_⟩;obtain⟨y,hy,h1,h2⟩:=each i hi;have eadd:a.add i=⟨a.block,a.off+i,none⟩:=by rw[ea];simp[Addr.add]
   simp only[hy];exact⟨by rw[←eadd];exact hy,h1,h2⟩
theorem Yk4 {w:World}{r:Reach}{b0 base:Nat}{sp:Nat→Bool}{held:Bool}{t ti ta ts te:TypeId}{f0 f1:Field}{v:Value}{d:DataW H}{ps:List MemPlace}
  (ht:P.underlying t=some (.struct #[f0,f1]))(hi:P.underlying ti=some (.int .i64))(ha:P.underlying ta=some (.array 3 ts))(hs:P.underlying ts=some (.slice te))(he:P.underlying te=some (.int .u8))
  (e0:f0.type=ti)(e1:f1.type=ta)(o0:f0.offset=0)(o1:f1.offset=1)(ci:P.cellsOf ti=1)(ca:P.cellsOf ta=3)(cs:P.cellsOf ts=1)(hc:P.cellsOf t=4)(ce:P.cellsOf te=1)
  (hval:Value.okWide P w r b0 t v)(hd:DataW.Trod enc P w base sp held t v d ps):
  ∃(k:Int) (vs:Nat→Value) (n:Nat→Nat) (f:Nat→Nat→Int),v=.agg (frA k vs)∧(Lit.int .i64 k).wf=true∧Ygl w vs n f∧∀p,p<3→n p≤maxLen:=by
 obtain⟨Ybh,rfl,hsz,_⟩:∃cs,v=.agg cs∧cs.size=P.cellsOf t∧Row.okWide P w r b0 t cs:=by
  simpa [Value.okWide,ht] using hval
 rw[hc] at hsz;obtain⟨fuel,hf⟩:=hd;obtain⟨xs,k,hk,hxy,_,hxl,hfs⟩:=DataW.trod_struct ht hf;obtain⟨l⟩:=Ybh
 match l,hsz,xs,hxl with
 |[c0,c1,c2,c3],_,[y0,y1],_=>
  have g0:=hfs 0 f0 rfl;have g1:=hfs 1 f1 rfl;rw[e0,o0,ci] at g0;rw[e1,o1,ca] at g1;obtain⟨x0,q0,_,w0⟩:=DataW.trod_int hi (show DataW.trod _ P w base sp held k ti [c0]=some y0 from g0);obtain⟨zs,m,_,_,_,hl,hel⟩:=DataW.trod_array ha (show DataW.trod _ P w base sp held k ta [c1,c2,c3]=some y1 from g1);rw[cs] at hel
  match zs,hl with
  |[z0,z1,z2],_=>
   obtain⟨n0,r0,b0,l0⟩:=Yea hs he ce (show DataW.trod _ P w base sp held m ts [c1]=some z0 from hel 0 (by omega));obtain⟨n1,r1,b1,l1⟩:=Yea hs he ce (show DataW.trod _ P w base sp held m ts [c2]=some z1 from hel 1 (by omega));obtain⟨n2,r2,b2,l2⟩:=Yea hs he ce (show DataW.trod _ P w base sp held m ts [c3]=some z2 from hel 2 (by omega));injection q0 with q0;subst q0
   refine⟨x0,fun p=>if p=0 then c1 else if p=1 then c2 else c3,fun p=>if p=0 then n0 else if p=1 then n1 else n2,fun p=>if p=0 then r0 else if p=1 then r1 else r2,rfl,w0,fun p hp=>?_,fun p hp=>?_⟩
   ·match p,hp with
    |0,_=>exact b0
    |1,_=>exact b1
    |2,_=>exact b2
   ·match p,hp with
    |0,_=>exact l0
    |1,_=>exact l1
    |2,_=>exact l2
end
theorem Ygl.slices {w:World}{v:Nat→Value}{n:Nat→Nat}{f:Nat→Nat→Int}(h:Ygl w v n f):∀p,p<3→∃a c,v p=.slice a (n p) c:=fun p hp=>by
 obtain⟨a,c,e,_⟩:=h p hp;exact⟨a,c,e⟩
def Yjz (n:Nat→Nat):Bool:=decide ((n 0:Int)≤30000)&&(decide ((n 1:Int)≤30000)&&decide ((n 2:Int)≤30000))
set_option maxRecDepth 100000 in
theorem Yk3 (k:Int)(v:Nat→Value)(n:Nat→Nat)(w:World)(hv:∀p,p<3→∃a c,v p=.slice a (n p) c):Calls Tryd.prog 8 #[.agg (frA k v)] w fun e w'=>e=.returned (.bool (Yjz n))∧Below w.heap.size w w':=by
 have hb1:∀o,Below w.heap.size w (w.alloc o):=fun o=>(Below.refl _ w).alloc (Nat.le_refl _) _;have hR:=Lib.hid (show Yjz n=(decide ((n 0:Int)≤30000)&&(decide ((n 1:Int)≤30000)&&decide ((n 2:Int)≤30000))) from rfl);obtain⟨a0,b0,hv0⟩:=hv 0 (by omega);obtain⟨a1,b1,hv1⟩:=hv 1 (by omega);obtain⟨a2,b2,hv2⟩:=hv 2 (by omega);unfold frA frL;rw[hv0,hv1,hv2];clear hv hv0 hv1 hv2;generalize n 0=n0 at *
 generalize n 1=n1 at *;generalize n 2=n2 at *;cases t0:decide ((n0:Int)≤30000)
 ·go_enter Tryd.func8,Tryd.ntmps8
  go_wp2
  go_ret
  exact⟨Yae (by rw[hR.out,t0];rfl),hb1 _⟩
 cases t1:decide ((n1:Int)≤30000)
 ·go_enter Tryd.func8,Tryd.ntmps8
  go_wp2
  go_ret
  exact⟨Yae (by rw[hR.out,t0,t1];rfl),hb1 _⟩
 cases t2:decide ((n2:Int)≤30000)
 all_goals
  go_enter Tryd.func8,Tryd.ntmps8
  go_wp2
  go_ret
  exact⟨Yae (by rw[hR.out,t0,t1,t2];rfl),hb1 _⟩
end Go.Proofs.YtdnjefldijjgdaaDoor
namespace Go.Proofs.YtdnjefldijjgdaaDoor
open Go.RowKit Go.Lib
theorem Ynp (g:Nat→Int)(t:Nat):Ycb (Ya2 g t) t (g t)=Ya2 g (t+1):=rfl
theorem Yr3 (k:Int)(m:Nat)(f:Nat→Nat→Int)(b y x:Nat)(hy:y<8)(hx:x<8):Ydd k m f (64*b+8*y+x)=f (plc b) (Ymu k m b+y*wid k (plc b)+x):=by
 unfold Ydd;rw[show (64*b+8*y+x) / 64=b by omega,show (64*b+8*y+x)%64=8*y+x by omega];unfold pos;rw[show (8*y+x) / 8=y by omega,show (8*y+x)%8=x by omega]
theorem Yqp {w:World}{B t:Nat}{g:Nat→Int}(h:w.heap[B]? =some (ptO (Ya2 g t))):(w.setCell ⟨B,t,none⟩ (.int .i64 (g t))).heap[B]? =some (ptO (Ya2 g (t+1))):=by
 have:=Ye3 (w:=w) (B:=B) (i:=t) (n:=384) (T:=24) (f:=Ya2 g t) (g t) h;rw[Ynp] at this;exact this
set_option maxRecDepth 1000000 in
set_option maxHeartbeats 8000000 in
theorem Yoy (k:Int)(v:Nat→Value)(n:Nat→Nat)(f:Nat→Nat→Int)(m:Nat)(w:World)(h:Ygl w v n f)(hr:Ybf k n=true)(hm:m<Ybh k):
  Calls Tryd.prog 10 #[.agg (frA k v),.int .i64 (m:Int)] w fun e w'=>e=.returned (.tuple #[.agg (arn 384 (Ydd k m f)),.int .i64 0])∧Below w.heap.size w w':=by
 obtain⟨B,wA,wB,wC,hB,hwA,hwB,hwC,hzA,hzB,hzC,hC0,hC1,hC2,hbC⟩:=Yg0 w (.cells (frA k v) 31 (0,0)) (.cells (arn 384 fun _=>0) 24 (0,0)) (.cells (arn 384 fun _=>0) 24 (0,0))
 replace hC2:wC.heap[B+2]? =some (ptO (Ya2 (Ydd k m f) 0)):=hC2
 have c1:=Yce k v n wC h.slices;rw[hr] at c1;have c2:∀w,Calls Tryd.prog 16 #[.int .i64 k,.int .i64 (m:Int)] w fun e w'=>e=.returned (.bool true)∧w=w':=fun w=>(Yem k m w).mono fun e y h=>⟨h.1.trans (by rw[Yct.2 ⟨by omega,by simpa using hm⟩]),h.2⟩;have c3:=Lib.hid (fun b (hb:b<6) w=>Ylu k m b w hm hb);have HF:=Lib.hid (fun(x:World) (hx:Below B w x)=>h.below (by rw[hB];exact hx))
 have HV:=Lib.hid (Ydb.1 hr).2;have hz0:=Yb9;have HSX:=Ycs Ydn k v;have HPS:=fun g=>Ya6 g;have HYS:(arn 384 fun _=>0).size=384:=Yai _ _;obtain⟨X,hX⟩:∃X,frA k v=X:=⟨_,rfl⟩;have hC0':wC.heap[B]? =some (.cells X 31 (0,0)):=by rw[←hX];exact hC0
 replace hC0:wC.heap[B]? =some (frO 31 k v):=hC0
 have ck:=Ybm hC0;rw[hX] at c1 hwA HSX ⊢;obtain⟨Y,hY⟩:∃Y,(arn 384 fun _=>0)=Y:=⟨_,rfl⟩;rw[hY] at hwB hwC hz0 HYS hC1;have HX:=Lib.hid hX;have HY:=Lib.hid hY;have HWA:=Lib.hid hwA;have HWB:=Lib.hid hwB;have HWC:=Lib.hid hwC;have HB:=Lib.hid hB;clear hX hY hwA hwB hwC hB h hr
 go_enter Tryd.func10,Tryd.ntmps10
 go_wp2_with (rw[HWA.out,HB.out,HWB.out,HWC.out];with_reducible refine wpList_load_row rfl 31 _ rfl B rfl 31 X (0,0) _ hC0' Tryd.underlying31 rfl HSX ?_)
 refine c1.mono ?_;rintro e w1 ⟨rfl,hb1⟩;have h10:=(hb1.block B (by omega)).trans hC0;have h11:=(hb1.block (B+1) (by omega)).trans hC1;have h12:=(hb1.block (B+2) (by omega)).trans hC2;have hbw:=hbC.trans (hb1.mono (by omega));have hz1:B+3≤w1.heap.size:=by have:=hb1.size;omega
 replace ck:=Ybm h10
 clear hb1 hbC hC0 hC0' hC1 hC2 hzA hzB hzC c1
 go_wp2_with (with_reducible refine(c2 _).mono ?_;rintro e x ⟨rfl,rfl⟩)
 clear ck;have HZ0:=Lib.hid hz0;have HPP:=Lib.hid HPS;have C2:=Lib.hid c2;have HSS:=Lib.hid HSX;clear hz0 HPS c2 HSX
 go_loopw [23] (fun z wr=>∃b:Nat,b≤6∧z=.int .i64 b∧wr.heap[B]? =some (frO 31 k v)∧wr.heap[B+1]? =some (.cells Y 24 (0,0))∧wr.heap[B+2]? =some (ptO (Ya2 (Ydd k m f) (64*b)))∧Below B w wr∧B+3≤wr.heap.size) (fun z _=>6-(RowKit.intOf z).toNat)
 case atStart=>exact⟨0,by omega,rfl,h10,h11,h12,hbw,hz1⟩
 case round=>
  clear h10 h11 h12 hbw hz1;obtain⟨b,hb6,rfl,h0,h1,h2,hb,hz⟩:=hrel;generalize wr=wo at *;by_cases hlt:b<6
  ·have t0:decide ((b:Int)<6)=true:=by simp;omega
   have cw:=fun x=>c3.out b hlt x;have hP3:=Yd2 hlt;have hNs:=HV.out _ hP3;have hN0:0<n (plc b):=by rw[hNs];exact Yp8 (Yma hm) _
   have hNm:n (plc b)≤1073741824:=by rw[hNs];have:=Yex k (plc b);omega
   have HLI:=Lib.hid (fun y (hy:y<8)=>(by rw[hNs];exact Ym6 hm hlt hy:Ymu k m b+y*wid k (plc b)+8≤n (plc b)));have HCA:=Lib.hid (fun y x (hy:y<8) (hx:x<8)=>Yr3 k m f b y x hy hx);obtain⟨ad,cc,hv,hcc,hd⟩:=HF.out wo hb _ hP3;obtain⟨bb,oo,rfl,-⟩:∃bb oo,ad=some ⟨bb,oo,none⟩∧∀i,i<n (plc b)→wo.cell? ⟨bb,oo+i,none⟩=some (.int .u8 (f (plc b) i))∧0≤f (plc b) i∧f (plc b) i≤255:=by
    rcases hd with h0|h0
    ·omega
    ·exact h0
   have HCE:=Lib.hid (fun(x:World) (hx:Below B w x) (i:Nat) (hi:i<n (plc b))=>(by
    obtain⟨ad',cc',hv',_,hd'⟩:=HF.out x hx _ hP3;rw[hv] at hv';injection hv' with e1 _ _;subst e1;rcases hd' with h0|⟨b',o',e2,h0⟩
    ·omega
    ·injection e2 with e2;injection e2 with e2 e3 _;subst e2 e3;exact h0 i hi:x.cell? ⟨bb,oo+i,none⟩=some (.int .u8 (f (plc b) i))∧0≤f (plc b) i∧f (plc b) i≤255))
   have CL:=Lib.hid (fun y (hy:y<8) x=>Ym5 (plc b) (Ymu k m b) (wid k (plc b)) y (n (plc b)) oo cc bb v x hP3 hv hcc (HLI.out y hy) hNm);unfold Ye1 at cw CL;clear hd hNs hv;generalize plc b=P at *;generalize Ymu k m b=F at *;generalize wid k P=W at *;generalize n P=N at *;have ck:=Ybm h0
   go_wp2_with fail
   refine(cw _).mono ?_;rintro e x1 ⟨rfl,hb1⟩;have h10:=(hb1.block B (by omega)).trans h0;have h11:=(hb1.block (B+1) (by omega)).trans h1;have h12:=(hb1.block (B+2) (by omega)).trans h2;have hbw:=hb.trans (hb1.mono (by omega));have hz1:B+3≤x1.heap.size:=by have:=hb1.size;omega
   obtain⟨w2,hw2⟩:∃w2,x1.alloc (.cells (Ye1 P F W) 52 (0,0))=w2:=⟨_,rfl⟩;have h20:w2.heap[B]? =some (frO 31 k v):=by rw[←hw2];exact Yak h10
   have h21:w2.heap[B+1]? =some (.cells Y 24 (0,0)):=by rw[←hw2];exact Yak h11
   have h22:w2.heap[B+2]? =some (ptO (Ya2 (Ydd k m f) (64*b))):=by rw[←hw2];exact Yak h12
   have h23:w2.heap[x1.heap.size]? =some (.cells (Ye1 P F W) 52 (0,0)):=by rw[←hw2];exact heap_alloc_new x1 _
   have hbw2:Below B w w2:=by rw[←hw2];exact hbw.alloc (by omega) _
   have hz2:x1.heap.size<w2.heap.size:=by rw[←hw2];simp
   unfold Ye1 at hw2;have HW2:=Lib.hid hw2;clear hw2 h10 h11 h12 hbw hb1 cw ck h0 h1 h2 hb hz
   go_wp2
   rw[HW2.out];generalize x1.heap.size=R at *;clear HW2
   go_loopw [31] (fun z wr=>∃y:Nat,y≤8∧z=.int .i64 y∧wr.heap[B]? =some (frO 31 k v)∧wr.heap[B+1]? =some (.cells Y 24 (0,0))∧wr.heap[B+2]? =some (ptO (Ya2 (Ydd k m f) (64*b+8*y)))∧wr.heap[R]? =some (.cells (Ye1 P F W) 52 (0,0))∧Below B w wr∧R<wr.heap.size) (fun z _=>8-(RowKit.intOf z).toNat)
   case atStart=>exact⟨0,by omega,rfl,h20,h21,h22,h23,hbw2,hz2⟩
   case round=>
    clear h20 h21 h22 h23 hbw2 hz2;obtain⟨y,hy8,rfl,h0,h1,h2,h3,hb,hz⟩:=hrel;generalize wr=wp at *;by_cases hly:y<8
    ·have t1:decide ((y:Int)<8)=true:=by simp;omega
     have cl:=CL.out y hly;have hq:=HLI.out y hly;have HC2:=Lib.hid (fun x (hx:x<8)=>HCA.out y x hly hx);generalize F+y*W=q at cl hq HC2;have ck:=Ybm h0;have p0:=Ygx h0 (p:=0) (by omega);have p1:=Ygx h0 (p:=1) (by omega);have p2:=Ygx h0 (p:=2) (by omega);obtain⟨a0,a1,a2⟩:=Yki h3
     go_wp2_with fail
     refine(cl _).mono ?_;rintro e x1 ⟨rfl,hb1⟩;have hBz:=hb.size;have h10:=(hb1.block B (by omega)).trans h0;have h11:=(hb1.block (B+1) (by omega)).trans h1;have h12:=(hb1.block (B+2) (by omega)).trans h2;have h13:=(hb1.block R hz).trans h3;have hbw:=hb.trans (hb1.mono (by omega));have hzx:=Nat.lt_of_lt_of_le hz hb1.size;clear hb1 cl ck h0 h1 h2 h3 hb hz hBz p0 p1 p2 a0 a1 a2
     go_wp2
     go_loopw [40] (fun z wr=>∃x:Nat,x≤8∧z=.int .i64 x∧wr.heap[B]? =some (frO 31 k v)∧wr.heap[B+1]? =some (.cells Y 24 (0,0))∧wr.heap[B+2]? =some (ptO (Ya2 (Ydd k m f) (64*b+8*y+x)))∧wr.heap[R]? =some (.cells (Ye1 P F W) 52 (0,0))∧Below B w wr∧R<wr.heap.size) (fun z _=>8-(RowKit.intOf z).toNat)
     case atStart=>exact⟨0,by omega,rfl,h10,h11,h12,h13,hbw,hzx⟩
     case round=>
      clear h10 h11 h12 h13 hbw hzx;obtain⟨x,hx8,rfl,h0,h1,h2,h3,hb,hz⟩:=hrel;by_cases hlx:x<8
      ·have t2:decide ((x:Int)<8)=true:=by simp;omega
       obtain⟨c0,z1,z2⟩:=HCE.out wr hb (q+x) (by omega);have e1:=HC2.out x hlx;rw[←e1] at c0 z1 z2;have wz:IntKind.i64.wrap (Ydd k m f (64*b+8*y+x))=Ydd k m f (64*b+8*y+x):=Yhe (by omega);clear e1;have eA:oo+(q+x)=oo+q+x:=by omega
       rw[eA] at c0;clear eA;obtain⟨t,ht⟩:∃t,64*b+8*y+x=t:=⟨_,rfl⟩;have et:b*64+(8*y+x)=t:=by omega
       rw[ht] at h2 c0 z1 z2 wz;have ht4:t<384:=by omega
       have cc2:wr.cell? ⟨B+1+1,b*64+(8*y+x),none⟩=some (.int .i64 (Ya2 (Ydd k m f) t t)):=by rw[et];exact Ybk (i:=t) h2 ht4
       have ff2:wr.frozen? ⟨B+1+1,b*64+(8*y+x),none⟩=false:=by rw[et];exact Yc9 (i:=t) h2
       have PUT:=Lib.hid (⟨Yaw h0 (by simp;omega),Yaw h1 (by simp),by rw[et,show 64*b+8*y+(x+1)=t+1 by omega];exact Yqp h2,Yaw h3 (by simp;omega),hb.setCell (by simp;omega) _,by simp[World.setCell];omega⟩:(wr.setCell ⟨B+1+1,b*64+(8*y+x),none⟩ (.int .i64 (Ydd k m f t))).heap[B]? =some (frO 31 k v)∧(wr.setCell ⟨B+1+1,b*64+(8*y+x),none⟩ (.int .i64 (Ydd k m f t))).heap[B+1]? =some (.cells Y 24 (0,0))∧(wr.setCell ⟨B+1+1,b*64+(8*y+x),none⟩ (.int .i64 (Ydd k m f t))).heap[B+2]? =some (ptO (Ya2 (Ydd k m f) (64*b+8*y+(x+1))))∧(wr.setCell ⟨B+1+1,b*64+(8*y+x),none⟩ (.int .i64 (Ydd k m f t))).heap[R]? =some (.cells (Ye1 P F W) 52 (0,0))∧Below B w (wr.setCell ⟨B+1+1,b*64+(8*y+x),none⟩ (.int .i64 (Ydd k m f t)))∧R<(wr.setCell ⟨B+1+1,b*64+(8*y+x),none⟩ (.int .i64 (Ydd k m f t))).heap.size)
       generalize Ya2 (Ydd k m f) t t=y2 at cc2;generalize Ydd k m f t=zv at *;clear ht et h0 h1 h2 h3 hb hz
       go_wp2
       go_roundw
       case rel=>exact⟨x+1,by omega,by go_num,PUT.out⟩
       case measure=>simp[RowKit.intOf];omega
      ·obtain rfl:x=8:=by omega
       have t2:decide ((8:Int)<8)=false:=by simp
       have h2':wr.heap[B+2]? =some (ptO (Ya2 (Ydd k m f) (64*b+8*(y+1)))):=h2;clear h2
       go_wp2
       go_roundw
       case rel=>exact⟨y+1,by omega,by go_num,h0,h1,h2',h3,hb,hz⟩
       case measure=>simp[RowKit.intOf];omega
    ·obtain rfl:y=8:=by omega
     have t1:decide ((8:Int)<8)=false:=by simp
     have h2':wp.heap[B+2]? =some (ptO (Ya2 (Ydd k m f) (64*(b+1)))):=h2;have hz3:B+3≤wp.heap.size:=by omega
     clear h2 h3
     go_wp2
     go_roundw
     case rel=>exact⟨b+1,by omega,by go_num,h0,h1,h2',hb,hz3⟩
     case measure=>simp[RowKit.intOf];omega
  ·obtain rfl:b=6:=by omega
   have t0:decide ((6:Int)<6)=false:=by simp
   have HSV:=HPP.out (Ya2 (Ydd k m f) (64*6));have HOV:=Yay 384 (Ya2 (Ydd k m f) (64*6));have HVS:(arn 384 (Ya2 (Ydd k m f) (64*6))).size=384:=Yai _ _;have HVE:arn 384 (Ya2 (Ydd k m f) (64*6))=arn 384 (Ydd k m f):=Ya1 (Ycn 384 (Ydd k m f));have h2':wo.heap[B+2]? =some (.cells (arn 384 (Ya2 (Ydd k m f) (64*6))) 24 (0,0)):=h2;clear h2;rw[HVE] at HSV HOV HVS h2'
   obtain⟨V,hV⟩:∃V,arn 384 (Ydd k m f)=V:=⟨_,rfl⟩;rw[hV] at HSV HOV HVS h2';have HVV:=Lib.hid hV;have HYV:Y.size=V.size:=by rw[HYS,HVS]
   clear HVE hV
   go_wp2_with (first|(with_reducible refine wpList_load_row rfl 24 _ rfl (B+2) rfl 24 V (0,0) _ h2' Tryd.underlying24 rfl HSV ?_)|(with_reducible refine Yac rfl 24 _ _ rfl (B+1) V Y rfl rfl 24 h1 HSV HYV HOV ?_;intro w2 hh2 hg2))
   refine bodyPost_ret (Yah rfl _ _ (B+1) 24 _ (0,0) _ rfl hh2 Tryd.underlying24 rfl HSV) rfl ?_;exact⟨by rw[HVV.out];rfl,by rw[HB.out];exact hb.grown hg2 (by omega) (fun k hk=>by injection hk with hk;omega)⟩
def Yes (b:Nat)(v:Int):Int:=if b<4 then v else Yhg v
def Yk2 (k:Int)(m b:Nat)(v:Int):Nat:=(16*(col k m b:Int)+Yes b v).toNat
def Ylp (k:Int)(m b:Nat)(v:Int):Nat:=(16*(lin k m b:Int)+Yes b v).toNat
def Yb4 (k:Int)(m:Nat)(f:Nat→Nat→Int)(u v:Int):Nat→Int:=fun s=>Yiy (f (plc (s / 64))) (wid k (plc (s / 64))) (Yk2 k m (s / 64) u) (Ylp k m (s / 64) v) (s%64)
theorem Yks {c m:Nat}{v:Int}(h:Ybv c m v=true):0≤16*(c:Int)+Yhg v∧16*(c:Int)+Yhg v+14≤16*(m:Int)-2:=by
 obtain⟨⟨h1,h2⟩,h3,h4⟩:=Yb5.1 h;rw[Yq1 (by omega) (by omega)];unfold Yi0
 split <;> split <;> omega
theorem Yq9 {W H x y:Nat}(hW:0<W)(hH:0<H)(hx:x≤2*W-2)(hy:y≤2*H-2):y / 2*W+x / 2+y%2*W+x%2<W*H:=by
 have h:(y / 2+y%2+1)*W≤H*W:=Nat.mul_le_mul_right _ (by omega);rw[Nat.add_mul,Nat.add_mul,Nat.one_mul,Nat.mul_comm H] at h;omega
theorem Yjr {c m b r:Nat}{v:Int}(h:Ybv c m v=true)(hr:r≤1)(hb:b<6):
  0≤16*((if b<4 then 2*c+r else c:Nat):Int)+Yes b v∧16*((if b<4 then 2*c+r else c:Nat):Int)+Yes b v+14≤2*((if plc b=0 then 16*m else 8*m:Nat):Int)-2:=by
 have h1:=Yb5.1 h;have h2:=Yks h;unfold Yes plc;by_cases h4:b<4
 ·simp only[if_pos h4,if_true];omega
 ·simp only[if_neg h4,if_neg (show ¬ b-3=0 by omega)];omega
theorem Ynm {k:Int}{m b:Nat}{u v:Int}(hm:m<Ybh k)(hu:Ybv (m%acr k) (acr k) u=true)(hv:Ybv (m / acr k) (dow k) v=true)(hb:b<6):
  16*(col k m b:Int)+Yes b u=(Yk2 k m b u:Int)∧16*(lin k m b:Int)+Yes b v=(Ylp k m b v:Int)∧Yk2 k m b u≤9000∧Ylp k m b v≤9000∧InT (siz k (plc b)) (wid k (plc b)) (Yk2 k m b u) (Ylp k m b v):=by
 obtain⟨h0,h1,h2⟩:=Ybw hm;obtain⟨-,-,-,-,m1,m2⟩:=Yb6 k;have c1:0≤16*(col k m b:Int)+Yes b u∧16*(col k m b:Int)+Yes b u+14≤2*(wid k (plc b):Int)-2:=Yjr (r:=b%2) hu (by omega) hb;have c2:0≤16*(lin k m b:Int)+Yes b v∧16*(lin k m b:Int)+Yes b v+14≤2*(hei k (plc b):Int)-2:=by
  have:=Yjr (r:=b / 2) (b:=b) hv;by_cases h4:b<4
  ·exact Yjr (r:=b / 2) hv (by omega) hb
  ·have h:=Yjr (r:=0) (b:=b) hv (by omega) hb;unfold lin hei;simp only[if_neg h4] at h ⊢;exact h
 obtain⟨w1,w2⟩:=Yd3 k (plc b);have e1:16*(col k m b:Int)+Yes b u=(Yk2 k m b u:Int):=by unfold Yk2;omega
 have e2:16*(lin k m b:Int)+Yes b v=(Ylp k m b v:Int):=by unfold Ylp;omega
 rw[e1] at c1;rw[e2] at c2;refine⟨e1,e2,by omega,by omega,fun i hi=>?_⟩;have hh:siz k (plc b)=wid k (plc b)*hei k (plc b):=rfl;rw[hh];have q1:i%8≤7:=by omega
 have q2:i / 8≤7:=by omega
 exact Yq9 (by omega) (by omega) (by omega) (by omega)
theorem Ygb (k:Int)(m:Nat)(f:Nat→Nat→Int)(u v:Int)(b:Nat):∀i,i<64→Yiy (f (plc b)) (wid k (plc b)) (Yk2 k m b u) (Ylp k m b v) i=Yb4 k m f u v (64*b+i):=fun i hi=>by
 unfold Yb4;rw[show (64*b+i) / 64=b by omega,show (64*b+i)%64=i by omega]
end Go.Proofs.YtdnjefldijjgdaaDoor
namespace Go.Proofs.YtdnjefldijjgdaaDoor
theorem Yoa (b:Nat):Yes b 0=0:=by unfold Yes;rw[Ymc];split <;> rfl
theorem Yih (k:Int)(m:Nat)(f:Nat→Nat→Int):∀s,Yb4 k m f 0 0 s=Ydd k m f s:=by
 intro s;unfold Yb4 Ydd Yiy Yi6 Yk2 Ylp;rw[Yoa];have e1:((16*(col k m (s / 64):Int)+0).toNat+2*(s%64%8))=2*(8*col k m (s / 64)+s%64%8):=by omega
 have e2:((16*(lin k m (s / 64):Int)+0).toNat+2*(s%64 / 8))=2*(8*lin k m (s / 64)+s%64 / 8):=by omega
 rw[e1,e2,Nat.mul_div_cancel_left _ (by omega),Nat.mul_div_cancel_left _ (by omega),Nat.mul_mod_right,Nat.mul_mod_right,Nat.zero_mul,Nat.add_zero,Ypq];generalize f (plc (s / 64)) (pos k m (s / 64) (s%64))=z;omega
theorem Yj3 {k:Int}{m:Nat}(h:m<Ybh k):Yj1 k m 0 0=true:=by
 obtain⟨h0,h1,h2⟩:=Ybw h;refine Yew.2 ⟨⟨by omega,by simpa using h⟩,?_,?_⟩
 ·rw[Int.toNat_natCast];exact Yb5.2 ⟨by omega,by omega,by omega⟩
 ·rw[Int.toNat_natCast];generalize m / acr k=y at *;exact Yb5.2 ⟨by omega,by omega,by omega⟩
theorem Yh5 {k:Int}{m:Nat}{f:Nat→Nat→Int}{a b lo hi:Int}{t i:Nat}(hm:m<Ybh k)(hy:Yj1 k m a b=true)(ht:t<6)(hi64:i<64)
  (hl:∀j,j<siz k (plc t)→lo≤f (plc t) j∧f (plc t) j≤hi):lo≤Yb4 k m f a b (64*t+i)∧Yb4 k m f a b (64*t+i)≤hi:=by
 obtain⟨-,hu,hv⟩:=Yew.1 hy;rw[Int.toNat_natCast] at hu hv;obtain⟨-,-,-,-,e5⟩:=Ynm (b:=t) hm hu hv ht;have e6:=e5 i hi64;have hq:=Ygb k m f a b t i hi64;unfold Yiy Yi6 at hq;rw[←hq];generalize Yk2 k m t a+2*(i%8)=x at *;generalize Ylp k m t b+2*(i / 8)=y at *;have q0:=hl (y / 2*wid k (plc t)+x / 2) (by omega);have q1:=hl (y / 2*wid k (plc t)+x / 2+x%2) (by omega)
 have q2:=hl (y / 2*wid k (plc t)+x / 2+y%2*wid k (plc t)) (by omega);have q3:=hl (y / 2*wid k (plc t)+x / 2+y%2*wid k (plc t)+x%2) (by omega);omega
end Go.Proofs.YtdnjefldijjgdaaDoor
namespace Go.Proofs.YtdnjefldijjgdaaDoor
open Go.RowKit Go.Lib
set_option maxRecDepth 1000000 in
set_option maxHeartbeats 8000000 in
theorem Ynl (k:Int)(v:Nat→Value)(n:Nat→Nat)(f:Nat→Nat→Int)(m:Nat)(a b:Int)(w:World)(h:Ygl w v n f)(hr:Ybf k n=true)(hm:m<Ybh k)(hy:Yj1 k m a b=true):
  Calls Tryd.prog 22 #[.agg (frA k v),.int .i64 (m:Int),.agg (Yfp a b)] w fun e w'=>e=.returned (.tuple #[.agg (arn 384 (Yb4 k m f a b)),.int .i64 0])∧Below w.heap.size w w':=by
 obtain⟨B,wA,wB,wC,wD,hB,hwA,hwB,hwC,hwD,hzA,hzB,hzC,hzD,hD0,hD1,hD2,hD3,hbD⟩:=Yrd w (.cells (frA k v) 31 (0,0)) (.cells (Yfp a b) 32 (0,0)) (.cells (arn 384 fun _=>0) 24 (0,0)) (.cells (arn 384 fun _=>0) 24 (0,0));obtain⟨-,hu,hv⟩:=Yew.1 hy;rw[Int.toNat_natCast] at hu hv;have hu2:=Yb5.1 hu;have hv2:=Yb5.1 hv
 replace hD3:wD.heap[B+3]? =some (ptO (Ya2 (Yb4 k m f a b) 0)):=hD3
 have cR:=Yce k v n wD h.slices;rw[hr] at cR;have cH:∀w,Calls Tryd.prog 30 #[.int .i64 k,.int .i64 (m:Int)] w fun e w'=>e=.returned (.bool true)∧w=w':=fun w=>(Yfd k m w).mono fun e y h=>⟨h.1.trans (by rw[Yct.2 ⟨by omega,by simpa using hm⟩]),h.2⟩;have cM:=fun w=>Yj2 k m a b w;rw[hy] at cM;have cC:=fun w=>Yb7 k w;obtain⟨e1,e2,-⟩:=Yb6 k;rw[←e1,←e2] at cC;clear e1 e2
 have HF:=Lib.hid (fun(x:World) (hx:Below B w x)=>h.below (by rw[hB];exact hx));have HV:=Lib.hid (Ydb.1 hr).2;have HO:=Lib.hid (fun p (hp:p<3) x=>Yng k v p x hp (fun p hp=>by obtain⟨a,c,h⟩:=h.slices p hp;exact⟨a,n p,c,h⟩));obtain⟨r1,r2,r3,z0,m1,m2,m3,m4⟩:=Yjt hm;have HT:=Lib.hid (fun t (ht:t<6) (x:World) (hx:Below B w x) c (lo:Nat) (hc:Ycc x lo c (v (plc t)) (wid k (plc t)))=>(by
  obtain⟨e1,e2,e3,e4,e5⟩:=Ynm (b:=t) hm hu hv ht;have hp:=Yd2 ht;have en:=(Ydb.1 hr).2 _ hp;have hs:=Yex k (plc t);obtain⟨h1,h2,-⟩:=Ybw hm;have hc1:=Ygv hm ht;have hl1:=Yg1 hm ht;have hw1:=Yd3 k (plc t)
  exact Ylm c (v (plc t)) (wid k (plc t)) (n (plc t)) (col k m t) (lin k m t) (Yk2 k m t a) (Ylp k m t b) (f (plc t)) (Yes t a) (Yes t b) x lo hc (h.below (by rw[hB];exact hx) _ hp) (by omega) (by omega) (by omega) e1 e2 e3 e4 (by rw[en];exact e5):
   Calls Tryd.prog 33 #[c,.int .i64 (col k m t:Int),.int .i64 (lin k m t:Int),.agg (Yfp (Yes t a) (Yes t b))] x fun e w'=>e=.returned (.agg (Yat (Yiy (f (plc t)) (wid k (plc t)) (Yk2 k m t a) (Ylp k m t b))))∧Below x.heap.size x w'))
 have HPB:=Lib.hid (fun t=>Ygb k m f a b t);have hzp:=Yb9;have HSX:=Ycs Ydn k v;have HS2:=Yc8 a b;have HPS:=fun g=>Ya6 g;have HYS:(arn 384 fun _=>0).size=384:=Yai _ _;obtain⟨X,hX⟩:∃X,frA k v=X:=⟨_,rfl⟩;have hD0':wD.heap[B]? =some (.cells X 31 (0,0)):=by rw[←hX];exact hD0
 replace hD0:wD.heap[B]? =some (frO 31 k v):=hD0
 have ck:=Ybm hD0;rw[hX] at cR hwA HSX ⊢;rw[hX] at HO;obtain⟨Y,hY⟩:∃Y,(arn 384 fun _=>0)=Y:=⟨_,rfl⟩;rw[hY] at hwC hwD hzp HYS hD2;obtain⟨Z,hZ⟩:∃Z,Yfp a b=Z:=⟨_,rfl⟩;rw[hZ] at hwB HS2 hD1 cM ⊢;have HX:=Lib.hid hX;have HY:=Lib.hid hY;have HZ:=Lib.hid hZ;have HWA:=Lib.hid hwA;have HWB:=Lib.hid hwB;have HWC:=Lib.hid hwC;have HWD:=Lib.hid hwD;have HB:=Lib.hid hB
 clear hX hY hZ hwA hwB hwC hwD hB h hr hu hv hy
 go_enter Tryd.func22,Tryd.ntmps22
 go_wp2_with (rw[HWA.out,HB.out,HWB.out,HWC.out,HWD.out];with_reducible refine wpList_load_row rfl 31 _ rfl B rfl 31 X (0,0) _ hD0' Tryd.underlying31 rfl HSX ?_)
 refine cR.mono ?_;rintro e w1 ⟨rfl,hb1⟩;have h0:=(hb1.block B (by omega)).trans hD0;have h1:=(hb1.block (B+1) (by omega)).trans hD1;have h2:=(hb1.block (B+2) (by omega)).trans hD2;have h3:=(hb1.block (B+3) (by omega)).trans hD3;have hbw:=hbD.trans (hb1.mono (by omega));have hz1:B+4≤w1.heap.size:=by have:=hb1.size;omega
 replace ck:=Ybm h0
 clear hb1 hbD hD0 hD0' hD1 hD2 hD3 hzA hzB hzC hzD cR
 go_wp2_with (first|(with_reducible refine(cH _).mono ?_;rintro e x ⟨rfl,rfl⟩)|(with_reducible refine(cC _).mono ?_;rintro e x ⟨rfl,rfl⟩)|(with_reducible refine wpList_load_row rfl 32 _ rfl (B+1) rfl 32 Z (0,0) _ h1 Tryd.underlying32 rfl HS2 ?_))
 refine(cM _).mono ?_;rintro e w2 ⟨rfl,hb1⟩
 replace h0:=(hb1.block B (by omega)).trans h0
 replace h1:=(hb1.block (B+1) (by omega)).trans h1
 replace h2:=(hb1.block (B+2) (by omega)).trans h2
 replace h3:=(hb1.block (B+3) (by omega)).trans h3
 replace hbw:=hbw.trans (hb1.mono (by omega))
 replace hz1:B+4≤w2.heap.size:=by have:=hb1.size;omega
 replace ck:=Ybm h0
 have h0':w2.heap[B]? =some (.cells X 31 (0,0)):=by rw[←HX.out];exact h0
 clear hb1 cM;obtain⟨u,hu⟩:∃u,m%acr k=u:=⟨_,rfl⟩;obtain⟨q,hq⟩:∃q,m / acr k=q:=⟨_,rfl⟩;have hC4:=Lib.hid (fun t (ht:t<4)=>(by unfold col lin plc Yes;simp only[if_pos ht,hu,hq];exact⟨trivial,trivial,trivial,trivial,trivial⟩:col k m t=2*u+t%2∧lin k m t=2*q+t / 2∧plc t=0∧Yes t a=a∧Yes t b=b))
 have hC5:=Lib.hid (fun p (hp:p=1∨p=2)=>(by unfold col lin plc Yes;rcases hp with rfl|rfl <;> simp[hu,hq]:col k m (3+p)=u∧lin k m (3+p)=q∧plc (3+p)=p∧Yes (3+p) a=Yhg a∧Yes (3+p) b=Yhg b));rw[hu] at r1 m1 hu2;rw[hq] at r2 r3 m2 hv2;generalize acr k=A at *;generalize dow k=D at *;clear hu hq;have HM:=Lib.hid hm;have HZP:=Lib.hid hzp;clear hm hzp
 go_wp2_with (first|(with_reducible refine(cH _).mono ?_;rintro e x ⟨rfl,rfl⟩)|(with_reducible refine(cC _).mono ?_;rintro e x ⟨rfl,rfl⟩)|(with_reducible refine wpList_load_row rfl 31 _ rfl B rfl 31 X (0,0) _ h0' Tryd.underlying31 rfl HSX ?_))
 refine Yal (S:=fun x=>Below w2.heap.size w2 x) 8 (by kernel_rfl) (by kernel_rfl) (Below.refl _ _).drew ?_;simp only[List.take_succ_cons,List.take_zero,List.drop_succ_cons,List.drop_zero];refine Yab (v:=?v0) (by kernel_rfl) ?m ?_;(case m=>(intro x _;go_simp;try with_reducible rfl));simp only[Yaa];refine Yab (v:=?v1) (by kernel_rfl) ?m ?_;(case m=>(intro x _;go_simp;try with_reducible rfl))
 simp only[Yaa];refine Yab (v:=?v2) (by kernel_rfl) ?m ?_;(case m=>(intro x _;go_simp;rw[if_neg (by omega)]));simp only[Yaa];refine Yab (v:=?v3) (by kernel_rfl) ?m ?_;(case m=>(intro x _;go_simp;try with_reducible rfl));simp only[Yaa];refine Yab (v:=?v4) (by kernel_rfl) ?m ?_;(case m=>(intro x _;go_simp;try with_reducible rfl));simp only[Yaa]
 refine Yab (v:=?v5) (by kernel_rfl) ?m ?_;(case m=>(intro x _;go_simp;rw[if_neg (by omega)]));simp only[Yaa];refine Yab (v:=?v6) (by kernel_rfl) ?m ?_;(case m=>(intro x _;go_simp;try with_reducible rfl));simp only[Yaa];refine Yab (v:=?v7) (by kernel_rfl) ?m ?_;(case m=>(intro x _;go_simp;try with_reducible rfl));simp only[Yaa];refine Ybl fun x hx=>?_
 replace h0:=(hx.block B (by omega)).trans h0
 replace h1:=(hx.block (B+1) (by omega)).trans h1
 replace h2:=(hx.block (B+2) (by omega)).trans h2
 replace h3:=(hx.block (B+3) (by omega)).trans h3
 replace hbw:=hbw.trans (hx.mono (by omega))
 replace hz1:B+4≤x.heap.size:=by have:=hx.size;omega
 have ho:=HO.out 0 (by omega) x;have hzc:=hz1
 replace h0':x.heap[B]? =some (.cells X 31 (0,0)):=by rw[←HX.out];exact h0
 clear hx ck
 go_wp2_with (with_reducible refine wpList_load_row rfl 31 _ rfl B rfl 31 X (0,0) _ h0' Tryd.underlying31 rfl HSX ?_)
 refine ho.mono ?_;rintro e w3 ⟨c,rfl,hc,hb1⟩
 replace h0:=(hb1.block B (by omega)).trans h0
 replace h1:=(hb1.block (B+1) (by omega)).trans h1
 replace h2:=(hb1.block (B+2) (by omega)).trans h2
 replace h3:=(hb1.block (B+3) (by omega)).trans h3
 replace hbw:=hbw.trans (hb1.mono (by omega))
 replace hz1:B+4≤w3.heap.size:=by have:=hb1.size;omega
 replace hc:=hc.mono hzc
 clear hb1 ho h0' hzc
 go_wp2
 go_loopw [48] (fun z wr=>∃t:Nat,t≤4∧z=.int .i64 t∧wr.heap[B]? =some (frO 31 k v)∧wr.heap[B+1]? =some (.cells Z 32 (0,0))∧wr.heap[B+2]? =some (.cells Y 24 (0,0))∧wr.heap[B+3]? =some (ptO (Ya2 (Yb4 k m f a b) (64*t)))∧Below B w wr∧B+4≤wr.heap.size∧Ycc wr (B+4) c (v 0) (wid k 0)) (fun z _=>4-(RowKit.intOf z).toNat)
 case atStart=>exact⟨0,by omega,rfl,h0,h1,h2,h3,hbw,hz1,hc⟩
 case round=>
  clear h0 h1 h2 h3 hbw hz1 hc;obtain⟨t,ht4,rfl,h0,h1,h2,h3,hb,hz,hc⟩:=hrel;by_cases hlt:t<4
  ·have t0:decide ((t:Int)<4)=true:=by simp;omega
   obtain⟨i1,i2,i3,i4,i5⟩:=hC4.out t hlt;have ct:=HT.out t (by omega) wr hb c (B+4) (by rw[i3];exact hc);have hG:=HPB.out t;rw[i1,i2,i3,i4,i5,HZ.out] at ct;rw[i3] at hG;generalize Yiy (f 0) (wid k 0) (Yk2 k m t a) (Ylp k m t b)=G at ct hG;have HSV:=Yan G;obtain⟨V,hV⟩:∃V,Yat G=V:=⟨_,rfl⟩;rw[hV] at ct HSV;have HV2:=Lib.hid hV;have HG:=Lib.hid hG
   have e1:(t:Int).tmod 2=((t%2:Nat):Int):=by rw[Int.tmod_eq_emod_of_nonneg (by omega)];rfl
   have e2:(t:Int).tdiv 2=((t / 2:Nat):Int):=by rw[Int.tdiv_eq_ediv_of_nonneg (by omega)];rfl
   have e3:IntKind.i64.wrap ((t / 2:Nat):Int)=((t / 2:Nat):Int):=Ya3 (by omega);have b1:t%2<2:=by omega
   have b2:t / 2<2:=by omega
   have S1:2*(u:Int)+((t%2:Nat):Int)=((2*u+t%2:Nat):Int):=by omega
   have S2:2*(q:Int)+((t / 2:Nat):Int)=((2*q+t / 2:Nat):Int):=by omega
   have S3:IntKind.i64.wrap ((2*u+t%2:Nat):Int)=((2*u+t%2:Nat):Int):=Ya3 (by omega);have S4:IntKind.i64.wrap ((2*q+t / 2:Nat):Int)=((2*q+t / 2:Nat):Int):=Ya3 (by omega);generalize 2*u+t%2=xx at *;generalize 2*q+t / 2=yy at *;generalize t%2=tm at *;generalize t / 2=tq at *;clear hV hG i1 i2 i3 i4 i5
   go_wp2_with (with_reducible refine wpList_load_row rfl 32 _ rfl (B+1) rfl 32 Z (0,0) _ h1 Tryd.underlying32 rfl HS2 ?_)
   refine ct.mono ?_;rintro e x1 ⟨rfl,hb1⟩;have k0:=(hb1.block B (by omega)).trans h0;have k1:=(hb1.block (B+1) (by omega)).trans h1;have k2:=(hb1.block (B+2) (by omega)).trans h2;have k3:=(hb1.block (B+3) (by omega)).trans h3;have kb:=hb.trans (hb1.mono (by omega));have kz:B+4≤x1.heap.size:=by have:=hb1.size;omega
   have kc:=hc.below hb1;have k3':x1.heap[B+1+1+1]? =some (Ycg 24 384 (Ya2 (Yb4 k m f a b) (64*t))):=k3;clear h0 h1 h2 h3 hb hz hc hb1 ct S1 S2 S3 S4 k3
   go_wp2_with (refine Yf0 rfl 22 _ _ rfl (B+1+1+1) t _ (by omega) 24 (Yb4 k m f a b) G V HV2.out rfl rfl k3' (by omega) HG.out HSV ?_;intro w2 hh2 hg2)
   have hb2:Below B w w2:=kb.grown hg2 (by omega) (fun k hk=>by injection hk with hk;omega);have j0:=(hg2.block B (by omega) (by intro e;injection e with e;omega)).trans k0;have j1:=(hg2.block (B+1) (by omega) (by intro e;injection e with e;omega)).trans k1;have j2:=(hg2.block (B+2) (by omega) (by intro e;injection e with e;omega)).trans k2;have jz:B+4≤w2.heap.size:=Nat.le_trans kz hg2.size
   have jc:=kc.grown hg2 (by omega)
   go_roundw
   case rel=>exact⟨t+1,by omega,by go_num,j0,j1,j2,hh2.out,hb2,jz,jc⟩
   case measure=>simp[RowKit.intOf];omega
  ·obtain rfl:t=4:=by omega
   have t0:decide ((4:Int)<4)=false:=by simp
   have h1':wr.heap[B+1]? =some (.cells (Yfp a b) 32 (0,0)):=by rw[HZ.out];exact h1
   have HC2:=Lib.hid (fun(x:World) (hx:Below wr.heap.size wr x)=>Ykf ((hx.block (B+1) (by omega)).trans h1'));have C1:=Lib.hid (fun(x:World) (hx:Below wr.heap.size wr x)=>((Yfa a x).mono fun e y h=>⟨h.1,h.2▸hx⟩:Calls Tryd.prog 34 #[.int .i64 a] x fun e y=>e=.returned (.int .i64 (Yhg a))∧Below wr.heap.size wr y))
   have C2:=Lib.hid (fun(x:World) (hx:Below wr.heap.size wr x)=>((Yfa b x).mono fun e y h=>⟨h.1,h.2▸hx⟩:Calls Tryd.prog 34 #[.int .i64 b] x fun e y=>e=.returned (.int .i64 (Yhg b))∧Below wr.heap.size wr y));have hca:=Ymb a;have hcb:=Ymb b;generalize Yhg a=a' at *;generalize Yhg b=b' at *;clear hc h1'
   go_wp2
   refine Yal (S:=fun x=>Below wr.heap.size wr x) 7 (by kernel_rfl) (by kernel_rfl) (Below.refl _ _).drew ?_;simp only[List.take_succ_cons,List.take_zero,List.drop_succ_cons,List.drop_zero];refine Yab (v:=?vc0) (by kernel_rfl) ?m ?_;(case m=>(intro x _;go_simp;try with_reducible rfl));simp only[Yaa]
   refine Yao 3 _ ⟨B+1,0,none⟩ (.int .i64 a) (by kernel_rfl) rfl rfl (fun x hx=>by have c0:=(HC2.out x hx).1;go_simp) ?_;simp only[Yaa];refine Ybb (by kernel_rfl) C1.out (fun _=>by kernel_rfl) ?_;simp only[Yaa];refine Yab (v:=?vc3) (by kernel_rfl) ?m ?_;(case m=>(intro x _;go_simp;try with_reducible rfl));simp only[Yaa]
   refine Yao 3 _ ⟨B+1,1,none⟩ (.int .i64 b) (by kernel_rfl) rfl rfl (fun x hx=>by have c0:=(HC2.out x hx).2;go_simp) ?_;simp only[Yaa];refine Ybb (by kernel_rfl) C2.out (fun _=>by kernel_rfl) ?_;simp only[Yaa];refine Yab (v:=?vc6) (by kernel_rfl) ?m ?_;(case m=>(intro x _;go_simp;try with_reducible rfl));simp only[Yaa];refine Ybl fun x hx=>?_;have k0:=(hx.block B (by omega)).trans h0
   have k1:=(hx.block (B+1) (by omega)).trans h1;have k2:=(hx.block (B+2) (by omega)).trans h2;have k3:=(hx.block (B+3) (by omega)).trans h3;have kb:=hb.trans (hx.mono (by omega));have kz:B+4≤x.heap.size:=by have:=hx.size;omega
   have HZS:Z.size=2:=by rw[←HZ.out];rfl
   go_wp2_with (refine Yac rfl 32 _ _ rfl (B+1) #[.int .i64 a',.int .i64 b'] Z rfl rfl 32 k1 (Yc8 a' b') HZS (Yrx a' b') ?_;intro w2 hh2 hg2)
   have hC2:∃Z2,Yfp a' b'=Z2:=⟨_,rfl⟩;obtain⟨Z2,hZ2⟩:=hC2;have HSZ2:(Tryd.prog.info? 32).map (·.size)=some Z2.size:=by rw[←hZ2];exact Yc8 a' b'
   have j0:=(hg2.block B (by omega) (by intro e;injection e with e;omega)).trans k0;have j1:w2.heap[B+1]? =some (.cells Z2 32 (0,0)):=by rw[←hZ2];exact hh2
   have j2:=(hg2.block (B+2) (by omega) (by intro e;injection e with e;omega)).trans k2;have j3:w2.heap[B+3]? =some (Ycg 24 384 (Ya2 (Yb4 k m f a b) (64*(3+1)))):=(hg2.block (B+3) (by omega) (by intro e;injection e with e;omega)).trans k3;have jb:Below B w w2:=kb.grown hg2 (by omega) (fun k hk=>by injection hk with hk;omega);have jz:B+4≤w2.heap.size:=Nat.le_trans kz hg2.size;have HZ2:=Lib.hid hZ2
   clear h0 h1 h2 h3 hb hz k0 k1 k2 k3 kb kz hx hh2 hg2 hZ2 C1 C2 HC2;generalize wr=wo at *
   go_loopw [15] (fun z wr=>∃p:Nat,(p=1∨p=2∨p=3)∧z=.int .i64 p∧wr.heap[B]? =some (frO 31 k v)∧wr.heap[B+1]? =some (.cells Z2 32 (0,0))∧wr.heap[B+2]? =some (.cells Y 24 (0,0))∧wr.heap[B+3]? =some (Ycg 24 384 (Ya2 (Yb4 k m f a b) (64*(3+p))))∧Below B w wr∧B+4≤wr.heap.size) (fun z _=>3-(RowKit.intOf z).toNat)
   case atStart=>exact⟨1,.inl rfl,rfl,j0,j1,j2,j3,jb,jz⟩
   case round=>
    clear j0 j1 j2 j3 jb jz;obtain⟨p,hp3,rfl,h0,h1,h2,h3,hb,hz⟩:=hrel;by_cases hlt:p<3
    ·have hp:p=1∨p=2:=by omega
     have t1:decide ((p:Int)<3)=true:=by simp;omega
     obtain⟨i1,i2,i3,i4,i5⟩:=hC5.out p hp;have ho:=HO.out p (by omega);have h0':wr.heap[B]? =some (.cells X 31 (0,0)):=by rw[←HX.out];exact h0
     obtain⟨t,ht⟩:∃t,3+p=t:=⟨_,rfl⟩;have ht6:t<6:=by omega
     have hp6:=Lib.hid ht6;obtain⟨t1,ht1⟩:∃t1,t+1=t1:=⟨_,rfl⟩;have S1:(4:Int)+(p:Int)=(t1:Int):=by omega
     have S2:(t1:Int)-1=(t:Int):=by omega
     have S3:IntKind.i64.wrap (t1:Int)=(t1:Int):=Ya3 (by omega);have S4:IntKind.i64.wrap (t:Int)=(t:Int):=Ya3 (by omega);rw[ht] at i1 i2 i3 i4 i5 h3;have h4:64*(t+1)=64*(3+(p+1)):=by omega
     have H4:=Lib.hid h4;have HTP:=Lib.hid ht;clear ht1 h4 ht;have hG:=HPB.out t;rw[i3] at hG;generalize hGG:Yiy (f p) (wid k p) (Yk2 k m t a) (Ylp k m t b)=G at hG;have HSV:=Yan G;obtain⟨V,hV⟩:∃V,Yat G=V:=⟨_,rfl⟩;rw[hV] at HSV;have HVV:=Lib.hid hV;rw[←hGG] at hV
     replace hV:=Lib.hid hV
     have HG:=Lib.hid hG;clear hG hGG
     go_wp2
     refine wp_region_held_drew (S:=(fun x=>Below B w x∧x.heap[B]? =some (.cells X 31 (0,0))∧x.heap[B+1]? =some (.cells Z2 32 (0,0)))) (by kernel_rfl) ⟨hb.drew,h0',h1⟩ (fun hH=>?_);refine Ydo 0 (some 78) rfl rfl hH (by kernel_rfl) (fun x _=>by go_simp;try with_reducible rfl) ?_
     try simp only[Yaa]
     refine Ydo 1 (some 79) rfl rfl hH (by kernel_rfl) (fun x _=>by go_simp;try with_reducible rfl) ?_
     try simp only[Yaa]
     refine Ydo 2 (some 80) rfl rfl hH (by kernel_rfl) (fun x _=>by go_simp;try with_reducible rfl) ?_
     try simp only[Yaa]
     refine Yc3 3 (some 81) (v:=.agg X) rfl rfl (by kernel_rfl) (by kernel_rfl) (by kernel_rfl) (fun _ _ _ h=>h) hH (Or.inl ⟨by kernel_rfl,fun x hx=>Ya7 (ty:=31) (x:=.tmp 3) (ad:=⟨B,0,none⟩) (by kernel_rfl) (by kernel_rfl) (run_loadVar_row x (B) _ _ X (0,0) _ (hx.2.1) Tryd.underlying31 rfl HSX)⟩) ?_
     try simp only[Yaa]
     refine Ydo 4 (some 82) rfl rfl hH (by kernel_rfl) (fun x _=>by go_simp;try with_reducible rfl) ?_
     try simp only[Yaa]
     refine Ydo 6 (some 84) rfl rfl hH (by kernel_rfl) (fun x _=>by go_simp;try with_reducible rfl) ?_
     try simp only[Yaa]
     refine Ydo 7 (some 85) rfl rfl hH (by kernel_rfl) (fun x _=>by go_simp;try with_reducible rfl) ?_
     try simp only[Yaa]
     refine Yc3 8 (some 86) (v:=.agg Z2) rfl rfl (by kernel_rfl) (by kernel_rfl) (by kernel_rfl) (fun _ _ _ h=>h) hH (Or.inl ⟨by kernel_rfl,fun x hx=>Ya7 (ty:=32) (x:=.tmp 5) (ad:=⟨B+1,0,none⟩) (by kernel_rfl) (by kernel_rfl) (run_loadVar_row x (B+1) _ _ Z2 (0,0) _ (hx.2.2) Tryd.underlying32 rfl HSZ2)⟩) ?_
     try simp only[Yaa]
     refine wpAnyH_ready (rs:=[5]) (by kernel_rfl) (by simp) ?_;refine AllReadyH.cons rfl (fun K hK=>?_) AllReadyH.nil
     go_simp
     go_wp2_with fail
     refine(ho _).mono ?_;rintro e x1 ⟨c1,rfl,hc,hb1⟩;have hc2:=hc.mono (show B+4≤wr.drew.heap.size from hz);have k2:=(hb1.block (B+2) (show B+2<wr.heap.size by omega)).trans h2;have k3:=(hb1.block (B+3) (show B+3<wr.heap.size by omega)).trans h3;have kz:B+4≤x1.heap.size:=Nat.le_trans hz hb1.size;clear hc
     refine hK.out _ _ (⟨hH.1.trans (hb1.mono (show B≤wr.heap.size by omega)),(hb1.block B (show B<wr.heap.size by omega)).trans hH.2.1,(hb1.block (B+1) (show B+1<wr.heap.size by omega)).trans hH.2.2⟩) (fun hH2=>?_);clear hK K hH;have hH:=hH2;clear hH2
     try simp only[Yaa]
     refine wpAnyH_ready (rs:=[9]) (by kernel_rfl) (by simp) ?_;refine AllReadyH.cons rfl (fun K hK=>?_) AllReadyH.nil
     go_simp
     go_wp2_with fail
     have ct:=HT.out t hp6 x1 hH.1 c1 (B+4) (by rw[i3];exact hc2);rw[i1,i2,i3,i4,i5,HZ2.out,hV.out] at ct;refine ct.mono ?_;rintro e x2 ⟨rfl,hb2⟩;have l2:=(hb2.block (B+2) (by omega)).trans k2;have l3:=(hb2.block (B+3) (by omega)).trans k3;have lz:B+4≤x2.heap.size:=Nat.le_trans kz hb2.size
     refine hK.out _ _ (⟨hH.1.trans (hb2.mono (by omega)),(hb2.block B (by omega)).trans hH.2.1,(hb2.block (B+1) (by omega)).trans hH.2.2⟩) (fun hH2=>?_);clear hK K hH;have hH:=hH2;clear hH2
     try simp only[Yaa]
     refine Ydo 10 (some 88) (v:=.pointer (some ⟨B+1+1+1,t*64,none⟩)) rfl rfl hH (by kernel_rfl) (fun x _=>by go_simp;first|rw[if_pos (by omega)]|exact fun h6=>absurd h6 (by omega)) ?_
     try simp only[Yaa]
     refine wpAnyH_ready (rs:=[11]) (by kernel_rfl) (by simp) ?_;refine AllReadyH.cons rfl (fun K hK=>?_) AllReadyH.nil;refine(if_pos (by kernel_rfl)).mpr ?_;refine Yep 22 _ _ rfl (B+1+1+1) t _ (by omega) 24 (Yb4 k m f a b) G V HVV.out rfl rfl l3 ht6 HG.out HSV (fun w5 hh5 hg5=>?_);have n0:=(hg5.block B (by omega) (by intro e;injection e with e;omega)).trans hH.2.1
     have n1:=(hg5.block (B+1) (by omega) (by intro e;injection e with e;omega)).trans hH.2.2;have n2:=(hg5.block (B+2) (by omega) (by intro e;injection e with e;omega)).trans l2;have nb:Below B w w5:=hH.1.grown hg5 (by omega) (fun k hk=>by injection hk with hk;omega);have nz:B+4≤w5.heap.size:=Nat.le_trans lz hg5.size;refine hK.out _ _ ⟨nb,n0,n1⟩ (fun hH2=>?_);clear hK K hH hH2
     try simp only[Act.put]
     refine wpAnyH_done (by kernel_rfl) ?_ _;have n3:w5.heap[B+3]? =some (Ycg 24 384 (Ya2 (Yb4 k m f a b) (64*(3+(p+1))))):=by rw[←H4.out];exact hh5.out
     have n0':w5.heap[B]? =some (frO 31 k v):=by rw[←HX.out] at n0;exact n0
     clear h0 h1 h2 h3 hb hz hb1 hb2 k2 k3 kz l2 l3 lz ct hc2 hg5 hh5 n0 h0' S1 S2 S3 S4
     go_wp2
     go_roundw
     case rel=>exact⟨p+1,by omega,by go_num,n0',n1,n2,n3,nb,nz⟩
     case measure=>simp[RowKit.intOf];omega
    ·obtain rfl:p=3:=by omega
     have t1:decide ((3:Int)<3)=false:=by simp
     have HSV:=HPS (Ya2 (Yb4 k m f a b) (64*6));have HOV:=Yay 384 (Ya2 (Yb4 k m f a b) (64*6));have HVS:(arn 384 (Ya2 (Yb4 k m f a b) (64*6))).size=384:=Yai _ _;have HVE:arn 384 (Ya2 (Yb4 k m f a b) (64*6))=arn 384 (Yb4 k m f a b):=Ya1 (Ycn 384 (Yb4 k m f a b));have h3':wr.heap[B+3]? =some (.cells (arn 384 (Ya2 (Yb4 k m f a b) (64*6))) 24 (0,0)):=h3;clear h3;rw[HVE] at HSV HOV HVS h3'
     obtain⟨V,hV⟩:∃V,arn 384 (Yb4 k m f a b)=V:=⟨_,rfl⟩;rw[hV] at HSV HOV HVS h3';have HVV:=Lib.hid hV;have HYV:Y.size=V.size:=by rw[HYS,HVS]
     clear HVE hV
     go_wp2_with (first|(with_reducible refine wpList_load_row rfl 24 _ rfl (B+3) rfl 24 V (0,0) _ h3' Tryd.underlying24 rfl HSV ?_)|(with_reducible refine Yac rfl 24 _ _ rfl (B+2) V Y rfl rfl 24 h2 HSV HYV HOV ?_;intro w4 hh4 hg4))
     refine bodyPost_ret (Yah rfl _ _ (B+2) 24 _ (0,0) _ rfl hh4 Tryd.underlying24 rfl HSV) rfl ?_;exact⟨by rw[HVV.out];rfl,by rw[HB.out];exact hb.grown hg4 (by omega) (fun k hk=>by injection hk with hk;omega)⟩
set_option maxRecDepth 1000000 in
set_option maxHeartbeats 8000000 in
theorem Ynn (k:Int)(v:Nat→Value)(n:Nat→Nat)(m a b:Int)(w:World)(h:∀p,p<3→∃a c,v p=.slice a (n p) c)(hno:(Ybf k n&&Yj1 k m a b)=false):
  Calls Tryd.prog 22 #[.agg (frA k v),.int .i64 m,.agg (Yfp a b)] w fun e w'=>e=.returned (.tuple #[.agg (arn 384 fun _=>0),.int .i64 (if Ybf k n&&Yfu k m then 8 else 1)])∧Below w.heap.size w w':=by
 obtain⟨B,wA,wB,wC,wD,hB,hwA,hwB,hwC,hwD,hzA,hzB,hzC,hzD,hD0,hD1,hD2,hD3,hbD⟩:=Yrd w (.cells (frA k v) 31 (0,0)) (.cells (Yfp a b) 32 (0,0)) (.cells (arn 384 fun _=>0) 24 (0,0)) (.cells (arn 384 fun _=>0) 24 (0,0));have cR:=Yce k v n wD h;have cH:=fun w=>Yfd k m w;have cM:=fun w=>Yj2 k m a b w;have hzp:=Yb9;have HSX:=Ycs Ydn k v;have HS2:=Yc8 a b;have HYS:(arn 384 fun _=>0).size=384:=Yai _ _
 have HSY:=Ya6 fun _=>0;have HOY:=Yay 384 fun _=>0;obtain⟨X,hX⟩:∃X,frA k v=X:=⟨_,rfl⟩;have hD0':wD.heap[B]? =some (.cells X 31 (0,0)):=by rw[←hX];exact hD0
 replace hD0:wD.heap[B]? =some (frO 31 k v):=hD0
 rw[hX] at cR hwA HSX ⊢;obtain⟨Y,hY⟩:∃Y,(arn 384 fun _=>0)=Y:=⟨_,rfl⟩;rw[hY] at hwC hwD hzp HYS hD2 hD3 HSY HOY ⊢;obtain⟨Z,hZ⟩:∃Z,Yfp a b=Z:=⟨_,rfl⟩;rw[hZ] at hwB HS2 hD1 cM ⊢;have HYY:Y.size=Y.size:=rfl;have HX:=Lib.hid hX;have HY:=Lib.hid hY;have HZ:=Lib.hid hZ;have HWA:=Lib.hid hwA;have HWB:=Lib.hid hwB;have HWC:=Lib.hid hwC;have HWD:=Lib.hid hwD;have HB:=Lib.hid hB
 clear hX hY hZ hwA hwB hwC hwD hB h;cases hr:Ybf k n with
 |false=>
  rw[hr] at cR
  go_enter Tryd.func22,Tryd.ntmps22
  go_wp2_with (rw[HWA.out,HB.out,HWB.out,HWC.out,HWD.out];with_reducible refine wpList_load_row rfl 31 _ rfl B rfl 31 X (0,0) _ hD0' Tryd.underlying31 rfl HSX ?_)
  refine cR.mono ?_;rintro e w1 ⟨rfl,hb1⟩;have h2:=(hb1.block (B+2) (by omega)).trans hD2;have h3:=(hb1.block (B+3) (by omega)).trans hD3;have hbw:=hbD.trans (hb1.mono (by omega))
  go_wp2_with (first|(with_reducible refine wpList_load_row rfl 24 _ rfl (B+3) rfl 24 Y (0,0) _ h3 Tryd.underlying24 rfl HSY ?_)|(with_reducible refine Yac rfl 24 _ _ rfl (B+2) Y Y rfl rfl 24 h2 HSY rfl HOY ?_;intro w4 hh4 hg4))
  refine bodyPost_ret (Yah rfl _ _ (B+2) 24 _ (0,0) _ rfl hh4 Tryd.underlying24 rfl HSY) rfl ?_;exact⟨by rfl,by rw[HB.out];exact hbw.grown hg4 (by have:=hb1.size;omega) (fun k hk=>by injection hk with hk;omega)⟩
 |true=>
  rw[hr] at cR hno;rw[Bool.true_and] at hno;have hz4:B+4≤wD.heap.size:=by omega
  cases hc:Yfu k m with
  |false=>
   rw[hc] at cH
   go_enter Tryd.func22,Tryd.ntmps22
   go_wp2_with (rw[HWA.out,HB.out,HWB.out,HWC.out,HWD.out];with_reducible refine wpList_load_row rfl 31 _ rfl B rfl 31 X (0,0) _ hD0' Tryd.underlying31 rfl HSX ?_)
   refine cR.mono ?_;rintro e w1 ⟨rfl,hb1⟩;have h0:=(hb1.block B (by omega)).trans hD0;have h2:=(hb1.block (B+2) (by omega)).trans hD2;have h3:=(hb1.block (B+3) (by omega)).trans hD3;have hbw:=hbD.trans (hb1.mono (by omega));have ck:=Ybm h0
   go_wp2_with (first|(with_reducible refine(cH _).mono ?_;rintro e x ⟨rfl,rfl⟩)|(with_reducible refine wpList_load_row rfl 24 _ rfl (B+3) rfl 24 Y (0,0) _ h3 Tryd.underlying24 rfl HSY ?_)|(with_reducible refine Yac rfl 24 _ _ rfl (B+2) Y Y rfl rfl 24 h2 HSY rfl HOY ?_;intro w4 hh4 hg4))
   refine bodyPost_ret (Yah rfl _ _ (B+2) 24 _ (0,0) _ rfl hh4 Tryd.underlying24 rfl HSY) rfl ?_;exact⟨by rfl,by rw[HB.out];exact hbw.grown hg4 (by have:=hb1.size;omega) (fun k hk=>by injection hk with hk;omega)⟩
  |true=>
   rw[hc] at cH;rw[hno] at cM
   go_enter Tryd.func22,Tryd.ntmps22
   go_wp2_with (rw[HWA.out,HB.out,HWB.out,HWC.out,HWD.out];with_reducible refine wpList_load_row rfl 31 _ rfl B rfl 31 X (0,0) _ hD0' Tryd.underlying31 rfl HSX ?_)
   refine cR.mono ?_;rintro e w1 ⟨rfl,hb1⟩;have h0:=(hb1.block B (by omega)).trans hD0;have h1:=(hb1.block (B+1) (by omega)).trans hD1;have h2:=(hb1.block (B+2) (by omega)).trans hD2;have h3:=(hb1.block (B+3) (by omega)).trans hD3;have hbw:=hbD.trans (hb1.mono (by omega));have hz1:B+4≤w1.heap.size:=by have:=hb1.size;omega
   have ck:=Ybm h0
   go_wp2_with (first|(with_reducible refine(cH _).mono ?_;rintro e x ⟨rfl,rfl⟩)|(with_reducible refine wpList_load_row rfl 32 _ rfl (B+1) rfl 32 Z (0,0) _ h1 Tryd.underlying32 rfl HS2 ?_))
   refine(cM _).mono ?_;rintro e w2 ⟨rfl,hb2⟩;have k2:=(hb2.block (B+2) (by omega)).trans h2;have k3:=(hb2.block (B+3) (by omega)).trans h3;have kb:=hbw.trans (hb2.mono (by omega));have kz:B+4≤w2.heap.size:=Nat.le_trans hz1 hb2.size;clear h0 h1 h2 h3 hb1 hb2 hbw ck
   go_wp2_with (first|(with_reducible refine wpList_load_row rfl 24 _ rfl (B+3) rfl 24 Y (0,0) _ k3 Tryd.underlying24 rfl HSY ?_)|(with_reducible refine Yac rfl 24 _ _ rfl (B+2) Y Y rfl rfl 24 k2 HSY rfl HOY ?_;intro w4 hh4 hg4))
   refine bodyPost_ret (Yah rfl _ _ (B+2) 24 _ (0,0) _ rfl hh4 Tryd.underlying24 rfl HSY) rfl ?_;exact⟨by rfl,by rw[HB.out];exact kb.grown hg4 (by omega) (fun k hk=>by injection hk with hk;omega)⟩
set_option maxRecDepth 1000000 in
set_option maxHeartbeats 8000000 in
theorem Yoz (k:Int)(v:Nat→Value)(n:Nat→Nat)(m:Int)(w:World)(h:∀p,p<3→∃a c,v p=.slice a (n p) c)(hno:(Ybf k n&&Yfu k m)=false):
  Calls Tryd.prog 10 #[.agg (frA k v),.int .i64 m] w fun e w'=>e=.returned (.tuple #[.agg (arn 384 fun _=>0),.int .i64 1])∧Below w.heap.size w w':=by
 obtain⟨B,wA,wB,wC,hB,hwA,hwB,hwC,hzA,hzB,hzC,hC0,hC1,hC2,hbC⟩:=Yg0 w (.cells (frA k v) 31 (0,0)) (.cells (arn 384 fun _=>0) 24 (0,0)) (.cells (arn 384 fun _=>0) 24 (0,0));have c1:=Yce k v n wC h;have c2:=fun w=>Yem k m w;have hz0:=Yb9;have HSX:=Ycs Ydn k v;have HSY:=Ya6 fun _=>0;have HOY:=Yay 384 fun _=>0;obtain⟨X,hX⟩:∃X,frA k v=X:=⟨_,rfl⟩
 have hC0':wC.heap[B]? =some (.cells X 31 (0,0)):=by rw[←hX];exact hC0
 have hf0:wC.heap[B]? =some (frO 31 k v):=hC0;rw[hX] at c1 hwA HSX ⊢;generalize (arn 384 fun _=>0)=Y at *;have HF0:=Lib.hid hf0;have HX:=Lib.hid hX;have HWA:=Lib.hid hwA;have HWB:=Lib.hid hwB;have HWC:=Lib.hid hwC;have HB:=Lib.hid hB;clear hX hwA hwB hwC hB h hf0 hC0;cases hr:Ybf k n with
 |false=>
  rw[hr] at c1;clear hno hr c2
  go_enter Tryd.func10,Tryd.ntmps10
  go_wp2_with (rw[HWA.out,HB.out,HWB.out,HWC.out];with_reducible refine wpList_load_row rfl 31 _ rfl B rfl 31 X (0,0) _ hC0' Tryd.underlying31 rfl HSX ?_)
  refine c1.mono ?_;rintro e w1 ⟨rfl,hb1⟩;have h11:=(hb1.block (B+1) (by omega)).trans hC1;have h12:=(hb1.block (B+2) (by omega)).trans hC2;have hbw:=hbC.trans (hb1.mono (by omega));have hz1:B+3≤w1.heap.size:=by have:=hb1.size;omega
  clear hb1 hbC hC0' hC1 hC2 hzA hzB hzC c1
  go_wp2_with (first|(with_reducible refine wpList_load_row rfl 24 _ rfl (B+2) rfl 24 Y (0,0) _ h12 Tryd.underlying24 rfl HSY ?_)|(with_reducible refine Yac rfl 24 _ _ rfl (B+1) Y Y rfl rfl 24 h11 HSY rfl HOY ?_;intro w2 hh2 hg2))
  refine bodyPost_ret (Yah rfl _ _ (B+1) 24 _ (0,0) _ rfl hh2 Tryd.underlying24 rfl HSY) rfl ?_;exact⟨rfl,by rw[HB.out];exact hbw.grown hg2 (by omega) (fun k hk=>by injection hk with hk;omega)⟩
 |true=>
  rw[hr] at c1;have hc:Yfu k m=false:=by rw[hr] at hno;exact hno
  rw[hc] at c2;clear hno hr hc
  go_enter Tryd.func10,Tryd.ntmps10
  go_wp2_with (rw[HWA.out,HB.out,HWB.out,HWC.out];with_reducible refine wpList_load_row rfl 31 _ rfl B rfl 31 X (0,0) _ hC0' Tryd.underlying31 rfl HSX ?_)
  refine c1.mono ?_;rintro e w1 ⟨rfl,hb1⟩;have ck:=Ybm ((hb1.block B (by omega)).trans HF0.out);have h11:=(hb1.block (B+1) (by omega)).trans hC1;have h12:=(hb1.block (B+2) (by omega)).trans hC2;have hbw:=hbC.trans (hb1.mono (by omega));have hz1:B+3≤w1.heap.size:=by have:=hb1.size;omega
  clear hb1 hbC hC0' hC1 hC2 hzA hzB hzC c1
  go_wp2_with (first|(with_reducible refine(c2 _).mono ?_;rintro e x ⟨rfl,rfl⟩)|(with_reducible refine wpList_load_row rfl 24 _ rfl (B+2) rfl 24 Y (0,0) _ h12 Tryd.underlying24 rfl HSY ?_)|(with_reducible refine Yac rfl 24 _ _ rfl (B+1) Y Y rfl rfl 24 h11 HSY rfl HOY ?_;intro w2 hh2 hg2))
  refine bodyPost_ret (Yah rfl _ _ (B+1) 24 _ (0,0) _ rfl hh2 Tryd.underlying24 rfl HSY) rfl ?_;exact⟨rfl,by rw[HB.out];exact hbw.grown hg2 (by omega) (fun k hk=>by injection hk with hk;omega)⟩
end Go.Proofs.YtdnjefldijjgdaaDoor