/- No condition. -/
import Derived.Test.YtnamlooifcpoaaaGreatDoorScreensNextMa
import Derived.Test.YtnamlooifcpoaaaGreatDoorScreensNextMg
import Derived.Test.YtnamlooifcpoaaaGreatDoorScreensNextMh
import Derived.Test.YtnamlooifcpoaaaGreatDoorScreensNextMu
import Derived.Test.YtnamlooifcpoaaaGreatDoorScreensNextMv
import Derived.Test.YtnamlooifcpoaaaGreatDoorScreensNextMbf
import Derived.Test.YtnamlooifcpoaaaGreatDoorScreensNextMbh
import Derived.Test.YtnamlooifcpoaaaGreatDoorScreensNextMbi
import Derived.Test.YtnamlooifcpoaaaGreatDoorScreensNextMbk
import Derived.RegionTactic
import Derived.Deep.RegionWith
namespace Go.Proofs.YtnamlooifcpoaaaGreatDoor
open Go.RowKit Go.Lib
def Yds (S:ShP)(i:Nat):List Cel:=(S.rows.take i).flatMap (·.cels)
theorem Yhh (S:ShP){n:Nat}(h:S.rows.length=n):Yds S n=Yaw S:=by subst h;rw[Yds,List.take_length];rfl
theorem Ydt (S:ShP){i:Nat}(h:i<S.rows.length):Yds S (i+1)=Yds S i++S.rows[i].cels:=by
 unfold Yds;rw[List.take_succ_eq_append_getElem h,List.flatMap_append];simp
theorem Yf9 (S:ShP)(i:Nat):(Yds S i).length≤(Yaw S).length:=by
 have h:Yaw S=Yds S i++(S.rows.drop i).flatMap (·.cels):=by
  unfold Yds Yaw;rw[←List.flatMap_append,List.take_append_drop]
 rw[h,List.length_append];omega
theorem Yzr:(Tryz.prog.info? 48).map (fun i=>(i.zero.map (·.cells.size),i.size,i.bytes))=some (some 18,18,240):=by kernel_rfl
theorem Yrq:∃i z,Tryz.prog.info? 48=some i∧i.zero=some z∧z.cells.size=18∧i.size=18∧i.bytes=240:=by
 have h:=Yzr;generalize Tryz.prog.info? 48=x at h
 match x,h with
 |some i,h=>
  rw[Option.map_some] at h;injection h with h;injection h with h1 h2;injection h2 with h2 h3;cases hz:i.zero with
  |none=>rw[hz] at h1;cases h1
  |some z=>
   rw[hz] at h1;injection h1 with h1;exact⟨i,z,rfl,hz,h1,h2,h3⟩
theorem Yby.each {α:Type}{c:Nat}{V:World→α→List Value→Prop}{w:World}{q:Option Addr}{l:List α}(h:Yby c V w q l)(h0:0<l.length):
  ∃b o,q=some ⟨b,o,none⟩∧b<w.heap.size∧∀i,(h:i<l.length)→∃vs,V w l[i] vs∧∀x,Below w.heap.size w x→∀(j:Nat) v,vs[j]? =some v→x.cell? ⟨b,o+i*c+j,none⟩=some v:=by
 rcases h with rfl|⟨b,o,rfl,hl,h⟩
 ·cases h0
 ·refine⟨b,o,rfl,hl,fun i hi=>?_⟩;obtain⟨vs,h1,h2⟩:=h i hi;exact⟨vs,h1,fun x hx j v hj=>(World.cell?_of_block (a:=⟨b,o+i*c+j,none⟩) (hx.block b hl)).trans (h2 j v hj)⟩
theorem Yrc {α:Type}{f:α→Bool}{l:List α}{j:Nat}(hj:j<l.length)(h:(l.take j).all f=true)(h2:f l[j]=true):(l.take (j+1)).all f=true:=by
 rw[List.take_succ_eq_append_getElem hj,List.all_append,h,List.all_cons,h2]
 rfl
theorem Yrd {α:Type}{f:α→Bool}{l:List α}{j:Nat}(hj:j<l.length)(h2:f l[j]=false):l.all f=false:=by
 rw[List.all_eq_false];exact⟨l[j],List.getElem_mem hj,by rw[h2];decide⟩
theorem Ye3 {w:World}{q:Option Addr}{l:List RowP}(h:Ycu w q l)(h0:0<l.length):
  ∃b o,q=some ⟨b,o,none⟩∧b<w.heap.size∧∀i,(hi:i<l.length)→∃(r:Option Addr) (cap:Nat),(r=none→cap=0)∧l[i].cels.length≤maxLen∧Yib w r l[i].cels∧
   ∀x,Below w.heap.size w x→x.cell? ⟨b,o+i*4,none⟩=some (.bool l[i].head)∧x.cell? ⟨b,o+i*4+1,none⟩=some (.int .i64 l[i].id)∧x.cell? ⟨b,o+i*4+2,none⟩=some (.int .i64 l[i].quant)∧x.cell? ⟨b,o+i*4+3,none⟩=some (.slice r l[i].cels.length cap):=by
 rcases h with rfl|⟨b,o,rfl,hl,h⟩
 ·cases h0
 ·refine⟨b,o,rfl,hl,fun i hi=>?_⟩;obtain⟨vs,⟨r,cap,rfl,hq,hn,hc⟩,h2⟩:=h i hi;have at_:∀x,Below w.heap.size w x→∀(j:Nat) v,[Value.bool l[i].head,.int .i64 l[i].id,.int .i64 l[i].quant,.slice r l[i].cels.length cap][j]? =some v→x.cell? ⟨b,o+i*4+j,none⟩=some v:=
   fun x hx j v hj=>(World.cell?_of_block (a:=⟨b,o+i*4+j,none⟩) (hx.block b hl)).trans (h2 j v hj)
  exact⟨r,cap,hq,hn,hc,fun x hx=>⟨at_ x hx 0 _ rfl,at_ x hx 1 _ rfl,at_ x hx 2 _ rfl,at_ x hx 3 _ rfl⟩⟩
set_option maxRecDepth 100000 in
set_option maxHeartbeats 400000 in
theorem Yqs (S:ShP)(p b:Option Addr)(ca cb:Nat)(w:World)(hn:S.rows.length≤maxLen)(hr:Ycu w b S.rows)(hm:(Yaw S).length≤1048576):
  Calls Tryz.prog 22 #[.agg (Yaz S.hd (.slice p S.hd.supp.length ca) (.slice b S.rows.length cb) S.zeros).toArray] w fun e w'=>∃v,e=.returned v∧Ynh 18 48 (Yit w) w' w.heap.size v (Yaw S)∧Below w.heap.size w w':=by
 unfold maxLen at hn;obtain⟨n,hln⟩:∃n,S.rows.length=n:=⟨_,rfl⟩;rw[hln] at hn ⊢;obtain⟨zs,hZ⟩:∃zs,Yaz S.hd (.slice p S.hd.supp.length ca) (.slice b n cb) S.zeros=zs:=⟨_,rfl⟩;have z6:zs[6]? =some (.slice b n cb):=by rw[←hZ];rfl
 rw[hZ];obtain⟨B,hB⟩:∃B,w.heap.size=B:=⟨_,rfl⟩;obtain⟨w1,hw1⟩:∃w1,w.alloc (.cells zs.toArray 29 (0,0))=w1:=⟨_,rfl⟩;have hh1:w1.heap[B]? =some (.cells zs.toArray 29 (0,0)):=by rw[←hw1,←hB];exact heap_alloc_new w _
 have hl1:Below w.heap.size w w1:=by rw[←hw1];exact(Below.refl _ w).alloc (Nat.le_refl _) _
 have hs1:w1.heap.size=B+1:=by rw[←hw1,←hB];simp
 have HW1:=Lib.hid hw1;have HB:=Lib.hid hB;have NR:=Lib.hid hln;have HR:=Lib.hid hr;have ALL:=Lib.hid (Yhh S hln);have MOST:=Lib.hid fun i=>Nat.le_trans (Yf9 S i) hm;clear hw1 hZ hln hr hm
 go_enter Tryz.func22,Tryz.ntmps22
 go_wp2
 rw[HW1.out]
 go_loopw [3,4] (fun v t wr=>∃i:Nat,t=.int .i64 (i:Int)∧i≤n∧Ynh 18 48 (Yit w) wr (B+1) v (Yds S i)∧Below w.heap.size w wr∧wr.heap[B]? =some (.cells zs.toArray 29 (0,0))∧B+1≤wr.heap.size) (fun _ t _=>n-(intOf t).toNat)
 case atStart=>exact⟨0,rfl,Nat.zero_le _,Ynh.nil ..,hl1,hh1,by omega⟩
 case round=>
  obtain⟨i,rfl,hi,ho,hb,hh,hs⟩:=hrel;have k6:wr.cell? ⟨B,6,none⟩=some (.slice b n cb):=Yac hh z6;by_cases hlt:i<n
  ·have t1:decide ((i:Int)<(n:Int))=true:=by simp;omega
   obtain⟨b1,o1,rfl,hb1,hc1⟩:=Ye3 HR.out (by rw[NR.out];omega);have hil:i<S.rows.length:=by rw[NR.out];exact hlt
   obtain⟨r,cap,hq,hml,hcel,hat⟩:=hc1 i hil;obtain⟨-,-,-,c3⟩:=hat _ hb;have nx:=Ydt S hil;have n1:=MOST.out (i+1);rw[nx,List.length_append] at n1;have NX:=Lib.hid nx;have hcw:=Yby.const hcel hb;obtain⟨ti,tz,j0,j1,j2,j3,j4⟩:=Yrq;clear hat hcel hc1 nx;generalize S.rows[i].cels=m at *
   go_wp2_with (at_builtin;refine Ygs (V:=fun _=>Yit w) (w0:=w) (c:=18) (bytes:=240) (base:=B+1) (v:=u3) (l:=Yds S i) (m:=m) (q:=r) (cap:=cap) rfl rfl Tryz.underlying40 j0 j1 j2 j3 j4 (by decide) ?d1 ?d2 hq ho hcw (fun _ _ h=>h) (fun _ _ h=>h.shape) ?d3 ?d4 ?d5 ?_;(case d1=>kernel_rfl);(case d2=>kernel_rfl);(case d3=>(unfold maxLen;omega));(case d4=>omega);(case d5=>exact hs);intro v2 w2 ho2 hg2)
   go_roundw
   case rel=>exact⟨i+1,by go_num,by omega,by rw[NX.out];exact ho2,hb.grown hg2 (by omega) (fun k hk=>by have:=ho.fresh k hk;omega),(hg2.block B (by omega) (fun e=>by have:=ho.fresh B e.symm;omega)).trans hh,Nat.le_trans hs hg2.size⟩
   case measure=>simp[intOf];omega
  ·obtain rfl:n=i:=by omega
   have t1:decide ((n:Int)<(n:Int))=false:=by simp
   rw[ALL.out] at ho
   go_wp2
   go_ret
   exact⟨_,rfl,ho.less (by omega),hb⟩
set_option maxRecDepth 100000 in
theorem Yk7 (a b c d:Int)(w:World):(Instr.index 75 (.agg #[.int .i64 a,.int .i64 b,.int .i64 c,.int .i64 d]) (.int .i64 3)).run Tryz.prog w=.ok (.int .i64 d) w∧
  (Instr.index 75 (.agg #[.int .i64 a,.int .i64 b,.int .i64 c,.int .i64 d]) (.int .i64 2)).run Tryz.prog w=.ok (.int .i64 c) w:=by
 obtain⟨j,hj⟩:=Yeu;have h0:(0:Int)≤3∧(3:Int)<((4:Nat):Int):=by omega
 have h1:(0:Int)≤2∧(2:Int)<((4:Nat):Int):=by omega
 constructor
 ·simp only[Instr.index,asIntOf,Sem.run_bind,Sem.run_pure,Result.andThen_ok,run_underlying Tryz.underlying75,if_pos h0,run_sizeOf w hj,Ycz,Nat.mul_one]
  rfl
 ·simp only[Instr.index,asIntOf,Sem.run_bind,Sem.run_pure,Result.andThen_ok,run_underlying Tryz.underlying75,if_pos h1,run_sizeOf w hj,Ycz,Nat.mul_one]
  rfl
theorem Yfl {P:Program}(w:World)(b o:Nat)(ty:TypeId)(cs:List Value)(d:TypeDesc)(h:∀(j:Nat) v,cs[j]? =some v→w.cell? ⟨b,o+j,none⟩=some v)
  (hu:P.underlying ty=some d)(hd:(match d with|.struct _|.array _ _=>true|_=>false)=true)(hi:(P.info? ty).map (·.size)=some cs.length):
  (loadVar ty ⟨b,o,none⟩).run P w=.ok (.agg cs.toArray) w:=by
 have hl:(loadCells ⟨b,o,none⟩ cs.length).run P w=.ok cs.toArray w:=run_loadCells_list (P:=P) w ⟨b,o,none⟩ cs (fun j v hv=>by rw[Addr.add_mid];exact h j v hv);cases hq:P.info? ty with
 |none=>simp[hq] at hi
 |some i=>
  have hs:i.size=cs.length:=by simpa [hq] using hi
  have hagg:(isAgg ty).run P w=.ok true w:=by
   unfold isAgg;rw[Sem.run_bind,run_underlying hu w];cases d <;> simp_all
  simp[loadVar,Sem.run_bind,hagg,sizeOf,typeInfo,hq,hs,hl]
theorem Yhp (k:Int):-10000≤Ygr k∧Ygr k≤10000:=by
 unfold Ygr;rcases Ych k with rfl|rfl|rfl|rfl|rfl|rfl|⟨h,hv⟩
 case _|_|_|_|_|_=>decide +kernel
 unfold Ygz;rw[hv];simp
theorem Y2q (k:Int):Ygr k=(acr k:Int)*Ygz k:=by unfold Ygr;rw[(Yb5 k).1]
set_option maxRecDepth 100000 in
set_option maxHeartbeats 400000 in
theorem Yqy (S:ShP)(p b:Option Addr)(ca cb:Nat)(i:Nat)(w:World)(hi:i<S.rows.length)(hn:S.rows.length≤maxLen)(hr:Ycu w b S.rows)(hc:∀c∈S.rows[i].cels,∀k,k<6→(c.ev k).length≤1048576):
  Calls Tryz.prog 35 #[.agg (Yaz S.hd (.slice p S.hd.supp.length ca) (.slice b S.rows.length cb) S.zeros).toArray,.int .i64 (i:Int)] w fun e w'=>e=.returned (.bool (Yc1 S.hd.inter (Ygr S.hd.fmt) i S.rows[i]))∧Below w.heap.size w w':=by
 unfold maxLen at hn;obtain⟨b1,o1,rfl,hb1,hc1⟩:=Ye3 hr (by omega);obtain⟨r,cap,hq,hml,hcel,hat⟩:=hc1 i hi;clear hc1 hr;generalize S.rows[i]=R at hc hml hcel hat ⊢;generalize S.rows.length=n at hi hn ⊢;obtain⟨H,I,Q,m⟩:=R;dsimp only at *;obtain⟨zs,hZ⟩:∃zs,Yaz S.hd (.slice p S.hd.supp.length ca) (.slice (some ⟨b1,o1,none⟩) n cb) S.zeros=zs:=⟨_,rfl⟩
 have z6:zs[6]? =some (.slice (some ⟨b1,o1,none⟩) n cb):=by rw[←hZ];rfl
 have z2:zs[2]? =some (.int .i64 S.hd.fmt):=by rw[←hZ];rfl
 have z3:zs[3]? =some (.bool S.hd.inter):=by rw[←hZ];rfl
 rw[hZ];clear hZ;generalize S.hd.fmt=fmt at *;generalize S.hd.inter=inter at *;obtain⟨B,hB⟩:∃B,w.heap.size=B:=⟨_,rfl⟩;have hl1:Below w.heap.size w (w.alloc (.cells zs.toArray 29 (0,0))):=(Below.refl _ w).alloc (Nat.le_refl _) _;have hz1:(w.alloc (.cells zs.toArray 29 (0,0))).heap[B]? =some (.cells zs.toArray 29 (0,0)):=by rw[←hB];exact heap_alloc_new w _
 obtain⟨c0,c1,c2,c3⟩:=hat _ hl1;obtain⟨wA,hwA⟩:∃wA,(w.alloc (.cells zs.toArray 29 (0,0))).alloc (.cells #[.bool H,.int .i64 I,.int .i64 Q,.slice r m.length cap] 42 (0,0))=wA:=⟨_,rfl⟩;have hbA:Below w.heap.size w wA:=by rw[←hwA];exact hl1.alloc (by simp) _
 have hsA:wA.heap.size=B+2:=by rw[←hwA,←hB];simp
 have hhA:wA.heap[B]? =some (.cells zs.toArray 29 (0,0)):=by rw[←hwA];exact Yap hz1
 have hhR:wA.heap[B+1]? =some (.cells [.bool H,.int .i64 I,.int .i64 Q,.slice r m.length cap].toArray 42 (0,0)):=by
  rw[←hwA];have:=heap_alloc_new (w.alloc (.cells zs.toArray 29 (0,0))) (.cells [.bool H,.int .i64 I,.int .i64 Q,.slice r m.length cap].toArray 42 (0,0));rw[show (w.alloc (.cells zs.toArray 29 (0,0))).heap.size=B+1 by rw[←hB];simp] at this;exact this
 have CL:Hid (∀x,Below (B+2) wA x→x.cell? ⟨B,2,none⟩=some (.int .i64 fmt)∧x.cell? ⟨B,3,none⟩=some (.bool inter)∧x.cell? ⟨B+1,0,none⟩=some (.bool H)∧x.cell? ⟨B+1,1,none⟩=some (.int .i64 I)∧x.cell? ⟨B+1,2,none⟩=some (.int .i64 Q)∧x.cell? ⟨B+1,3,none⟩=some (.slice r m.length cap)∧Below w.heap.size w x):=Lib.hid fun x hx=>by
  have h1:=(hx.block B (by omega)).trans hhA;have h2:=(hx.block (B+1) (by omega)).trans hhR;exact⟨Yac h1 z2,Yac h1 z3,Yac h2 rfl,Yac h2 rfl,Yac h2 rfl,Yac h2 rfl,hbA.trans (hx.mono (by omega))⟩
 have K:∀(x y:World),Below (B+2) wA x→Below x.heap.size x y→Below (B+2) wA y:=fun x y hx hy=>hx.trans (hy.mono (by have:=hx.size;omega));have C1:=Lib.hid (fun(x:World) (hx:Below (B+2) wA x)=>((Ygt fmt x).mono fun e y h=>⟨h.1,K x y hx h.2⟩:Calls Tryz.prog 61 #[.int .i64 fmt] x fun e y=>e=.returned (.int .i64 (acr fmt:Int))∧Below (B+2) wA y))
 have C2:=Lib.hid (fun(x:World) (hx:Below (B+2) wA x)=>((Yc9 fmt x).mono fun e y h=>⟨h.1,K x y hx h.2⟩:Calls Tryz.prog 34 #[.int .i64 fmt] x fun e y=>e=.returned (.agg (Yrw fmt))∧Below (B+2) wA y));have ix3:=fun w=>(Yk7 (Yd3 fmt) (Yd6 fmt) (Yga fmt) (Ygz fmt) w).1;have wN:IntKind.i64.wrap ((acr fmt:Int)*Ygz fmt)=Ygr fmt:=by rw[←Y2q];exact Yde (by have:=Yhp fmt;omega)
 unfold Yrw at C2;have HWA:=Lib.hid hwA;have HM:=Lib.hid hml;have HB:=Lib.hid hB;have HS:=Lib.hid hsA;have HBA:=Lib.hid hbA;have HAT:=Lib.hid hcel;have hS0:Below (B+2) wA wA:=Below.refl _ _;clear hwA hhA hhR hbA hz1 hl1 hat hcel hml K z2 z3 hsA;unfold Yc1;dsimp only;obtain⟨G,hG⟩:∃G,(if H=true then decide (i≠0∧0≤I∧I≤3∧1≤Q∧Q≤31) else decide (I=0∧Q=0))=G:=⟨_,rfl⟩;rw[hG];have HG:=Lib.hid hG;clear hG
 generalize Ygr fmt=N at *;generalize acr fmt=A at *;generalize Ygz fmt=L at *;generalize Yd3 fmt=W at *;generalize Yd6 fmt=Hh at *;generalize Yga fmt=Rr at *
 go_enter Tryz.func35,Tryz.ntmps35
 go_wp2
 rw[HWA.out];refine Yaf (S:=fun x=>Below (B+2) wA x) 12 (by kernel_rfl) (by kernel_rfl) hS0.drew ?_;simp only[List.take_succ_cons,List.take_zero,List.drop_succ_cons,List.drop_zero];refine Yab (by kernel_rfl) (fun x _=>by go_simp;try with_reducible rfl) ?_;simp only[Yaa]
 refine Yag 40 _ ⟨B+1,3,none⟩ (.slice r m.length cap) (by kernel_rfl) rfl rfl (fun x hx=>by have c0:=(CL.out x hx).2.2.2.2.2.1;go_simp) ?_;simp only[Yaa]
 iterate 2 (refine Yab (by kernel_rfl) (fun x _=>by go_simp;try with_reducible rfl) ?_;simp only[Yaa])
 refine Yag 3 _ ⟨B,2,none⟩ (.int .i64 fmt) (by kernel_rfl) rfl rfl (fun x hx=>by have c0:=(CL.out x hx).1;go_simp) ?_;simp only[Yaa];refine Yah (by kernel_rfl) C1.out (fun _=>by kernel_rfl) ?_;simp only[Yaa];refine Yab (by kernel_rfl) (fun x _=>by go_simp;try with_reducible rfl) ?_;simp only[Yaa]
 refine Yag 3 _ ⟨B,2,none⟩ (.int .i64 fmt) (by kernel_rfl) rfl rfl (fun x hx=>by have c0:=(CL.out x hx).1;go_simp) ?_;simp only[Yaa];refine Yah (by kernel_rfl) C2.out (fun _=>by kernel_rfl) ?_;simp only[Yaa]
 iterate 3 (refine Yab (by kernel_rfl) (fun x _=>by go_simp;try with_reducible rfl) ?_;simp only[Yaa])
 refine Yar fun x hx=>?_;by_cases e0:(m.length:Int)=N
 case neg=>
  have t0:((m.length:Int) != N)=true:=by rw[bne_iff_ne];exact e0
  have F:=Lib.hid (decide_eq_false e0);have HE:=(CL.out x hx).2.2.2.2.2.2;clear e0
  go_wp2
  go_ret
  exact⟨Yad (by rw[F.out];rfl),by first|exact HE|(rw[←HB.out];exact HE)⟩
 have t0:((m.length:Int) != N)=false:=by rw[e0];simp
 have F:=Lib.hid (decide_eq_true e0);obtain⟨-,-,r0,r1,r2,r3,hbx⟩:=CL.out x hx;clear e0;have hG:=HG.out;clear HG;cases H
 case' true=>
  rw[if_pos rfl] at hG;obtain⟨d1,h1⟩:∃d,((i:Int)==0)=d:=⟨_,rfl⟩;obtain⟨d2,h2⟩:∃d,decide (I<0)=d:=⟨_,rfl⟩;obtain⟨d3,h3⟩:∃d,decide (3<I)=d:=⟨_,rfl⟩;obtain⟨d4,h4⟩:∃d,decide (Q<1)=d:=⟨_,rfl⟩;obtain⟨d5,h5⟩:∃d,decide (31<Q)=d:=⟨_,rfl⟩;have hd:G=(!d1&&(!d2&&(!d3&&(!d4 && !d5)))):=by
   rw[←hG,←h1,←h2,←h3,←h4,←h5,Bool.eq_iff_iff];simp <;> omega
  have hB:d1=true∨(d1=false∧d2=true)∨(d1=false∧d2=false∧d3=true)∨(d1=false∧d2=false∧d3=false∧d4=true)∨(d1=false∧d2=false∧d3=false∧d4=false∧d5=true)∨(d1=false∧d2=false∧d3=false∧d4=false∧d5=false):=by
   clear hd h1 h2 h3 h4 h5;cases d1 <;> cases d2 <;> cases d3 <;> cases d4 <;> cases d5 <;> simp
  clear hG;rcases hB with rfl|⟨rfl,rfl⟩|⟨rfl,rfl,rfl⟩|⟨rfl,rfl,rfl,rfl⟩|⟨rfl,rfl,rfl,rfl,rfl⟩|⟨rfl,rfl,rfl,rfl,rfl⟩
  case _|_|_|_|_=>
   have HD:=Lib.hid hd;clear hd
   go_wp2
   go_ret
   exact⟨Yad (by rw[HD.out,F.out];rfl),by first|exact hbx|(rw[←HB.out];exact hbx)⟩
  have HD:=Lib.hid (show G=true from hd);clear hd
  go_wp2
 case' false=>
  rw[if_neg (by decide)] at hG;obtain⟨d1,h1⟩:∃d,(I != 0)=d:=⟨_,rfl⟩;obtain⟨d2,h2⟩:∃d,(Q != 0)=d:=⟨_,rfl⟩;have hd:G=(!d1 && !d2):=by
   rw[←hG,←h1,←h2,Bool.eq_iff_iff];simp
  have hB:d1=true∨(d1=false∧d2=true)∨(d1=false∧d2=false):=by
   clear hd h1 h2;cases d1 <;> cases d2 <;> simp
  clear hG;rcases hB with rfl|⟨rfl,rfl⟩|⟨rfl,rfl⟩
  case _|_=>
   have HD:=Lib.hid hd;clear hd
   go_wp2
   go_ret
   exact⟨Yad (by rw[HD.out,F.out];rfl),by first|exact hbx|(rw[←HB.out];exact hbx)⟩
  have HD:=Lib.hid (show G=true from hd);clear hd
  go_wp2
 all_goals
  clear r0 r1 r2 r3
  go_loopw [6] (fun z wr=>∃j:Nat,z=.int .i64 (j:Int)∧j≤m.length∧Hid ((m.take j).all (Ybi inter)=true)∧Below (B+2) wA wr) (fun z _=>m.length-(intOf z).toNat)
  case atStart=>exact⟨0,rfl,Nat.zero_le _,Lib.hid rfl,hx⟩
  case round=>
   obtain⟨j,rfl,hj,ha,hb⟩:=hrel;have kk:=(CL.out wr hb).2.2.2.2.2;obtain⟨k3,hbw⟩:=kk;have hjm:m.length≤9223372036854775807:=by have:=HM.out;unfold maxLen at this;omega
   by_cases hlt:j<m.length
   ·have t1:decide ((j:Int)<(m.length:Int))=true:=by simp;omega
    obtain⟨b2,o2,rfl,hb2,hcv⟩:=Yby.each HAT.out (by omega);obtain⟨vs,⟨p3,cap3,hvs,-,hev⟩,hvc⟩:=hcv j hlt;have HE:=Lib.hid (fun(x:World) (hx:Below (B+2) wA x)=>(HBA.out.trans (hx.mono (by have:=HB.out;omega)):Below w.heap.size w x));have VS:=Lib.hid hvc;have HSV:Hid ((Tryz.prog.info? 48).map (·.size)=some vs.length):=Lib.hid (by rw[show vs.length=18 by rw[hvs];rfl];kernel_rfl)
    have C3:=Lib.hid (fun(x:World) (hx:Below (B+2) wA x)=>(by
     rw[hvs];exact(Yqo inter m[j] p3 (fun i=>(m[j].ev i).length) cap3 x (fun i hi=>⟨rfl,hc _ (List.getElem_mem hlt) i hi,(hev i hi).2.below (HE.out x hx)⟩)).mono fun e y h=>⟨h.1,hx.trans (h.2.mono (by have:=hx.size;have:=HS.out;omega))⟩:Calls Tryz.prog 62 #[.bool inter,.agg vs.toArray] x fun e y=>e=.returned (.bool (Ybi inter m[j]))∧Below (B+2) wA y))
    have NX:=Lib.hid (fun h=>Yrc hlt ha.out (f:=Ybi inter) h);have NF:=Lib.hid (fun h=>Yrd (f:=Ybi inter) hlt h);clear hcv hvs hev hvc hc ha;generalize Ybi inter m[j]=y at C3 NX NF
    go_wp2
    refine Yaf (S:=fun x=>Below (B+2) wA x) 9 (by kernel_rfl) (by kernel_rfl) hb.drew ?_;simp only[List.take_succ_cons,List.take_zero,List.drop_succ_cons,List.drop_zero];refine Yab (by kernel_rfl) (fun x _=>by go_simp;try with_reducible rfl) ?_;simp only[Yaa];refine Yag 4 _ ⟨B,3,none⟩ (.bool inter) (by kernel_rfl) rfl rfl (fun x hx=>by have c0:=(CL.out x hx).2.1;go_simp) ?_;simp only[Yaa]
    refine Yab (by kernel_rfl) (fun x _=>by go_simp;try with_reducible rfl) ?_;simp only[Yaa];refine Yag 40 _ ⟨B+1,3,none⟩ (.slice (some ⟨b2,o2,none⟩) m.length cap) (by kernel_rfl) rfl rfl (fun x hx=>by have c0:=(CL.out x hx).2.2.2.2.2.1;go_simp) ?_;simp only[Yaa];refine Yab (by kernel_rfl) (fun x _=>by go_simp;try with_reducible rfl) ?_;simp only[Yaa]
    refine Yab (by kernel_rfl) (fun x _=>by go_simp;try with_reducible rfl) ?_;simp only[Yaa];refine Yag 48 _ ⟨b2,o2+j*18,none⟩ (.agg vs.toArray) (by kernel_rfl) rfl rfl (fun x hx=>Yfl x b2 (o2+j*18) 48 vs _ (VS.out x (HE.out x hx)) Tryz.underlying48 rfl HSV.out) ?_;simp only[Yaa];refine Yah (by kernel_rfl) C3.out (fun _=>by kernel_rfl) ?_;simp only[Yaa]
    refine Yab (by kernel_rfl) (fun x _=>by go_simp;try with_reducible rfl) ?_;simp only[Yaa];refine Yar fun x hx=>?_;cases y with
    |false=>
     have N:=Lib.hid (NF.out rfl);clear NX NF;have hbz:=(CL.out x hx).2.2.2.2.2.2
     go_wp2
     go_ret
     exact⟨Yad (by rw[HD.out,F.out,N.out];rfl),by first|exact hbz|(rw[←HB.out];exact hbz)⟩
    |true=>
     have N:=Lib.hid (NX.out rfl);clear NX NF
     go_wp2
     go_roundw
     case rel=>exact⟨j+1,by go_num,by omega,N,hx⟩
     case measure=>simp[intOf];omega
   ·obtain rfl:m.length=j:=by omega
    have t1:decide ((m.length:Int)<(m.length:Int))=false:=by simp
    have AA:=Lib.hid (show m.all (Ybi inter)=true by have:=ha.out;rwa [List.take_length] at this)
    go_wp2
    go_ret
    exact⟨Yad (by rw[HD.out,F.out,AA.out];rfl),by first|exact hbw|(rw[←HB.out];exact hbw)⟩
def Yot (c:Cel):Bool:=c.skip || (c.kind==0 || c.kind==1)
theorem Yti (c:Cel)(sl:Nat→Value)(w:World):Calls Tryz.prog 96 #[.agg (Ycd c sl).toArray] w fun e w'=>e=.returned (.bool (Yot c))∧Below w.heap.size w w':=by
 obtain⟨A,hA,f0,f1,f2,f3,f4,f5,-,-⟩:=Ydi c sl;rw[hA];clear hA;have IK:Hid (Yot c=(c.skip || (c.kind==0 || c.kind==1))):=Lib.hid rfl;generalize Yot c=ik at IK ⊢;generalize c.skip=s at f1 IK;generalize c.kind=k at f2 IK;cases s
 case true=>
  go_enter Tryz.func96,Tryz.ntmps96
  go_wp2
  go_ret
  exact⟨Yad (by rw[IK.out];rfl),(Below.refl _ w).alloc (Nat.le_refl _) _⟩
 rcases Bool.eq_false_or_eq_true (k==0) with t0|t0
 ·go_enter Tryz.func96,Tryz.ntmps96
  go_wp2
  go_ret
  exact⟨Yad (by rw[IK.out,t0];rfl),(Below.refl _ w).alloc (Nat.le_refl _) _⟩
 ·rcases Bool.eq_false_or_eq_true (k==1) with t1|t1
  ·go_enter Tryz.func96,Tryz.ntmps96
   go_wp2
   go_ret
   exact⟨Yad (by rw[IK.out,t0,t1];rfl),(Below.refl _ w).alloc (Nat.le_refl _) _⟩
  ·go_enter Tryz.func96,Tryz.ntmps96
   go_wp2
   go_ret
   exact⟨Yad (by rw[IK.out,t0,t1];rfl),(Below.refl _ w).alloc (Nat.le_refl _) _⟩
def Ymp (n:Int)(H:Bool)(I Q:Int):Bool:=if H then decide (n≠0∧0≤I∧I≤3∧1≤Q∧Q≤31) else decide (I=0∧Q=0)
set_option maxRecDepth 100000 in
theorem Yt6 (n:Int)(hn:0≤n)(H:Bool)(I Q:Int)(sl:Value)(w:World):Calls Tryz.prog 93 #[.int .i64 n,.agg #[.bool H,.int .i64 I,.int .i64 Q,sl]] w fun e w'=>e=.returned (.bool (Ymp n H I Q))∧Below w.heap.size w w':=by
 cases H
 case false=>
  obtain⟨G,hG⟩:∃G,Ymp n false I Q=G:=⟨_,rfl⟩;obtain⟨d1,h1⟩:∃d,(I==0)=d:=⟨_,rfl⟩;obtain⟨d2,h2⟩:∃d,(Q==0)=d:=⟨_,rfl⟩;have hd:G=(d1&&d2):=by
   rw[←hG,←h1,←h2,Bool.eq_iff_iff];simp[Ymp]
  rw[hG];clear hG;have HD:=Lib.hid hd;clear hd;cases d1 <;> cases d2 <;>
  (go_enter Tryz.func93,Tryz.ntmps93
   go_wp2
   go_ret
   exact⟨Yad HD.out.symm,(Below.refl _ w).alloc (Nat.le_refl _) _⟩)
 case true=>
  obtain⟨G,hG⟩:∃G,Ymp n true I Q=G:=⟨_,rfl⟩;obtain⟨d1,h1⟩:∃d,decide (0<n)=d:=⟨_,rfl⟩;obtain⟨d2,h2⟩:∃d,decide (0≤I)=d:=⟨_,rfl⟩;obtain⟨d3,h3⟩:∃d,decide (I≤3)=d:=⟨_,rfl⟩;obtain⟨d4,h4⟩:∃d,decide (1≤Q)=d:=⟨_,rfl⟩;obtain⟨d5,h5⟩:∃d,decide (Q≤31)=d:=⟨_,rfl⟩;have hd:G=(d1&&(d2&&(d3&&(d4&&d5)))):=by
   rw[←hG,←h1,←h2,←h3,←h4,←h5,Bool.eq_iff_iff];simp[Ymp] <;> omega
  rw[hG];clear hG hn;have HD:=Lib.hid hd;have hB:d1=false∨(d1=true∧d2=false)∨(d1=true∧d2=true∧d3=false)∨(d1=true∧d2=true∧d3=true∧d4=false)∨(d1=true∧d2=true∧d3=true∧d4=true∧d5=false)∨(d1=true∧d2=true∧d3=true∧d4=true∧d5=true):=by
   clear hd h1 h2 h3 h4 h5 HD;cases d1 <;> cases d2 <;> cases d3 <;> cases d4 <;> cases d5 <;> simp
  clear hd;rcases hB with rfl|⟨rfl,rfl⟩|⟨rfl,rfl,rfl⟩|⟨rfl,rfl,rfl,rfl⟩|⟨rfl,rfl,rfl,rfl,rfl⟩|⟨rfl,rfl,rfl,rfl,rfl⟩
  all_goals
   go_enter Tryz.func93,Tryz.ntmps93
   go_wp2
   go_ret
   exact⟨Yad HD.out.symm,(Below.refl _ w).alloc (Nat.le_refl _) _⟩
theorem Yn9 (h:Shd)(a b:Value)(z:Int)(w:World):Calls Tryz.prog 94 #[.agg (Yaz h a b z).toArray] w fun e w'=>e=.returned (.int .i64 (Ygr h.fmt))∧Below w.heap.size w w':=by
 obtain⟨A,hA⟩:∃A,(Yaz h a b z).toArray=A:=⟨_,rfl⟩;have f2:A[2]? =some (.int .i64 h.fmt):=by rw[←hA];rfl
 rw[hA];clear hA;generalize h.fmt=k at f2 ⊢;have c1:=fun w=>Ydu k w;have c2:=fun w=>Yk9 k w;have wN:IntKind.i64.wrap (Yrv k*Ygz k)=Ygr k:=Yde (by have:=Yhp k;unfold Ygr at this;omega);generalize Ygr k=N at *;generalize Yrv k=x at *;generalize Yu7 k=x1 at *;generalize Yga k=x2 at *;generalize Ygz k=x3 at *
 go_enter Tryz.func94,Tryz.ntmps94
 go_wp2_with fail
 refine(c1 _).mono ?_;rintro e w1 ⟨rfl,rfl⟩
 go_wp2_with fail
 refine(c2 _).mono ?_;rintro e w1 ⟨rfl,rfl⟩
 go_wp2
 go_ret
 exact⟨rfl,(Below.refl _ w).alloc (Nat.le_refl _) _⟩
theorem Yk5 (fn:FuncId)(X:Array Value)(n:Nat)(f:Nat→Bool)(b:Bool)(w:World)(hn:n≤4611686018427387904)(hen:∀args x,(callFunc fn args).run Tryz.prog x=.ok (.enter fn args) x)
  (hc:∀i,i<n→(∀j,j<i→f j=true)→∀x,Below w.heap.size w x→Calls Tryz.prog fn #[.agg X,.int .i64 (i:Int)] x fun e y=>e=.returned (.bool (f i))∧Below x.heap.size x y)
  (hy:(∀i,i<n→f i=true)→b=true)(hf:∀i,i<n→f i=false→b=false):
  Calls Tryz.prog 69 #[.int .i64 (n:Int),.func (.func fn) #[.agg X] #[]] w fun e w'=>e=.returned (.bool b)∧Below w.heap.size w w':=by
 have HC:=Lib.hid hc;have HY:=Lib.hid hy;have HF:=Lib.hid hf;clear hc hy hf
 go_enter Tryz.func69,Tryz.ntmps69
 go_wp2
 go_loopw [7] (fun z wr=>∃i:Nat,i≤n∧z=.int .i64 (i:Int)∧Hid (∀j,j<i→f j=true)∧Below w.heap.size w wr) (fun z _=>n-(intOf z).toNat)
 case atStart=>exact⟨0,Nat.zero_le _,rfl,Lib.hid fun j h=>absurd h (Nat.not_lt_zero j),Below.refl _ _⟩
 case round=>
  obtain⟨i,hi,rfl,ha,hb⟩:=hrel;by_cases hlt:i<n
  ·have t0:decide ((i:Int)<(n:Int))=true:=by simp;omega
   have c1:=HC.out i hlt ha.out wr hb;have NX:=Lib.hid (fun(e:f i=true)=>(fun j hj=>(by
    by_cases h:j<i
    ·exact ha.out j h
    ·obtain rfl:j=i:=by omega
     exact e):∀j,j<i+1→f j=true))
   have NF:=Lib.hid (HF.out i hlt);clear ha;generalize f i=y at c1 NX NF
   go_wp2_with fail
   refine c1.mono ?_;rintro e w1 ⟨rfl,hb1⟩;have hb2:Below w.heap.size w w1:=hb.trans (hb1.mono hb.size);cases y with
   |true=>
    have N:=Lib.hid (NX.out rfl);clear NX NF
    go_wp2
    go_roundw
    case rel=>exact⟨i+1,by omega,by go_num,N,hb2⟩
    case measure=>simp[intOf];omega
   |false=>
    have N:=Lib.hid (NF.out rfl);clear NX NF
    go_wp2
    go_ret
    exact⟨Yad N.out.symm,hb2⟩
  ·obtain rfl:n=i:=by omega
   have t0:decide ((n:Int)<(n:Int))=false:=by simp
   have N:=Lib.hid (HY.out ha.out)
   go_wp2
   go_ret
   exact⟨Yad N.out.symm,hb⟩
theorem Yvd {α:Type}{f:Nat→α→Bool}{s:Nat}{l:List α}{j:Nat}(hj:j<l.length)(h:Ycy f s (l.take j)=true)(h1:f (s+j) l[j]=true):Ycy f s (l.take (j+1))=true:=by
 rw[List.take_succ_eq_append_getElem hj,Yjg,h,List.length_take,show s+min j l.length=s+j by omega,h1];rfl
theorem Yss {α:Type}{f:Nat→α→Bool}{s:Nat}{l:List α}{j:Nat}(hj:j<l.length)(h1:f (s+j) l[j]=false):Ycy f s l=false:=by
 cases h:Ycy f s l with
 |false=>rfl
 |true=>
  have:=Yes.1 h j hj;rw[h1] at this;cases this
def Ydk (k:Int)(n:Nat)(c:Cel):Bool:=!Yot c || Yi3 k (n:Int) c.mx c.my
set_option maxRecDepth 100000 in
set_option maxHeartbeats 400000 in
theorem Yye (S:ShP)(p b:Option Addr)(ca cb i N:Nat)(w:World)(hi:i<S.rows.length)(hn:S.rows.length≤1000)(hN:Ygr S.hd.fmt=(N:Int))(hl:S.rows[i].cels.length=N)(hr:Ycu w b S.rows):
  Calls Tryz.prog 71 #[.agg (Yaz S.hd (.slice p S.hd.supp.length ca) (.slice b S.rows.length cb) S.zeros).toArray,.int .i64 (i:Int)] w fun e w'=>e=.returned (.bool (Ycy (Ydk S.hd.fmt) (i*N) S.rows[i].cels))∧Below w.heap.size w w':=by
 have hNm:N≤10000:=by have:=Yhp S.hd.fmt;omega
 obtain⟨b1,o1,rfl,hb1,hc1⟩:=Ye3 hr (by omega);obtain⟨r,cap,hq,hml,hcel,hat⟩:=hc1 i hi;clear hc1 hr;have cE:=fun x=>Yn9 S.hd (.slice p S.hd.supp.length ca) (.slice (some ⟨b1,o1,none⟩) S.rows.length cb) S.zeros x;rw[hN] at cE;have cM:=fun n x y w=>Ymu S.hd.fmt n x y w;generalize S.rows[i]=R at hml hcel hat hl ⊢;generalize S.rows.length=n at hi hn cE ⊢;obtain⟨H,I,Q,m⟩:=R;dsimp only at *
 obtain⟨zs,hZ⟩:∃zs,Yaz S.hd (.slice p S.hd.supp.length ca) (.slice (some ⟨b1,o1,none⟩) n cb) S.zeros=zs:=⟨_,rfl⟩;have z6:zs[6]? =some (.slice (some ⟨b1,o1,none⟩) n cb):=by rw[←hZ];rfl
 have z2:zs[2]? =some (.int .i64 S.hd.fmt):=by rw[←hZ];rfl
 have HSZ:(Tryz.prog.info? 114).map (·.size)=some zs.toArray.size:=by rw[show zs.toArray.size=8 by rw[←hZ];rfl];kernel_rfl
 rw[hZ] at cE ⊢;clear hZ hN;generalize S.hd.fmt=fmt at *;obtain⟨B,hB⟩:∃B,w.heap.size=B:=⟨_,rfl⟩;obtain⟨wA,hwA⟩:∃wA,w.alloc (.cells zs.toArray 114 (0,0))=wA:=⟨_,rfl⟩;have hhA:wA.heap[B]? =some (.cells zs.toArray 114 (0,0)):=by rw[←hwA,←hB];exact heap_alloc_new w _
 have hbA:Below w.heap.size w wA:=by rw[←hwA];exact(Below.refl _ w).alloc (Nat.le_refl _) _
 have hsA:wA.heap.size=B+1:=by rw[←hwA,←hB];simp
 have CL:Hid (∀x,Below (B+1) wA x→x.cell? ⟨B,2,none⟩=some (.int .i64 fmt)∧x.cell? ⟨B,6,none⟩=some (.slice (some ⟨b1,o1,none⟩) n cb)∧x.cell? ⟨b1,o1+i*4+3,none⟩=some (.slice r m.length cap)∧Below w.heap.size w x):=Lib.hid fun x hx=>by
  have h1:=(hx.block B (by omega)).trans hhA;have hwx:=hbA.trans (hx.mono (by omega));exact⟨Yac h1 z2,Yac h1 z6,(hat x hwx).2.2.2,hwx⟩
 obtain⟨F,hF⟩:∃F,i*N=F:=⟨_,rfl⟩;have hFm:F≤10000000:=by rw[←hF];exact Nat.mul_le_mul (show i≤1000 by omega) hNm
 have hm:IntKind.i64.wrap ((i:Int)*(N:Int))=(F:Int):=by rw[←hF,←Int.natCast_mul];exact Yde (by rw[hF];omega)
 rw[hF];have HWA:=Lib.hid hwA;have HB:=Lib.hid hB;have HS:=Lib.hid hsA;have HCEL:=Lib.hid hcel;have HBA:=Lib.hid hbA;have HL:=Lib.hid hl;obtain⟨Y,HYS,hzv⟩:=Yfv;clear hwA hat hbA hF hsA z2 z6 hcel hl
 go_enter Tryz.func71,Tryz.ntmps71
 go_wp2_with (rw[HWA.out];with_reducible refine wpList_load_row rfl 114 _ rfl B rfl 114 zs.toArray (0,0) _ hhA Tryz.underlying114 rfl HSZ ?_)
 refine(cE _).mono ?_;rintro e w1 ⟨rfl,hb1⟩;have h1:Below (B+1) wA w1:=hb1.mono (by have:=HS.out;omega);obtain⟨k2,k6,k3,hw1⟩:=CL.out w1 h1;have t1:decide ((i:Int)<(n:Int))=true:=by simp;omega
 clear hb1 hhA
 go_wp2
 clear k2 k6 k3 t1 hm
 go_loopw [19] (fun z wr=>∃j:Nat,z=.int .i64 (j:Int)∧j≤m.length∧Hid (Ycy (Ydk fmt) F (m.take j)=true)∧Below (B+1) wA wr) (fun z _=>m.length-(intOf z).toNat)
 case atStart=>exact⟨0,rfl,Nat.zero_le _,Lib.hid rfl,h1⟩
 case round=>
  clear h1 hw1;obtain⟨j,rfl,hj,ha,hb⟩:=hrel;obtain⟨-,-,-,hbw⟩:=CL.out wr hb;have hm4:m.length≤10000:=by have:=HL.out;omega
  by_cases hlt:j<m.length
  ·have t1:decide ((j:Int)<(m.length:Int))=true:=by simp;omega
   obtain⟨b2,o2,rfl,hb2,hcv⟩:=Yby.each HCEL.out (by omega);obtain⟨vs,hV,hvc⟩:=hcv j hlt;have hl18:=hV.shape.1;have hone:=Yfz hV;obtain⟨p3,cap3,hvs,-,-⟩:=hV;have hrg:wr.rangeAt b2 (o2+j*18) vs:=fun k v hk=>hvc wr hbw k v hk;have NX:=Lib.hid (fun h=>Yvd (f:=Ydk fmt) hlt ha.out h);have NF:=Lib.hid (fun h=>Yss (s:=F) (f:=Ydk fmt) hlt h)
   have cP:=fun x=>Yti m[j] (fun i=>.slice (p3 i) (m[j].ev i).length (cap3 i)) x;rw[←hvs] at cP;have cM2:=fun x=>cM ((F:Int)+(j:Int)) m[j].mx m[j].my x;have hs:IntKind.i64.wrap ((F:Int)+(j:Int))=(F:Int)+(j:Int):=Yde (by have:=HL.out;omega);have PM:=Lib.hid (show Ydk fmt (F+j) m[j]=(!Yot m[j] || Yi3 fmt ((F:Int)+(j:Int)) m[j].mx m[j].my) by unfold Ydk;rw[Int.natCast_add])
   obtain⟨wC,hwC⟩:∃wC,wr.alloc (.cells vs.toArray 48 (0,0))=wC:=⟨_,rfl⟩;obtain⟨C,hC⟩:∃C,wr.heap.size=C:=⟨_,rfl⟩;have hhC:wC.heap[C]? =some (.cells vs.toArray 48 (0,0)):=by rw[←hwC,←hC];exact heap_alloc_new wr _
   have hbC:Below (B+1) wA wC:=by rw[←hwC];exact hb.alloc (by have:=hb.size;have:=HS.out;omega) _
   have hsC:wC.heap.size=C+1:=by rw[←hwC,←hC];simp
   have hBC:B+1≤C:=by rw[←hC];have:=hb.size;have:=HS.out;omega
   have HSV:(Tryz.prog.info? 48).map (·.size)=some vs.toArray.size:=by rw[show vs.toArray.size=18 from hl18];kernel_rfl
   have HYV:Y.size=vs.toArray.size:=by rw[HYS];exact hl18.symm
   have v4:vs[4]? =some (.int .i64 m[j].mx):=by rw[hvs];rfl
   have v5:vs[5]? =some (.int .i64 m[j].my):=by rw[hvs];rfl
   have HWC:=Lib.hid hwC;have HHC:=Lib.hid hhC;have HSC:=Lib.hid hsC;clear hvs hvc hcv ha hwC hsC;generalize m[j].mx=mx at *;generalize m[j].my=my at *;generalize Ydk fmt (F+j) m[j]=y at *;generalize Yot m[j]=pk at *;have HC:=Lib.hid hC;clear hC
   go_wp2_with (first|(with_reducible refine Ydn rfl _ rfl b2 (o2+j*18) rfl vs hrg hl18 ?_)|(with_reducible refine Yai rfl 48 _ _ rfl vs.toArray Y 48 rfl rfl HSV HYV hone ?_;rw[HWC.out])|(rw[HC.out];with_reducible refine wpList_load_row rfl 48 _ rfl C rfl 48 vs.toArray (0,0) _ hhC Tryz.underlying48 rfl HSV ?_))
   refine(cP _).mono ?_;rintro e w2 ⟨rfl,hb2'⟩;have hx2:Below (B+1) wA w2:=hbC.trans (hb2'.mono (by have:=HSC.out;omega));have hh2:w2.heap[C]? =some (.cells vs.toArray 48 (0,0)):=(hb2'.block C (by have:=HSC.out;omega)).trans hhC;clear hb2' hhC hrg hbC;obtain⟨k2,-,-,hw2⟩:=CL.out w2 hx2;cases pk with
   |false=>
    have N1:=Lib.hid (NX.out (by rw[PM.out];rfl));clear NX NF PM
    go_wp2
    go_roundw
    case rel=>exact⟨j+1,by go_num,by omega,N1,hx2⟩
    case measure=>simp[intOf];omega
   |true=>
    have hrt:w2.rangeAt C 4 [.int .i64 mx,.int .i64 my]:=fun k v hk=>by
     match k,hk with
     |0,hk=>injection hk with hk;subst hk;exact Yac hh2 v4
     |1,hk=>injection hk with hk;subst hk;exact Yac hh2 v5
    have PM2:=Lib.hid (show y=Yi3 fmt ((F:Int)+(j:Int)) mx my from PM.out);clear PM
    go_wp2_with (with_reducible refine Ykf (by kernel_rfl) _ rfl C 4 rfl mx my hrt ?_)
    refine(cM2 _).mono ?_;rintro e w3 ⟨rfl,hb3⟩;have hx3:Below (B+1) wA w3:=hx2.trans (hb3.mono (by have:=hx2.size;have:=HS.out;omega));have hw3:=(CL.out w3 hx3).2.2.2;generalize Yi3 fmt ((F:Int)+(j:Int)) mx my=mv at *;cases mv with
    |true=>
     have N1:=Lib.hid (NX.out PM2.out);clear NX NF PM2
     go_wp2
     go_roundw
     case rel=>exact⟨j+1,by go_num,by omega,N1,hx3⟩
     case measure=>simp[intOf];omega
    |false=>
     have N1:=Lib.hid (NF.out PM2.out);clear NX NF PM2
     go_wp2
     go_ret
     exact⟨Yad N1.out.symm,by first|exact hw3|(rw[←HB.out];exact hw3)⟩
  ·obtain rfl:m.length=j:=by omega
   have t1:decide ((m.length:Int)<(m.length:Int))=false:=by simp
   have AA:=Lib.hid (show Ycy (Ydk fmt) F m=true by have:=ha.out;rwa [List.take_length] at this)
   go_wp2
   go_ret
   exact⟨Yad AA.out.symm,by first|exact hbw|(rw[←HB.out];exact hbw)⟩
set_option maxRecDepth 100000 in
set_option maxHeartbeats 400000 in
theorem Yqt (S:ShP)(p b:Option Addr)(ca cb:Nat)(w:World)(hl:S.hd.supp.length≤maxLen)(hn:S.rows.length≤maxLen)(hs:Ydf w p S.hd.supp)(hr:Ycu w b S.rows)(hm:(Yaw S).length≤1048576)(hc:∀c∈Yaw S,∀k,k<6→(c.ev k).length≤1048576):
  Calls Tryz.prog 18 #[.agg (Yaz S.hd (.slice p S.hd.supp.length ca) (.slice b S.rows.length cb) S.zeros).toArray] w fun e w'=>e=.returned (.int .i64 (Yb0 S))∧Below w.heap.size w w':=by
 unfold maxLen at hn;have n1:∀i (h:i<S.rows.length),∀c∈S.rows[i].cels,c∈Yaw S:=fun i h c hc=>List.mem_flatMap.2 ⟨_,List.getElem_mem h,hc⟩;obtain⟨zs,hZ⟩:∃zs,Yaz S.hd (.slice p S.hd.supp.length ca) (.slice b S.rows.length cb) S.zeros=zs:=⟨_,rfl⟩;have z6:zs[6]? =some (.slice b S.rows.length cb):=by rw[←hZ];rfl
 have z2:zs[2]? =some (.int .i64 S.hd.fmt):=by rw[←hZ];rfl
 have z7:zs[7]? =some (.int .i64 S.zeros):=by rw[←hZ];rfl
 have hsz:zs.length=8:=by rw[←hZ];rfl
 obtain⟨B,hB⟩:∃B,w.heap.size=B:=⟨_,rfl⟩;obtain⟨wA,hwA⟩:∃wA,w.alloc (.cells zs.toArray 29 (0,0))=wA:=⟨_,rfl⟩;have hhA:wA.heap[B]? =some (.cells zs.toArray 29 (0,0)):=by rw[←hwA,←hB];exact heap_alloc_new w _
 have hbA:Below w.heap.size w wA:=by rw[←hwA];exact(Below.refl _ w).alloc (Nat.le_refl _) _
 have hsA:wA.heap.size=B+1:=by rw[←hwA,←hB];simp
 have W0:∀x,Below (B+1) wA x→Below w.heap.size w x:=fun x hx=>hbA.trans (hx.mono (by omega));have K:∀(x y:World),Below (B+1) wA x→Below x.heap.size x y→Below (B+1) wA y:=fun x y hx hy=>hx.trans (hy.mono (by have:=hx.size;omega));have HL:=Lib.hid (fun(x:World) (hx:Below (B+1) wA x)=>(hx.block B (by omega)).trans hhA)
 have CL:=Lib.hid (fun(x:World) (hx:Below (B+1) wA x)=>(⟨Yac (HL.out x hx) z2,Yac (HL.out x hx) z6,Yac (HL.out x hx) z7,W0 x hx⟩:x.cell? ⟨B,2,none⟩=some (.int .i64 S.hd.fmt)∧x.cell? ⟨B,6,none⟩=some (.slice b S.rows.length cb)∧x.cell? ⟨B,7,none⟩=some (.int .i64 S.zeros)∧Below w.heap.size w x));have C1:=Lib.hid (fun(x:World) (hx:Below (B+1) wA x)=>(by
  rw[←hZ];exact(Yqz S.hd p ca (.slice b S.rows.length cb) S.zeros hl x (hs.below (W0 x hx))).mono fun e y h=>⟨h.1,K x y hx h.2⟩:Calls Tryz.prog 33 #[.agg zs.toArray] x fun e y=>e=.returned (.bool (Ycw S.hd))∧Below (B+1) wA y))
 have C2:=Lib.hid (fun(x:World) (hx:Below (B+1) wA x)=>((Yc9 S.hd.fmt x).mono fun e y h=>⟨h.1,K x y hx h.2⟩:Calls Tryz.prog 34 #[.int .i64 S.hd.fmt] x fun e y=>e=.returned (.agg (Yrw S.hd.fmt))∧Below (B+1) wA y));have CR:=Lib.hid (fun(i:Nat) (hi:i<S.rows.length) (x:World) (hx:Below (B+1) wA x)=>(by
  rw[←hZ];exact Yqy S p b ca cb i x hi (by unfold maxLen;exact hn) (hr.below (W0 x hx)) (fun c h k hk=>hc c (n1 i hi c h) k hk):Calls Tryz.prog 35 #[.agg zs.toArray,.int .i64 (i:Int)] x fun e y=>e=.returned (.bool (Yc1 S.hd.inter (Ygr S.hd.fmt) i S.rows[i]))∧Below x.heap.size x y))
 have CC:=Lib.hid (fun(x:World) (hx:Below (B+1) wA x)=>(by
  rw[←hZ];exact Yqs S p b ca cb x (by unfold maxLen;exact hn) (hr.below (W0 x hx)) hm:Calls Tryz.prog 22 #[.agg zs.toArray] x fun e y=>∃v,e=.returned v∧Ynh 18 48 (Yit x) y x.heap.size v (Yaw S)∧Below x.heap.size x y))
 have ix2:=fun w=>(Yk7 (Yd3 S.hd.fmt) (Yd6 S.hd.fmt) (Yga S.hd.fmt) (Ygz S.hd.fmt) w).2;unfold Yrw at C2;have T1:=Lib.hid (fun(h:Ycw S.hd=false)=>(Yfe (by unfold Yck;rw[h];rfl):Yb0 S=12));have T2:=Lib.hid (fun(h:S.zeros<0∨262144<S.zeros)=>(Yfe (by unfold Yck;rw[decide_eq_false (by omega:¬ (0≤S.zeros∧S.zeros≤262144)),Bool.false_and,Bool.and_false]):Yb0 S=12))
 have T3:=Lib.hid (fun(h:¬ (S.rows.length:Int)=Yga S.hd.fmt)=>(Yfe (by unfold Yck;rw[decide_eq_false h,Bool.false_and,Bool.and_false,Bool.and_false]):Yb0 S=12));have T4:=Lib.hid (fun(h:Ycy (Yc1 S.hd.inter (Ygr S.hd.fmt)) 0 S.rows=false)=>(Yfe (by unfold Yck;rw[h,Bool.and_false,Bool.and_false,Bool.and_false]):Yb0 S=12))
 have T5:=Lib.hid (fun(h1:Ycw S.hd=true) (h2:¬ S.zeros<0) (h3:¬ 262144<S.zeros) (h4:(S.rows.length:Int)=Yga S.hd.fmt) (h5:Ycy (Yc1 S.hd.inter (Ygr S.hd.fmt)) 0 S.rows=true)=>(by unfold Yck;rw[h1,decide_eq_true (by omega:0≤S.zeros∧S.zeros≤262144),decide_eq_true h4,h5];rfl:Yck S=true));have T6:=Lib.hid (fun h (h1:Ycy (Ydm S.hd.fmt) 0 (Yaw S)=false)=>Yik h h1)
 have T7:=Lib.hid (fun h (h1:Ycy (Ydm S.hd.fmt) 0 (Yaw S)=true)=>Ysh h h1);have HSZ:(Tryz.prog.info? 29).map (·.size)=some zs.toArray.size:=by rw[show zs.toArray.size=8 from hsz];kernel_rfl
 have HWA:=Lib.hid hwA;have HB:=Lib.hid hB;have HS:=Lib.hid hsA;have HK:=Lib.hid K;have HM:=Lib.hid hm;have hS0:Below (B+1) wA wA:=Below.refl _ _;rw[hZ];clear hwA hhA hbA hsA W0 K z2 z6 z7 hsz hZ n1 hs hr hl hc hm;obtain⟨E,hE⟩:∃E,Yb0 S=E:=⟨_,rfl⟩;rw[hE] at T1 T2 T3 T4 T6 T7 ⊢;clear hE;obtain⟨fmt,hf⟩:∃k,S.hd.fmt=k:=⟨_,rfl⟩;obtain⟨inter,hin⟩:∃k,S.hd.inter=k:=⟨_,rfl⟩
 obtain⟨zr,hzr⟩:∃k,S.zeros=k:=⟨_,rfl⟩;simp only[hf,hin,hzr] at CL C1 C2 CR ix2 T2 T3 T4 T5 T6 T7 hn;obtain⟨n,hrn⟩:∃n,S.rows.length=n:=⟨_,rfl⟩;rw[hrn] at CL hn;have HN:=Lib.hid hrn;clear hf hin hzr hrn;generalize Yd3 fmt=Wf at *;generalize Yd6 fmt=Hf at *;obtain⟨Rf,hRf⟩:∃k,Yga fmt=k:=⟨_,rfl⟩;rw[hRf] at T3 T5 C2;simp only[hRf] at ix2;clear hRf;generalize Ygz fmt=Lf at *
 go_enter Tryz.func18,Tryz.ntmps18
 go_wp2
 rw[HWA.out];cases hd:Ycw S.hd with
 |false=>
  rw[hd] at C1;have E1:=Lib.hid (T1.out hd);clear hd;refine Yaf (S:=fun x=>Below (B+1) wA x) 23 (by kernel_rfl) (by kernel_rfl) hS0.drew ?_;simp only[List.take_succ_cons,List.take_zero,List.drop_succ_cons,List.drop_zero];refine Ya0 29 _ B 29 zs.toArray (0,0) _ (by kernel_rfl) rfl rfl (fun x hx=>HL.out x hx) Tryz.underlying29 rfl HSZ ?_;simp only[Yaa]
  refine Yah (by kernel_rfl) C1.out (fun _=>by kernel_rfl) ?_;simp only[Yaa]
  iterate 2 (refine Yab (by kernel_rfl) (fun x _=>by go_simp;try with_reducible rfl) ?_;simp only[Yaa])
  iterate 3 (refine Ybf (by kernel_rfl) ?_;simp only[Yaa])
  iterate 2 (refine Yab (by kernel_rfl) (fun x _=>by go_simp;try with_reducible rfl) ?_;simp only[Yaa])
  iterate 3 (refine Ybf (by kernel_rfl) ?_;simp only[Yaa])
  iterate 2 (refine Yab (by kernel_rfl) (fun x _=>by go_simp;try with_reducible rfl) ?_;simp only[Yaa])
  iterate 8 (refine Ybf (by kernel_rfl) ?_;simp only[Yaa])
  refine Yab (by kernel_rfl) (fun x _=>by go_simp;try with_reducible rfl) ?_;simp only[Yaa];refine Yar fun x hx=>?_
  go_wp2
  go_ret
  exact⟨by rw[E1.out];rfl,by first|exact(CL.out x hx).2.2.2|(rw[←HB.out];exact(CL.out x hx).2.2.2)⟩
 |true=>
 rw[hd] at C1;by_cases h1:zr<0
 ·have t0:decide (zr<0)=true:=decide_eq_true h1;have E1:=Lib.hid (T2.out (.inl h1));clear h1 hd;refine Yaf (S:=fun x=>Below (B+1) wA x) 23 (by kernel_rfl) (by kernel_rfl) hS0.drew ?_;simp only[List.take_succ_cons,List.take_zero,List.drop_succ_cons,List.drop_zero];refine Ya0 29 _ B 29 zs.toArray (0,0) _ (by kernel_rfl) rfl rfl (fun x hx=>HL.out x hx) Tryz.underlying29 rfl HSZ ?_;simp only[Yaa]
  refine Yah (by kernel_rfl) C1.out (fun _=>by kernel_rfl) ?_;simp only[Yaa]
  iterate 3 (refine Yab (by kernel_rfl) (fun x _=>by go_simp;try with_reducible rfl) ?_;simp only[Yaa])
  refine Yag 3 _ ⟨B,7,none⟩ (.int .i64 zr) (by kernel_rfl) rfl rfl (fun x hx=>by have c0:=(CL.out x hx).2.2.1;go_simp) ?_;simp only[Yaa]
  iterate 3 (refine Yab (by kernel_rfl) (fun x _=>by go_simp;try with_reducible rfl) ?_;simp only[Yaa])
  iterate 3 (refine Ybf (by kernel_rfl) ?_;simp only[Yaa])
  iterate 2 (refine Yab (by kernel_rfl) (fun x _=>by go_simp;try with_reducible rfl) ?_;simp only[Yaa])
  iterate 8 (refine Ybf (by kernel_rfl) ?_;simp only[Yaa])
  refine Yab (by kernel_rfl) (fun x _=>by go_simp;try with_reducible rfl) ?_;simp only[Yaa];refine Yar fun x hx=>?_
  go_wp2
  go_ret
  exact⟨by rw[E1.out];rfl,by first|exact(CL.out x hx).2.2.2|(rw[←HB.out];exact(CL.out x hx).2.2.2)⟩
 by_cases h2:262144<zr
 ·have t0:decide (zr<0)=false:=decide_eq_false h1;have t1:decide (262144<zr)=true:=decide_eq_true h2;have E1:=Lib.hid (T2.out (.inr h2));clear h1 h2 hd;refine Yaf (S:=fun x=>Below (B+1) wA x) 23 (by kernel_rfl) (by kernel_rfl) hS0.drew ?_;simp only[List.take_succ_cons,List.take_zero,List.drop_succ_cons,List.drop_zero]
  refine Ya0 29 _ B 29 zs.toArray (0,0) _ (by kernel_rfl) rfl rfl (fun x hx=>HL.out x hx) Tryz.underlying29 rfl HSZ ?_;simp only[Yaa];refine Yah (by kernel_rfl) C1.out (fun _=>by kernel_rfl) ?_;simp only[Yaa]
  iterate 3 (refine Yab (by kernel_rfl) (fun x _=>by go_simp;try with_reducible rfl) ?_;simp only[Yaa])
  refine Yag 3 _ ⟨B,7,none⟩ (.int .i64 zr) (by kernel_rfl) rfl rfl (fun x hx=>by have c0:=(CL.out x hx).2.2.1;go_simp) ?_;simp only[Yaa]
  iterate 4 (refine Yab (by kernel_rfl) (fun x _=>by go_simp;try with_reducible rfl) ?_;simp only[Yaa])
  refine Yag 3 _ ⟨B,7,none⟩ (.int .i64 zr) (by kernel_rfl) rfl rfl (fun x hx=>by have c0:=(CL.out x hx).2.2.1;go_simp) ?_;simp only[Yaa]
  iterate 3 (refine Yab (by kernel_rfl) (fun x _=>by go_simp;try with_reducible rfl) ?_;simp only[Yaa])
  iterate 8 (refine Ybf (by kernel_rfl) ?_;simp only[Yaa])
  refine Yab (by kernel_rfl) (fun x _=>by go_simp;try with_reducible rfl) ?_;simp only[Yaa];refine Yar fun x hx=>?_
  go_wp2
  go_ret
  exact⟨by rw[E1.out];rfl,by first|exact(CL.out x hx).2.2.2|(rw[←HB.out];exact(CL.out x hx).2.2.2)⟩
 have t0:decide (zr<0)=false:=decide_eq_false h1;have t1:decide (262144<zr)=false:=decide_eq_false h2;have T5':=Lib.hid (T5.out hd (by omega) (by omega));clear h1 h2 hd T1 T2 T5;refine Yaf (S:=fun x=>Below (B+1) wA x) 23 (by kernel_rfl) (by kernel_rfl) hS0.drew ?_;simp only[List.take_succ_cons,List.take_zero,List.drop_succ_cons,List.drop_zero]
 refine Ya0 29 _ B 29 zs.toArray (0,0) _ (by kernel_rfl) rfl rfl (fun x hx=>HL.out x hx) Tryz.underlying29 rfl HSZ ?_;simp only[Yaa];refine Yah (by kernel_rfl) C1.out (fun _=>by kernel_rfl) ?_;simp only[Yaa]
 iterate 3 (refine Yab (by kernel_rfl) (fun x _=>by go_simp;try with_reducible rfl) ?_;simp only[Yaa])
 refine Yag 3 _ ⟨B,7,none⟩ (.int .i64 zr) (by kernel_rfl) rfl rfl (fun x hx=>by have c0:=(CL.out x hx).2.2.1;go_simp) ?_;simp only[Yaa]
 iterate 4 (refine Yab (by kernel_rfl) (fun x _=>by go_simp;try with_reducible rfl) ?_;simp only[Yaa])
 refine Yag 3 _ ⟨B,7,none⟩ (.int .i64 zr) (by kernel_rfl) rfl rfl (fun x hx=>by have c0:=(CL.out x hx).2.2.1;go_simp) ?_;simp only[Yaa]
 iterate 4 (refine Yab (by kernel_rfl) (fun x _=>by go_simp;try with_reducible rfl) ?_;simp only[Yaa])
 refine Yag 27 _ ⟨B,6,none⟩ (.slice b n cb) (by kernel_rfl) rfl rfl (fun x hx=>by have c0:=(CL.out x hx).2.1;go_simp) ?_;simp only[Yaa]
 iterate 2 (refine Yab (by kernel_rfl) (fun x _=>by go_simp;try with_reducible rfl) ?_;simp only[Yaa])
 refine Yag 3 _ ⟨B,2,none⟩ (.int .i64 fmt) (by kernel_rfl) rfl rfl (fun x hx=>by have c0:=(CL.out x hx).1;go_simp) ?_;simp only[Yaa];refine Yah (by kernel_rfl) C2.out (fun _=>by kernel_rfl) ?_;simp only[Yaa]
 iterate 3 (refine Yab (by kernel_rfl) (fun x _=>by go_simp;try with_reducible rfl) ?_;simp only[Yaa])
 refine Yar fun x hx=>?_;clear C1 C2;by_cases e0:(n:Int)=Rf
 case neg=>
  have t3:((n:Int) != Rf)=true:=by rw[bne_iff_ne];exact e0
  have E1:=Lib.hid (T3.out (by rw[HN.out];exact e0));clear e0
  go_wp2
  go_ret
  exact⟨by rw[E1.out];rfl,by first|exact(CL.out x hx).2.2.2|(rw[←HB.out];exact(CL.out x hx).2.2.2)⟩
 have t3:((n:Int) != Rf)=false:=by rw[e0];simp
 have T8:=Lib.hid (T5'.out (by rw[HN.out];exact e0));clear e0 T5' T3;have c6:=(CL.out x hx).2.1;rw[t3]
 go_wp2
 clear c6
 go_loopw [3] (fun z wr=>∃i:Nat,z=.int .i64 (i:Int)∧i≤n∧Hid (Ycy (Yc1 inter (Ygr fmt)) 0 (S.rows.take i)=true)∧Below (B+1) wA wr) (fun z _=>n-(intOf z).toNat)
 case atStart=>exact⟨0,rfl,Nat.zero_le _,Lib.hid rfl,hx⟩
 case round=>
  obtain⟨i,rfl,hi,ha,hb⟩:=hrel;have c6:=(CL.out wr hb).2.1;by_cases hlt:i<n
  ·have t1:decide ((i:Int)<(n:Int))=true:=by simp;omega
   have hil:i<S.rows.length:=by rw[HN.out];exact hlt
   have cr:=CR.out i hil wr hb;have NX:=Lib.hid (fun h=>Yno hil ha.out h);have NF:=Lib.hid (fun h=>Yjf (f:=Yc1 inter (Ygr fmt)) hil h);have hl:=HL.out wr hb;clear ha;generalize Yc1 inter (Ygr fmt) i S.rows[i]=y at cr NX NF;clear hil
   go_wp2_with (with_reducible refine wpList_load_row rfl 29 _ rfl B rfl 29 zs.toArray (0,0) _ hl Tryz.underlying29 rfl HSZ ?_)
   refine cr.mono ?_;rintro e x ⟨rfl,hb1⟩;have hx:=HK.out _ _ hb hb1;clear cr hb1 hl c6;cases y with
   |false=>
    have E1:=Lib.hid (T4.out (NF.out rfl));clear NX NF
    go_wp2
    go_ret
    exact⟨by rw[E1.out];rfl,by first|exact(CL.out x hx).2.2.2|(rw[←HB.out];exact(CL.out x hx).2.2.2)⟩
   |true=>
    have N:=Lib.hid (NX.out rfl);clear NX NF
    go_wp2
    go_roundw
    case rel=>
     exact⟨i+1,by go_num,by omega,N,hx⟩
    case measure=>simp[intOf];omega
  ·obtain rfl:n=i:=by omega
   have t1:decide ((n:Int)<(n:Int))=false:=by simp
   have SH:=Lib.hid (T8.out (by have:=ha.out;rwa [←HN.out,List.take_length] at this));have hl:=HL.out wr hb;have cc:=CC.out wr hb;clear ha T8 T4 CR CC
   go_wp2_with (with_reducible refine wpList_load_row rfl 29 _ rfl B rfl 29 zs.toArray (0,0) _ hl Tryz.underlying29 rfl HSZ ?_)
   refine cc.mono ?_;rintro e wY ⟨v,rfl,hov,hby⟩;have hbY:=HK.out _ _ hb hby
   obtain⟨q,cap,rfl,hmv⟩:=hov.many (V':=Yit) (fun a vs h=>Yit.below hby a vs h);clear cc hl c6 hov hby hb;obtain⟨M,hM⟩:∃M,(Yaw S).length=M:=⟨_,rfl⟩;have HMM:=Lib.hid hM;have hMm:M≤1048576:=by have:=HM.out;omega
   rw[hM];obtain⟨Y,hY⟩:∃Y,wY.heap.size=Y:=⟨_,rfl⟩;have HYY:=Lib.hid hY;have hS1:Below Y wY wY:=Below.refl _ _;have HBY:=Lib.hid (fun(x:World) (hx:Below Y wY x)=>(hbY.trans (hx.mono (by rw[←hY];have:=hbY.size;have:=HS.out;omega)):Below (B+1) wA x));clear hM hY hbY
   go_wp2
   go_loopw [5] (fun z wr=>∃j:Nat,z=.int .i64 (j:Int)∧j≤M∧Hid (Ycy (Ydm fmt) 0 ((Yaw S).take j)=true)∧Below Y wY wr) (fun z _=>M-(intOf z).toNat)
   case atStart=>exact⟨0,rfl,Nat.zero_le _,Lib.hid rfl,hS1⟩
   case round=>
    obtain⟨j,rfl,hj,ha,hb⟩:=hrel;by_cases hlt:j<M
    ·have t2:decide ((j:Int)<(M:Int))=true:=by simp;omega
     have hjm:j<(Yaw S).length:=by rw[HMM.out];exact hlt
     obtain⟨b2,o2,rfl,hb2,hcv⟩:=Yby.each hmv (by omega);obtain⟨vs,⟨p3,cap3,hvs,-,-⟩,hvc⟩:=hcv j hjm;have NX:=Lib.hid (fun h=>Yno (f:=Ydm fmt) hjm ha.out h);have NF:=Lib.hid (fun h=>Yjf (f:=Ydm fmt) hjm h);clear ha hcv;generalize (Yaw S)[j]=c at hvs NX NF;clear hjm;have KD:=Lib.hid (fun(x:World) (hx:Below Y wY x)=>hvc x (HYY.out▸hx) 2 (.int .i64 c.kind) (by rw[hvs];rfl))
     have MV:=Lib.hid (fun(x:World) (hx:Below Y wY x) (j':Nat) (v:Value) (h:[Value.int .i64 c.mx,.int .i64 c.my][j']? =some v)=>(by
      have h4:=hvc x (HYY.out▸hx) (4+j') v (by
       rw[hvs]
       match j',h with
       |0,h=>exact h
       |1,h=>exact h)
      rwa [show o2+j*18+(4+j')=o2+j*18+4+j' by omega] at h4:x.cell? ⟨b2,o2+j*18+4+j',none⟩=some v))
     have FM:=Lib.hid (fun(x:World) (hx:Below Y wY x)=>(CL.out x (HBY.out x hx)).1);have C4:=Lib.hid (fun(x:World) (hx:Below Y wY x)=>(Yek c.kind x).mono fun e y h=>(⟨h.1,h.2▸hx⟩:e=.returned (.bool (Yaj c.kind))∧Below Y wY y))
     have C5:=Lib.hid (fun(x:World) (hx:Below Y wY x)=>(Yz1 fmt (j:Int) c.mx c.my x).mono fun e y h=>(⟨h.1,hx.trans (h.2.mono (by have:=hx.size;have:=HYY.out;omega))⟩:e=.returned (.bool (Yi3 fmt (j:Int) c.mx c.my))∧Below Y wY y));have VE:Hid (Ydm fmt j c=(Yaj c.kind || Yi3 fmt (j:Int) c.mx c.my)):=Lib.hid rfl;clear hvs hvc;generalize Ydm fmt j c=y at NX NF VE
     generalize Yi3 fmt (j:Int) c.mx c.my=g at C5 VE;cases hk:Yaj c.kind with
     |true=>
      rw[hk] at C4 VE;have N:=Lib.hid (NX.out VE.out);clear NX NF hk C5 MV
      go_wp2
      refine Yaf (S:=fun x=>Below Y wY x) 19 (by kernel_rfl) (by kernel_rfl) hb.drew ?_;simp only[List.take_succ_cons,List.take_zero,List.drop_succ_cons,List.drop_zero]
      iterate 4 (refine Yab (by kernel_rfl) (fun x _=>by go_simp;try with_reducible rfl) ?_;simp only[Yaa])
      refine Yag 3 _ ⟨b2,o2+j*18+2,none⟩ (.int .i64 c.kind) (by kernel_rfl) rfl rfl (fun x hx=>by have c0:=(KD.out x hx);go_simp) ?_;simp only[Yaa];refine Yah (by kernel_rfl) C4.out (fun _=>by kernel_rfl) ?_;simp only[Yaa]
      iterate 2 (refine Yab (by kernel_rfl) (fun x _=>by go_simp;try with_reducible rfl) ?_;simp only[Yaa])
      iterate 10 (refine Ybf (by kernel_rfl) ?_;simp only[Yaa])
      refine Yab (by kernel_rfl) (fun x _=>by go_simp;try with_reducible rfl) ?_;simp only[Yaa];refine Yar fun x hx=>?_
      go_wp2
      go_roundw
      case rel=>exact⟨j+1,by go_num,by omega,N,hx⟩
      case measure=>simp[intOf];omega
     |false=>
      rw[hk] at C4 VE;clear hk;cases g with
      |true=>
       have N:=Lib.hid (NX.out VE.out);clear NX NF
       go_wp2
       refine Yaf (S:=fun x=>Below Y wY x) 19 (by kernel_rfl) (by kernel_rfl) hb.drew ?_;simp only[List.take_succ_cons,List.take_zero,List.drop_succ_cons,List.drop_zero]
       iterate 4 (refine Yab (by kernel_rfl) (fun x _=>by go_simp;try with_reducible rfl) ?_;simp only[Yaa])
       refine Yag 3 _ ⟨b2,o2+j*18+2,none⟩ (.int .i64 c.kind) (by kernel_rfl) rfl rfl (fun x hx=>by have c0:=(KD.out x hx);go_simp) ?_;simp only[Yaa];refine Yah (by kernel_rfl) C4.out (fun _=>by kernel_rfl) ?_;simp only[Yaa]
       iterate 3 (refine Yab (by kernel_rfl) (fun x _=>by go_simp;try with_reducible rfl) ?_;simp only[Yaa])
       refine Yag 3 _ ⟨B,2,none⟩ (.int .i64 fmt) (by kernel_rfl) rfl rfl (fun x hx=>by have c0:=(FM.out x hx);go_simp) ?_;simp only[Yaa]
       iterate 5 (refine Yab (by kernel_rfl) (fun x _=>by go_simp;try with_reducible rfl) ?_;simp only[Yaa])
       refine Yag 43 _ ⟨b2,o2+j*18+4,none⟩ (.agg (Ygk c.mx c.my)) (by kernel_rfl) rfl rfl (fun x hx=>Yfl x b2 (o2+j*18+4) 43 [.int .i64 c.mx,.int .i64 c.my] _ (MV.out x hx) Tryz.underlying43 rfl rfl) ?_;simp only[Yaa];refine Yah (by kernel_rfl) C5.out (fun _=>by kernel_rfl) ?_;simp only[Yaa]
       iterate 2 (refine Yab (by kernel_rfl) (fun x _=>by go_simp;try with_reducible rfl) ?_;simp only[Yaa])
       refine Yar fun x hx=>?_
       go_wp2
       go_roundw
       case rel=>exact⟨j+1,by go_num,by omega,N,hx⟩
       case measure=>simp[intOf];omega
      |false=>
       have E1:=Lib.hid (T6.out SH.out (NF.out VE.out));clear NX NF
       go_wp2
       refine Yaf (S:=fun x=>Below Y wY x) 19 (by kernel_rfl) (by kernel_rfl) hb.drew ?_;simp only[List.take_succ_cons,List.take_zero,List.drop_succ_cons,List.drop_zero]
       iterate 4 (refine Yab (by kernel_rfl) (fun x _=>by go_simp;try with_reducible rfl) ?_;simp only[Yaa])
       refine Yag 3 _ ⟨b2,o2+j*18+2,none⟩ (.int .i64 c.kind) (by kernel_rfl) rfl rfl (fun x hx=>by have c0:=(KD.out x hx);go_simp) ?_;simp only[Yaa];refine Yah (by kernel_rfl) C4.out (fun _=>by kernel_rfl) ?_;simp only[Yaa]
       iterate 3 (refine Yab (by kernel_rfl) (fun x _=>by go_simp;try with_reducible rfl) ?_;simp only[Yaa])
       refine Yag 3 _ ⟨B,2,none⟩ (.int .i64 fmt) (by kernel_rfl) rfl rfl (fun x hx=>by have c0:=(FM.out x hx);go_simp) ?_;simp only[Yaa]
       iterate 5 (refine Yab (by kernel_rfl) (fun x _=>by go_simp;try with_reducible rfl) ?_;simp only[Yaa])
       refine Yag 43 _ ⟨b2,o2+j*18+4,none⟩ (.agg (Ygk c.mx c.my)) (by kernel_rfl) rfl rfl (fun x hx=>Yfl x b2 (o2+j*18+4) 43 [.int .i64 c.mx,.int .i64 c.my] _ (MV.out x hx) Tryz.underlying43 rfl rfl) ?_;simp only[Yaa];refine Yah (by kernel_rfl) C5.out (fun _=>by kernel_rfl) ?_;simp only[Yaa]
       iterate 2 (refine Yab (by kernel_rfl) (fun x _=>by go_simp;try with_reducible rfl) ?_;simp only[Yaa])
       refine Yar fun x hx=>?_;have hxx:=(CL.out x (HBY.out x hx)).2.2.2
       go_wp2
       go_ret
       exact⟨by rw[E1.out];rfl,by first|exact hxx|(rw[←HB.out];exact hxx)⟩
    ·obtain rfl:M=j:=by omega
     have t2:decide ((M:Int)<(M:Int))=false:=by simp
     have E1:=Lib.hid (T7.out SH.out (by have:=ha.out;rwa [←HMM.out,List.take_length] at this));have hxx:=(CL.out wr (HBY.out wr hb)).2.2.2;clear ha
     go_wp2
     go_ret
     exact⟨by rw[E1.out];rfl,by first|exact hxx|(rw[←HB.out];exact hxx)⟩
set_option maxRecDepth 100000 in
set_option maxHeartbeats 400000 in
theorem Yqr (S:ShP)(p b:Option Addr)(ca cb:Nat)(w0 w:World)(hn:S.rows.length≤maxLen)(hr:Ycu w0 b S.rows)(hw:Below w0.heap.size w0 w)(hm:(Yaw S).length≤1048576):
  Calls Tryz.prog 22 #[.agg (Yaz S.hd (.slice p S.hd.supp.length ca) (.slice b S.rows.length cb) S.zeros).toArray] w fun e w'=>∃v,e=.returned v∧Ynh 18 48 (Yit w0) w' w.heap.size v (Yaw S)∧Below w.heap.size w w':=by
 unfold maxLen at hn;obtain⟨n,hln⟩:∃n,S.rows.length=n:=⟨_,rfl⟩;rw[hln] at hn ⊢;obtain⟨zs,hZ⟩:∃zs,Yaz S.hd (.slice p S.hd.supp.length ca) (.slice b n cb) S.zeros=zs:=⟨_,rfl⟩;have z6:zs[6]? =some (.slice b n cb):=by rw[←hZ];rfl
 rw[hZ];obtain⟨B,hB⟩:∃B,w.heap.size=B:=⟨_,rfl⟩;obtain⟨w1,hw1⟩:∃w1,w.alloc (.cells zs.toArray 29 (0,0))=w1:=⟨_,rfl⟩;have hh1:w1.heap[B]? =some (.cells zs.toArray 29 (0,0)):=by rw[←hw1,←hB];exact heap_alloc_new w _
 have hl1:Below w.heap.size w w1:=by rw[←hw1];exact(Below.refl _ w).alloc (Nat.le_refl _) _
 have hs1:w1.heap.size=B+1:=by rw[←hw1,←hB];simp
 have HW1:=Lib.hid hw1;have HB:=Lib.hid hB;have NR:=Lib.hid hln;have HR:=Lib.hid hr;have UP0:=Lib.hid (fun(x:World) (hx:Below w.heap.size w x)=>hw.trans (hx.mono hw.size));have ALL:=Lib.hid (Yhh S hln);have MOST:=Lib.hid fun i=>Nat.le_trans (Yf9 S i) hm;clear hw1 hZ hln hr hm hw
 go_enter Tryz.func22,Tryz.ntmps22
 go_wp2
 rw[HW1.out]
 go_loopw [3,4] (fun v t wr=>∃i:Nat,t=.int .i64 (i:Int)∧i≤n∧Ynh 18 48 (Yit w0) wr (B+1) v (Yds S i)∧Below w.heap.size w wr∧wr.heap[B]? =some (.cells zs.toArray 29 (0,0))∧B+1≤wr.heap.size) (fun _ t _=>n-(intOf t).toNat)
 case atStart=>exact⟨0,rfl,Nat.zero_le _,Ynh.nil ..,hl1,hh1,by omega⟩
 case round=>
  obtain⟨i,rfl,hi,ho,hb,hh,hs⟩:=hrel;have k6:wr.cell? ⟨B,6,none⟩=some (.slice b n cb):=Yac hh z6;by_cases hlt:i<n
  ·have t1:decide ((i:Int)<(n:Int))=true:=by simp;omega
   obtain⟨b1,o1,rfl,hb1,hc1⟩:=Ye3 HR.out (by rw[NR.out];omega);have hil:i<S.rows.length:=by rw[NR.out];exact hlt
   obtain⟨r,cap,hq,hml,hcel,hat⟩:=hc1 i hil;obtain⟨-,-,-,c3⟩:=hat _ (UP0.out _ hb);have nx:=Ydt S hil;have n1:=MOST.out (i+1);rw[nx,List.length_append] at n1;have NX:=Lib.hid nx;have hcw:=Yby.const hcel (UP0.out _ hb);obtain⟨ti,tz,j0,j1,j2,j3,j4⟩:=Yrq;clear hat hcel hc1 nx;generalize S.rows[i].cels=m at *
   go_wp2_with (at_builtin;refine Ygs (V:=fun _=>Yit w0) (w0:=w0) (c:=18) (bytes:=240) (base:=B+1) (v:=u3) (l:=Yds S i) (m:=m) (q:=r) (cap:=cap) rfl rfl Tryz.underlying40 j0 j1 j2 j3 j4 (by decide) ?d1 ?d2 hq ho hcw (fun _ _ h=>h) (fun _ _ h=>h.shape) ?d3 ?d4 ?d5 ?_;(case d1=>kernel_rfl);(case d2=>kernel_rfl);(case d3=>(unfold maxLen;omega));(case d4=>omega);(case d5=>exact hs);intro v2 w2 ho2 hg2)
   go_roundw
   case rel=>exact⟨i+1,by go_num,by omega,by rw[NX.out];exact ho2,hb.grown hg2 (by omega) (fun k hk=>by have:=ho.fresh k hk;omega),(hg2.block B (by omega) (fun e=>by have:=ho.fresh B e.symm;omega)).trans hh,Nat.le_trans hs hg2.size⟩
   case measure=>simp[intOf];omega
  ·obtain rfl:n=i:=by omega
   have t1:decide ((n:Int)<(n:Int))=false:=by simp
   rw[ALL.out] at ho
   go_wp2
   go_ret
   exact⟨_,rfl,ho.less (by omega),hb⟩
structure Ygm (S:ShP):Prop where
 rows:S.rows.length≤30
 supp:S.hd.supp.length≤100
 cels:∀i (h:i<S.rows.length),S.rows[i].cels.length≤200
 evs:∀i (h:i<S.rows.length),∀j (h':j<S.rows[i].cels.length),∀k,k<6→(S.rows[i].cels[j].ev k).length≤100
 all:(Yaw S).length≤200
theorem Ygm.mem {S:ShP}(h:Ygm S):∀c∈Yaw S,∀k,k<6→(c.ev k).length≤100:=by
 intro c hc k hk;obtain⟨r,hr,hc⟩:=List.mem_flatMap.1 hc;obtain⟨i,hi,rfl⟩:=List.mem_iff_getElem.1 hr;obtain⟨j,hj,rfl⟩:=List.mem_iff_getElem.1 hc;exact h.evs i hi j hj k hk
def Yc8 (S:ShP)(w:World)(e:Ending)(w':World):Prop:=(∃y,e=.returned (.bool y)∧(y=true→Ygm S))∧Below w.heap.size w w'
theorem Yc8.no {S:ShP}{w w':World}(h:Below w.heap.size w w'):Yc8 S w (.returned (.bool false)) w':=⟨⟨false,rfl,fun h=>by cases h⟩,h⟩
theorem Yvs (c:Cel)(sl:Nat→Value){e:Nat}(he:e<6):(Ycd c sl)[12+e]? =some (sl e):=by
 match e,he with
 |0,_|1,_|2,_|3,_|4,_|5,_=>rfl
set_option maxRecDepth 100000 in
set_option maxHeartbeats 4000000 in
theorem Yww (S:ShP)(p b:Option Addr)(ca cb:Nat)(w:World)(hl:S.hd.supp.length≤maxLen)(hn:S.rows.length≤maxLen)(hr:Ycu w b S.rows):
  Calls Tryz.prog 6 #[.agg (Yaz S.hd (.slice p S.hd.supp.length ca) (.slice b S.rows.length cb) S.zeros).toArray] w (Yc8 S w):=by
 unfold maxLen at hn hl;obtain⟨n,hln⟩:∃n,S.rows.length=n:=⟨_,rfl⟩;obtain⟨q,hlq⟩:∃n,S.hd.supp.length=n:=⟨_,rfl⟩;rw[hln] at hn ⊢;rw[hlq] at hl ⊢;obtain⟨zs,hZ⟩:∃zs,Yaz S.hd (.slice p q ca) (.slice b n cb) S.zeros=zs:=⟨_,rfl⟩;have z6:zs[6]? =some (.slice b n cb):=by rw[←hZ];rfl
 have z5:zs[5]? =some (.slice p q ca):=by rw[←hZ];rfl
 rw[hZ];obtain⟨B,hB⟩:∃B,w.heap.size=B:=⟨_,rfl⟩;obtain⟨wA,hwA⟩:∃wA,w.alloc (.cells zs.toArray 29 (0,0))=wA:=⟨_,rfl⟩;have hhA:wA.heap[B]? =some (.cells zs.toArray 29 (0,0)):=by rw[←hwA,←hB];exact heap_alloc_new w _
 have hbA:Below w.heap.size w wA:=by rw[←hwA];exact(Below.refl _ w).alloc (Nat.le_refl _) _
 have HWA:=Lib.hid hwA;have HB:=Lib.hid hB;have HBA:=Lib.hid hbA;have NR:=Lib.hid hln;have NQ:=Lib.hid hlq;have HR:=Lib.hid hr;have K6:=Lib.hid (Yac hhA z6);clear hwA hbA hZ hln hlq hr;by_cases h1:30<n
 ·have t1:decide (30<(n:Int))=true:=by simp;omega
  go_enter Tryz.func6,Tryz.ntmps6
  go_wp2
  go_ret
  rw[HWA.out];exact Yc8.no HBA.out
 have t1:decide (30<(n:Int))=false:=by simp;omega
 by_cases h2:100<q
 ·have t2:decide (100<(q:Int))=true:=by simp;omega
  go_enter Tryz.func6,Tryz.ntmps6
  go_wp2
  go_ret
  rw[HWA.out];exact Yc8.no HBA.out
 have t2:decide (100<(q:Int))=false:=by simp;omega
 go_enter Tryz.func6,Tryz.ntmps6
 go_wp2
 rw[HWA.out];have k6:=K6.out;clear z5 z6 t1 t2 K6 hhA
 go_loop [3,4] (fun v t=>∃i:Nat,t=.int .i64 (i:Int)∧v=.int .i64 ((Yds S i).length:Int)∧i≤n∧(Yds S i).length≤200*i∧Hid ((∀j (h:j<S.rows.length),j<i→S.rows[j].cels.length≤200)∧∀j (h:j<S.rows.length),j<i→∀m (h':m<S.rows[j].cels.length),∀k,k<6→(S.rows[j].cels[m].ev k).length≤100)) (fun _ t=>n-(intOf t).toNat)
 case atStart=>exact⟨0,rfl,rfl,Nat.zero_le _,Nat.zero_le _,Lib.hid ⟨fun j _ h=>absurd h (Nat.not_lt_zero j),fun j _ h=>absurd h (Nat.not_lt_zero j)⟩⟩
 case round=>
  obtain⟨i,rfl,rfl,hi,hL,ha⟩:=hrel;by_cases hlt:i<n
  ·have t1:decide ((i:Int)<(n:Int))=true:=by simp;omega
   have hil:i<S.rows.length:=by rw[NR.out];exact hlt
   obtain⟨b1,o1,rfl,hb1,hc1⟩:=Ye3 HR.out (by omega);obtain⟨r,cap,hq,hml,hcel,hat⟩:=hc1 i hil;obtain⟨-,-,-,c3⟩:=hat _ HBA.out;have nx:=Ydt S hil;have NX:=Lib.hid (fun(h1:S.rows[i].cels.length≤200) (h2:∀m (h':m<S.rows[i].cels.length),∀k,k<6→(S.rows[i].cels[m].ev k).length≤100)=>(⟨fun j h hj=>(by
     by_cases e:j<i
     ·exact ha.out.1 j h e
     ·obtain rfl:j=i:=by omega
      exact h1),fun j h hj=>(by
     by_cases e:j<i
     ·exact ha.out.2 j h e
     ·obtain rfl:j=i:=by omega
      exact h2)⟩:(∀j (h:j<S.rows.length),j<i+1→S.rows[j].cels.length≤200)∧∀j (h:j<S.rows.length),j<i+1→∀m (h':m<S.rows[j].cels.length),∀k,k<6→(S.rows[j].cels[m].ev k).length≤100))
   clear hc1 hat ha;generalize S.rows[i].cels=m at *;have NC:=Lib.hid (show (Yds S (i+1)).length=(Yds S i).length+m.length by rw[nx,List.length_append]);generalize (Yds S i).length=L at *;clear nx;by_cases hm:200<m.length
   ·have t2:decide (200<(m.length:Int))=true:=by simp;omega
    go_wp2
    go_ret
    exact Yc8.no HBA.out
   have t2:decide (200<(m.length:Int))=false:=by simp;omega
   go_wp2
   clear t1 t2
   go_loop [3,5] (fun v t=>∃k:Nat,t=.int .i64 (k:Int)∧v=.int .i64 ((L+k:Nat):Int)∧k≤m.length∧Hid (∀j (h:j<m.length),j<k→∀e,e<6→(m[j].ev e).length≤100)) (fun _ t=>m.length-(intOf t).toNat)
   case atStart=>exact⟨0,rfl,rfl,Nat.zero_le _,Lib.hid fun j _ h=>absurd h (Nat.not_lt_zero j)⟩
   case round=>
    obtain⟨k,rfl,rfl,hk,hev⟩:=hrel;by_cases hkm:k<m.length
    ·have t3:decide ((k:Int)<(m.length:Int))=true:=by simp;omega
     obtain⟨b2,o2,rfl,hb2,hcv⟩:=Yby.each hcel (by omega);obtain⟨vs,⟨p3,cap3,hvs,-,-⟩,hvc⟩:=hcv k hkm;have EX:=Lib.hid (fun(h2:∀e,e<6→(m[k].ev e).length≤100)=>(fun j h hj=>(by
      by_cases e:j<k
      ·exact hev.out j h e
      ·obtain rfl:j=k:=by omega
       exact h2):∀j (h:j<m.length),j<k+1→∀e,e<6→(m[j].ev e).length≤100))
     clear hcv hev;generalize m[k]=c at hvs EX;have EV:=Lib.hid (fun(e:Nat) (he:e<6)=>(by
      have h4:=hvc wA HBA.out (12+e) (.slice (p3 e) (c.ev e).length (cap3 e)) (by rw[hvs];exact Yvs c _ he);rwa [show o2+k*18+(12+e)=o2+k*18+12+e by omega] at h4:wA.cell? ⟨b2,o2+k*18+12+e,none⟩=some (.slice (p3 e) (c.ev e).length (cap3 e))))
     clear hvs hvc
     go_wp2
     clear t3
     go_loop [6] (fun t=>∃e:Nat,t=.int .i64 (e:Int)∧e≤6∧Hid (∀e',e'<e→(c.ev e').length≤100)) (fun t=>6-(intOf t).toNat)
     case atStart=>exact⟨0,rfl,Nat.zero_le _,Lib.hid fun j h=>absurd h (Nat.not_lt_zero j)⟩
     case round=>
      obtain⟨e,rfl,he,hee⟩:=hrel;by_cases he6:e<6
      ·have t3:decide ((e:Int)<6)=true:=by simp;omega
       have ce:=EV.out e he6;have HE:=hee;clear hee;obtain⟨l,hle⟩:∃l,(c.ev e).length=l:=⟨_,rfl⟩;rw[hle] at ce;have HLE:=Lib.hid hle;clear hle;by_cases hl100:100<l
       ·have t4:decide (100<(l:Int))=true:=by simp;omega
        go_wp2
        go_ret
        exact Yc8.no HBA.out
       ·have t4:decide (100<(l:Int))=false:=by simp;omega
        have N:=Lib.hid (show∀e',e'<e+1→(c.ev e').length≤100 from fun e' h=>by
         by_cases h3:e'<e
         ·exact HE.out e' h3
         ·obtain rfl:e'=e:=by omega
          rw[HLE.out];omega)
        clear HE
        go_wp2
        go_round
        case rel=>exact⟨e+1,by go_num,by omega,N⟩
        case measure=>simp[intOf];omega
      ·obtain rfl:e=6:=by omega
       have t3:decide (((6:Nat):Int)<6)=false:=by simp
       have N:=Lib.hid (EX.out hee.out);clear hee
       go_wp2
       go_round
       case rel=>exact⟨k+1,by go_num,by go_num,by omega,N⟩
       case measure=>simp[intOf];omega
    ·obtain rfl:m.length=k:=by omega
     have t3:decide ((m.length:Int)<(m.length:Int))=false:=by simp
     have N:=Lib.hid (NX.out (by omega) (fun j h=>hev.out j h h));clear hev NX
     go_wp2
     go_round
     case rel=>exact⟨i+1,by go_num,by rw[NC.out],by omega,by rw[NC.out];omega,N⟩
     case measure=>simp[intOf];omega
  ·obtain rfl:n=i:=by omega
   have t1:decide ((n:Int)<(n:Int))=false:=by simp
   have AL:=Lib.hid (Yhh S NR.out);have EV:=Lib.hid ha.out;rw[AL.out];by_cases h3:(Yaw S).length≤200
   ·have t2:decide (((Yaw S).length:Int)≤200)=true:=by simp;omega
    go_wp2
    go_ret
    exact⟨⟨true,rfl,fun _=>⟨by rw[NR.out];omega,by rw[NQ.out];omega,fun j h=>EV.out.1 j h (by rw[←NR.out];exact h),fun j h=>EV.out.2 j h (by rw[←NR.out];exact h),h3⟩⟩,HBA.out⟩
   ·have t2:decide (((Yaw S).length:Int)≤200)=false:=by simp;omega
    go_wp2
    go_ret
    exact Yc8.no HBA.out
end Go.Proofs.YtnamlooifcpoaaaGreatDoor