/- No condition. -/
import Derived.Test.YtnamlooifcpoaaaGreatDoorScreensStillMa
import Derived.Test.YtnamlooifcpoaaaGreatDoorScreensStillMy
import Derived.Test.YtnamlooifcpoaaaGreatDoorScreensStillMbf
import Derived.Test.YtnamlooifcpoaaaGreatDoorScreensStillMbj
namespace Go.Proofs.YtnamlooifcpoaaaGreatDoor
open Go.RowKit Go.Lib
theorem Yyv (H:Bool)(i:Nat)(I Q:Int):(if H then decide (i≠0∧0≤I∧I≤3∧1≤Q∧Q≤31) else decide (I=0∧Q=0))=Ykc (i:Int) H I Q:=by
 unfold Ykc;cases H
 ·rfl
 ·rw[if_pos rfl,if_pos rfl];simp
def Ycz (w:World)(inter:Bool):Prop:=∀(c:Cel) (p:Nat→Option Addr) (n k:Nat→Nat) (x:World),Below w.heap.size w x→Yeb x c p n→
 Calls Tryz.prog 95 #[.bool inter,.agg (Ybp c fun i=>.slice (p i) (n i) (k i)).toArray] x fun e y=>e=.returned (.bool (Ybb inter c))∧Below x.heap.size x y
theorem Ycz.below {w x:World}{inter:Bool}(h:Ycz w inter)(hb:Below w.heap.size w x):Ycz x inter:=
 fun c p n k y hy hc=>h c p n k y (hb.trans (hy.mono hb.size)) hc
set_option maxRecDepth 100000 in
set_option maxHeartbeats 1000000 in
theorem Yui (S:ShP)(p b:Option Addr)(ca cb i:Nat)(w:World)(hi:i<S.rows.length)(hn:S.rows.length≤maxLen)(hr:Ydh w b S.rows)(hc:∀c∈S.rows[i].cels,∀k,k<6→(c.ev k).length≤1048576)(hR:Ycz w S.hd.inter):
  Calls Tryz.prog 70 #[.agg (Yaz S.hd (.slice p S.hd.supp.length ca) (.slice b S.rows.length cb) S.zeros).toArray,.int .i64 (i:Int)] w fun e w'=>e=.returned (.bool (Ydw S.hd.inter (Ygp S.hd.fmt) i S.rows[i]))∧Below w.heap.size w w':=by
 unfold maxLen at hn;obtain⟨b1,o1,rfl,hb1,hc1⟩:=Ykq hr (by omega);obtain⟨r,cap,hq,hml,hcel,hat⟩:=hc1 i hi;clear hc1 hr;have cE:=fun x=>Ylp S.hd (.slice p S.hd.supp.length ca) (.slice (some ⟨b1,o1,none⟩) S.rows.length cb) S.zeros x;generalize S.rows[i]=R at hc hml hcel hat ⊢;generalize S.rows.length=n at hi hn cE ⊢;obtain⟨H,I,Q,m⟩:=R;dsimp only at *
 obtain⟨zs,hZ⟩:∃zs,Yaz S.hd (.slice p S.hd.supp.length ca) (.slice (some ⟨b1,o1,none⟩) n cb) S.zeros=zs:=⟨_,rfl⟩;have z6:zs[6]? =some (.slice (some ⟨b1,o1,none⟩) n cb):=by rw[←hZ];rfl
 have z3:zs[3]? =some (.bool S.hd.inter):=by rw[←hZ];rfl
 have HSZ:(Tryz.prog.info? 114).map (·.size)=some zs.toArray.size:=by rw[show zs.toArray.size=8 by rw[←hZ];rfl];kernel_rfl
 rw[hZ] at cE ⊢;clear hZ;have hNr:=Yhw S.hd.fmt;generalize Ygp S.hd.fmt=N at *;generalize S.hd.inter=inter at *;obtain⟨rs,hrs⟩:∃rs,[Value.bool H,.int .i64 I,.int .i64 Q,.slice r m.length cap]=rs:=⟨_,rfl⟩;have r3:rs[3]? =some (.slice r m.length cap):=by rw[←hrs];rfl
 have rl:rs.length=4:=by rw[←hrs];rfl
 have ro:rs.toArray.all (·.oneCell')=true:=by rw[←hrs];simp[Value.oneCell']
 have cH:=fun x=>Yql (i:Int) (by omega) H I Q (.slice r m.length cap) x;rw[show (#[Value.bool H,.int .i64 I,.int .i64 Q,.slice r m.length cap]:Array Value)=rs.toArray by rw[←hrs]] at cH;have hrg:∀x,Below w.heap.size w x→x.rangeAt b1 (o1+i*4) rs:=fun x hx k v hk=>by
  obtain⟨a0,a1,a2,a3⟩:=hat x hx;rw[←hrs] at hk
  match k,hk with
  |0,hk=>injection hk with hk;subst hk;exact a0
  |1,hk=>injection hk with hk;subst hk;exact a1
  |2,hk=>injection hk with hk;subst hk;exact a2
  |3,hk=>injection hk with hk;subst hk;exact a3
 clear hat hrs;obtain⟨Yr,HYRS,hzr⟩:=Yfw;obtain⟨Y,HYS,hzv⟩:=Yef;obtain⟨B,wA,wB,hB,hwA,hwB,hsA,hsB,hhA,hhR,hbB⟩:=Ygs w (.cells zs.toArray 114 (0,0)) (.cells rs.toArray 42 (0,0));have hbA:Below w.heap.size w wA:=by rw[←hwA];exact(Below.refl _ w).alloc (Nat.le_refl _) _
 have hrgA:=hrg wA hbA;have CL:Hid (∀x,Below (B+2) wB x→x.cell? ⟨B,3,none⟩=some (.bool inter)∧x.cell? ⟨B+1,3,none⟩=some (.slice r m.length cap)∧Below w.heap.size w x):=Lib.hid fun x hx=>by
  have h1:=(hx.block B (by omega)).trans hhA;have h2:=(hx.block (B+1) (by omega)).trans hhR;exact⟨Yac h1 z3,Yac h2 r3,by rw[hB];exact hbB.trans (hx.mono (by omega))⟩
 have HA:=Lib.hid (fun(x:World) (hx:Below (B+2) wB x)=>(hx.block B (by omega)).trans hhA);have HR:=Lib.hid (fun(x:World) (hx:Below (B+2) wB x)=>(hx.block (B+1) (by omega)).trans hhR);have K:∀(x y:World),Below (B+2) wB x→Below x.heap.size x y→Below (B+2) wB y:=fun x y hx hy=>hx.trans (hy.mono (by have:=hx.size;omega))
 have C1:=Lib.hid (fun(x:World) (hx:Below (B+2) wB x)=>((cH x).mono fun e y h=>⟨h.1,K x y hx h.2⟩:Calls Tryz.prog 93 #[.int .i64 (i:Int),.agg rs.toArray] x fun e y=>e=.returned (.bool (Ykc (i:Int) H I Q))∧Below (B+2) wB y))
 have C2:=Lib.hid (fun(x:World) (hx:Below (B+2) wB x)=>((cE x).mono fun e y h=>⟨h.1,K x y hx h.2⟩:Calls Tryz.prog 94 #[.agg zs.toArray] x fun e y=>e=.returned (.int .i64 N)∧Below (B+2) wB y));have HSR:(Tryz.prog.info? 42).map (·.size)=some rs.toArray.size:=by rw[show rs.toArray.size=4 from rl];kernel_rfl
 have HYR:Yr.size=rs.toArray.size:=by rw[HYRS];exact rl.symm
 have t1:decide ((i:Int)<(n:Int))=true:=by simp;omega
 have hS0:Below (B+2) wB wB:=Below.refl _ _;have HWA:=Lib.hid hwA;have HWB:=Lib.hid hwB;have HB:=Lib.hid hB;have HS:=Lib.hid hsB;have HSA:=Lib.hid hsA;have HM:=Lib.hid hml;have HCEL:=Lib.hid hcel;have HCR:=Lib.hid hR;have HKK:=Lib.hid K;unfold Ydw;dsimp only;rw[Yyv];generalize Ykc (i:Int) H I Q=G at *;clear hwA hwB hB hsA hsB hhA hhR hbB hbA z3 r3 hrg cE cH hcel hR hml K
 go_enter Tryz.func70,Tryz.ntmps70
 go_wp2_with (first|(rw[HWA.out,HB.out];with_reducible refine Ydr rfl _ rfl b1 (o1+i*4) rfl rs hrgA rl ?_)|(with_reducible refine Yaf rfl 42 _ _ rfl rs.toArray Yr 42 rfl rfl HSR HYR ro ?_;rw[HWB.out,HSA.out]))
 cases G with
 |false=>
  refine Yan (S:=fun x=>Below (B+2) wB x) 12 (by kernel_rfl) (by kernel_rfl) hS0.drew ?_;simp only[List.take_succ_cons,List.take_zero,List.drop_succ_cons,List.drop_zero];refine Yab (by kernel_rfl) (fun x _=>by go_simp;try with_reducible rfl) ?_;simp only[Yaa];refine Yc9 42 _ (B+1) 42 rs.toArray (0,0) _ (by kernel_rfl) rfl rfl (fun x hx=>HR.out x hx) Tryz.underlying42 rfl HSR ?_;simp only[Yaa]
  refine Ya5 (by kernel_rfl) C1.out (fun _=>by kernel_rfl) ?_;simp only[Yaa]
  iterate 2 (refine Yab (by kernel_rfl) (fun x _=>by go_simp;try with_reducible rfl) ?_;simp only[Yaa])
  iterate 6 (refine Ydk (by kernel_rfl) ?_;simp only[Yaa])
  refine Yab (by kernel_rfl) (fun x _=>by go_simp;try with_reducible rfl) ?_;simp only[Yaa];refine Ybi fun x hx=>?_;have HE:=(CL.out x hx).2.2
  go_wp2
  go_ret
  exact⟨Yae (by rw[Bool.false_and,Bool.and_false]),by first|exact HE|(rw[←HB.out];exact HE)⟩
 |true=>
 refine Yan (S:=fun x=>Below (B+2) wB x) 12 (by kernel_rfl) (by kernel_rfl) hS0.drew ?_;simp only[List.take_succ_cons,List.take_zero,List.drop_succ_cons,List.drop_zero];refine Yab (by kernel_rfl) (fun x _=>by go_simp;try with_reducible rfl) ?_;simp only[Yaa];refine Yc9 42 _ (B+1) 42 rs.toArray (0,0) _ (by kernel_rfl) rfl rfl (fun x hx=>HR.out x hx) Tryz.underlying42 rfl HSR ?_;simp only[Yaa]
 refine Ya5 (by kernel_rfl) C1.out (fun _=>by kernel_rfl) ?_;simp only[Yaa]
 iterate 3 (refine Yab (by kernel_rfl) (fun x _=>by go_simp;try with_reducible rfl) ?_;simp only[Yaa])
 refine Yas 40 _ ⟨(B+1),3,none⟩ (.slice r m.length cap) (by kernel_rfl) rfl rfl (fun x hx=>by have c0:=(CL.out x hx).2.1;go_simp) ?_;simp only[Yaa];refine Yab (by kernel_rfl) (fun x _=>by go_simp;try with_reducible rfl) ?_;simp only[Yaa];refine Yc9 114 _ B 114 zs.toArray (0,0) _ (by kernel_rfl) rfl rfl (fun x hx=>HA.out x hx) Tryz.underlying114 rfl HSZ ?_;simp only[Yaa]
 refine Ya5 (by kernel_rfl) C2.out (fun _=>by kernel_rfl) ?_;simp only[Yaa]
 iterate 2 (refine Yab (by kernel_rfl) (fun x _=>by go_simp;try with_reducible rfl) ?_;simp only[Yaa])
 refine Ybi fun x hx=>?_;obtain⟨-,k3,HE⟩:=CL.out x hx;by_cases e0:(m.length:Int)=N
 case neg=>
  have t0:((m.length:Int) != N)=true:=by rw[bne_iff_ne];exact e0
  have F:=Lib.hid (decide_eq_false e0);clear e0
  go_wp2
  go_ret
  exact⟨Yae (by rw[F.out];rfl),by first|exact HE|(rw[←HB.out];exact HE)⟩
 have t0:((m.length:Int) != N)=false:=by rw[e0];simp
 have F:=Lib.hid (decide_eq_true e0);have hm4:m.length≤10000:=by omega
 clear e0;rw[t0]
 go_wp2
 clear k3 t0
 go_loopw [28] (fun z wr=>∃j:Nat,z=.int .i64 (j:Int)∧j≤m.length∧Hid ((m.take j).all (Ybb inter)=true)∧Below (B+2) wB wr) (fun z _=>m.length-(intOf z).toNat)
 case atStart=>exact⟨0,rfl,Nat.zero_le _,Lib.hid rfl,hx⟩
 case round=>
  clear hx HE;obtain⟨j,rfl,hj,ha,hb⟩:=hrel;obtain⟨-,-,hbw⟩:=CL.out wr hb;by_cases hlt:j<m.length
  ·have t1:decide ((j:Int)<(m.length:Int))=true:=by simp;omega
   obtain⟨b2,o2,rfl,hb2,hcv⟩:=Ydf.each HCEL.out (by omega);obtain⟨vs,hV,hvc⟩:=hcv j hlt;have hl18:=hV.shape.1;have hone:=Yei hV;obtain⟨p3,cap3,hvs,-,hev⟩:=hV;have hrg:wr.rangeAt b2 (o2+j*18) vs:=fun k v hk=>hvc wr hbw k v hk;have NX:=Lib.hid (fun h=>Yvd hlt ha.out (f:=Ybb inter) h);have NF:=Lib.hid (fun h=>Yve (f:=Ybb inter) hlt h)
   obtain⟨wC,hwC⟩:∃wC,wr.alloc (.cells vs.toArray 48 (0,0))=wC:=⟨_,rfl⟩;obtain⟨C,hC⟩:∃C,wr.heap.size=C:=⟨_,rfl⟩;have hhC:wC.heap[C]? =some (.cells vs.toArray 48 (0,0)):=by rw[←hwC,←hC];exact heap_alloc_new wr _
   have hbC:Below (B+2) wB wC:=by rw[←hwC];exact hb.alloc (by have:=hb.size;have:=HS.out;omega) _
   obtain⟨k3,-,hwx⟩:=CL.out wC hbC;have hsC:wC.heap.size=C+1:=by rw[←hwC,←hC];simp
   have HSV:(Tryz.prog.info? 48).map (·.size)=some vs.toArray.size:=by rw[show vs.toArray.size=18 from hl18];kernel_rfl
   have HYV:Y.size=vs.toArray.size:=by rw[HYS];exact hl18.symm
   have C3:=HCR.out m[j] p3 (fun i=>(m[j].ev i).length) cap3 wC hwx (fun i hi=>⟨rfl,hc _ (List.getElem_mem hlt) i hi,(hev i hi).2.below hwx⟩);rw[←hvs] at C3;have HWC:=Lib.hid hwC;have HSC:=Lib.hid hsC;have HC:=Lib.hid hC;clear hvs hvc hcv ha hwC hsC hev hC;generalize Ybb inter m[j]=y at *
   go_wp2_with (first|(with_reducible refine Yci rfl _ rfl b2 (o2+j*18) rfl vs hrg hl18 ?_)|(with_reducible refine Yaf rfl 48 _ _ rfl vs.toArray Y 48 rfl rfl HSV HYV hone ?_;rw[HWC.out])|(rw[HC.out];with_reducible refine wpList_load_row rfl 48 _ rfl C rfl 48 vs.toArray (0,0) _ hhC Tryz.underlying48 rfl HSV ?_))
   refine C3.mono ?_;rintro e w2 ⟨rfl,hb2'⟩;have hx2:Below (B+2) wB w2:=hbC.trans (hb2'.mono (by have:=hbC.size;have:=HS.out;omega));have hw2:=(CL.out w2 hx2).2.2;clear hb2' hhC hrg hbC k3 hwx;cases y with
   |true=>
    have N1:=Lib.hid (NX.out rfl);clear NX NF
    go_wp2
    go_roundw
    case rel=>exact⟨j+1,by go_num,by omega,N1,hx2⟩
    case measure=>simp[intOf];omega
   |false=>
    have N1:=Lib.hid (NF.out rfl);clear NX NF
    go_wp2
    go_ret
    exact⟨Yae (by rw[F.out,N1.out];rfl),by first|exact hw2|(rw[←HB.out];exact hw2)⟩
  ·obtain rfl:m.length=j:=by omega
   have t1:decide ((m.length:Int)<(m.length:Int))=false:=by simp
   have AA:=Lib.hid (show m.all (Ybb inter)=true by have:=ha.out;rwa [List.take_length] at this)
   go_wp2
   go_ret
   exact⟨Yae (by rw[F.out,AA.out];rfl),by first|exact hbw|(rw[←HB.out];exact hbw)⟩
theorem Yi4 {w x:World}{b N:Nat}(h:w.grownBy x (some b))(hN:N≤b)(hz:N≤w.heap.size):Below N w x:=
 ⟨h.os,h.tape,h.output,h.size,fun k hk=>h.block k (by omega) (fun e=>by injection e with e;omega)⟩
def Yd4 (h:Shd)(z:Int)(n:Nat):Bool:=Ycy h&&(decide (0≤z)&&(decide (z≤262144)&&((n:Int)==Ym6 h.fmt)))
set_option maxRecDepth 100000 in
set_option maxHeartbeats 1000000 in
theorem Yn2 (h:Shd)(p b:Option Addr)(ca cb n:Nat)(z:Int)(w:World)(hl:h.supp.length≤maxLen)(hs:Yde w p h.supp):
  Calls Tryz.prog 68 #[.agg (Yaz h (.slice p h.supp.length ca) (.slice b n cb) z).toArray] w fun e w'=>e=.returned (.bool (Yd4 h z n))∧Below w.heap.size w w':=by
 have hnot:=fun x a (hx:Below w.heap.size w x) (hm:Ycy h=false)=>Yxe a h p ca (.slice b n cb) z hl x (hs.below hx) hm
 have hok:=fun(x:World) (hx:Below w.heap.size w x) (hm:Ycy h=true)=>Yzq (x.alloc Yfu) (x.heap.size+1) x.heap.size [] h p ca (.slice b n cb) z (fun y hy=>hs.below (hx.trans ((((Below.refl _ x).alloc (Nat.le_refl _) Yfu).trans (Yi4 hy (Nat.le_refl _) (by simp))).mono hx.size))) hm (Ydd.fresh rfl (Nat.lt_succ_self _)) (by simp) (by simp)
 obtain⟨zs,hZ⟩:∃zs,Yaz h (.slice p h.supp.length ca) (.slice b n cb) z=zs:=⟨_,rfl⟩;have z2:zs[2]? =some (.int .i64 h.fmt):=by rw[←hZ];rfl
 have z6:zs[6]? =some (.slice b n cb):=by rw[←hZ];rfl
 have z7:zs[7]? =some (.int .i64 z):=by rw[←hZ];rfl
 have HSZ:(Tryz.prog.info? 114).map (·.size)=some zs.toArray.size:=by rw[show zs.toArray.size=8 by rw[←hZ];rfl];kernel_rfl
 simp only[hZ] at hnot hok ⊢;obtain⟨B,hB⟩:∃B,w.heap.size=B:=⟨_,rfl⟩;obtain⟨wA,hwA⟩:∃wA,w.alloc (.cells zs.toArray 114 (0,0))=wA:=⟨_,rfl⟩;have hhA:wA.heap[B]? =some (.cells zs.toArray 114 (0,0)):=by rw[←hwA,←hB];exact heap_alloc_new w _
 have hbA:Below B w wA:=by rw[←hB,←hwA];exact(Below.refl _ w).alloc (Nat.le_refl _) _
 have hsA:wA.heap.size=B+1:=by rw[←hwA,←hB];simp
 obtain⟨ev,hev⟩:∃ev:Int,(if Ycy h=true then 0 else 12)=ev:=⟨_,rfl⟩;have HPUT:Hid (∀x,(Below B w x∧x.heap[B]? =some (.cells zs.toArray 114 (0,0)))→Calls Tryz.prog 91 #[.pointer (some ⟨x.heap.size,0,none⟩),.agg zs.toArray] (x.alloc Yfu) fun e y=>e=.returned (.int .i64 ev)∧Below B w y∧y.heap[B]? =some (.cells zs.toArray 114 (0,0))):=Lib.hid (by
  intro x hx;have hxb:B<x.heap.size:=(Array.getElem?_eq_some_iff.1 hx.2).1;have hfin:∀y,Below x.heap.size x y→Below B w y∧y.heap[B]? =some (.cells zs.toArray 114 (0,0)):=fun y h3=>⟨hx.1.trans (h3.mono (by omega)),(h3.block B hxb).trans hx.2⟩;have hal:Below x.heap.size x (x.alloc Yfu):=(Below.refl _ x).alloc (Nat.le_refl _) Yfu;cases hm:Ycy h with
  |false=>
   refine(hnot (x.alloc Yfu) ⟨x.heap.size,0,none⟩ (by rw[hB];exact hx.1.trans (hal.mono (by omega))) hm).mono ?_;rintro e y ⟨rfl,h2⟩;exact⟨by rw[←hev,hm];rfl,hfin y (hal.trans (h2.mono (by simp)))⟩
  |true=>
   refine(hok x (by rw[hB];exact hx.1) hm).mono ?_;rintro e y ⟨rfl,_,hg⟩;exact⟨by rw[←hev,hm];rfl,hfin y (hal.trans (Yi4 hg (Nat.le_refl _) (by simp)))⟩)
 have HEV:Hid (∀b,Ycy h=b→(ev==0)=b):=Lib.hid (by intro b hb;rw[←hev,hb];cases b <;> rfl);have c2:=fun w=>Yi3 h.fmt w;have HW:=Lib.hid hwA;have HB:=Lib.hid hB;have hH0:Below B w wA.drew∧wA.drew.heap[B]? =some (.cells zs.toArray 114 (0,0)):=⟨hbA.drew,hhA⟩;clear hZ hwA hB hnot hok hev hhA hs;unfold Yd4;generalize Ycy h=sm at *;generalize h.fmt=fmt at *;generalize Yxy fmt=Lf at *
 obtain⟨Rf,hRf⟩:∃k,Ym6 fmt=k:=⟨_,rfl⟩;rw[hRf];simp only[hRf] at c2;clear hRf;have hev1:=HEV.out sm rfl;clear HEV;obtain⟨d2,h2⟩:∃d,decide (0≤z)=d:=⟨_,rfl⟩;obtain⟨d3,h3⟩:∃d,decide (z≤262144)=d:=⟨_,rfl⟩;rw[h2,h3];obtain⟨d4,h4⟩:∃d,((n:Int)==Rf)=d:=⟨_,rfl⟩;rw[h4];have hB4:sm=false∨(sm=true∧d2=false)∨(sm=true∧d2=true∧d3=false)∨(sm=true∧d2=true∧d3=true):=by
  clear hev1 h2 h3 h4;cases sm <;> cases d2 <;> cases d3 <;> simp
 go_enter Tryz.func68,Tryz.ntmps68
 go_wp2_with fail
 refine(c2 _).mono ?_;rintro e w1 ⟨rfl,rfl⟩
 go_wp2
 rw[HW.out,HB.out];refine wp_region_held_drew (S:=fun x=>Below B w x∧x.heap[B]? =some (.cells zs.toArray 114 (0,0))) (by kernel_rfl) hH0 (fun hH=>?_)
 refine Yaj 1 (some 12) (v:=.agg zs.toArray) rfl rfl (by kernel_rfl) (by kernel_rfl) (by kernel_rfl) (fun _ _ _ h=>h) hH (Or.inl ⟨by kernel_rfl,fun x hx=>Ya8 (ty:=114) (x:=.tmp 1) (ad:=⟨B,0,none⟩) (by kernel_rfl) (by kernel_rfl) (run_loadVar_row x (B) _ _ zs.toArray (0,0) _ (hx.2) Tryz.underlying114 rfl HSZ)⟩) ?_
 try simp only[Yaa]
 refine wpAnyH_ready (rs:=[0]) (by kernel_rfl) (by simp) ?_;refine AllReadyH.cons rfl (fun K hK=>?_) AllReadyH.nil
 go_simp
 go_wp2_with fail
 obtain⟨x0,hx0⟩:∃x0,wA.drew=x0:=⟨_,rfl⟩;rw[hx0] at hH ⊢;have hxz:B<x0.heap.size:=(Array.getElem?_eq_some_iff.1 hH.2).1;have hX:=hH;refine(Yo2 _).mono ?_;rintro e w2 ⟨rfl,rfl⟩;refine hK.out _ _ (⟨hH.1.alloc (Nat.le_of_lt hxz) _,Yaq hH.2⟩) (fun hH2=>?_);clear hK K hH;have hH:=hH2;clear hH2
 try simp only[Yaa]
 refine wpAnyH_ready (rs:=[2]) (by kernel_rfl) (by simp) ?_;refine AllReadyH.cons rfl (fun K hK=>?_) AllReadyH.nil
 go_simp
 go_wp2_with fail
 refine(HPUT.out x0 hX).mono ?_;rintro e w3 ⟨rfl,hb3,hk3⟩;refine hK.out _ _ (⟨hb3,hk3⟩) (fun hH2=>?_);clear hK K hH;have hH:=hH2;clear hH2
 try simp only[Yaa]
 rcases hB4 with rfl|⟨rfl,rfl⟩|⟨rfl,rfl,rfl⟩|⟨rfl,rfl,rfl⟩
 ·refine Yaj 3 (some 14) (v:=?_) rfl rfl (by kernel_rfl) (by kernel_rfl) (by kernel_rfl) (fun _ _ _ h=>h) hH (Or.inl ⟨by kernel_rfl,?_⟩) ?_
  rotate_left
  ·(intro x _;go_simp;try with_reducible rfl)
  rotate_right
  try simp only[Yaa]
  refine Yal 4 (some 15) hH ?_
  try simp only[Yaa]
  refine Yaj 5 (some 16) (v:=undef) rfl rfl (by kernel_rfl) (by kernel_rfl) (by kernel_rfl) (fun _ _ _ h=>h) hH (Or.inr ⟨by kernel_rfl,rfl⟩) ?_
  try simp only[Yaa]
  refine Yaj 6 (some 17) (v:=undef) rfl rfl (by kernel_rfl) (by kernel_rfl) (by kernel_rfl) (fun _ _ _ h=>h) hH (Or.inr ⟨by kernel_rfl,rfl⟩) ?_
  try simp only[Yaa]
  refine Yaj 7 (some 18) (v:=undef) rfl rfl (by kernel_rfl) (by kernel_rfl) (by kernel_rfl) (fun _ _ _ h=>h) hH (Or.inr ⟨by kernel_rfl,rfl⟩) ?_
  try simp only[Yaa]
  refine Yal 8 (some 19) hH ?_
  try simp only[Yaa]
  refine Yal 9 (some 20) hH ?_
  try simp only[Yaa]
  refine Yaj 10 (some 21) (v:=undef) rfl rfl (by kernel_rfl) (by kernel_rfl) (by kernel_rfl) (fun _ _ _ h=>h) hH (Or.inr ⟨by kernel_rfl,rfl⟩) ?_
  try simp only[Yaa]
  refine Yaj 11 (some 22) (v:=undef) rfl rfl (by kernel_rfl) (by kernel_rfl) (by kernel_rfl) (fun _ _ _ h=>h) hH (Or.inr ⟨by kernel_rfl,rfl⟩) ?_
  try simp only[Yaa]
  refine Yaj 12 (some 23) (v:=undef) rfl rfl (by kernel_rfl) (by kernel_rfl) (by kernel_rfl) (fun _ _ _ h=>h) hH (Or.inr ⟨by kernel_rfl,rfl⟩) ?_
  try simp only[Yaa]
  refine Yal 13 (some 24) hH ?_
  try simp only[Yaa]
  refine Yal 14 (some 25) hH ?_
  try simp only[Yaa]
  refine Yaj 15 (some 26) (v:=undef) rfl rfl (by kernel_rfl) (by kernel_rfl) (by kernel_rfl) (fun _ _ _ h=>h) hH (Or.inr ⟨by kernel_rfl,rfl⟩) ?_
  try simp only[Yaa]
  refine Yaj 16 (some 27) (v:=undef) rfl rfl (by kernel_rfl) (by kernel_rfl) (by kernel_rfl) (fun _ _ _ h=>h) hH (Or.inr ⟨by kernel_rfl,rfl⟩) ?_
  try simp only[Yaa]
  refine Yaj 17 (some 28) (v:=undef) rfl rfl (by kernel_rfl) (by kernel_rfl) (by kernel_rfl) (fun _ _ _ h=>h) hH (Or.inr ⟨by kernel_rfl,rfl⟩) ?_
  try simp only[Yaa]
  refine Yaj 18 (some 29) (v:=undef) rfl rfl (by kernel_rfl) (by kernel_rfl) (by kernel_rfl) (fun _ _ _ h=>h) hH (Or.inr ⟨by kernel_rfl,rfl⟩) ?_
  try simp only[Yaa]
  refine Yaj 19 (some 30) (v:=undef) rfl rfl (by kernel_rfl) (by kernel_rfl) (by kernel_rfl) (fun _ _ _ h=>h) hH (Or.inr ⟨by kernel_rfl,rfl⟩) ?_
  try simp only[Yaa]
  refine Yal 20 (some 31) hH ?_
  try simp only[Yaa]
  refine Yal 21 (some 2) hH ?_
  try simp only[Yaa]
  refine wpAnyH_done (by kernel_rfl) ?_ _
  go_wp2
  go_ret
  exact⟨Yae (by rfl),by rw[HB.out];exact hH.1⟩
 ·refine Yaj 3 (some 14) (v:=?_) rfl rfl (by kernel_rfl) (by kernel_rfl) (by kernel_rfl) (fun _ _ _ h=>h) hH (Or.inl ⟨by kernel_rfl,?_⟩) ?_
  rotate_left
  ·(intro x _;go_simp;try with_reducible rfl)
  rotate_right
  try simp only[Yaa]
  refine Yal 4 (some 15) hH ?_
  try simp only[Yaa]
  refine Yal 5 (some 16) hH ?_
  try simp only[Yaa]
  refine Yb9 6 (some 17) (v:=.int .i64 z) rfl rfl hH (by kernel_rfl) (fun x hx=>by have c0:=Yac hx.2 z7;go_simp) ?_
  try simp only[Yaa]
  refine Yal 7 (some 18) hH ?_
  try simp only[Yaa]
  refine Yal 8 (some 19) hH ?_
  try simp only[Yaa]
  refine Yal 9 (some 20) hH ?_
  try simp only[Yaa]
  refine Yaj 10 (some 21) (v:=undef) rfl rfl (by kernel_rfl) (by kernel_rfl) (by kernel_rfl) (fun _ _ _ h=>h) hH (Or.inr ⟨by kernel_rfl,rfl⟩) ?_
  try simp only[Yaa]
  refine Yaj 11 (some 22) (v:=undef) rfl rfl (by kernel_rfl) (by kernel_rfl) (by kernel_rfl) (fun _ _ _ h=>h) hH (Or.inr ⟨by kernel_rfl,rfl⟩) ?_
  try simp only[Yaa]
  refine Yaj 12 (some 23) (v:=undef) rfl rfl (by kernel_rfl) (by kernel_rfl) (by kernel_rfl) (fun _ _ _ h=>h) hH (Or.inr ⟨by kernel_rfl,rfl⟩) ?_
  try simp only[Yaa]
  refine Yal 13 (some 24) hH ?_
  try simp only[Yaa]
  refine Yal 14 (some 25) hH ?_
  try simp only[Yaa]
  refine Yaj 15 (some 26) (v:=undef) rfl rfl (by kernel_rfl) (by kernel_rfl) (by kernel_rfl) (fun _ _ _ h=>h) hH (Or.inr ⟨by kernel_rfl,rfl⟩) ?_
  try simp only[Yaa]
  refine Yaj 16 (some 27) (v:=undef) rfl rfl (by kernel_rfl) (by kernel_rfl) (by kernel_rfl) (fun _ _ _ h=>h) hH (Or.inr ⟨by kernel_rfl,rfl⟩) ?_
  try simp only[Yaa]
  refine Yaj 17 (some 28) (v:=undef) rfl rfl (by kernel_rfl) (by kernel_rfl) (by kernel_rfl) (fun _ _ _ h=>h) hH (Or.inr ⟨by kernel_rfl,rfl⟩) ?_
  try simp only[Yaa]
  refine Yaj 18 (some 29) (v:=undef) rfl rfl (by kernel_rfl) (by kernel_rfl) (by kernel_rfl) (fun _ _ _ h=>h) hH (Or.inr ⟨by kernel_rfl,rfl⟩) ?_
  try simp only[Yaa]
  refine Yaj 19 (some 30) (v:=undef) rfl rfl (by kernel_rfl) (by kernel_rfl) (by kernel_rfl) (fun _ _ _ h=>h) hH (Or.inr ⟨by kernel_rfl,rfl⟩) ?_
  try simp only[Yaa]
  refine Yal 20 (some 31) hH ?_
  try simp only[Yaa]
  refine Yal 21 (some 2) hH ?_
  try simp only[Yaa]
  refine wpAnyH_done (by kernel_rfl) ?_ _
  go_wp2
  go_ret
  exact⟨Yae (by rfl),by rw[HB.out];exact hH.1⟩
 ·refine Yaj 3 (some 14) (v:=?_) rfl rfl (by kernel_rfl) (by kernel_rfl) (by kernel_rfl) (fun _ _ _ h=>h) hH (Or.inl ⟨by kernel_rfl,?_⟩) ?_
  rotate_left
  ·(intro x _;go_simp;try with_reducible rfl)
  rotate_right
  try simp only[Yaa]
  refine Yal 4 (some 15) hH ?_
  try simp only[Yaa]
  refine Yal 5 (some 16) hH ?_
  try simp only[Yaa]
  refine Yb9 6 (some 17) (v:=.int .i64 z) rfl rfl hH (by kernel_rfl) (fun x hx=>by have c0:=Yac hx.2 z7;go_simp) ?_
  try simp only[Yaa]
  refine Yal 7 (some 18) hH ?_
  try simp only[Yaa]
  refine Yal 8 (some 19) hH ?_
  try simp only[Yaa]
  refine Yal 9 (some 20) hH ?_
  try simp only[Yaa]
  refine Yal 10 (some 21) hH ?_
  try simp only[Yaa]
  refine Yb9 11 (some 22) (v:=.int .i64 z) rfl rfl hH (by kernel_rfl) (fun x hx=>by have c0:=Yac hx.2 z7;go_simp) ?_
  try simp only[Yaa]
  refine Yal 12 (some 23) hH ?_
  try simp only[Yaa]
  refine Yal 13 (some 24) hH ?_
  try simp only[Yaa]
  refine Yal 14 (some 25) hH ?_
  try simp only[Yaa]
  refine Yaj 15 (some 26) (v:=undef) rfl rfl (by kernel_rfl) (by kernel_rfl) (by kernel_rfl) (fun _ _ _ h=>h) hH (Or.inr ⟨by kernel_rfl,rfl⟩) ?_
  try simp only[Yaa]
  refine Yaj 16 (some 27) (v:=undef) rfl rfl (by kernel_rfl) (by kernel_rfl) (by kernel_rfl) (fun _ _ _ h=>h) hH (Or.inr ⟨by kernel_rfl,rfl⟩) ?_
  try simp only[Yaa]
  refine Yaj 17 (some 28) (v:=undef) rfl rfl (by kernel_rfl) (by kernel_rfl) (by kernel_rfl) (fun _ _ _ h=>h) hH (Or.inr ⟨by kernel_rfl,rfl⟩) ?_
  try simp only[Yaa]
  refine Yaj 18 (some 29) (v:=undef) rfl rfl (by kernel_rfl) (by kernel_rfl) (by kernel_rfl) (fun _ _ _ h=>h) hH (Or.inr ⟨by kernel_rfl,rfl⟩) ?_
  try simp only[Yaa]
  refine Yaj 19 (some 30) (v:=undef) rfl rfl (by kernel_rfl) (by kernel_rfl) (by kernel_rfl) (fun _ _ _ h=>h) hH (Or.inr ⟨by kernel_rfl,rfl⟩) ?_
  try simp only[Yaa]
  refine Yal 20 (some 31) hH ?_
  try simp only[Yaa]
  refine Yal 21 (some 2) hH ?_
  try simp only[Yaa]
  refine wpAnyH_done (by kernel_rfl) ?_ _
  go_wp2
  go_ret
  exact⟨Yae (by rfl),by rw[HB.out];exact hH.1⟩
 ·refine Yaj 3 (some 14) (v:=?_) rfl rfl (by kernel_rfl) (by kernel_rfl) (by kernel_rfl) (fun _ _ _ h=>h) hH (Or.inl ⟨by kernel_rfl,?_⟩) ?_
  rotate_left
  ·(intro x _;go_simp;try with_reducible rfl)
  rotate_right
  try simp only[Yaa]
  refine Yal 4 (some 15) hH ?_
  try simp only[Yaa]
  refine Yal 5 (some 16) hH ?_
  try simp only[Yaa]
  refine Yb9 6 (some 17) (v:=.int .i64 z) rfl rfl hH (by kernel_rfl) (fun x hx=>by have c0:=Yac hx.2 z7;go_simp) ?_
  try simp only[Yaa]
  refine Yal 7 (some 18) hH ?_
  try simp only[Yaa]
  refine Yal 8 (some 19) hH ?_
  try simp only[Yaa]
  refine Yal 9 (some 20) hH ?_
  try simp only[Yaa]
  refine Yal 10 (some 21) hH ?_
  try simp only[Yaa]
  refine Yb9 11 (some 22) (v:=.int .i64 z) rfl rfl hH (by kernel_rfl) (fun x hx=>by have c0:=Yac hx.2 z7;go_simp) ?_
  try simp only[Yaa]
  refine Yal 12 (some 23) hH ?_
  try simp only[Yaa]
  refine Yal 13 (some 24) hH ?_
  try simp only[Yaa]
  refine Yal 14 (some 25) hH ?_
  try simp only[Yaa]
  refine Yal 15 (some 26) hH ?_
  try simp only[Yaa]
  refine Yb9 16 (some 27) (v:=.slice b n cb) rfl rfl hH (by kernel_rfl) (fun x hx=>by have c0:=Yac hx.2 z6;go_simp) ?_
  try simp only[Yaa]
  refine Yal 17 (some 28) hH ?_
  try simp only[Yaa]
  refine Yal 18 (some 29) hH ?_
  try simp only[Yaa]
  refine Yal 19 (some 30) hH ?_
  try simp only[Yaa]
  refine Yal 20 (some 31) hH ?_
  try simp only[Yaa]
  refine Yal 21 (some 2) hH ?_
  try simp only[Yaa]
  refine wpAnyH_done (by kernel_rfl) ?_ _
  go_wp2
  go_ret
  exact⟨Yae (by rfl),by rw[HB.out];exact hH.1⟩
theorem Yk8 {α:Type}{f g:Nat→α→Bool}:∀(s:Nat) (l:List α),(∀n,∀a∈l,f n a=g n a)→Ycj f s l=Ycj g s l
 |_,[],_=>rfl
 |s,a::l,h=>by rw[Ycj,Ycj,h s a List.mem_cons_self,Yk8 (s+1) l fun n b hb=>h n b (List.mem_cons_of_mem _ hb)]
theorem Yk7 {f:Nat→Cel→Bool}{N:Nat}:∀(s:Nat) (l:List RowP),(∀r∈l,r.cels.length=N)→Ycj f (s*N) (l.flatMap (·.cels))=Ycj (fun i (r:RowP)=>Ycj f (i*N) r.cels) s l
 |_,[],_=>rfl
 |s,r::l,h=>by
  rw[List.flatMap_cons,Yg6,h r List.mem_cons_self,Ycj,←Yk7 (s+1) l fun x hx=>h x (List.mem_cons_of_mem _ hx),Nat.add_mul,Nat.one_mul]
theorem Yy8 {inter:Bool}{c:Cel}(h:Ybb inter c=true):Ya3 c.kind = !Yl8 c:=by
 unfold Ybb at h;rw[Bool.and_eq_true] at h;have h2:=h.2;unfold Yl8;cases hs:c.skip with
 |true=>
  rw[hs,if_pos rfl,Bool.and_eq_true] at h2;have h3:=h2.2;unfold Yip at h3;simp only[Bool.and_eq_true,beq_iff_eq] at h3;rw[h3.1.1.1]
  rfl
 |false=>
  rw[hs,if_neg (by decide)] at h2;simp only[Bool.and_eq_true] at h2;have h3:=h2.1.1;unfold Yib at h3;have h4:c.kind=3∨c.kind=4∨c.kind=0∨c.kind=1:=by
   simp only[Bool.or_eq_true,Bool.and_eq_true,beq_iff_eq] at h3;omega
  rcases h4 with e|e|e|e <;> (rw[e];rfl)
theorem Yjt (S:ShP):Ych S=(Yd4 S.hd S.zeros S.rows.length&&Ycj (Ydw S.hd.inter (Ygp S.hd.fmt)) 0 S.rows):=by
 unfold Ych Yd4;rw[show decide (0≤S.zeros∧S.zeros≤262144)=(decide (0≤S.zeros)&&decide (S.zeros≤262144)) by rw[Bool.eq_iff_iff];simp,
  show decide ((S.rows.length:Int)=Ym6 S.hd.fmt)=((S.rows.length:Int)==Ym6 S.hd.fmt) by rw[Bool.eq_iff_iff];simp]
 simp only[Bool.and_assoc]
theorem Ymw {S:ShP}(h:Ych S=true):S.rows.length≤1000∧∃N:Nat,(0<S.rows.length→Ygp S.hd.fmt=(N:Int))∧(∀r∈S.rows,r.cels.length=N)∧∀c∈Yaw S,Ybb S.hd.inter c=true:=by
 rw[Yjt,Bool.and_eq_true] at h;obtain⟨h1,h2⟩:=h;have Yx1:∀r∈S.rows,(r.cels.length:Int)=Ygp S.hd.fmt∧r.cels.all (Ybb S.hd.inter)=true:=fun r hr=>by
  obtain⟨i,hi,rfl⟩:=List.mem_iff_getElem.1 hr;have h3:=Yc1.1 h2 i hi;unfold Ydw at h3;simp only[Bool.and_eq_true,decide_eq_true_iff] at h3;exact⟨h3.1,h3.2.2⟩
 refine⟨?_,(Ygp S.hd.fmt).toNat,fun h0=>?_,fun r hr=>?_,fun c hc=>?_⟩
 ·unfold Yd4 at h1;simp only[Bool.and_eq_true,beq_iff_eq] at h1;have h4:=h1.2.2.2;rcases Ybq S.hd.fmt with e|e|e|e|e|e|⟨_,e⟩
  case _|_|_|_|_|_=>
   rw[e] at h4;have h5:(S.rows.length:Int)≤1000:=by rw[h4];decide +kernel
   omega
  unfold Ym6 at h4;rw[e] at h4;have h5:(S.rows.length:Int)=0:=h4;omega
 ·have:=(Yx1 _ (List.getElem_mem h0)).1;omega
 ·have:=(Yx1 r hr).1;omega
 ·obtain⟨r,hr,hc⟩:=List.mem_flatMap.1 hc;exact List.all_eq_true.1 (Yx1 r hr).2 c hc
theorem Ymx {S:ShP}(h:Ych S=true){N:Nat}(hN:∀r∈S.rows,r.cels.length=N):Ycj (Yd0 S.hd.fmt) 0 (Yaw S)=Ycj (fun i (r:RowP)=>Ycj (Ycg S.hd.fmt) (i*N) r.cels) 0 S.rows:=by
 obtain⟨-,-,-,-,h1⟩:=Ymw h;rw[←Yk7 0 S.rows hN,Nat.zero_mul];refine Yk8 0 _ fun n c hc=>?_;unfold Yd0 Ycg;rw[Yy8 (h1 c hc)]
theorem Yfj {α:Type}[Inhabited α]{f:Nat→α→Bool}{l:List α}{n:Nat}(hn:l.length=n):((∀i,i<n→f i (l[i]!)=true)→Ycj f 0 l=true)∧∀i,i<n→f i (l[i]!)=false→Ycj f 0 l=false:=by
 subst hn;refine⟨fun h=>Yc1.2 fun j hj=>?_,fun i hi h=>?_⟩
 ·have:=h j hj;rw[getElem!_pos l j hj] at this;rwa [Nat.zero_add]
 ·rw[getElem!_pos l i hi] at h;exact Yrq hi h
theorem Ylr {f : FuncId} {fn : Func} {c : Code} (hf : Tryz.prog.funcs[f]? = some fn) (hname : (fn.name == "runtime.NumGoroutine") = false) (hb : fn.body = some c) (args : Array Value) (w : World) : (callFunc f args).run Tryz.prog w = .ok (.enter f args) w := by
 have h1 : fn.name ≠ "runtime.NumGoroutine" := by simpa using hname
 simp[callFunc,hf,h1,hb]
theorem Yqq:∀args x,(callFunc 70 args).run Tryz.prog x=.ok (.enter 70 args) x:=Ylr Tryz.func70 (by kernel_rfl) rfl
theorem Yqr:∀args x,(callFunc 71 args).run Tryz.prog x=.ok (.enter 71 args) x:=Ylr Tryz.func71 (by kernel_rfl) rfl
theorem Yn5:∃Y:Array Value,Y.size=8∧∀w,(zeroValue 114).run Tryz.prog w=.ok (.agg Y) w:=⟨#[.int .i64 0,.int .i64 0,.int .i64 0,.bool false,.int .i64 0,.slice none 0 0,.slice none 0 0,.int .i64 0],rfl,Yfi (by kernel_rfl)⟩
set_option maxRecDepth 100000 in
set_option maxHeartbeats 1000000 in
theorem Ymn (S:ShP)(p b:Option Addr)(ca cb:Nat)(w:World)(hl:S.hd.supp.length≤maxLen)(hn:S.rows.length≤4611686018427387904)(hs:Yde w p S.hd.supp)(hr:Ydh w b S.rows)(hc:∀c∈Yaw S,∀k,k<6→(c.ev k).length≤1048576)(hR:Ycz w S.hd.inter):
  Calls Tryz.prog 49 #[.agg (Yaz S.hd (.slice p S.hd.supp.length ca) (.slice b S.rows.length cb) S.zeros).toArray] w fun e w'=>e=.returned (.int .i64 (Ybe S))∧Below w.heap.size w w':=by
 have n1:∀i (h:i<S.rows.length),∀c∈S.rows[i].cels,c∈Yaw S:=fun i h c hc=>List.mem_flatMap.2 ⟨_,List.getElem_mem h,hc⟩;obtain⟨zs,hZ⟩:∃zs,Yaz S.hd (.slice p S.hd.supp.length ca) (.slice b S.rows.length cb) S.zeros=zs:=⟨_,rfl⟩;have z6:zs[6]? =some (.slice b S.rows.length cb):=by rw[←hZ];rfl
 have hone:zs.toArray.all (·.oneCell')=true:=by rw[←hZ];exact Yus ..
 have HSS:(Tryz.prog.info? 114).map (·.size)=some zs.toArray.size:=by rw[show zs.toArray.size=8 by rw[←hZ];rfl];kernel_rfl
 have HSZ:(Tryz.prog.info? 29).map (·.size)=some zs.toArray.size:=by rw[show zs.toArray.size=8 by rw[←hZ];rfl];kernel_rfl
 obtain⟨Y,HYS,hzs⟩:=Yn5;have HYZ:Y.size=zs.toArray.size:=by rw[HYS,←hZ];rfl
 have hmf:∀(fn:Fn) (first cap:Array Value) (w:World),(Instr.makeFunc fn first cap).run Tryz.prog w=.ok (.func fn first cap) w:=fun _ _ _ _=>rfl;obtain⟨B,wA,wB,hB,hwA,hwB,hsA,hsB,hhA,hhB,hbB⟩:=Ygs w (.cells zs.toArray 29 (0,0)) (.cells zs.toArray 114 (0,0));have hh0:wA.heap[B]? =some (.cells zs.toArray 29 (0,0)):=by rw[←hwA,←hB];exact heap_alloc_new w _
 have W0:∀x,Below (B+2) wB x→Below w.heap.size w x:=fun x hx=>by rw[hB];exact hbB.trans (hx.mono (by omega))
 have CL:Hid (∀x,Below (B+2) wB x→x.heap[B+1]? =some (.cells zs.toArray 114 (0,0))∧x.cell? ⟨B,6,none⟩=some (.slice b S.rows.length cb)∧Below w.heap.size w x):=Lib.hid fun x hx=>
  ⟨(hx.block (B+1) (by omega)).trans hhB,Yac ((hx.block B (by omega)).trans hhA) z6,W0 x hx⟩
 have KK:∀(x y:World),Below (B+2) wB x→Below x.heap.size x y→Below (B+2) wB y:=fun x y hx hy=>hx.trans (hy.mono (by have:=hx.size;omega));have C1:=Lib.hid (fun(x:World) (hx:Below (B+2) wB x)=>(by
  rw[←hZ];exact(Yn2 S.hd p b ca cb S.rows.length S.zeros x hl (hs.below (W0 x hx))).mono fun e y h=>⟨h.1,KK x y hx h.2⟩:Calls Tryz.prog 68 #[.agg zs.toArray] x fun e y=>e=.returned (.bool (Yd4 S.hd S.zeros S.rows.length))∧Below (B+2) wB y))
 have C2:=Lib.hid (fun(x:World) (hx:Below (B+2) wB x)=>((Yi1 70 zs.toArray S.rows.length (fun i=>Ydw S.hd.inter (Ygp S.hd.fmt) i (S.rows[i]!)) (Ycj (Ydw S.hd.inter (Ygp S.hd.fmt)) 0 S.rows) x hn Yqq
  (fun i hi _ y hy=>by
   have hy0:=(W0 x hx).trans (hy.mono (W0 x hx).size);rw[getElem!_pos S.rows i hi,←hZ];exact Yui S p b ca cb i y hi (by unfold maxLen;omega) (hr.below hy0) (fun c h k hk=>hc c (n1 i hi c h) k hk) (hR.below hy0))
  (Yfj rfl).1 (Yfj rfl).2).mono fun e y h=>⟨h.1,KK x y hx h.2⟩:Calls Tryz.prog 69 #[.int .i64 (S.rows.length:Int),.func (.func 70) #[.agg zs.toArray] #[]] x fun e y=>e=.returned (.bool (Ycj (Ydw S.hd.inter (Ygp S.hd.fmt)) 0 S.rows))∧Below (B+2) wB y))
 have C3:=Lib.hid (fun(hT:Ych S=true) (x:World) (hx:Below (B+2) wB x)=>(by
  obtain⟨hm,N,hN,hNl,-⟩:=Ymw hT;rw[Ymx hT hNl];exact(Yi1 71 zs.toArray S.rows.length (fun i=>Ycj (Ycg S.hd.fmt) (i*N) (S.rows[i]!).cels) (Ycj (fun i (r:RowP)=>Ycj (Ycg S.hd.fmt) (i*N) r.cels) 0 S.rows) x hn Yqr
   (fun i hi _ y hy=>by
    have hy0:=(W0 x hx).trans (hy.mono (W0 x hx).size);rw[getElem!_pos S.rows i hi,←hZ];exact Yuk S p b ca cb i N y hi hm (hN (by omega)) (hNl _ (List.getElem_mem hi)) (hr.below hy0))
   (Yfj (f:=fun i (r:RowP)=>Ycj (Ycg S.hd.fmt) (i*N) r.cels) (l:=S.rows) rfl).1 (Yfj (f:=fun i (r:RowP)=>Ycj (Ycg S.hd.fmt) (i*N) r.cels) (l:=S.rows) rfl).2).mono fun e y h=>⟨h.1,KK x y hx h.2⟩:Calls Tryz.prog 69 #[.int .i64 (S.rows.length:Int),.func (.func 71) #[.agg zs.toArray] #[]] x fun e y=>e=.returned (.bool (Ycj (Yd0 S.hd.fmt) 0 (Yaw S)))∧Below (B+2) wB y))
 have TP:=Lib.hid (Yjt S);have T4:=Lib.hid (fun(h:Ych S=false)=>Yqy h);have T6:=Lib.hid (fun h (h1:Ycj (Yd0 S.hd.fmt) 0 (Yaw S)=false)=>Ymm h h1);have T7:=Lib.hid (fun h (h1:Ycj (Yd0 S.hd.fmt) 0 (Yaw S)=true)=>Yo8 h h1);have hS0:Below (B+2) wB wB:=Below.refl _ _;have HWA:=Lib.hid hwA;have HWB:=Lib.hid hwB;have HB:=Lib.hid hB;have HSA:=Lib.hid hsA;rw[hZ];obtain⟨E,hE⟩:∃E,Ybe S=E:=⟨_,rfl⟩
 rw[hE] at T4 T6 T7 ⊢;clear hE;clear hwA hwB hB hsA hsB hhA hhB hbB W0 KK z6 hZ n1 hs hr hc hR hl;generalize S.rows.length=n at *;generalize Ycj (Yd0 S.hd.fmt) 0 (Yaw S)=vm at *;generalize Ycj (Ydw S.hd.inter (Ygp S.hd.fmt)) 0 S.rows=rm at *;generalize Yd4 S.hd S.zeros n=pm at *;generalize Ych S=tr at *
 go_enter Tryz.func49,Tryz.ntmps49
 have h1B:=(CL.out _ hS0).1
 go_wp2_with (first|(rw[HWA.out,HB.out];with_reducible refine wpList_load_row rfl 29 _ rfl B rfl 29 zs.toArray (0,0) _ hh0 Tryz.underlying29 rfl HSZ ?_)|(with_reducible refine Yaf rfl 114 _ _ rfl zs.toArray Y 114 rfl rfl HSS HYZ hone ?_;rw[HWB.out,HSA.out])|(with_reducible refine wpList_load_row rfl 114 _ rfl (B+1) rfl 114 zs.toArray (0,0) _ h1B Tryz.underlying114 rfl HSS ?_))
 refine(C1.out _ hS0).mono ?_;rintro e w1 ⟨rfl,hx1⟩;obtain⟨h11,k61,HE1⟩:=CL.out w1 hx1;clear h1B hh0;cases pm with
 |false=>
  have E1:=Lib.hid (T4.out (by rw[TP.out];rfl))
  go_wp2
  go_ret
  exact⟨by rw[E1.out];rfl,by first|exact HE1|(rw[←HB.out];exact HE1)⟩
 |true=>
  have TP2:=Lib.hid (show tr=rm from TP.out)
  go_wp2_with (with_reducible refine Yah (by kernel_rfl) 114 _ rfl (B+1) rfl 114 zs.toArray (0,0) _ h11 Tryz.underlying114 rfl HSS ?_)
  refine(C2.out _ hx1).mono ?_;rintro e w2 ⟨rfl,hx2⟩;obtain⟨h12,k62,HE2⟩:=CL.out w2 hx2;clear h11 k61 HE1;cases rm with
  |false=>
   have E1:=Lib.hid (T4.out TP2.out)
   go_wp2
   go_ret
   exact⟨by rw[E1.out];rfl,by first|exact HE2|(rw[←HB.out];exact HE2)⟩
  |true=>
   have c3:=C3.out TP2.out w2 hx2
   go_wp2_with (with_reducible refine wpList_load_row rfl 114 _ rfl (B+1) rfl 114 zs.toArray (0,0) _ h12 Tryz.underlying114 rfl HSS ?_)
   refine c3.mono ?_;rintro e w3 ⟨rfl,hx3⟩;have HE3:=(CL.out w3 hx3).2.2;cases vm with
   |false=>
    have E1:=Lib.hid (T6.out TP2.out rfl)
    go_wp2
    go_ret
    exact⟨by rw[E1.out];rfl,by first|exact HE3|(rw[←HB.out];exact HE3)⟩
   |true=>
    have E1:=Lib.hid (T7.out TP2.out rfl)
    go_wp2
    go_ret
    exact⟨by rw[E1.out];rfl,by first|exact HE3|(rw[←HB.out];exact HE3)⟩
end Go.Proofs.YtnamlooifcpoaaaGreatDoor