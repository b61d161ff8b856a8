/- No condition. -/
import Derived.Test.YtnamlooifcpoaaaGreatDoorScreensStillMa
import Derived.Test.YtnamlooifcpoaaaGreatDoorScreensStillMc
import Derived.Test.YtnamlooifcpoaaaGreatDoorScreensStillMd
import Derived.Test.YtnamlooifcpoaaaGreatDoorScreensStillMf
import Derived.Test.YtnamlooifcpoaaaGreatDoorScreensStillMg
import Derived.Test.YtnamlooifcpoaaaGreatDoorScreensStillMh
import Derived.Test.YtnamlooifcpoaaaGreatDoorScreensStillMj
import Derived.Test.YtnamlooifcpoaaaGreatDoorScreensStillMk
import Derived.Test.YtnamlooifcpoaaaGreatDoorScreensStillMn
import Derived.Test.YtnamlooifcpoaaaGreatDoorScreensStillMp
import Derived.Test.YtnamlooifcpoaaaGreatDoorScreensStillMq
import Derived.Test.YtnamlooifcpoaaaGreatDoorScreensStillMr
import Derived.Test.YtnamlooifcpoaaaGreatDoorScreensStillMt
import Derived.Test.YtnamlooifcpoaaaGreatDoorScreensStillMu
import Derived.Test.YtnamlooifcpoaaaGreatDoorScreensStillMv
import Derived.Test.YtnamlooifcpoaaaGreatDoorScreensStillMbf
import Derived.Test.YtnamlooifcpoaaaGreatDoorScreensStillMbg
import Derived.Test.YtnamlooifcpoaaaGreatDoorScreensStillMbh
import Derived.Test.YtnamlooifcpoaaaGreatDoorScreensStillMbi
import Derived.RegionTactic
import Derived.Deep.RegionWith
import Derived.WalkMore
import Derived.WalkKit
import Derived.StillTailTactics
import Derived.Deep.CutRange
import Derived.Deep.DeepCutAuto
import Derived.Laws.OwnMore
import Derived.Deep.AppendLies
import Derived.IntWalk
import Derived.BigQuiet
import Derived.Deep.QuietTactic
import Derived.Maps.AppendAt
namespace Go.Proofs.YtnamlooifcpoaaaGreatDoor
open Go.RowKit Go.Lib
def Yd9 (S:ShP)(i:Nat):List Cel:=(S.rows.take i).flatMap (·.cels)
theorem Ysa (S:ShP){n:Nat}(h:S.rows.length=n):Yd9 S n=Yaw S:=by subst h;rw[Yd9,List.take_length];rfl
theorem Yep (S:ShP){i:Nat}(h:i<S.rows.length):Yd9 S (i+1)=Yd9 S i++S.rows[i].cels:=by
 unfold Yd9;rw[List.take_succ_eq_append_getElem h,List.flatMap_append];simp
theorem Yiz (S:ShP)(i:Nat):(Yd9 S i).length≤(Yaw S).length:=by
 have h:Yaw S=Yd9 S i++(S.rows.drop i).flatMap (·.cels):=by
  unfold Yd9 Yaw;rw[←List.flatMap_append,List.take_append_drop]
 rw[h,List.length_append];omega
theorem Yv5:(Tryz.prog.info? 48).map (fun i=>(i.zero.map (·.cells.size),i.size,i.bytes))=some (some 18,18,240):=by kernel_rfl
theorem Yvv:∃i z,Tryz.prog.info? 48=some i∧i.zero=some z∧z.cells.size=18∧i.size=18∧i.bytes=240:=by
 have h:=Yv5;generalize Tryz.prog.info? 48=x at h
 match x,h with
 |some i,h=>
  rw[Option.map_some] at h;injection h with h;injection h with h1 h2;injection h2 with h2 h3;cases hz:i.zero with
  |none=>rw[hz] at h1;cases h1
  |some z=>
   rw[hz] at h1;injection h1 with h1;exact⟨i,z,rfl,hz,h1,h2,h3⟩
theorem Ydf.each {α:Type}{c:Nat}{V:World→α→List Value→Prop}{w:World}{q:Option Addr}{l:List α}(h:Ydf c V w q l)(h0:0<l.length):
  ∃b o,q=some ⟨b,o,none⟩∧b<w.heap.size∧∀i,(h:i<l.length)→∃vs,V w l[i] vs∧∀x,Below w.heap.size w x→∀(j:Nat) v,vs[j]? =some v→x.cell? ⟨b,o+i*c+j,none⟩=some v:=by
 rcases h with rfl|⟨b,o,rfl,hl,h⟩
 ·cases h0
 ·refine⟨b,o,rfl,hl,fun i hi=>?_⟩;obtain⟨vs,h1,h2⟩:=h i hi;exact⟨vs,h1,fun x hx j v hj=>(World.cell?_of_block (a:=⟨b,o+i*c+j,none⟩) (hx.block b hl)).trans (h2 j v hj)⟩
theorem Yvd {α:Type}{f:α→Bool}{l:List α}{j:Nat}(hj:j<l.length)(h:(l.take j).all f=true)(h2:f l[j]=true):(l.take (j+1)).all f=true:=by
 rw[List.take_succ_eq_append_getElem hj,List.all_append,h,List.all_cons,h2]
 rfl
theorem Yve {α:Type}{f:α→Bool}{l:List α}{j:Nat}(hj:j<l.length)(h2:f l[j]=false):l.all f=false:=by
 rw[List.all_eq_false];exact⟨l[j],List.getElem_mem hj,by rw[h2];decide⟩
theorem Ykq {w:World}{q:Option Addr}{l:List RowP}(h:Ydh w q l)(h0:0<l.length):
  ∃b o,q=some ⟨b,o,none⟩∧b<w.heap.size∧∀i,(hi:i<l.length)→∃(r:Option Addr) (cap:Nat),(r=none→cap=0)∧l[i].cels.length≤maxLen∧Ygg w r l[i].cels∧
   ∀x,Below w.heap.size w x→x.cell? ⟨b,o+i*4,none⟩=some (.bool l[i].head)∧x.cell? ⟨b,o+i*4+1,none⟩=some (.int .i64 l[i].id)∧x.cell? ⟨b,o+i*4+2,none⟩=some (.int .i64 l[i].quant)∧x.cell? ⟨b,o+i*4+3,none⟩=some (.slice r l[i].cels.length cap):=by
 rcases h with rfl|⟨b,o,rfl,hl,h⟩
 ·cases h0
 ·refine⟨b,o,rfl,hl,fun i hi=>?_⟩;obtain⟨vs,⟨r,cap,rfl,hq,hn,hc⟩,h2⟩:=h i hi;have at_:∀x,Below w.heap.size w x→∀(j:Nat) v,[Value.bool l[i].head,.int .i64 l[i].id,.int .i64 l[i].quant,.slice r l[i].cels.length cap][j]? =some v→x.cell? ⟨b,o+i*4+j,none⟩=some v:=
   fun x hx j v hj=>(World.cell?_of_block (a:=⟨b,o+i*4+j,none⟩) (hx.block b hl)).trans (h2 j v hj)
  exact⟨r,cap,hq,hn,hc,fun x hx=>⟨at_ x hx 0 _ rfl,at_ x hx 1 _ rfl,at_ x hx 2 _ rfl,at_ x hx 3 _ rfl⟩⟩
theorem Yhw (k:Int):-10000≤Ygp k∧Ygp k≤10000:=by
 unfold Ygp;rcases Ybq k with rfl|rfl|rfl|rfl|rfl|rfl|⟨h,hv⟩
 case _|_|_|_|_|_=>decide +kernel
 unfold Yxy;rw[hv];simp
def Yl8 (c:Cel):Bool:=c.skip || (c.kind==0 || c.kind==1)
theorem Yp2 (c:Cel)(sl:Nat→Value)(w:World):Calls Tryz.prog 96 #[.agg (Ybp c sl).toArray] w fun e w'=>e=.returned (.bool (Yl8 c))∧Below w.heap.size w w':=by
 obtain⟨A,hA,f0,f1,f2,f3,f4,f5,-,-⟩:=Yc2 c sl;rw[hA];clear hA;have IK:Hid (Yl8 c=(c.skip || (c.kind==0 || c.kind==1))):=Lib.hid rfl;generalize Yl8 c=ik at IK ⊢;generalize c.skip=s at f1 IK;generalize c.kind=k at f2 IK;cases s
 case true=>
  go_enter Tryz.func96,Tryz.ntmps96
  go_wp2
  go_ret
  exact⟨Yae (by rw[IK.out];rfl),(Below.refl _ w).alloc (Nat.le_refl _) _⟩
 rcases Bool.eq_false_or_eq_true (k==0) with t0|t0
 ·go_enter Tryz.func96,Tryz.ntmps96
  go_wp2
  go_ret
  exact⟨Yae (by rw[IK.out,t0];rfl),(Below.refl _ w).alloc (Nat.le_refl _) _⟩
 ·rcases Bool.eq_false_or_eq_true (k==1) with t1|t1
  ·go_enter Tryz.func96,Tryz.ntmps96
   go_wp2
   go_ret
   exact⟨Yae (by rw[IK.out,t0,t1];rfl),(Below.refl _ w).alloc (Nat.le_refl _) _⟩
  ·go_enter Tryz.func96,Tryz.ntmps96
   go_wp2
   go_ret
   exact⟨Yae (by rw[IK.out,t0,t1];rfl),(Below.refl _ w).alloc (Nat.le_refl _) _⟩
def Ykc (n:Int)(H:Bool)(I Q:Int):Bool:=if H then decide (n≠0∧0≤I∧I≤3∧1≤Q∧Q≤31) else decide (I=0∧Q=0)
set_option maxRecDepth 100000 in
theorem Yql (n:Int)(hn:0≤n)(H:Bool)(I Q:Int)(sl:Value)(w:World):Calls Tryz.prog 93 #[.int .i64 n,.agg #[.bool H,.int .i64 I,.int .i64 Q,sl]] w fun e w'=>e=.returned (.bool (Ykc n H I Q))∧Below w.heap.size w w':=by
 cases H
 case false=>
  obtain⟨G,hG⟩:∃G,Ykc n false I Q=G:=⟨_,rfl⟩;obtain⟨d1,h1⟩:∃d,(I==0)=d:=⟨_,rfl⟩;obtain⟨d2,h2⟩:∃d,(Q==0)=d:=⟨_,rfl⟩;have hd:G=(d1&&d2):=by
   rw[←hG,←h1,←h2,Bool.eq_iff_iff];simp[Ykc]
  rw[hG];clear hG;have HD:=Lib.hid hd;clear hd;cases d1 <;> cases d2 <;>
  (go_enter Tryz.func93,Tryz.ntmps93
   go_wp2
   go_ret
   exact⟨Yae HD.out.symm,(Below.refl _ w).alloc (Nat.le_refl _) _⟩)
 case true=>
  obtain⟨G,hG⟩:∃G,Ykc n true I Q=G:=⟨_,rfl⟩;obtain⟨d1,h1⟩:∃d,decide (0<n)=d:=⟨_,rfl⟩;obtain⟨d2,h2⟩:∃d,decide (0≤I)=d:=⟨_,rfl⟩;obtain⟨d3,h3⟩:∃d,decide (I≤3)=d:=⟨_,rfl⟩;obtain⟨d4,h4⟩:∃d,decide (1≤Q)=d:=⟨_,rfl⟩;obtain⟨d5,h5⟩:∃d,decide (Q≤31)=d:=⟨_,rfl⟩;have hd:G=(d1&&(d2&&(d3&&(d4&&d5)))):=by
   rw[←hG,←h1,←h2,←h3,←h4,←h5,Bool.eq_iff_iff];simp[Ykc] <;> omega
  rw[hG];clear hG hn;have HD:=Lib.hid hd;have hB:d1=false∨(d1=true∧d2=false)∨(d1=true∧d2=true∧d3=false)∨(d1=true∧d2=true∧d3=true∧d4=false)∨(d1=true∧d2=true∧d3=true∧d4=true∧d5=false)∨(d1=true∧d2=true∧d3=true∧d4=true∧d5=true):=by
   clear hd h1 h2 h3 h4 h5 HD;cases d1 <;> cases d2 <;> cases d3 <;> cases d4 <;> cases d5 <;> simp
  clear hd;rcases hB with rfl|⟨rfl,rfl⟩|⟨rfl,rfl,rfl⟩|⟨rfl,rfl,rfl,rfl⟩|⟨rfl,rfl,rfl,rfl,rfl⟩|⟨rfl,rfl,rfl,rfl,rfl⟩
  all_goals
   go_enter Tryz.func93,Tryz.ntmps93
   go_wp2
   go_ret
   exact⟨Yae HD.out.symm,(Below.refl _ w).alloc (Nat.le_refl _) _⟩
theorem Ylp (h:Shd)(a b:Value)(z:Int)(w:World):Calls Tryz.prog 94 #[.agg (Yaz h a b z).toArray] w fun e w'=>e=.returned (.int .i64 (Ygp h.fmt))∧Below w.heap.size w w':=by
 obtain⟨A,hA⟩:∃A,(Yaz h a b z).toArray=A:=⟨_,rfl⟩;have f2:A[2]? =some (.int .i64 h.fmt):=by rw[←hA];rfl
 rw[hA];clear hA;generalize h.fmt=k at f2 ⊢;have c1:=fun w=>Ycn k w;have c2:=fun w=>Yi3 k w;have wN:IntKind.i64.wrap (Yot k*Yxy k)=Ygp k:=Ygx (by have:=Yhw k;unfold Ygp at this;omega);generalize Ygp k=N at *;generalize Yot k=x at *;generalize Yrk k=x1 at *;generalize Ym6 k=x2 at *;generalize Yxy k=x3 at *
 go_enter Tryz.func94,Tryz.ntmps94
 go_wp2_with fail
 refine(c1 _).mono ?_;rintro e w1 ⟨rfl,rfl⟩
 go_wp2_with fail
 refine(c2 _).mono ?_;rintro e w1 ⟨rfl,rfl⟩
 go_wp2
 go_ret
 exact⟨rfl,(Below.refl _ w).alloc (Nat.le_refl _) _⟩
theorem Yi1 (fn:FuncId)(X:Array Value)(n:Nat)(f:Nat→Bool)(b:Bool)(w:World)(hn:n≤4611686018427387904)(hen:∀args x,(callFunc fn args).run Tryz.prog x=.ok (.enter fn args) x)
  (hc:∀i,i<n→(∀j,j<i→f j=true)→∀x,Below w.heap.size w x→Calls Tryz.prog fn #[.agg X,.int .i64 (i:Int)] x fun e y=>e=.returned (.bool (f i))∧Below x.heap.size x y)
  (hy:(∀i,i<n→f i=true)→b=true)(hf:∀i,i<n→f i=false→b=false):
  Calls Tryz.prog 69 #[.int .i64 (n:Int),.func (.func fn) #[.agg X] #[]] w fun e w'=>e=.returned (.bool b)∧Below w.heap.size w w':=by
 have HC:=Lib.hid hc;have HY:=Lib.hid hy;have HF:=Lib.hid hf;clear hc hy hf
 go_enter Tryz.func69,Tryz.ntmps69
 go_wp2
 go_loopw [7] (fun z wr=>∃i:Nat,i≤n∧z=.int .i64 (i:Int)∧Hid (∀j,j<i→f j=true)∧Below w.heap.size w wr) (fun z _=>n-(intOf z).toNat)
 case atStart=>exact⟨0,Nat.zero_le _,rfl,Lib.hid fun j h=>absurd h (Nat.not_lt_zero j),Below.refl _ _⟩
 case round=>
  obtain⟨i,hi,rfl,ha,hb⟩:=hrel;by_cases hlt:i<n
  ·have t0:decide ((i:Int)<(n:Int))=true:=by simp;omega
   have c1:=HC.out i hlt ha.out wr hb;have NX:=Lib.hid (fun(e:f i=true)=>(fun j hj=>(by
    by_cases h:j<i
    ·exact ha.out j h
    ·obtain rfl:j=i:=by omega
     exact e):∀j,j<i+1→f j=true))
   have NF:=Lib.hid (HF.out i hlt);clear ha;generalize f i=y at c1 NX NF
   go_wp2_with fail
   refine c1.mono ?_;rintro e w1 ⟨rfl,hb1⟩;have hb2:Below w.heap.size w w1:=hb.trans (hb1.mono hb.size);cases y with
   |true=>
    have N:=Lib.hid (NX.out rfl);clear NX NF
    go_wp2
    go_roundw
    case rel=>exact⟨i+1,by omega,by go_num,N,hb2⟩
    case measure=>simp[intOf];omega
   |false=>
    have N:=Lib.hid (NF.out rfl);clear NX NF
    go_wp2
    go_ret
    exact⟨Yae N.out.symm,hb2⟩
  ·obtain rfl:n=i:=by omega
   have t0:decide ((n:Int)<(n:Int))=false:=by simp
   have N:=Lib.hid (HY.out ha.out)
   go_wp2
   go_ret
   exact⟨Yae N.out.symm,hb⟩
theorem Yrr {α:Type}{f:Nat→α→Bool}{s:Nat}{l:List α}{j:Nat}(hj:j<l.length)(h:Ycj f s (l.take j)=true)(h1:f (s+j) l[j]=true):Ycj f s (l.take (j+1))=true:=by
 rw[List.take_succ_eq_append_getElem hj,Yk9,h,List.length_take,show s+min j l.length=s+j by omega,h1];rfl
theorem Yph {α:Type}{f:Nat→α→Bool}{s:Nat}{l:List α}{j:Nat}(hj:j<l.length)(h1:f (s+j) l[j]=false):Ycj f s l=false:=by
 cases h:Ycj f s l with
 |false=>rfl
 |true=>
  have:=Yc1.1 h j hj;rw[h1] at this;cases this
def Ycg (k:Int)(n:Nat)(c:Cel):Bool:=!Yl8 c || Yi6 k (n:Int) c.mx c.my
set_option maxRecDepth 100000 in
set_option maxHeartbeats 400000 in
theorem Yuk (S:ShP)(p b:Option Addr)(ca cb i N:Nat)(w:World)(hi:i<S.rows.length)(hn:S.rows.length≤1000)(hN:Ygp S.hd.fmt=(N:Int))(hl:S.rows[i].cels.length=N)(hr:Ydh w b S.rows):
  Calls Tryz.prog 71 #[.agg (Yaz S.hd (.slice p S.hd.supp.length ca) (.slice b S.rows.length cb) S.zeros).toArray,.int .i64 (i:Int)] w fun e w'=>e=.returned (.bool (Ycj (Ycg S.hd.fmt) (i*N) S.rows[i].cels))∧Below w.heap.size w w':=by
 have hNm:N≤10000:=by have:=Yhw S.hd.fmt;omega
 obtain⟨b1,o1,rfl,hb1,hc1⟩:=Ykq hr (by omega);obtain⟨r,cap,hq,hml,hcel,hat⟩:=hc1 i hi;clear hc1 hr;have cE:=fun x=>Ylp S.hd (.slice p S.hd.supp.length ca) (.slice (some ⟨b1,o1,none⟩) S.rows.length cb) S.zeros x;rw[hN] at cE;have cM:=fun n x y w=>Ykf S.hd.fmt n x y w;generalize S.rows[i]=R at hml hcel hat hl ⊢;generalize S.rows.length=n at hi hn cE ⊢;obtain⟨H,I,Q,m⟩:=R;dsimp only at *
 obtain⟨zs,hZ⟩:∃zs,Yaz S.hd (.slice p S.hd.supp.length ca) (.slice (some ⟨b1,o1,none⟩) n cb) S.zeros=zs:=⟨_,rfl⟩;have z6:zs[6]? =some (.slice (some ⟨b1,o1,none⟩) n cb):=by rw[←hZ];rfl
 have z2:zs[2]? =some (.int .i64 S.hd.fmt):=by rw[←hZ];rfl
 have HSZ:(Tryz.prog.info? 114).map (·.size)=some zs.toArray.size:=by rw[show zs.toArray.size=8 by rw[←hZ];rfl];kernel_rfl
 rw[hZ] at cE ⊢;clear hZ hN;generalize S.hd.fmt=fmt at *;obtain⟨B,hB⟩:∃B,w.heap.size=B:=⟨_,rfl⟩;obtain⟨wA,hwA⟩:∃wA,w.alloc (.cells zs.toArray 114 (0,0))=wA:=⟨_,rfl⟩;have hhA:wA.heap[B]? =some (.cells zs.toArray 114 (0,0)):=by rw[←hwA,←hB];exact heap_alloc_new w _
 have hbA:Below w.heap.size w wA:=by rw[←hwA];exact(Below.refl _ w).alloc (Nat.le_refl _) _
 have hsA:wA.heap.size=B+1:=by rw[←hwA,←hB];simp
 have CL:Hid (∀x,Below (B+1) wA x→x.cell? ⟨B,2,none⟩=some (.int .i64 fmt)∧x.cell? ⟨B,6,none⟩=some (.slice (some ⟨b1,o1,none⟩) n cb)∧x.cell? ⟨b1,o1+i*4+3,none⟩=some (.slice r m.length cap)∧Below w.heap.size w x):=Lib.hid fun x hx=>by
  have h1:=(hx.block B (by omega)).trans hhA;have hwx:=hbA.trans (hx.mono (by omega));exact⟨Yac h1 z2,Yac h1 z6,(hat x hwx).2.2.2,hwx⟩
 obtain⟨F,hF⟩:∃F,i*N=F:=⟨_,rfl⟩;have hFm:F≤10000000:=by rw[←hF];exact Nat.mul_le_mul (show i≤1000 by omega) hNm
 have hm:IntKind.i64.wrap ((i:Int)*(N:Int))=(F:Int):=by rw[←hF,←Int.natCast_mul];exact Ygx (by rw[hF];omega)
 rw[hF];have HWA:=Lib.hid hwA;have HB:=Lib.hid hB;have HS:=Lib.hid hsA;have HCEL:=Lib.hid hcel;have HBA:=Lib.hid hbA;have HL:=Lib.hid hl;obtain⟨Y,HYS,hzv⟩:=Yef;clear hwA hat hbA hF hsA z2 z6 hcel hl
 go_enter Tryz.func71,Tryz.ntmps71
 go_wp2_with (rw[HWA.out];with_reducible refine wpList_load_row rfl 114 _ rfl B rfl 114 zs.toArray (0,0) _ hhA Tryz.underlying114 rfl HSZ ?_)
 refine(cE _).mono ?_;rintro e w1 ⟨rfl,hb1⟩;have h1:Below (B+1) wA w1:=hb1.mono (by have:=HS.out;omega);obtain⟨k2,k6,k3,hw1⟩:=CL.out w1 h1;have t1:decide ((i:Int)<(n:Int))=true:=by simp;omega
 clear hb1 hhA
 go_wp2
 clear k2 k6 k3 t1 hm
 go_loopw [19] (fun z wr=>∃j:Nat,z=.int .i64 (j:Int)∧j≤m.length∧Hid (Ycj (Ycg fmt) F (m.take j)=true)∧Below (B+1) wA wr) (fun z _=>m.length-(intOf z).toNat)
 case atStart=>exact⟨0,rfl,Nat.zero_le _,Lib.hid rfl,h1⟩
 case round=>
  clear h1 hw1;obtain⟨j,rfl,hj,ha,hb⟩:=hrel;obtain⟨-,-,-,hbw⟩:=CL.out wr hb;have hm4:m.length≤10000:=by have:=HL.out;omega
  by_cases hlt:j<m.length
  ·have t1:decide ((j:Int)<(m.length:Int))=true:=by simp;omega
   obtain⟨b2,o2,rfl,hb2,hcv⟩:=Ydf.each HCEL.out (by omega);obtain⟨vs,hV,hvc⟩:=hcv j hlt;have hl18:=hV.shape.1;have hone:=Yei hV;obtain⟨p3,cap3,hvs,-,-⟩:=hV;have hrg:wr.rangeAt b2 (o2+j*18) vs:=fun k v hk=>hvc wr hbw k v hk;have NX:=Lib.hid (fun h=>Yrr (f:=Ycg fmt) hlt ha.out h);have NF:=Lib.hid (fun h=>Yph (s:=F) (f:=Ycg fmt) hlt h)
   have cP:=fun x=>Yp2 m[j] (fun i=>.slice (p3 i) (m[j].ev i).length (cap3 i)) x;rw[←hvs] at cP;have cM2:=fun x=>cM ((F:Int)+(j:Int)) m[j].mx m[j].my x;have hs:IntKind.i64.wrap ((F:Int)+(j:Int))=(F:Int)+(j:Int):=Ygx (by have:=HL.out;omega);have PM:=Lib.hid (show Ycg fmt (F+j) m[j]=(!Yl8 m[j] || Yi6 fmt ((F:Int)+(j:Int)) m[j].mx m[j].my) by unfold Ycg;rw[Int.natCast_add])
   obtain⟨wC,hwC⟩:∃wC,wr.alloc (.cells vs.toArray 48 (0,0))=wC:=⟨_,rfl⟩;obtain⟨C,hC⟩:∃C,wr.heap.size=C:=⟨_,rfl⟩;have hhC:wC.heap[C]? =some (.cells vs.toArray 48 (0,0)):=by rw[←hwC,←hC];exact heap_alloc_new wr _
   have hbC:Below (B+1) wA wC:=by rw[←hwC];exact hb.alloc (by have:=hb.size;have:=HS.out;omega) _
   have hsC:wC.heap.size=C+1:=by rw[←hwC,←hC];simp
   have hBC:B+1≤C:=by rw[←hC];have:=hb.size;have:=HS.out;omega
   have HSV:(Tryz.prog.info? 48).map (·.size)=some vs.toArray.size:=by rw[show vs.toArray.size=18 from hl18];kernel_rfl
   have HYV:Y.size=vs.toArray.size:=by rw[HYS];exact hl18.symm
   have v4:vs[4]? =some (.int .i64 m[j].mx):=by rw[hvs];rfl
   have v5:vs[5]? =some (.int .i64 m[j].my):=by rw[hvs];rfl
   have HWC:=Lib.hid hwC;have HHC:=Lib.hid hhC;have HSC:=Lib.hid hsC;clear hvs hvc hcv ha hwC hsC;generalize m[j].mx=mx at *;generalize m[j].my=my at *;generalize Ycg fmt (F+j) m[j]=y at *;generalize Yl8 m[j]=pk at *;have HC:=Lib.hid hC;clear hC
   go_wp2_with (first|(with_reducible refine Yci rfl _ rfl b2 (o2+j*18) rfl vs hrg hl18 ?_)|(with_reducible refine Yaf rfl 48 _ _ rfl vs.toArray Y 48 rfl rfl HSV HYV hone ?_;rw[HWC.out])|(rw[HC.out];with_reducible refine wpList_load_row rfl 48 _ rfl C rfl 48 vs.toArray (0,0) _ hhC Tryz.underlying48 rfl HSV ?_))
   refine(cP _).mono ?_;rintro e w2 ⟨rfl,hb2'⟩;have hx2:Below (B+1) wA w2:=hbC.trans (hb2'.mono (by have:=HSC.out;omega));have hh2:w2.heap[C]? =some (.cells vs.toArray 48 (0,0)):=(hb2'.block C (by have:=HSC.out;omega)).trans hhC;clear hb2' hhC hrg hbC;obtain⟨k2,-,-,hw2⟩:=CL.out w2 hx2;cases pk with
   |false=>
    have N1:=Lib.hid (NX.out (by rw[PM.out];rfl));clear NX NF PM
    go_wp2
    go_roundw
    case rel=>exact⟨j+1,by go_num,by omega,N1,hx2⟩
    case measure=>simp[intOf];omega
   |true=>
    have hrt:w2.rangeAt C 4 [.int .i64 mx,.int .i64 my]:=fun k v hk=>by
     match k,hk with
     |0,hk=>injection hk with hk;subst hk;exact Yac hh2 v4
     |1,hk=>injection hk with hk;subst hk;exact Yac hh2 v5
    have PM2:=Lib.hid (show y=Yi6 fmt ((F:Int)+(j:Int)) mx my from PM.out);clear PM
    go_wp2_with (with_reducible refine Yh6 (by kernel_rfl) _ rfl C 4 rfl mx my hrt ?_)
    refine(cM2 _).mono ?_;rintro e w3 ⟨rfl,hb3⟩;have hx3:Below (B+1) wA w3:=hx2.trans (hb3.mono (by have:=hx2.size;have:=HS.out;omega));have hw3:=(CL.out w3 hx3).2.2.2;generalize Yi6 fmt ((F:Int)+(j:Int)) mx my=mv at *;cases mv with
    |true=>
     have N1:=Lib.hid (NX.out PM2.out);clear NX NF PM2
     go_wp2
     go_roundw
     case rel=>exact⟨j+1,by go_num,by omega,N1,hx3⟩
     case measure=>simp[intOf];omega
    |false=>
     have N1:=Lib.hid (NF.out PM2.out);clear NX NF PM2
     go_wp2
     go_ret
     exact⟨Yae N1.out.symm,by first|exact hw3|(rw[←HB.out];exact hw3)⟩
  ·obtain rfl:m.length=j:=by omega
   have t1:decide ((m.length:Int)<(m.length:Int))=false:=by simp
   have AA:=Lib.hid (show Ycj (Ycg fmt) F m=true by have:=ha.out;rwa [List.take_length] at this)
   go_wp2
   go_ret
   exact⟨Yae AA.out.symm,by first|exact hbw|(rw[←HB.out];exact hbw)⟩
end Go.Proofs.YtnamlooifcpoaaaGreatDoor