/- No condition. -/
import Derived.Test.YtndbeacoaimdgaaDoorQuantsGoMa
import Derived.Test.YtndbeacoaimdgaaDoorQuantsGoMd
import Derived.Test.YtndbeacoaimdgaaDoorQuantsGoMf
import Derived.Test.YtndbeacoaimdgaaDoorQuantsGoMg
import Derived.Test.YtndbeacoaimdgaaDoorQuantsGoMj
import Derived.Test.YtndbeacoaimdgaaDoorQuantsGoMk
import Derived.Test.YtndbeacoaimdgaaDoorQuantsGoMl
import Derived.Test.YtndbeacoaimdgaaDoorQuantsGoMm
import Derived.Test.YtndbeacoaimdgaaDoorQuantsGoMn
import Derived.Test.YtndbeacoaimdgaaDoorQuantsGoMr
import Derived.Test.YtndbeacoaimdgaaDoorQuantsGoMv
import Derived.Test.YtndbeacoaimdgaaDoorQuantsGoMw
import Derived.Test.YtndbeacoaimdgaaDoorQuantsGoMx
import Derived.Test.YtndbeacoaimdgaaDoorQuantsGoMy
import Derived.Test.YtndbeacoaimdgaaDoorQuantsGoMz
import Derived.Test.YtndbeacoaimdgaaDoorQuantsGoMba
import Derived.Test.YtndbeacoaimdgaaDoorQuantsGoMbb
import Derived.Test.YtndbeacoaimdgaaDoorQuantsGoMbc
import Derived.Test.YtndbeacoaimdgaaDoorQuantsGoMbd
import Derived.Test.YtndbeacoaimdgaaDoorQuantsGoMbe
import Derived.RegionTactic
import Derived.Deep.RegionWith
import Derived.WalkMore
import Derived.WalkKit
import Derived.StillTailTactics
import Derived.Deep.CutRange
import Derived.Deep.DeepCutAuto
import Derived.Laws.OwnMore
import Derived.Deep.AppendLies
import Derived.IntWalk
import Derived.BigQuiet
import Derived.Deep.QuietTactic
import Derived.Maps.AppendAt
import Derived.Laws.Slices
import Derived.Laws.IdiomCopy
import Derived.Laws.BytesArg
import Derived.Laws.World
namespace Go.Proofs.YtndbeacoaimdgaaDoor
open Go.RowKit Go.Lib
def Yb4 (S:ShP)(i:Nat):List Cel:=(S.rows.take i).flatMap (·.cels)
theorem Ygz (S:ShP){n:Nat}(h:S.rows.length=n):Yb4 S n=Yaz S:=by subst h;rw[Yb4,List.take_length];rfl
theorem Ycr (S:ShP){i:Nat}(h:i<S.rows.length):Yb4 S (i+1)=Yb4 S i++S.rows[i].cels:=by
 unfold Yb4;rw[List.take_succ_eq_append_getElem h,List.flatMap_append];simp
theorem Yfi (S:ShP)(i:Nat):(Yb4 S i).length≤(Yaz S).length:=by
 have h:Yaz S=Yb4 S i++(S.rows.drop i).flatMap (·.cels):=by
  unfold Yb4 Yaz;rw[←List.flatMap_append,List.take_append_drop]
 rw[h,List.length_append];omega
theorem Yby.each {α:Type}{c:Nat}{V:World→α→List Value→Prop}{w:World}{q:Option Addr}{l:List α}(h:Yby c V w q l)(h0:0<l.length):
  ∃b o,q=some ⟨b,o,none⟩∧b<w.heap.size∧∀i,(h:i<l.length)→∃vs,V w l[i] vs∧∀x,Below w.heap.size w x→∀(j:Nat) v,vs[j]? =some v→x.cell? ⟨b,o+i*c+j,none⟩=some v:=by
 rcases h with rfl|⟨b,o,rfl,hl,h⟩
 ·cases h0
 ·refine⟨b,o,rfl,hl,fun i hi=>?_⟩;obtain⟨vs,h1,h2⟩:=h i hi;exact⟨vs,h1,fun x hx j v hj=>(World.cell?_of_block (a:=⟨b,o+i*c+j,none⟩) (hx.block b hl)).trans (h2 j v hj)⟩
theorem Ymp {α:Type}{f:α→Bool}{l:List α}{j:Nat}(hj:j<l.length)(h:(l.take j).all f=true)(h2:f l[j]=true):(l.take (j+1)).all f=true:=by
 rw[List.take_succ_eq_append_getElem hj,List.all_append,h,List.all_cons,h2]
 rfl
theorem Ymq {α:Type}{f:α→Bool}{l:List α}{j:Nat}(hj:j<l.length)(h2:f l[j]=false):l.all f=false:=by
 rw[List.all_eq_false];exact⟨l[j],List.getElem_mem hj,by rw[h2];decide⟩
theorem Ye2 {w:World}{q:Option Addr}{l:List RowP}(h:Ybz w q l)(h0:0<l.length):
  ∃b o,q=some ⟨b,o,none⟩∧b<w.heap.size∧∀i,(hi:i<l.length)→∃(r:Option Addr) (cap:Nat),(r=none→cap=0)∧l[i].cels.length≤maxLen∧Ydw w r l[i].cels∧
   ∀x,Below w.heap.size w x→x.cell? ⟨b,o+i*4,none⟩=some (.bool l[i].head)∧x.cell? ⟨b,o+i*4+1,none⟩=some (.int .i64 l[i].id)∧x.cell? ⟨b,o+i*4+2,none⟩=some (.int .i64 l[i].quant)∧x.cell? ⟨b,o+i*4+3,none⟩=some (.slice r l[i].cels.length cap):=by
 rcases h with rfl|⟨b,o,rfl,hl,h⟩
 ·cases h0
 ·refine⟨b,o,rfl,hl,fun i hi=>?_⟩;obtain⟨vs,⟨r,cap,rfl,hq,hn,hc⟩,h2⟩:=h i hi;have at_:∀x,Below w.heap.size w x→∀(j:Nat) v,[Value.bool l[i].head,.int .i64 l[i].id,.int .i64 l[i].quant,.slice r l[i].cels.length cap][j]? =some v→x.cell? ⟨b,o+i*4+j,none⟩=some v:=
   fun x hx j v hj=>(World.cell?_of_block (a:=⟨b,o+i*4+j,none⟩) (hx.block b hl)).trans (h2 j v hj)
  exact⟨r,cap,hq,hn,hc,fun x hx=>⟨at_ x hx 0 _ rfl,at_ x hx 1 _ rfl,at_ x hx 2 _ rfl,at_ x hx 3 _ rfl⟩⟩
theorem Ye0 (k:Int):-10000≤Ygl k∧Ygl k≤10000:=by
 unfold Ygl;rcases Ybo k with rfl|rfl|rfl|rfl|rfl|rfl|⟨h,hv⟩
 case _|_|_|_|_|_=>decide +kernel
 unfold Yom;rw[hv];simp
def Yhg (c:Cel):Bool:=c.skip || (c.kind==0 || c.kind==1)
theorem Yjp (c:Cel)(sl:Nat→Value)(w:World):Calls Tryd.prog 44 #[.agg (Ybe c sl).toArray] w fun e w'=>e=.returned (.bool (Yhg c))∧Below w.heap.size w w':=by
 obtain⟨A,hA,f0,f1,f2,f3,f4,f5,-,-⟩:=Ybk c sl;rw[hA];clear hA;have IK:Hid (Yhg c=(c.skip || (c.kind==0 || c.kind==1))):=Lib.hid rfl;generalize Yhg c=ik at IK ⊢;generalize c.skip=s at f1 IK;generalize c.kind=k at f2 IK;cases s
 case true=>
  go_enter Tryd.func44,Tryd.ntmps44
  go_wp2
  go_ret
  exact⟨Yad (by rw[IK.out];rfl),(Below.refl _ w).alloc (Nat.le_refl _) _⟩
 rcases Bool.eq_false_or_eq_true (k==0) with t0|t0
 ·go_enter Tryd.func44,Tryd.ntmps44
  go_wp2
  go_ret
  exact⟨Yad (by rw[IK.out,t0];rfl),(Below.refl _ w).alloc (Nat.le_refl _) _⟩
 ·rcases Bool.eq_false_or_eq_true (k==1) with t1|t1
  ·go_enter Tryd.func44,Tryd.ntmps44
   go_wp2
   go_ret
   exact⟨Yad (by rw[IK.out,t0,t1];rfl),(Below.refl _ w).alloc (Nat.le_refl _) _⟩
  ·go_enter Tryd.func44,Tryd.ntmps44
   go_wp2
   go_ret
   exact⟨Yad (by rw[IK.out,t0,t1];rfl),(Below.refl _ w).alloc (Nat.le_refl _) _⟩
def Ygc (n:Int)(H:Bool)(I Q:Int):Bool:=if H then decide (n≠0∧0≤I∧I≤3∧1≤Q∧Q≤31) else decide (I=0∧Q=0)
set_option maxRecDepth 100000 in
theorem Yj1 (n:Int)(hn:0≤n)(H:Bool)(I Q:Int)(sl:Value)(w:World):Calls Tryd.prog 41 #[.int .i64 n,.agg #[.bool H,.int .i64 I,.int .i64 Q,sl]] w fun e w'=>e=.returned (.bool (Ygc n H I Q))∧Below w.heap.size w w':=by
 cases H
 case false=>
  obtain⟨G,hG⟩:∃G,Ygc n false I Q=G:=⟨_,rfl⟩;obtain⟨d1,h1⟩:∃d,(I==0)=d:=⟨_,rfl⟩;obtain⟨d2,h2⟩:∃d,(Q==0)=d:=⟨_,rfl⟩;have hd:G=(d1&&d2):=by
   rw[←hG,←h1,←h2,Bool.eq_iff_iff];simp[Ygc]
  rw[hG];clear hG;have HD:=Lib.hid hd;clear hd;cases d1 <;> cases d2 <;>
  (go_enter Tryd.func41,Tryd.ntmps41
   go_wp2
   go_ret
   exact⟨Yad HD.out.symm,(Below.refl _ w).alloc (Nat.le_refl _) _⟩)
 case true=>
  obtain⟨G,hG⟩:∃G,Ygc n true I Q=G:=⟨_,rfl⟩;obtain⟨d1,h1⟩:∃d,decide (0<n)=d:=⟨_,rfl⟩;obtain⟨d2,h2⟩:∃d,decide (0≤I)=d:=⟨_,rfl⟩;obtain⟨d3,h3⟩:∃d,decide (I≤3)=d:=⟨_,rfl⟩;obtain⟨d4,h4⟩:∃d,decide (1≤Q)=d:=⟨_,rfl⟩;obtain⟨d5,h5⟩:∃d,decide (Q≤31)=d:=⟨_,rfl⟩;have hd:G=(d1&&(d2&&(d3&&(d4&&d5)))):=by
   rw[←hG,←h1,←h2,←h3,←h4,←h5,Bool.eq_iff_iff];simp[Ygc] <;> omega
  rw[hG];clear hG hn;have HD:=Lib.hid hd;have hB:d1=false∨(d1=true∧d2=false)∨(d1=true∧d2=true∧d3=false)∨(d1=true∧d2=true∧d3=true∧d4=false)∨(d1=true∧d2=true∧d3=true∧d4=true∧d5=false)∨(d1=true∧d2=true∧d3=true∧d4=true∧d5=true):=by
   clear hd h1 h2 h3 h4 h5 HD;cases d1 <;> cases d2 <;> cases d3 <;> cases d4 <;> cases d5 <;> simp
  clear hd;rcases hB with rfl|⟨rfl,rfl⟩|⟨rfl,rfl,rfl⟩|⟨rfl,rfl,rfl,rfl⟩|⟨rfl,rfl,rfl,rfl,rfl⟩|⟨rfl,rfl,rfl,rfl,rfl⟩
  all_goals
   go_enter Tryd.func41,Tryd.ntmps41
   go_wp2
   go_ret
   exact⟨Yad HD.out.symm,(Below.refl _ w).alloc (Nat.le_refl _) _⟩
theorem Yg4 (h:Shd)(a b:Value)(z:Int)(w:World):Calls Tryd.prog 42 #[.agg (Yas h a b z).toArray] w fun e w'=>e=.returned (.int .i64 (Ygl h.fmt))∧Below w.heap.size w w':=by
 obtain⟨A,hA⟩:∃A,(Yas h a b z).toArray=A:=⟨_,rfl⟩;have f2:A[2]? =some (.int .i64 h.fmt):=by rw[←hA];rfl
 rw[hA];clear hA;generalize h.fmt=k at f2 ⊢;have c1:=fun w=>Yc7 k w;have c2:=fun w=>Yfl k w;have wN:IntKind.i64.wrap (Yjn k*Yom k)=Ygl k:=Yml (by have:=Ye0 k;unfold Ygl at this;omega);generalize Ygl k=N at *;generalize Yjn k=x at *;generalize Yld k=x1 at *;generalize Ym5 k=x2 at *;generalize Yom k=x3 at *
 go_enter Tryd.func42,Tryd.ntmps42
 go_wp2_with fail
 refine(c1 _).mono ?_;rintro e w1 ⟨rfl,rfl⟩
 go_wp2_with fail
 refine(c2 _).mono ?_;rintro e w1 ⟨rfl,rfl⟩
 go_wp2
 go_ret
 exact⟨rfl,(Below.refl _ w).alloc (Nat.le_refl _) _⟩
theorem Yfj (fn:FuncId)(X:Array Value)(n:Nat)(f:Nat→Bool)(b:Bool)(w:World)(hn:n≤4611686018427387904)(hen:∀args x,(callFunc fn args).run Tryd.prog x=.ok (.enter fn args) x)
  (hc:∀i,i<n→(∀j,j<i→f j=true)→∀x,Below w.heap.size w x→Calls Tryd.prog fn #[.agg X,.int .i64 (i:Int)] x fun e y=>e=.returned (.bool (f i))∧Below x.heap.size x y)
  (hy:(∀i,i<n→f i=true)→b=true)(hf:∀i,i<n→f i=false→b=false):
  Calls Tryd.prog 29 #[.int .i64 (n:Int),.func (.func fn) #[.agg X] #[]] w fun e w'=>e=.returned (.bool b)∧Below w.heap.size w w':=by
 have HC:=Lib.hid hc;have HY:=Lib.hid hy;have HF:=Lib.hid hf;clear hc hy hf
 go_enter Tryd.func29,Tryd.ntmps29
 go_wp2
 go_loopw [7] (fun z wr=>∃i:Nat,i≤n∧z=.int .i64 (i:Int)∧Hid (∀j,j<i→f j=true)∧Below w.heap.size w wr) (fun z _=>n-(intOf z).toNat)
 case atStart=>exact⟨0,Nat.zero_le _,rfl,Lib.hid fun j h=>absurd h (Nat.not_lt_zero j),Below.refl _ _⟩
 case round=>
  obtain⟨i,hi,rfl,ha,hb⟩:=hrel;by_cases hlt:i<n
  ·have t0:decide ((i:Int)<(n:Int))=true:=by simp;omega
   have c1:=HC.out i hlt ha.out wr hb;have NX:=Lib.hid (fun(e:f i=true)=>(fun j hj=>(by
    by_cases h:j<i
    ·exact ha.out j h
    ·obtain rfl:j=i:=by omega
     exact e):∀j,j<i+1→f j=true))
   have NF:=Lib.hid (HF.out i hlt);clear ha;generalize f i=y at c1 NX NF
   go_wp2_with fail
   refine c1.mono ?_;rintro e w1 ⟨rfl,hb1⟩;have hb2:Below w.heap.size w w1:=hb.trans (hb1.mono hb.size);cases y with
   |true=>
    have N:=Lib.hid (NX.out rfl);clear NX NF
    go_wp2
    go_roundw
    case rel=>exact⟨i+1,by omega,by go_num,N,hb2⟩
    case measure=>simp[intOf];omega
   |false=>
    have N:=Lib.hid (NF.out rfl);clear NX NF
    go_wp2
    go_ret
    exact⟨Yad N.out.symm,hb2⟩
  ·obtain rfl:n=i:=by omega
   have t0:decide ((n:Int)<(n:Int))=false:=by simp
   have N:=Lib.hid (HY.out ha.out)
   go_wp2
   go_ret
   exact⟨Yad N.out.symm,hb⟩
theorem Yks {α:Type}{f:Nat→α→Bool}{s:Nat}{l:List α}{j:Nat}(hj:j<l.length)(h:Yba f s (l.take j)=true)(h1:f (s+j) l[j]=true):Yba f s (l.take (j+1))=true:=by
 rw[List.take_succ_eq_append_getElem hj,Ygt,h,List.length_take,show s+min j l.length=s+j by omega,h1];rfl
theorem Yja {α:Type}{f:Nat→α→Bool}{s:Nat}{l:List α}{j:Nat}(hj:j<l.length)(h1:f (s+j) l[j]=false):Yba f s l=false:=by
 cases h:Yba f s l with
 |false=>rfl
 |true=>
  have:=Ycp.1 h j hj;rw[h1] at this;cases this
def Ya8 (k:Int)(n:Nat)(c:Cel):Bool:=!Yhg c || Yn9 k (n:Int) c.mx c.my
set_option maxRecDepth 100000 in
set_option maxHeartbeats 400000 in
theorem Ymb (S:ShP)(p b:Option Addr)(ca cb i N:Nat)(w:World)(hi:i<S.rows.length)(hn:S.rows.length≤1000)(hN:Ygl S.hd.fmt=(N:Int))(hl:S.rows[i].cels.length=N)(hr:Ybz w b S.rows):
  Calls Tryd.prog 31 #[.agg (Yas S.hd (.slice p S.hd.supp.length ca) (.slice b S.rows.length cb) S.zeros).toArray,.int .i64 (i:Int)] w fun e w'=>e=.returned (.bool (Yba (Ya8 S.hd.fmt) (i*N) S.rows[i].cels))∧Below w.heap.size w w':=by
 have hNm:N≤10000:=by have:=Ye0 S.hd.fmt;omega
 obtain⟨b1,o1,rfl,hb1,hc1⟩:=Ye2 hr (by omega);obtain⟨r,cap,hq,hml,hcel,hat⟩:=hc1 i hi;clear hc1 hr;have cE:=fun x=>Yg4 S.hd (.slice p S.hd.supp.length ca) (.slice (some ⟨b1,o1,none⟩) S.rows.length cb) S.zeros x;rw[hN] at cE;have cM:=fun n x y w=>Ynd S.hd.fmt n x y w;generalize S.rows[i]=R at hml hcel hat hl ⊢;generalize S.rows.length=n at hi hn cE ⊢;obtain⟨H,I,Q,m⟩:=R;dsimp only at *
 obtain⟨zs,hZ⟩:∃zs,Yas S.hd (.slice p S.hd.supp.length ca) (.slice (some ⟨b1,o1,none⟩) n cb) S.zeros=zs:=⟨_,rfl⟩;have z6:zs[6]? =some (.slice (some ⟨b1,o1,none⟩) n cb):=by rw[←hZ];rfl
 have z2:zs[2]? =some (.int .i64 S.hd.fmt):=by rw[←hZ];rfl
 have HSZ:(Tryd.prog.info? 62).map (·.size)=some zs.toArray.size:=by rw[show zs.toArray.size=8 by rw[←hZ];rfl];kernel_rfl
 rw[hZ] at cE ⊢;clear hZ hN;generalize S.hd.fmt=fmt at *;obtain⟨B,hB⟩:∃B,w.heap.size=B:=⟨_,rfl⟩;obtain⟨wA,hwA⟩:∃wA,w.alloc (.cells zs.toArray 62 (0,0))=wA:=⟨_,rfl⟩;have hhA:wA.heap[B]? =some (.cells zs.toArray 62 (0,0)):=by rw[←hwA,←hB];exact heap_alloc_new w _
 have hbA:Below w.heap.size w wA:=by rw[←hwA];exact(Below.refl _ w).alloc (Nat.le_refl _) _
 have hsA:wA.heap.size=B+1:=by rw[←hwA,←hB];simp
 have CL:Hid (∀x,Below (B+1) wA x→x.cell? ⟨B,2,none⟩=some (.int .i64 fmt)∧x.cell? ⟨B,6,none⟩=some (.slice (some ⟨b1,o1,none⟩) n cb)∧x.cell? ⟨b1,o1+i*4+3,none⟩=some (.slice r m.length cap)∧Below w.heap.size w x):=Lib.hid fun x hx=>by
  have h1:=(hx.block B (by omega)).trans hhA;have hwx:=hbA.trans (hx.mono (by omega));exact⟨Yab h1 z2,Yab h1 z6,(hat x hwx).2.2.2,hwx⟩
 obtain⟨F,hF⟩:∃F,i*N=F:=⟨_,rfl⟩;have hFm:F≤10000000:=by rw[←hF];exact Nat.mul_le_mul (show i≤1000 by omega) hNm
 have hm:IntKind.i64.wrap ((i:Int)*(N:Int))=(F:Int):=by rw[←hF,←Int.natCast_mul];exact Yml (by rw[hF];omega)
 rw[hF];have HWA:=Lib.hid hwA;have HB:=Lib.hid hB;have HS:=Lib.hid hsA;have HCEL:=Lib.hid hcel;have HBA:=Lib.hid hbA;have HL:=Lib.hid hl;obtain⟨Y,HYS,hzv⟩:=Ydk;clear hwA hat hbA hF hsA z2 z6 hcel hl
 go_enter Tryd.func31,Tryd.ntmps31
 go_wp2_with (rw[HWA.out];with_reducible refine wpList_load_row rfl 62 _ rfl B rfl 62 zs.toArray (0,0) _ hhA Tryd.underlying62 rfl HSZ ?_)
 refine(cE _).mono ?_;rintro e w1 ⟨rfl,hb1⟩;have h1:Below (B+1) wA w1:=hb1.mono (by have:=HS.out;omega);obtain⟨k2,k6,k3,hw1⟩:=CL.out w1 h1;have t1:decide ((i:Int)<(n:Int))=true:=by simp;omega
 clear hb1 hhA
 go_wp2
 clear k2 k6 k3 t1 hm
 go_loopw [19] (fun z wr=>∃j:Nat,z=.int .i64 (j:Int)∧j≤m.length∧Hid (Yba (Ya8 fmt) F (m.take j)=true)∧Below (B+1) wA wr) (fun z _=>m.length-(intOf z).toNat)
 case atStart=>exact⟨0,rfl,Nat.zero_le _,Lib.hid rfl,h1⟩
 case round=>
  clear h1 hw1;obtain⟨j,rfl,hj,ha,hb⟩:=hrel;obtain⟨-,-,-,hbw⟩:=CL.out wr hb;have hm4:m.length≤10000:=by have:=HL.out;omega
  by_cases hlt:j<m.length
  ·have t1:decide ((j:Int)<(m.length:Int))=true:=by simp;omega
   obtain⟨b2,o2,rfl,hb2,hcv⟩:=Yby.each HCEL.out (by omega);obtain⟨vs,hV,hvc⟩:=hcv j hlt;have hl18:=hV.shape.1;have hone:=Ydo hV;obtain⟨p3,cap3,hvs,-,-⟩:=hV;have hrg:wr.rangeAt b2 (o2+j*18) vs:=fun k v hk=>hvc wr hbw k v hk;have NX:=Lib.hid (fun h=>Yks (f:=Ya8 fmt) hlt ha.out h);have NF:=Lib.hid (fun h=>Yja (s:=F) (f:=Ya8 fmt) hlt h)
   have cP:=fun x=>Yjp m[j] (fun i=>.slice (p3 i) (m[j].ev i).length (cap3 i)) x;rw[←hvs] at cP;have cM2:=fun x=>cM ((F:Int)+(j:Int)) m[j].mx m[j].my x;have hs:IntKind.i64.wrap ((F:Int)+(j:Int))=(F:Int)+(j:Int):=Yml (by have:=HL.out;omega);have PM:=Lib.hid (show Ya8 fmt (F+j) m[j]=(!Yhg m[j] || Yn9 fmt ((F:Int)+(j:Int)) m[j].mx m[j].my) by unfold Ya8;rw[Int.natCast_add])
   obtain⟨wC,hwC⟩:∃wC,wr.alloc (.cells vs.toArray 42 (0,0))=wC:=⟨_,rfl⟩;obtain⟨C,hC⟩:∃C,wr.heap.size=C:=⟨_,rfl⟩;have hhC:wC.heap[C]? =some (.cells vs.toArray 42 (0,0)):=by rw[←hwC,←hC];exact heap_alloc_new wr _
   have hbC:Below (B+1) wA wC:=by rw[←hwC];exact hb.alloc (by have:=hb.size;have:=HS.out;omega) _
   have hsC:wC.heap.size=C+1:=by rw[←hwC,←hC];simp
   have hBC:B+1≤C:=by rw[←hC];have:=hb.size;have:=HS.out;omega
   have HSV:(Tryd.prog.info? 42).map (·.size)=some vs.toArray.size:=by rw[show vs.toArray.size=18 from hl18];kernel_rfl
   have HYV:Y.size=vs.toArray.size:=by rw[HYS];exact hl18.symm
   have v4:vs[4]? =some (.int .i64 m[j].mx):=by rw[hvs];rfl
   have v5:vs[5]? =some (.int .i64 m[j].my):=by rw[hvs];rfl
   have HWC:=Lib.hid hwC;have HHC:=Lib.hid hhC;have HSC:=Lib.hid hsC;clear hvs hvc hcv ha hwC hsC;generalize m[j].mx=mx at *;generalize m[j].my=my at *;generalize Ya8 fmt (F+j) m[j]=y at *;generalize Yhg m[j]=pk at *;have HC:=Lib.hid hC;clear hC
   go_wp2_with (first|(with_reducible refine Ybv rfl _ rfl b2 (o2+j*18) rfl vs hrg hl18 ?_)|(with_reducible refine Yaq rfl 42 _ _ rfl vs.toArray Y 42 rfl rfl HSV HYV hone ?_;rw[HWC.out])|(rw[HC.out];with_reducible refine wpList_load_row rfl 42 _ rfl C rfl 42 vs.toArray (0,0) _ hhC Tryd.underlying42 rfl HSV ?_))
   refine(cP _).mono ?_;rintro e w2 ⟨rfl,hb2'⟩;have hx2:Below (B+1) wA w2:=hbC.trans (hb2'.mono (by have:=HSC.out;omega));have hh2:w2.heap[C]? =some (.cells vs.toArray 42 (0,0)):=(hb2'.block C (by have:=HSC.out;omega)).trans hhC;clear hb2' hhC hrg hbC;obtain⟨k2,-,-,hw2⟩:=CL.out w2 hx2;cases pk with
   |false=>
    have N1:=Lib.hid (NX.out (by rw[PM.out];rfl));clear NX NF PM
    go_wp2
    go_roundw
    case rel=>exact⟨j+1,by go_num,by omega,N1,hx2⟩
    case measure=>simp[intOf];omega
   |true=>
    have hrt:w2.rangeAt C 4 [.int .i64 mx,.int .i64 my]:=fun k v hk=>by
     match k,hk with
     |0,hk=>injection hk with hk;subst hk;exact Yab hh2 v4
     |1,hk=>injection hk with hk;subst hk;exact Yab hh2 v5
    have PM2:=Lib.hid (show y=Yn9 fmt ((F:Int)+(j:Int)) mx my from PM.out);clear PM
    go_wp2_with (with_reducible refine Ye6 (by kernel_rfl) _ rfl C 4 rfl mx my hrt ?_)
    refine(cM2 _).mono ?_;rintro e w3 ⟨rfl,hb3⟩;have hx3:Below (B+1) wA w3:=hx2.trans (hb3.mono (by have:=hx2.size;have:=HS.out;omega));have hw3:=(CL.out w3 hx3).2.2.2;generalize Yn9 fmt ((F:Int)+(j:Int)) mx my=mv at *;cases mv with
    |true=>
     have N1:=Lib.hid (NX.out PM2.out);clear NX NF PM2
     go_wp2
     go_roundw
     case rel=>exact⟨j+1,by go_num,by omega,N1,hx3⟩
     case measure=>simp[intOf];omega
    |false=>
     have N1:=Lib.hid (NF.out PM2.out);clear NX NF PM2
     go_wp2
     go_ret
     exact⟨Yad N1.out.symm,by first|exact hw3|(rw[←HB.out];exact hw3)⟩
  ·obtain rfl:m.length=j:=by omega
   have t1:decide ((m.length:Int)<(m.length:Int))=false:=by simp
   have AA:=Lib.hid (show Yba (Ya8 fmt) F m=true by have:=ha.out;rwa [List.take_length] at this)
   go_wp2
   go_ret
   exact⟨Yad AA.out.symm,by first|exact hbw|(rw[←HB.out];exact hbw)⟩
structure Yee (S:ShP):Prop where
 rows:S.rows.length≤30
 supp:S.hd.supp.length≤100
 cels:∀i (h:i<S.rows.length),S.rows[i].cels.length≤200
 evs:∀i (h:i<S.rows.length),∀j (h':j<S.rows[i].cels.length),∀k,k<6→(S.rows[i].cels[j].ev k).length≤100
 all:(Yaz S).length≤200
theorem Yee.mem {S:ShP}(h:Yee S):∀c∈Yaz S,∀k,k<6→(c.ev k).length≤100:=by
 intro c hc k hk;obtain⟨r,hr,hc⟩:=List.mem_flatMap.1 hc;obtain⟨i,hi,rfl⟩:=List.mem_iff_getElem.1 hr;obtain⟨j,hj,rfl⟩:=List.mem_iff_getElem.1 hc;exact h.evs i hi j hj k hk
def Ya4 (S:ShP)(w:World)(e:Ending)(w':World):Prop:=(∃y,e=.returned (.bool y)∧(y=true→Yee S))∧Below w.heap.size w w'
theorem Ya4.no {S:ShP}{w w':World}(h:Below w.heap.size w w'):Ya4 S w (.returned (.bool false)) w':=⟨⟨false,rfl,fun h=>by cases h⟩,h⟩
theorem Yky (c:Cel)(sl:Nat→Value){e:Nat}(he:e<6):(Ybe c sl)[12+e]? =some (sl e):=by
 match e,he with
 |0,_|1,_|2,_|3,_|4,_|5,_=>rfl
set_option maxRecDepth 100000 in
set_option maxHeartbeats 4000000 in
theorem Yli (S:ShP)(p b:Option Addr)(ca cb:Nat)(w:World)(hl:S.hd.supp.length≤maxLen)(hn:S.rows.length≤maxLen)(hr:Ybz w b S.rows):
  Calls Tryd.prog 5 #[.agg (Yas S.hd (.slice p S.hd.supp.length ca) (.slice b S.rows.length cb) S.zeros).toArray] w (Ya4 S w):=by
 unfold maxLen at hn hl;obtain⟨n,hln⟩:∃n,S.rows.length=n:=⟨_,rfl⟩;obtain⟨q,hlq⟩:∃n,S.hd.supp.length=n:=⟨_,rfl⟩;rw[hln] at hn ⊢;rw[hlq] at hl ⊢;obtain⟨zs,hZ⟩:∃zs,Yas S.hd (.slice p q ca) (.slice b n cb) S.zeros=zs:=⟨_,rfl⟩;have z6:zs[6]? =some (.slice b n cb):=by rw[←hZ];rfl
 have z5:zs[5]? =some (.slice p q ca):=by rw[←hZ];rfl
 rw[hZ];obtain⟨B,hB⟩:∃B,w.heap.size=B:=⟨_,rfl⟩;obtain⟨wA,hwA⟩:∃wA,w.alloc (.cells zs.toArray 25 (0,0))=wA:=⟨_,rfl⟩;have hhA:wA.heap[B]? =some (.cells zs.toArray 25 (0,0)):=by rw[←hwA,←hB];exact heap_alloc_new w _
 have hbA:Below w.heap.size w wA:=by rw[←hwA];exact(Below.refl _ w).alloc (Nat.le_refl _) _
 have HWA:=Lib.hid hwA;have HB:=Lib.hid hB;have HBA:=Lib.hid hbA;have NR:=Lib.hid hln;have NQ:=Lib.hid hlq;have HR:=Lib.hid hr;have K6:=Lib.hid (Yab hhA z6);clear hwA hbA hZ hln hlq hr;by_cases h1:30<n
 ·have t1:decide (30<(n:Int))=true:=by simp;omega
  go_enter Tryd.func5,Tryd.ntmps5
  go_wp2
  go_ret
  rw[HWA.out];exact Ya4.no HBA.out
 have t1:decide (30<(n:Int))=false:=by simp;omega
 by_cases h2:100<q
 ·have t2:decide (100<(q:Int))=true:=by simp;omega
  go_enter Tryd.func5,Tryd.ntmps5
  go_wp2
  go_ret
  rw[HWA.out];exact Ya4.no HBA.out
 have t2:decide (100<(q:Int))=false:=by simp;omega
 go_enter Tryd.func5,Tryd.ntmps5
 go_wp2
 rw[HWA.out];have k6:=K6.out;clear z5 z6 t1 t2 K6 hhA
 go_loop [3,4] (fun v t=>∃i:Nat,t=.int .i64 (i:Int)∧v=.int .i64 ((Yb4 S i).length:Int)∧i≤n∧(Yb4 S i).length≤200*i∧Hid ((∀j (h:j<S.rows.length),j<i→S.rows[j].cels.length≤200)∧∀j (h:j<S.rows.length),j<i→∀m (h':m<S.rows[j].cels.length),∀k,k<6→(S.rows[j].cels[m].ev k).length≤100)) (fun _ t=>n-(intOf t).toNat)
 case atStart=>exact⟨0,rfl,rfl,Nat.zero_le _,Nat.zero_le _,Lib.hid ⟨fun j _ h=>absurd h (Nat.not_lt_zero j),fun j _ h=>absurd h (Nat.not_lt_zero j)⟩⟩
 case round=>
  obtain⟨i,rfl,rfl,hi,hL,ha⟩:=hrel;by_cases hlt:i<n
  ·have t1:decide ((i:Int)<(n:Int))=true:=by simp;omega
   have hil:i<S.rows.length:=by rw[NR.out];exact hlt
   obtain⟨b1,o1,rfl,hb1,hc1⟩:=Ye2 HR.out (by omega);obtain⟨r,cap,hq,hml,hcel,hat⟩:=hc1 i hil;obtain⟨-,-,-,c3⟩:=hat _ HBA.out;have nx:=Ycr S hil;have NX:=Lib.hid (fun(h1:S.rows[i].cels.length≤200) (h2:∀m (h':m<S.rows[i].cels.length),∀k,k<6→(S.rows[i].cels[m].ev k).length≤100)=>(⟨fun j h hj=>(by
     by_cases e:j<i
     ·exact ha.out.1 j h e
     ·obtain rfl:j=i:=by omega
      exact h1),fun j h hj=>(by
     by_cases e:j<i
     ·exact ha.out.2 j h e
     ·obtain rfl:j=i:=by omega
      exact h2)⟩:(∀j (h:j<S.rows.length),j<i+1→S.rows[j].cels.length≤200)∧∀j (h:j<S.rows.length),j<i+1→∀m (h':m<S.rows[j].cels.length),∀k,k<6→(S.rows[j].cels[m].ev k).length≤100))
   clear hc1 hat ha;generalize S.rows[i].cels=m at *;have NC:=Lib.hid (show (Yb4 S (i+1)).length=(Yb4 S i).length+m.length by rw[nx,List.length_append]);generalize (Yb4 S i).length=L at *;clear nx;by_cases hm:200<m.length
   ·have t2:decide (200<(m.length:Int))=true:=by simp;omega
    go_wp2
    go_ret
    exact Ya4.no HBA.out
   have t2:decide (200<(m.length:Int))=false:=by simp;omega
   go_wp2
   clear t1 t2
   go_loop [3,5] (fun v t=>∃k:Nat,t=.int .i64 (k:Int)∧v=.int .i64 ((L+k:Nat):Int)∧k≤m.length∧Hid (∀j (h:j<m.length),j<k→∀e,e<6→(m[j].ev e).length≤100)) (fun _ t=>m.length-(intOf t).toNat)
   case atStart=>exact⟨0,rfl,rfl,Nat.zero_le _,Lib.hid fun j _ h=>absurd h (Nat.not_lt_zero j)⟩
   case round=>
    obtain⟨k,rfl,rfl,hk,hev⟩:=hrel;by_cases hkm:k<m.length
    ·have t3:decide ((k:Int)<(m.length:Int))=true:=by simp;omega
     obtain⟨b2,o2,rfl,hb2,hcv⟩:=Yby.each hcel (by omega);obtain⟨vs,⟨p3,cap3,hvs,-,-⟩,hvc⟩:=hcv k hkm;have EX:=Lib.hid (fun(h2:∀e,e<6→(m[k].ev e).length≤100)=>(fun j h hj=>(by
      by_cases e:j<k
      ·exact hev.out j h e
      ·obtain rfl:j=k:=by omega
       exact h2):∀j (h:j<m.length),j<k+1→∀e,e<6→(m[j].ev e).length≤100))
     clear hcv hev;generalize m[k]=c at hvs EX;have EV:=Lib.hid (fun(e:Nat) (he:e<6)=>(by
      have h4:=hvc wA HBA.out (12+e) (.slice (p3 e) (c.ev e).length (cap3 e)) (by rw[hvs];exact Yky c _ he);rwa [show o2+k*18+(12+e)=o2+k*18+12+e by omega] at h4:wA.cell? ⟨b2,o2+k*18+12+e,none⟩=some (.slice (p3 e) (c.ev e).length (cap3 e))))
     clear hvs hvc
     go_wp2
     clear t3
     go_loop [6] (fun t=>∃e:Nat,t=.int .i64 (e:Int)∧e≤6∧Hid (∀e',e'<e→(c.ev e').length≤100)) (fun t=>6-(intOf t).toNat)
     case atStart=>exact⟨0,rfl,Nat.zero_le _,Lib.hid fun j h=>absurd h (Nat.not_lt_zero j)⟩
     case round=>
      obtain⟨e,rfl,he,hee⟩:=hrel;by_cases he6:e<6
      ·have t3:decide ((e:Int)<6)=true:=by simp;omega
       have ce:=EV.out e he6;have HE:=hee;clear hee;obtain⟨l,hle⟩:∃l,(c.ev e).length=l:=⟨_,rfl⟩;rw[hle] at ce;have HLE:=Lib.hid hle;clear hle;by_cases hl100:100<l
       ·have t4:decide (100<(l:Int))=true:=by simp;omega
        go_wp2
        go_ret
        exact Ya4.no HBA.out
       ·have t4:decide (100<(l:Int))=false:=by simp;omega
        have N:=Lib.hid (show∀e',e'<e+1→(c.ev e').length≤100 from fun e' h=>by
         by_cases h3:e'<e
         ·exact HE.out e' h3
         ·obtain rfl:e'=e:=by omega
          rw[HLE.out];omega)
        clear HE
        go_wp2
        go_round
        case rel=>exact⟨e+1,by go_num,by omega,N⟩
        case measure=>simp[intOf];omega
      ·obtain rfl:e=6:=by omega
       have t3:decide (((6:Nat):Int)<6)=false:=by simp
       have N:=Lib.hid (EX.out hee.out);clear hee
       go_wp2
       go_round
       case rel=>exact⟨k+1,by go_num,by go_num,by omega,N⟩
       case measure=>simp[intOf];omega
    ·obtain rfl:m.length=k:=by omega
     have t3:decide ((m.length:Int)<(m.length:Int))=false:=by simp
     have N:=Lib.hid (NX.out (by omega) (fun j h=>hev.out j h h));clear hev NX
     go_wp2
     go_round
     case rel=>exact⟨i+1,by go_num,by rw[NC.out],by omega,by rw[NC.out];omega,N⟩
     case measure=>simp[intOf];omega
  ·obtain rfl:n=i:=by omega
   have t1:decide ((n:Int)<(n:Int))=false:=by simp
   have AL:=Lib.hid (Ygz S NR.out);have EV:=Lib.hid ha.out;rw[AL.out];by_cases h3:(Yaz S).length≤200
   ·have t2:decide (((Yaz S).length:Int)≤200)=true:=by simp;omega
    go_wp2
    go_ret
    exact⟨⟨true,rfl,fun _=>⟨by rw[NR.out];omega,by rw[NQ.out];omega,fun j h=>EV.out.1 j h (by rw[←NR.out];exact h),fun j h=>EV.out.2 j h (by rw[←NR.out];exact h),h3⟩⟩,HBA.out⟩
   ·have t2:decide (((Yaz S).length:Int)≤200)=false:=by simp;omega
    go_wp2
    go_ret
    exact Ya4.no HBA.out
end Go.Proofs.YtndbeacoaimdgaaDoor