/- Part 44 of StripsBack. No condition. -/
import Derived.Test.YtjjmalchelniiaaGreatDoorStripsBackMa
import Derived.Test.YtjjmalchelniiaaGreatDoorStripsBackMb
import Derived.Test.YtjjmalchelniiaaGreatDoorStripsBackMe
import Derived.Test.YtjjmalchelniiaaGreatDoorStripsBackMf
import Derived.Test.YtjjmalchelniiaaGreatDoorStripsBackMg
import Derived.Test.YtjjmalchelniiaaGreatDoorStripsBackMi
import Derived.Test.YtjjmalchelniiaaGreatDoorStripsBackMj
import Derived.Test.YtjjmalchelniiaaGreatDoorStripsBackMk
import Derived.Test.YtjjmalchelniiaaGreatDoorStripsBackMp
import Derived.Test.YtjjmalchelniiaaGreatDoorStripsBackMq
import Derived.Test.YtjjmalchelniiaaGreatDoorStripsBackMs
import Derived.Test.YtjjmalchelniiaaGreatDoorStripsBackMu
import Derived.Test.YtjjmalchelniiaaGreatDoorStripsBackMw
import Derived.Test.YtjjmalchelniiaaGreatDoorStripsBackMx
import Derived.Test.YtjjmalchelniiaaGreatDoorStripsBackMy
import Derived.Test.YtjjmalchelniiaaGreatDoorStripsBackMz
import Derived.Test.YtjjmalchelniiaaGreatDoorStripsBackMbn
import Derived.Test.YtjjmalchelniiaaGreatDoorStripsBackMbo
import Derived.RegionTactic
import Derived.Deep.RegionWith
import Derived.WalkMore
import Derived.WalkKit
import Derived.StillTailTactics
import Derived.Deep.CutRange
import Derived.Deep.DeepCutAuto
import Derived.Laws.OwnMore
import Derived.Deep.AppendLies
import Derived.IntWalk
import Derived.Maps.AppendAt
import Derived.Laws.Slices
import Derived.Laws.IdiomCopy
import Derived.Laws.BytesArg
import Derived.Laws.World
import Derived.Test.YtjjmalchelniiaaGreatDoorRows
import Derived.ProofKit
import Derived.Lib.Hide
namespace Go.Proofs.YtjjmalchelniiaaGreatDoor
open Go.RowKit Go.Lib
def Yqq (S:ShP)(i:Nat):List Cel:=(S.rows.take i).flatMap (·.cels)
theorem Y8s (S:ShP){n:Nat}(h:S.rows.length=n):Yqq S n=Yes S:=by subst h;rw[Yqq,List.take_length];rfl
theorem Y4k (S:ShP){i:Nat}(h:i<S.rows.length):Yqq S (i+1)=Yqq S i++S.rows[i].cels:=by
 unfold Yqq;rw[List.take_succ_eq_append_getElem h,List.flatMap_append];simp
theorem Qfa:(Tryz.prog.info? 77).map (fun i=>(i.zero.map (·.cells.size),i.size,i.bytes))=some (some 18,18,240):=by kernel_rfl
theorem Qeh:∃i z,Tryz.prog.info? 77=some i∧i.zero=some z∧z.cells.size=18∧i.size=18∧i.bytes=240:=by
 have h:=Qfa;generalize Tryz.prog.info? 77=x at h
 match x,h with
 |some i,h=>
  rw[Option.map_some] at h;injection h with h;injection h with h1 h2;injection h2 with h2 h3;cases hz:i.zero with
  |none=>rw[hz] at h1;cases h1
  |some z=>
   rw[hz] at h1;injection h1 with h1;exact⟨i,z,rfl,hz,h1,h2,h3⟩
theorem Yco.each {α:Type}{c:Nat}{V:World→α→List Value→Prop}{w:World}{q:Option Addr}{l:List α}(h:Yco c V w q l)(h0:0<l.length):
  ∃b o,q=some ⟨b,o,none⟩∧b<w.heap.size∧∀i,(h:i<l.length)→∃vs,V w l[i] vs∧∀x,Below w.heap.size w x→∀(j:Nat) v,vs[j]? =some v→x.cell? ⟨b,o+i*c+j,none⟩=some v:=by
 rcases h with rfl|⟨b,o,rfl,hl,h⟩
 ·cases h0
 ·refine⟨b,o,rfl,hl,fun i hi=>?_⟩;obtain⟨vs,h1,h2⟩:=h i hi;exact⟨vs,h1,fun x hx j v hj=>(World.cell?_of_block (a:=⟨b,o+i*c+j,none⟩) (hx.block b hl)).trans (h2 j v hj)⟩
theorem Qdq {α:Type}{f:α→Bool}{l:List α}{j:Nat}(hj:j<l.length)(h:(l.take j).all f=true)(h2:f l[j]=true):(l.take (j+1)).all f=true:=by
 rw[List.take_succ_eq_append_getElem hj,List.all_append,h,List.all_cons,h2]
 rfl
theorem Qdr {α:Type}{f:α→Bool}{l:List α}{j:Nat}(hj:j<l.length)(h2:f l[j]=false):l.all f=false:=by
 rw[List.all_eq_false];exact⟨l[j],List.getElem_mem hj,by rw[h2];decide⟩
theorem Yjz {w:World}{q:Option Addr}{l:List RowP}(h:Ye1 w q l)(h0:0<l.length):
  ∃b o,q=some ⟨b,o,none⟩∧b<w.heap.size∧∀i,(hi:i<l.length)→∃(r:Option Addr) (cap:Nat),(r=none→cap=0)∧l[i].cels.length≤maxLen∧Ygg w r l[i].cels∧
   ∀x,Below w.heap.size w x→x.cell? ⟨b,o+i*4,none⟩=some (.bool l[i].head)∧x.cell? ⟨b,o+i*4+1,none⟩=some (.int .i64 l[i].id)∧x.cell? ⟨b,o+i*4+2,none⟩=some (.int .i64 l[i].quant)∧x.cell? ⟨b,o+i*4+3,none⟩=some (.slice r l[i].cels.length cap):=by
 rcases h with rfl|⟨b,o,rfl,hl,h⟩
 ·cases h0
 ·refine⟨b,o,rfl,hl,fun i hi=>?_⟩;obtain⟨vs,⟨r,cap,rfl,hq,hn,hc⟩,h2⟩:=h i hi;have at_:∀x,Below w.heap.size w x→∀(j:Nat) v,[Value.bool l[i].head,.int .i64 l[i].id,.int .i64 l[i].quant,.slice r l[i].cels.length cap][j]? =some v→x.cell? ⟨b,o+i*4+j,none⟩=some v:=
   fun x hx j v hj=>(World.cell?_of_block (a:=⟨b,o+i*4+j,none⟩) (hx.block b hl)).trans (h2 j v hj)
  exact⟨r,cap,hq,hn,hc,fun x hx=>⟨at_ x hx 0 _ rfl,at_ x hx 1 _ rfl,at_ x hx 2 _ rfl,at_ x hx 3 _ rfl⟩⟩
theorem Yig (k:Int):-10000≤Ygf k∧Ygf k≤10000:=by
 unfold Ygf;rcases Yeb k with rfl|rfl|rfl|rfl|rfl|rfl|⟨h,hv⟩
 case _|_|_|_|_|_=>decide +kernel
 unfold Yj4;rw[hv];simp
def Yxo (c:Cel):Bool:=c.skip || (c.kind==0 || c.kind==1)
theorem Y5a (c:Cel)(sl:Nat→Value)(w:World):Calls Tryz.prog 83 #[.agg (Ybe c sl).toArray] w fun e w'=>e=.returned (.bool (Yxo c))∧Below w.heap.size w w':=by
 obtain⟨A,hA,f0,f1,f2,f3,f4,f5,-,-⟩:=Yew c sl;rw[hA];clear hA;have IK:Hid (Yxo c=(c.skip || (c.kind==0 || c.kind==1))):=Lib.hid rfl;generalize Yxo c=ik at IK ⊢;generalize c.skip=s at f1 IK;generalize c.kind=k at f2 IK;cases s
 case true=>
  go_enter Tryz.func83,Tryz.ntmps83
  go_wp2
  go_ret
  exact⟨Yag (by rw[IK.out];rfl),(Below.refl _ w).alloc (Nat.le_refl _) _⟩
 rcases Bool.eq_false_or_eq_true (k==0) with t0|t0
 ·go_enter Tryz.func83,Tryz.ntmps83
  go_wp2
  go_ret
  exact⟨Yag (by rw[IK.out,t0];rfl),(Below.refl _ w).alloc (Nat.le_refl _) _⟩
 ·rcases Bool.eq_false_or_eq_true (k==1) with t1|t1
  ·go_enter Tryz.func83,Tryz.ntmps83
   go_wp2
   go_ret
   exact⟨Yag (by rw[IK.out,t0,t1];rfl),(Below.refl _ w).alloc (Nat.le_refl _) _⟩
  ·go_enter Tryz.func83,Tryz.ntmps83
   go_wp2
   go_ret
   exact⟨Yag (by rw[IK.out,t0,t1];rfl),(Below.refl _ w).alloc (Nat.le_refl _) _⟩
def Ytw (n:Int)(H:Bool)(I Q:Int):Bool:=if H then decide (n≠0∧0≤I∧I≤3∧1≤Q∧Q≤31) else decide (I=0∧Q=0)
set_option maxRecDepth 100000 in
theorem Y54 (n:Int)(hn:0≤n)(H:Bool)(I Q:Int)(sl:Value)(w:World):Calls Tryz.prog 80 #[.int .i64 n,.agg #[.bool H,.int .i64 I,.int .i64 Q,sl]] w fun e w'=>e=.returned (.bool (Ytw n H I Q))∧Below w.heap.size w w':=by
 cases H
 case false=>
  obtain⟨G,hG⟩:∃G,Ytw n false I Q=G:=⟨_,rfl⟩;obtain⟨d1,h1⟩:∃d,(I==0)=d:=⟨_,rfl⟩;obtain⟨d2,h2⟩:∃d,(Q==0)=d:=⟨_,rfl⟩;have hd:G=(d1&&d2):=by
   rw[←hG,←h1,←h2,Bool.eq_iff_iff];simp[Ytw]
  rw[hG];clear hG;have HD:=Lib.hid hd;clear hd;cases d1 <;> cases d2 <;>
  (go_enter Tryz.func80,Tryz.ntmps80
   go_wp2
   go_ret
   exact⟨Yag HD.out.symm,(Below.refl _ w).alloc (Nat.le_refl _) _⟩)
 case true=>
  obtain⟨G,hG⟩:∃G,Ytw n true I Q=G:=⟨_,rfl⟩;obtain⟨d1,h1⟩:∃d,decide (0<n)=d:=⟨_,rfl⟩;obtain⟨d2,h2⟩:∃d,decide (0≤I)=d:=⟨_,rfl⟩;obtain⟨d3,h3⟩:∃d,decide (I≤3)=d:=⟨_,rfl⟩;obtain⟨d4,h4⟩:∃d,decide (1≤Q)=d:=⟨_,rfl⟩;obtain⟨d5,h5⟩:∃d,decide (Q≤31)=d:=⟨_,rfl⟩;have hd:G=(d1&&(d2&&(d3&&(d4&&d5)))):=by
   rw[←hG,←h1,←h2,←h3,←h4,←h5,Bool.eq_iff_iff];simp[Ytw] <;> omega
  rw[hG];clear hG hn;have HD:=Lib.hid hd;have hB:d1=false∨(d1=true∧d2=false)∨(d1=true∧d2=true∧d3=false)∨(d1=true∧d2=true∧d3=true∧d4=false)∨(d1=true∧d2=true∧d3=true∧d4=true∧d5=false)∨(d1=true∧d2=true∧d3=true∧d4=true∧d5=true):=by
   clear hd h1 h2 h3 h4 h5 HD;cases d1 <;> cases d2 <;> cases d3 <;> cases d4 <;> cases d5 <;> simp
  clear hd;rcases hB with rfl|⟨rfl,rfl⟩|⟨rfl,rfl,rfl⟩|⟨rfl,rfl,rfl,rfl⟩|⟨rfl,rfl,rfl,rfl,rfl⟩|⟨rfl,rfl,rfl,rfl,rfl⟩
  all_goals
   go_enter Tryz.func80,Tryz.ntmps80
   go_wp2
   go_ret
   exact⟨Yag HD.out.symm,(Below.refl _ w).alloc (Nat.le_refl _) _⟩
theorem Ywc (h:Shd)(a b:Value)(z:Int)(w:World):Calls Tryz.prog 81 #[.agg (Ya1 h a b z).toArray] w fun e w'=>e=.returned (.int .i64 (Ygf h.fmt))∧Below w.heap.size w w':=by
 obtain⟨A,hA⟩:∃A,(Ya1 h a b z).toArray=A:=⟨_,rfl⟩;have f2:A[2]? =some (.int .i64 h.fmt):=by rw[←hA];rfl
 rw[hA];clear hA;generalize h.fmt=k at f2 ⊢;have c1:=fun w=>Yfw k w;have c2:=fun w=>Yis k w;have wN:IntKind.i64.wrap (Yd4 k*Yj4 k)=Ygf k:=Yil (by have:=Yig k;unfold Ygf at this;omega);generalize Ygf k=N at *;generalize Yd4 k=x at *;generalize Y9x k=x1 at *;generalize Yh5 k=x2 at *;generalize Yj4 k=x3 at *
 go_enter Tryz.func81,Tryz.ntmps81
 go_wp2_with fail
 refine(c1 _).mono ?_;rintro e w1 ⟨rfl,rfl⟩
 go_wp2_with fail
 refine(c2 _).mono ?_;rintro e w1 ⟨rfl,rfl⟩
 go_wp2
 go_ret
 exact⟨rfl,(Below.refl _ w).alloc (Nat.le_refl _) _⟩
theorem Yrl (fn:FuncId)(X:Array Value)(n:Nat)(f:Nat→Bool)(b:Bool)(w:World)(hn:n≤4611686018427387904)(hen:∀args x,(callFunc fn args).run Tryz.prog x=.ok (.enter fn args) x)
  (hc:∀i,i<n→(∀j,j<i→f j=true)→∀x,Below w.heap.size w x→Calls Tryz.prog fn #[.agg X,.int .i64 (i:Int)] x fun e y=>e=.returned (.bool (f i))∧Below x.heap.size x y)
  (hy:(∀i,i<n→f i=true)→b=true)(hf:∀i,i<n→f i=false→b=false):
  Calls Tryz.prog 45 #[.int .i64 (n:Int),.func (.func fn) #[.agg X] #[]] w fun e w'=>e=.returned (.bool b)∧Below w.heap.size w w':=by
 have HC:=Lib.hid hc;have HY:=Lib.hid hy;have HF:=Lib.hid hf;clear hc hy hf
 go_enter Tryz.func45,Tryz.ntmps45
 go_wp2
 go_loopw [7] (fun z wr=>∃i:Nat,i≤n∧z=.int .i64 (i:Int)∧Hid (∀j,j<i→f j=true)∧Below w.heap.size w wr) (fun z _=>n-(intOf z).toNat)
 case atStart=>exact⟨0,Nat.zero_le _,rfl,Lib.hid fun j h=>absurd h (Nat.not_lt_zero j),Below.refl _ _⟩
 case round=>
  obtain⟨i,hi,rfl,ha,hb⟩:=hrel;by_cases hlt:i<n
  ·have t0:decide ((i:Int)<(n:Int))=true:=by simp;omega
   have c1:=HC.out i hlt ha.out wr hb;have NX:=Lib.hid (fun(e:f i=true)=>(fun j hj=>(by
    by_cases h:j<i
    ·exact ha.out j h
    ·obtain rfl:j=i:=by omega
     exact e):∀j,j<i+1→f j=true))
   have NF:=Lib.hid (HF.out i hlt);clear ha;generalize f i=y at c1 NX NF
   go_wp2_with fail
   refine c1.mono ?_;rintro e w1 ⟨rfl,hb1⟩;have hb2:Below w.heap.size w w1:=hb.trans (hb1.mono hb.size);cases y with
   |true=>
    have N:=Lib.hid (NX.out rfl);clear NX NF
    go_wp2
    go_roundw
    case rel=>exact⟨i+1,by omega,by go_num,N,hb2⟩
    case measure=>simp[intOf];omega
   |false=>
    have N:=Lib.hid (NF.out rfl);clear NX NF
    go_wp2
    go_ret
    exact⟨Yag N.out.symm,hb2⟩
  ·obtain rfl:n=i:=by omega
   have t0:decide ((n:Int)<(n:Int))=false:=by simp
   have N:=Lib.hid (HY.out ha.out)
   go_wp2
   go_ret
   exact⟨Yag N.out.symm,hb⟩
theorem Y71 {α:Type}{f:Nat→α→Bool}{s:Nat}{l:List α}{j:Nat}(hj:j<l.length)(h:Ydi f s (l.take j)=true)(h1:f (s+j) l[j]=true):Ydi f s (l.take (j+1))=true:=by
 rw[List.take_succ_eq_append_getElem hj,Yvp,h,List.length_take,show s+min j l.length=s+j by omega,h1];rfl
theorem Y32 {α:Type}{f:Nat→α→Bool}{s:Nat}{l:List α}{j:Nat}(hj:j<l.length)(h1:f (s+j) l[j]=false):Ydi f s l=false:=by
 cases h:Ydi f s l with
 |false=>rfl
 |true=>
  have:=Yin.1 h j hj;rw[h1] at this;cases this
def Yef (k:Int)(n:Nat)(c:Cel):Bool:=!Yxo c || Qan k (n:Int) c.mx c.my
set_option maxRecDepth 100000 in
set_option maxHeartbeats 400000 in
theorem Qbz (S:ShP)(p b:Option Addr)(ca cb i N:Nat)(w:World)(hi:i<S.rows.length)(hn:S.rows.length≤1000)(hN:Ygf S.hd.fmt=(N:Int))(hl:S.rows[i].cels.length=N)(hr:Ye1 w b S.rows):
  Calls Tryz.prog 47 #[.agg (Ya1 S.hd (.slice p S.hd.supp.length ca) (.slice b S.rows.length cb) S.zeros).toArray,.int .i64 (i:Int)] w fun e w'=>e=.returned (.bool (Ydi (Yef S.hd.fmt) (i*N) S.rows[i].cels))∧Below w.heap.size w w':=by
 have hNm:N≤10000:=by have:=Yig S.hd.fmt;omega
 obtain⟨b1,o1,rfl,hb1,hc1⟩:=Yjz hr (by omega);obtain⟨r,cap,hq,hml,hcel,hat⟩:=hc1 i hi;clear hc1 hr;have cE:=fun x=>Ywc S.hd (.slice p S.hd.supp.length ca) (.slice (some ⟨b1,o1,none⟩) S.rows.length cb) S.zeros x;rw[hN] at cE;have cM:=fun n x y w=>Y2r S.hd.fmt n x y w;generalize S.rows[i]=R at hml hcel hat hl ⊢;generalize S.rows.length=n at hi hn cE ⊢;obtain⟨H,I,Q,m⟩:=R;dsimp only at *
 obtain⟨zs,hZ⟩:∃zs,Ya1 S.hd (.slice p S.hd.supp.length ca) (.slice (some ⟨b1,o1,none⟩) n cb) S.zeros=zs:=⟨_,rfl⟩;have z6:zs[6]? =some (.slice (some ⟨b1,o1,none⟩) n cb):=by rw[←hZ];rfl
 have z2:zs[2]? =some (.int .i64 S.hd.fmt):=by rw[←hZ];rfl
 have HSZ:(Tryz.prog.info? 78).map (·.size)=some zs.toArray.size:=by rw[show zs.toArray.size=8 by rw[←hZ];rfl];kernel_rfl
 rw[hZ] at cE ⊢;clear hZ hN;generalize S.hd.fmt=fmt at *;obtain⟨B,hB⟩:∃B,w.heap.size=B:=⟨_,rfl⟩;obtain⟨wA,hwA⟩:∃wA,w.alloc (.cells zs.toArray 78 (0,0))=wA:=⟨_,rfl⟩;have hhA:wA.heap[B]? =some (.cells zs.toArray 78 (0,0)):=by rw[←hwA,←hB];exact heap_alloc_new w _
 have hbA:Below w.heap.size w wA:=by rw[←hwA];exact(Below.refl _ w).alloc (Nat.le_refl _) _
 have hsA:wA.heap.size=B+1:=by rw[←hwA,←hB];simp
 have CL:Hid (∀x,Below (B+1) wA x→x.cell? ⟨B,2,none⟩=some (.int .i64 fmt)∧x.cell? ⟨B,6,none⟩=some (.slice (some ⟨b1,o1,none⟩) n cb)∧x.cell? ⟨b1,o1+i*4+3,none⟩=some (.slice r m.length cap)∧Below w.heap.size w x):=Lib.hid fun x hx=>by
  have h1:=(hx.block B (by omega)).trans hhA;have hwx:=hbA.trans (hx.mono (by omega));exact⟨Yab h1 z2,Yab h1 z6,(hat x hwx).2.2.2,hwx⟩
 obtain⟨F,hF⟩:∃F,i*N=F:=⟨_,rfl⟩;have hFm:F≤10000000:=by rw[←hF];exact Nat.mul_le_mul (show i≤1000 by omega) hNm
 have hm:IntKind.i64.wrap ((i:Int)*(N:Int))=(F:Int):=by rw[←hF,←Int.natCast_mul];exact Yil (by rw[hF];omega)
 rw[hF];have HWA:=Lib.hid hwA;have HB:=Lib.hid hB;have HS:=Lib.hid hsA;have HCEL:=Lib.hid hcel;have HBA:=Lib.hid hbA;have HL:=Lib.hid hl;obtain⟨Y,HYS,hzv⟩:=Yft;clear hwA hat hbA hF hsA z2 z6 hcel hl
 go_enter Tryz.func47,Tryz.ntmps47
 go_wp2_with (rw[HWA.out];with_reducible refine wpList_load_row rfl 78 _ rfl B rfl 78 zs.toArray (0,0) _ hhA Tryz.underlying78 rfl HSZ ?_)
 refine(cE _).mono ?_;rintro e w1 ⟨rfl,hb1⟩;have h1:Below (B+1) wA w1:=hb1.mono (by have:=HS.out;omega);obtain⟨k2,k6,k3,hw1⟩:=CL.out w1 h1;have t1:decide ((i:Int)<(n:Int))=true:=by simp;omega
 clear hb1 hhA
 go_wp2
 clear k2 k6 k3 t1 hm
 go_loopw [19] (fun z wr=>∃j:Nat,z=.int .i64 (j:Int)∧j≤m.length∧Hid (Ydi (Yef fmt) F (m.take j)=true)∧Below (B+1) wA wr) (fun z _=>m.length-(intOf z).toNat)
 case atStart=>exact⟨0,rfl,Nat.zero_le _,Lib.hid rfl,h1⟩
 case round=>
  clear h1 hw1;obtain⟨j,rfl,hj,ha,hb⟩:=hrel;obtain⟨-,-,-,hbw⟩:=CL.out wr hb;have hm4:m.length≤10000:=by have:=HL.out;omega
  by_cases hlt:j<m.length
  ·have t1:decide ((j:Int)<(m.length:Int))=true:=by simp;omega
   obtain⟨b2,o2,rfl,hb2,hcv⟩:=Yco.each HCEL.out (by omega);obtain⟨vs,hV,hvc⟩:=hcv j hlt;have hl18:=hV.shape.1;have hone:=Ygp hV;obtain⟨p3,cap3,hvs,-,-⟩:=hV;have hrg:wr.rangeAt b2 (o2+j*18) vs:=fun k v hk=>hvc wr hbw k v hk;have NX:=Lib.hid (fun h=>Y71 (f:=Yef fmt) hlt ha.out h);have NF:=Lib.hid (fun h=>Y32 (s:=F) (f:=Yef fmt) hlt h)
   have cP:=fun x=>Y5a m[j] (fun i=>.slice (p3 i) (m[j].ev i).length (cap3 i)) x;rw[←hvs] at cP;have cM2:=fun x=>cM ((F:Int)+(j:Int)) m[j].mx m[j].my x;have hs:IntKind.i64.wrap ((F:Int)+(j:Int))=(F:Int)+(j:Int):=Yil (by have:=HL.out;omega);have PM:=Lib.hid (show Yef fmt (F+j) m[j]=(!Yxo m[j] || Qan fmt ((F:Int)+(j:Int)) m[j].mx m[j].my) by unfold Yef;rw[Int.natCast_add])
   obtain⟨wC,hwC⟩:∃wC,wr.alloc (.cells vs.toArray 77 (0,0))=wC:=⟨_,rfl⟩;obtain⟨C,hC⟩:∃C,wr.heap.size=C:=⟨_,rfl⟩;have hhC:wC.heap[C]? =some (.cells vs.toArray 77 (0,0)):=by rw[←hwC,←hC];exact heap_alloc_new wr _
   have hbC:Below (B+1) wA wC:=by rw[←hwC];exact hb.alloc (by have:=hb.size;have:=HS.out;omega) _
   have hsC:wC.heap.size=C+1:=by rw[←hwC,←hC];simp
   have hBC:B+1≤C:=by rw[←hC];have:=hb.size;have:=HS.out;omega
   have HSV:(Tryz.prog.info? 77).map (·.size)=some vs.toArray.size:=by rw[show vs.toArray.size=18 from hl18];kernel_rfl
   have HYV:Y.size=vs.toArray.size:=by rw[HYS];exact hl18.symm
   have v4:vs[4]? =some (.int .i64 m[j].mx):=by rw[hvs];rfl
   have v5:vs[5]? =some (.int .i64 m[j].my):=by rw[hvs];rfl
   have HWC:=Lib.hid hwC;have HHC:=Lib.hid hhC;have HSC:=Lib.hid hsC;clear hvs hvc hcv ha hwC hsC;generalize m[j].mx=mx at *;generalize m[j].my=my at *;generalize Yef fmt (F+j) m[j]=y at *;generalize Yxo m[j]=pk at *;have HC:=Lib.hid hC;clear hC
   go_wp2_with (first|(with_reducible refine Ydh rfl _ rfl b2 (o2+j*18) rfl vs hrg hl18 ?_)|(with_reducible refine Yam rfl 77 _ _ rfl vs.toArray Y 77 rfl rfl HSV HYV hone ?_;rw[HWC.out])|(rw[HC.out];with_reducible refine wpList_load_row rfl 77 _ rfl C rfl 77 vs.toArray (0,0) _ hhC Tryz.underlying77 rfl HSV ?_))
   refine(cP _).mono ?_;rintro e w2 ⟨rfl,hb2'⟩;have hx2:Below (B+1) wA w2:=hbC.trans (hb2'.mono (by have:=HSC.out;omega));have hh2:w2.heap[C]? =some (.cells vs.toArray 77 (0,0)):=(hb2'.block C (by have:=HSC.out;omega)).trans hhC;clear hb2' hhC hrg hbC;obtain⟨k2,-,-,hw2⟩:=CL.out w2 hx2;cases pk with
   |false=>
    have N1:=Lib.hid (NX.out (by rw[PM.out];rfl));clear NX NF PM
    go_wp2
    go_roundw
    case rel=>exact⟨j+1,by go_num,by omega,N1,hx2⟩
    case measure=>simp[intOf];omega
   |true=>
    have hrt:w2.rangeAt C 4 [.int .i64 mx,.int .i64 my]:=fun k v hk=>by
     match k,hk with
     |0,hk=>injection hk with hk;subst hk;exact Yab hh2 v4
     |1,hk=>injection hk with hk;subst hk;exact Yab hh2 v5
    have PM2:=Lib.hid (show y=Qan fmt ((F:Int)+(j:Int)) mx my from PM.out);clear PM
    go_wp2_with (with_reducible refine Yqd (by kernel_rfl) _ rfl C 4 rfl mx my hrt ?_)
    refine(cM2 _).mono ?_;rintro e w3 ⟨rfl,hb3⟩;have hx3:Below (B+1) wA w3:=hx2.trans (hb3.mono (by have:=hx2.size;have:=HS.out;omega));have hw3:=(CL.out w3 hx3).2.2.2;generalize Qan fmt ((F:Int)+(j:Int)) mx my=mv at *;cases mv with
    |true=>
     have N1:=Lib.hid (NX.out PM2.out);clear NX NF PM2
     go_wp2
     go_roundw
     case rel=>exact⟨j+1,by go_num,by omega,N1,hx3⟩
     case measure=>simp[intOf];omega
    |false=>
     have N1:=Lib.hid (NF.out PM2.out);clear NX NF PM2
     go_wp2
     go_ret
     exact⟨Yag N1.out.symm,by first|exact hw3|(rw[←HB.out];exact hw3)⟩
  ·obtain rfl:m.length=j:=by omega
   have t1:decide ((m.length:Int)<(m.length:Int))=false:=by simp
   have AA:=Lib.hid (show Ydi (Yef fmt) F m=true by have:=ha.out;rwa [List.take_length] at this)
   go_wp2
   go_ret
   exact⟨Yag AA.out.symm,by first|exact hbw|(rw[←HB.out];exact hbw)⟩
theorem Y92 {l m:List Int}(hl:l.length=m.length)(h:∀i,i<l.length→l.getD i 0=m.getD i 0):l=m:=by
 refine List.ext_getElem hl fun i h1 h2=>?_;have:=h i h1;rw[show l.getD i 0=l[i] by simp[List.getD,h1],show m.getD i 0=m[i] by simp[List.getD,h2]] at this;exact this
set_option maxRecDepth 100000 in
set_option maxHeartbeats 1000000 in
theorem Y40 (p q:Option Addr)(l m:List Int)(c c':Nat)(w:World)(hp:Yc2 w p l)(hq:Yc2 w q m)(hm:l.length≤maxLen):Calls Tryz.prog 54 #[.slice p l.length c,.slice q m.length c'] w fun e w'=>e=.returned (.bool (decide (l=m)))∧Below w.heap.size w w':=by
 unfold maxLen at hm;by_cases hl:l.length=m.length
 ·have HL:=Lib.hid hl;obtain⟨n,hn⟩:∃n,l.length=n:=⟨_,rfl⟩;have HN:=Lib.hid hn;rw[←hl,hn];rw[hn] at hm;clear hl hn
  go_enter Tryz.func54,Tryz.ntmps54
  go_wp2
  go_loopw [13] (fun z wr=>∃i:Nat,i≤n∧z=.int .i64 i∧Hid (∀j,j<i→l.getD j 0=m.getD j 0)∧Below w.heap.size w wr) (fun z _=>n-(intOf z).toNat)
  case atStart=>exact⟨0,Nat.zero_le _,rfl,Lib.hid fun j h=>absurd h (Nat.not_lt_zero j),Below.refl _ _⟩
  case round=>
   obtain⟨i,hi,rfl,hs,hb⟩:=hrel;by_cases hlt:i<n
   ·have t0:decide ((i:Int)<(n:Int))=true:=by simp;omega
    have t1:decide (i<n)=true:=by simpa using hlt
    have hil:i<l.length:=by rw[HN.out];exact hlt
    have him:i<m.length:=by rw[←HL.out];exact hil
    obtain⟨b,o,rfl,hbb,hc⟩:=(hp.below hb).hold (by omega);obtain⟨b',o',rfl,hbb',hd⟩:=(hq.below hb).hold (by omega);have c0:=hc _ (Below.refl _ _) i hil;have d0:=hd _ (Below.refl _ _) i him;have YE:=Lib.hid (fun(e:l.getD i 0=m.getD i 0) j (hj:j<i+1)=>(by
     by_cases h:j<i
     ·exact hs.out j h
     ·obtain rfl:j=i:=by omega
      exact e:l.getD j 0=m.getD j 0))
    have NO:=Lib.hid (fun(e:¬ l.getD i 0=m.getD i 0)=>(decide_eq_false (fun h=>e (by rw[h])):decide (l=m)=false));clear hc hd hbb hbb' hs;have hbd:=hb.drew;generalize l.getD i 0=x at *;generalize m.getD i 0=y at *;by_cases e:x=y
    ·have N:=Lib.hid (YE.out e);subst e;have gx:(x != x)=false:=by simp
     clear YE NO
     go_wp2
     go_region
     go_wp2
     go_roundw
     case rel=>exact⟨i+1,by omega,by go_num,N,hbd⟩
     case measure=>simp[intOf];omega
    ·have N:=Lib.hid (NO.out e);have gx:(x != y)=true:=by rw[bne_iff_ne];exact e
     clear YE NO e
     go_wp2
     go_region
     go_wp2
     go_ret
     exact⟨Yag N.out.symm,hbd⟩
   ·obtain rfl:i=n:=by omega
    have t0:decide ((i:Int)<(i:Int))=false:=by simp
    have t1:decide (i<i)=false:=by simp
    have F:=Lib.hid (show decide (l=m)=true by rw[decide_eq_true_iff];exact Y92 HL.out fun j hj=>hs.out j (by rw[←HN.out];exact hj))
    go_wp2
    go_ret
    exact⟨Yag F.out.symm,hb⟩
 ·have F:=Lib.hid (show decide (l=m)=false by rw[decide_eq_false_iff_not];intro e;exact hl (by rw[e]));have g0:((l.length:Int) != (m.length:Int))=true:=by rw[bne_iff_ne];omega
  clear hp hq;generalize l.length=n1 at hl g0 hm ⊢;generalize m.length=n2 at hl g0 ⊢
  go_enter Tryz.func54,Tryz.ntmps54
  go_wp2
  go_ret
  exact⟨Yag F.out.symm,Below.refl _ _⟩
set_option maxRecDepth 100000 in
set_option maxHeartbeats 1000000 in
theorem Yz4 (p q:Option Addr)(l m:List Cel)(c c':Nat)(w:World)(hp:Ygg w p l)(hq:Ygg w q m)(hm:l.length≤maxLen)(hlc:∀c∈l,∀k,k<6→(c.ev k).length≤1048576)(hmc:∀c∈m,∀k,k<6→(c.ev k).length≤1048576):
  Calls Tryz.prog 88 #[.slice p l.length c,.slice q m.length c',.func (.func 89) #[] #[]] w fun e w'=>e=.returned (.bool (decide (l.length=m.length)&&(l.zip m).all fun p=>Yqo p.1 p.2))∧Below w.heap.size w w':=by
 unfold maxLen at hm;obtain⟨R,hR⟩:∃r,(decide (l.length=m.length)&&(l.zip m).all fun p=>Yqo p.1 p.2)=r:=⟨_,rfl⟩;rw[hR];by_cases hl:l.length=m.length
 case neg=>
  have F:=Lib.hid (show R=false by rw[←hR,decide_eq_false hl];rfl);have g0:((l.length:Int) != (m.length:Int))=true:=by rw[bne_iff_ne];omega
  clear hp hq hR;generalize l.length=n1 at hl g0 hm ⊢;generalize m.length=n2 at hl g0 ⊢
  go_enter Tryz.func88,Tryz.ntmps88
  go_wp2
  go_ret
  exact⟨Yag F.out.symm,Below.refl _ _⟩
 have HR:=Lib.hid (show R=(l.zip m).all (fun p=>Yqo p.1 p.2) by rw[←hR,decide_eq_true hl];rfl);have HL:=Lib.hid hl;obtain⟨n,hn⟩:∃n,l.length=n:=⟨_,rfl⟩;have HN:=Lib.hid hn;rw[←hl,hn];rw[hn] at hm;have HP:=Lib.hid hp;have HQ:=Lib.hid hq;obtain⟨Y,HYS,hzv⟩:=Yft;clear hl hn hR hp hq
 go_enter Tryz.func88,Tryz.ntmps88
 go_wp2
 go_loopw [17] (fun z wr=>∃i:Nat,i≤n∧z=.int .i64 i∧Hid ((((l.take i).zip (m.take i)).all fun p=>Yqo p.1 p.2)=true)∧Below w.heap.size w wr) (fun z _=>n-(intOf z).toNat)
 case atStart=>exact⟨0,Nat.zero_le _,rfl,Lib.hid rfl,Below.refl _ _⟩
 case round=>
  obtain⟨i,hi,rfl,ha,hb⟩:=hrel;by_cases hlt:i<n
  ·have t0:decide ((i:Int)<(n:Int))=true:=by simp;omega
   have t1:decide (i<n)=true:=by simpa using hlt
   have hil:i<l.length:=by rw[HN.out];exact hlt
   have him:i<m.length:=by rw[←HL.out];exact hil
   obtain⟨b1,o1,rfl,hb1,hcb1⟩:=Yco.each HP.out (by omega);obtain⟨xs,hVx,hxc⟩:=hcb1 i hil;have hxl:=hVx.shape.1;have hxo:=Ygp hVx;obtain⟨px,kx,hxs,-,hxe⟩:=hVx;have hxn:=hlc l[i] (List.getElem_mem hil);clear hcb1;obtain⟨b2,o2,rfl,hb2,hcb2⟩:=Yco.each HQ.out (by omega);obtain⟨ys,hVy,hyc⟩:=hcb2 i him;have hyl:=hVy.shape.1;have hyo:=Ygp hVy;obtain⟨py,ky,hys,-,hye⟩:=hVy
   have hyn:=hmc m[i] (List.getElem_mem him);clear hcb2;have NX:=Lib.hid (fun h=>Yvb (f:=Yqo) hil him ha.out h);have NF:=Lib.hid (fun h=>Yva (f:=Yqo) hil him h);obtain⟨C,hC⟩:∃C,wr.heap.size=C:=⟨_,rfl⟩;obtain⟨wC,hwC⟩:∃wC,wr.alloc (.cells xs.toArray 77 (0,0))=wC:=⟨_,rfl⟩;obtain⟨wD,hwD⟩:∃wD,wC.alloc (.cells ys.toArray 77 (0,0))=wD:=⟨_,rfl⟩;have hsC:wC.heap.size=C+1:=by rw[←hwC,←hC];simp
   have hbC:Below wr.heap.size wr wC:=by rw[←hwC];exact(Below.refl _ wr).alloc (Nat.le_refl _) _
   have hbD:Below wr.heap.size wr wD:=by rw[←hwD];exact hbC.alloc hbC.size _
   have hrgC:wC.rangeAt b2 (o2+i*18) ys:=fun k v hk=>hyc wC (hb.trans (hbC.mono hb.size)) k v hk;have hrgA:wr.rangeAt b1 (o1+i*18) xs:=fun k v hk=>hxc wr hb k v hk;have hhC:wD.heap[C]? =some (.cells xs.toArray 77 (0,0)):=by rw[←hwD];refine Ya8 ?_;rw[←hwC,←hC];exact heap_alloc_new wr _
   have hhD:wD.heap[C+1]? =some (.cells ys.toArray 77 (0,0)):=by rw[←hwD,←hsC];exact heap_alloc_new wC _
   have hbwD:=hb.trans (hbD.mono hb.size);have HSX:(Tryz.prog.info? 77).map (·.size)=some xs.toArray.size:=by rw[show xs.toArray.size=18 from hxl];kernel_rfl
   have HSY:(Tryz.prog.info? 77).map (·.size)=some ys.toArray.size:=by rw[show ys.toArray.size=18 from hyl];kernel_rfl
   have HYX:Y.size=xs.toArray.size:=by rw[HYS];exact hxl.symm
   have HYY:Y.size=ys.toArray.size:=by rw[HYS];exact hyl.symm
   have hcon:=Yv0 l[i] m[i] px py (fun k=>(l[i].ev k).length) (fun k=>(m[i].ev k).length) kx ky wD (fun k hk=>⟨rfl,hxn k hk,(hxe k hk).2.below hbwD⟩) (fun k hk=>⟨rfl,hyn k hk,(hye k hk).2.below hbwD⟩);rw[←hxs,←hys] at hcon;clear hxs hys hxe hye hxn hyn;have HWC:=Lib.hid hwC;have HWD:=Lib.hid hwD;have HC:=Lib.hid hC;have HSC:=Lib.hid hsC;clear hwC hwD hC hsC hbC hbD hxc hyc ha
   generalize Yqo l[i] m[i]=y at *
   go_wp2_with (first|(with_reducible refine Ydh rfl _ rfl b1 (o1+i*18) rfl xs hrgA hxl ?_)|(with_reducible refine Ydh rfl _ rfl b2 (o2+i*18) rfl ys hrgC hyl ?_)|(with_reducible refine Yam rfl 77 _ _ rfl xs.toArray Y 77 rfl rfl HSX HYX hxo ?_;rw[HWC.out,HC.out])|(with_reducible refine Yam rfl 77 _ _ rfl ys.toArray Y 77 rfl rfl HSY HYY hyo ?_;rw[HWD.out,HSC.out])|(with_reducible refine wpList_load_row rfl 77 _ rfl C rfl 77 xs.toArray (0,0) _ hhC Tryz.underlying77 rfl HSX ?_)|(with_reducible refine wpList_load_row rfl 77 _ rfl (C+1) rfl 77 ys.toArray (0,0) _ hhD Tryz.underlying77 rfl HSY ?_))
   refine hcon.mono ?_;rintro e w2 ⟨rfl,hb2'⟩;have hbw2:=hbwD.trans (hb2'.mono hbwD.size);cases y with
   |true=>
    have N:=Lib.hid (NX.out rfl);clear NX NF
    go_wp2
    go_roundw
    case rel=>exact⟨i+1,by omega,by go_num,N,hbw2⟩
    case measure=>simp[intOf];omega
   |false=>
    have N:=Lib.hid (NF.out rfl);clear NX NF
    go_wp2
    go_ret
    exact⟨Yag (by rw[HR.out,N.out]),hbw2⟩
  ·obtain rfl:i=n:=by omega
   have t0:decide ((i:Int)<(i:Int))=false:=by simp
   have t1:decide (i<i)=false:=by simp
   have N:=Lib.hid (show (l.zip m).all (fun p=>Yqo p.1 p.2)=true by
    have h:=ha.out;rw[List.take_of_length_le (by have:=HN.out;omega),List.take_of_length_le (by have:=HN.out;have:=HL.out;omega)] at h;exact h)
   go_wp2
   go_ret
   exact⟨Yag (by rw[HR.out,N.out]),hb⟩
set_option maxRecDepth 100000 in
set_option maxHeartbeats 1000000 in
theorem Yxu (a b:RowP)(p q:Option Addr)(c c':Nat)(w:World)(hp:Ygg w p a.cels)(hq:Ygg w q b.cels)(hm:a.cels.length≤maxLen)(hlc:∀c∈a.cels,∀k,k<6→(c.ev k).length≤1048576)(hmc:∀c∈b.cels,∀k,k<6→(c.ev k).length≤1048576):
  Calls Tryz.prog 56 #[.agg #[.bool a.head,.int .i64 a.id,.int .i64 a.quant,.slice p a.cels.length c],.agg #[.bool b.head,.int .i64 b.id,.int .i64 b.quant,.slice q b.cels.length c']] w fun e w'=>e=.returned (.bool (rwB a b))∧Below w.heap.size w w':=by
 obtain⟨H,I,Q,l⟩:=a;obtain⟨H',I',Q',m⟩:=b;dsimp only at *;have hcon:=fun x (hx:Below w.heap.size w x)=>Yz4 p q l m c c' x (hp.below hx) (hq.below hx) hm hlc hmc;have hrw:rwB ⟨H,I,Q,l⟩ ⟨H',I',Q',m⟩=((H==H'&&(I==I'&&Q==Q'))&&(decide (l.length=m.length)&&(l.zip m).all fun p=>Yqo p.1 p.2)):=rfl;generalize (decide (l.length=m.length)&&(l.zip m).all fun p=>Yqo p.1 p.2)=ec at *
 obtain⟨R,hR⟩:∃r,rwB ⟨H,I,Q,l⟩ ⟨H',I',Q',m⟩=r:=⟨_,rfl⟩;rw[hR] at hrw ⊢;obtain⟨d2,h2⟩:∃d,(I==I')=d:=⟨_,rfl⟩;obtain⟨d3,h3⟩:∃d,(Q==Q')=d:=⟨_,rfl⟩;rw[h2,h3] at hrw
 have hb0:Below w.heap.size w ((w.alloc (.cells #[.bool H,.int .i64 I,.int .i64 Q,.slice p l.length c] 46 (0,0))).alloc (.cells #[.bool H',.int .i64 I',.int .i64 Q',.slice q m.length c'] 46 (0,0))):=((Below.refl _ w).alloc (Nat.le_refl _) _).alloc (by simp) _;have HBO:=Lib.hid hb0;clear hR hp hq hlc hmc hb0;have hH:H'=H∨H' = !H:=by cases H <;> cases H' <;> simp
 rcases hH with rfl|rfl
 case inr=>
  have F:=Lib.hid (show R=false by rw[hrw];cases H <;> rfl);clear hrw;cases H <;>
  (go_enter Tryz.func56,Tryz.ntmps56
   go_wp2
   go_ret
   exact⟨Yag F.out.symm,HBO.out⟩)
 have hrw2:R=((d2&&d3)&&ec):=by rw[hrw];simp
 have HRW:=Lib.hid hrw2;clear hrw hrw2;have hB:d2=false∨(d2=true∧d3=false)∨(d2=true∧d3=true):=by
  clear h2 h3 HRW;cases d2 <;> cases d3 <;> simp
 rcases hB with rfl|⟨rfl,rfl⟩|⟨rfl,rfl⟩
 case _|_=>
  cases H' <;>
  (go_enter Tryz.func56,Tryz.ntmps56
   go_wp2
   go_ret
   exact⟨Yag HRW.out.symm,HBO.out⟩)
 have c1:=hcon _ HBO.out;have HRW2:=Lib.hid (show R=ec from HRW.out);have HCO:=Lib.hid c1;clear hcon HRW c1;cases H' <;>
 (go_enter Tryz.func56,Tryz.ntmps56
  go_wp2_with fail
  refine HCO.out.mono ?_;rintro e w2 ⟨rfl,hb2⟩;have hbw2:=HBO.out.trans (hb2.mono HBO.out.size)
  go_wp2
  go_ret
  exact⟨Yag HRW2.out.symm,hbw2⟩)
set_option maxRecDepth 100000 in
set_option maxHeartbeats 1000000 in
theorem Yz5 (p q:Option Addr)(l m:List RowP)(c c':Nat)(w:World)(hp:Ye1 w p l)(hq:Ye1 w q m)(hm:l.length≤maxLen)(hlc:∀r∈l,∀c∈r.cels,∀k,k<6→(c.ev k).length≤1048576)(hmc:∀r∈m,∀c∈r.cels,∀k,k<6→(c.ev k).length≤1048576):
  Calls Tryz.prog 55 #[.slice p l.length c,.slice q m.length c',.func (.func 56) #[] #[]] w fun e w'=>e=.returned (.bool (decide (l.length=m.length)&&(l.zip m).all fun p=>rwB p.1 p.2))∧Below w.heap.size w w':=by
 unfold maxLen at hm;obtain⟨R,hR⟩:∃r,(decide (l.length=m.length)&&(l.zip m).all fun p=>rwB p.1 p.2)=r:=⟨_,rfl⟩;rw[hR];by_cases hl:l.length=m.length
 case neg=>
  have F:=Lib.hid (show R=false by rw[←hR,decide_eq_false hl];rfl);have g0:((l.length:Int) != (m.length:Int))=true:=by rw[bne_iff_ne];omega
  clear hp hq hR;generalize l.length=n1 at hl g0 hm ⊢;generalize m.length=n2 at hl g0 ⊢
  go_enter Tryz.func55,Tryz.ntmps55
  go_wp2
  go_ret
  exact⟨Yag F.out.symm,Below.refl _ _⟩
 have HR:=Lib.hid (show R=(l.zip m).all (fun p=>rwB p.1 p.2) by rw[←hR,decide_eq_true hl];rfl);have HL:=Lib.hid hl;obtain⟨n,hn⟩:∃n,l.length=n:=⟨_,rfl⟩;have HN:=Lib.hid hn;rw[←hl,hn];rw[hn] at hm;have HP:=Lib.hid hp;have HQ:=Lib.hid hq;obtain⟨Y,HYS,hzv⟩:=Yk1;clear hl hn hR hp hq
 go_enter Tryz.func55,Tryz.ntmps55
 go_wp2
 go_loopw [17] (fun z wr=>∃i:Nat,i≤n∧z=.int .i64 i∧Hid ((((l.take i).zip (m.take i)).all fun p=>rwB p.1 p.2)=true)∧Below w.heap.size w wr) (fun z _=>n-(intOf z).toNat)
 case atStart=>exact⟨0,Nat.zero_le _,rfl,Lib.hid rfl,Below.refl _ _⟩
 case round=>
  obtain⟨i,hi,rfl,ha,hb⟩:=hrel;by_cases hlt:i<n
  ·have t0:decide ((i:Int)<(n:Int))=true:=by simp;omega
   have t1:decide (i<n)=true:=by simpa using hlt
   have hil:i<l.length:=by rw[HN.out];exact hlt
   have him:i<m.length:=by rw[←HL.out];exact hil
   obtain⟨b1,o1,rfl,hb1,hcb1⟩:=Yjz HP.out (by omega);obtain⟨rx,kx,hqx,hmx,hcelx,hatx⟩:=hcb1 i hil;obtain⟨xs,hxs⟩:∃rs,[Value.bool l[i].head,.int .i64 l[i].id,.int .i64 l[i].quant,.slice rx l[i].cels.length kx]=rs:=⟨_,rfl⟩;have hxl:xs.length=4:=by rw[←hxs];rfl
   have hxo:xs.toArray.all (·.oneCell')=true:=by rw[←hxs];simp[Value.oneCell']
   have hxc:∀x,Below w.heap.size w x→∀(k:Nat) v,xs[k]? =some v→x.cell? ⟨b1,o1+i*4+k,none⟩=some v:=fun x hx k v hk=>by
    obtain⟨a0,a1,a2,a3⟩:=hatx x hx;rw[←hxs] at hk
    match k,hk with
    |0,hk=>injection hk with hk;subst hk;exact a0
    |1,hk=>injection hk with hk;subst hk;exact a1
    |2,hk=>injection hk with hk;subst hk;exact a2
    |3,hk=>injection hk with hk;subst hk;exact a3
   have hxn:=hlc l[i] (List.getElem_mem hil);clear hcb1 hatx;obtain⟨b2,o2,rfl,hb2,hcb2⟩:=Yjz HQ.out (by omega);obtain⟨ry,ky,hqy,hmy,hcely,haty⟩:=hcb2 i him;obtain⟨ys,hys⟩:∃rs,[Value.bool m[i].head,.int .i64 m[i].id,.int .i64 m[i].quant,.slice ry m[i].cels.length ky]=rs:=⟨_,rfl⟩;have hyl:ys.length=4:=by rw[←hys];rfl
   have hyo:ys.toArray.all (·.oneCell')=true:=by rw[←hys];simp[Value.oneCell']
   have hyc:∀x,Below w.heap.size w x→∀(k:Nat) v,ys[k]? =some v→x.cell? ⟨b2,o2+i*4+k,none⟩=some v:=fun x hx k v hk=>by
    obtain⟨a0,a1,a2,a3⟩:=haty x hx;rw[←hys] at hk
    match k,hk with
    |0,hk=>injection hk with hk;subst hk;exact a0
    |1,hk=>injection hk with hk;subst hk;exact a1
    |2,hk=>injection hk with hk;subst hk;exact a2
    |3,hk=>injection hk with hk;subst hk;exact a3
   have hyn:=hmc m[i] (List.getElem_mem him);clear hcb2 haty;have NX:=Lib.hid (fun h=>Yvb (f:=rwB) hil him ha.out h);have NF:=Lib.hid (fun h=>Yva (f:=rwB) hil him h);obtain⟨C,hC⟩:∃C,wr.heap.size=C:=⟨_,rfl⟩;obtain⟨wC,hwC⟩:∃wC,wr.alloc (.cells xs.toArray 46 (0,0))=wC:=⟨_,rfl⟩;obtain⟨wD,hwD⟩:∃wD,wC.alloc (.cells ys.toArray 46 (0,0))=wD:=⟨_,rfl⟩;have hsC:wC.heap.size=C+1:=by rw[←hwC,←hC];simp
   have hbC:Below wr.heap.size wr wC:=by rw[←hwC];exact(Below.refl _ wr).alloc (Nat.le_refl _) _
   have hbD:Below wr.heap.size wr wD:=by rw[←hwD];exact hbC.alloc hbC.size _
   have hrgC:wC.rangeAt b2 (o2+i*4) ys:=fun k v hk=>hyc wC (hb.trans (hbC.mono hb.size)) k v hk;have hrgA:wr.rangeAt b1 (o1+i*4) xs:=fun k v hk=>hxc wr hb k v hk;have hhC:wD.heap[C]? =some (.cells xs.toArray 46 (0,0)):=by rw[←hwD];refine Ya8 ?_;rw[←hwC,←hC];exact heap_alloc_new wr _
   have hhD:wD.heap[C+1]? =some (.cells ys.toArray 46 (0,0)):=by rw[←hwD,←hsC];exact heap_alloc_new wC _
   have hbwD:=hb.trans (hbD.mono hb.size);have HSX:(Tryz.prog.info? 46).map (·.size)=some xs.toArray.size:=by rw[show xs.toArray.size=4 from hxl];kernel_rfl
   have HSY:(Tryz.prog.info? 46).map (·.size)=some ys.toArray.size:=by rw[show ys.toArray.size=4 from hyl];kernel_rfl
   have HYX:Y.size=xs.toArray.size:=by rw[HYS];exact hxl.symm
   have HYY:Y.size=ys.toArray.size:=by rw[HYS];exact hyl.symm
   have hcon:=Yxu l[i] m[i] rx ry kx ky wD (hcelx.below hbwD) (hcely.below hbwD) hmx hxn hyn;rw[show (#[Value.bool l[i].head,.int .i64 l[i].id,.int .i64 l[i].quant,.slice rx l[i].cels.length kx]:Array Value)=xs.toArray by rw[←hxs],show (#[Value.bool m[i].head,.int .i64 m[i].id,.int .i64 m[i].quant,.slice ry m[i].cels.length ky]:Array Value)=ys.toArray by rw[←hys]] at hcon
   clear hxs hys hcelx hcely hxn hyn hmx hmy;have HWC:=Lib.hid hwC;have HWD:=Lib.hid hwD;have HC:=Lib.hid hC;have HSC:=Lib.hid hsC;clear hwC hwD hC hsC hbC hbD hxc hyc ha;generalize rwB l[i] m[i]=y at *
   go_wp2_with (first|(with_reducible refine Ye0 rfl _ rfl b1 (o1+i*4) rfl xs hrgA hxl ?_)|(with_reducible refine Ye0 rfl _ rfl b2 (o2+i*4) rfl ys hrgC hyl ?_)|(with_reducible refine Yam rfl 46 _ _ rfl xs.toArray Y 46 rfl rfl HSX HYX hxo ?_;rw[HWC.out,HC.out])|(with_reducible refine Yam rfl 46 _ _ rfl ys.toArray Y 46 rfl rfl HSY HYY hyo ?_;rw[HWD.out,HSC.out])|(with_reducible refine wpList_load_row rfl 46 _ rfl C rfl 46 xs.toArray (0,0) _ hhC Tryz.underlying46 rfl HSX ?_)|(with_reducible refine wpList_load_row rfl 46 _ rfl (C+1) rfl 46 ys.toArray (0,0) _ hhD Tryz.underlying46 rfl HSY ?_))
   refine hcon.mono ?_;rintro e w2 ⟨rfl,hb2'⟩;have hbw2:=hbwD.trans (hb2'.mono hbwD.size);cases y with
   |true=>
    have N:=Lib.hid (NX.out rfl);clear NX NF
    go_wp2
    go_roundw
    case rel=>exact⟨i+1,by omega,by go_num,N,hbw2⟩
    case measure=>simp[intOf];omega
   |false=>
    have N:=Lib.hid (NF.out rfl);clear NX NF
    go_wp2
    go_ret
    exact⟨Yag (by rw[HR.out,N.out]),hbw2⟩
  ·obtain rfl:i=n:=by omega
   have t0:decide ((i:Int)<(i:Int))=false:=by simp
   have t1:decide (i<i)=false:=by simp
   have N:=Lib.hid (show (l.zip m).all (fun p=>rwB p.1 p.2)=true by
    have h:=ha.out;rw[List.take_of_length_le (by have:=HN.out;omega),List.take_of_length_le (by have:=HN.out;have:=HL.out;omega)] at h;exact h)
   go_wp2
   go_ret
   exact⟨Yag (by rw[HR.out,N.out]),hb⟩
set_option maxRecDepth 100000 in
set_option maxHeartbeats 4000000 in
theorem Y04 (S S':ShP)(p b p' b':Option Addr)(ca cb ca' cb':Nat)(w:World)(hl:S.hd.supp.length≤maxLen)(hn:S.rows.length≤maxLen)(hs:Yc2 w p S.hd.supp)(hs':Yc2 w p' S'.hd.supp)(hr:Ye1 w b S.rows)(hr':Ye1 w b' S'.rows)
  (hc:∀c∈Yes S,∀k,k<6→(c.ev k).length≤1048576)(hc':∀c∈Yes S',∀k,k<6→(c.ev k).length≤1048576):
  Calls Tryz.prog 25 #[.agg (Ya1 S.hd (.slice p S.hd.supp.length ca) (.slice b S.rows.length cb) S.zeros).toArray,.agg (Ya1 S'.hd (.slice p' S'.hd.supp.length ca') (.slice b' S'.rows.length cb') S'.zeros).toArray] w fun e w'=>e=.returned (.bool (shB S S'))∧Below w.heap.size w w':=by
 have hcI:=fun x (hx:Below w.heap.size w x)=>Y40 p p' S.hd.supp S'.hd.supp ca ca' x (hs.below hx) (hs'.below hx) hl;have hcR:=fun x (hx:Below w.heap.size w x)=>Yz5 b b' S.rows S'.rows cb cb' x (hr.below hx) (hr'.below hx) hn (fun r h c h2=>hc c (List.mem_flatMap.2 ⟨r,h,h2⟩)) (fun r h c h2=>hc' c (List.mem_flatMap.2 ⟨r,h,h2⟩));obtain⟨⟨ref,flags,fmt,inter,quant,supp⟩,rows,zeros⟩:=S
 obtain⟨⟨ref',flags',fmt',inter',quant',supp'⟩,rows',zeros'⟩:=S';unfold Ya1;dsimp only at *;clear hs hs' hr hr' hc hc'
 have hsh:shB ⟨⟨ref,flags,fmt,inter,quant,supp⟩,rows,zeros⟩ ⟨⟨ref',flags',fmt',inter',quant',supp'⟩,rows',zeros'⟩=((ref==ref'&&(flags==flags'&&(fmt==fmt'&&(inter==inter'&&(quant==quant'&&decide (supp=supp'))))))&&(zeros==zeros'&&(decide (rows.length=rows'.length)&&(rows.zip rows').all fun p=>rwB p.1 p.2))):=rfl
 generalize (decide (rows.length=rows'.length)&&(rows.zip rows').all fun p=>rwB p.1 p.2)=er at *;generalize decide (supp=supp')=es at *;generalize rows.length=n at *;generalize rows'.length=n' at *;generalize supp.length=k at *;generalize supp'.length=k' at *;obtain⟨R,hR⟩:∃r,shB ⟨⟨ref,flags,fmt,inter,quant,supp⟩,rows,zeros⟩ ⟨⟨ref',flags',fmt',inter',quant',supp'⟩,rows',zeros'⟩=r:=⟨_,rfl⟩
 rw[hR] at hsh ⊢;clear hR;obtain⟨d1,h1⟩:∃d,(ref==ref')=d:=⟨_,rfl⟩;obtain⟨d2,h2⟩:∃d,(flags==flags')=d:=⟨_,rfl⟩;obtain⟨d3,h3⟩:∃d,(fmt==fmt')=d:=⟨_,rfl⟩;obtain⟨d5,h5⟩:∃d,(quant==quant')=d:=⟨_,rfl⟩;obtain⟨d6,h6⟩:∃d,(zeros==zeros')=d:=⟨_,rfl⟩;rw[h1,h2,h3,h5,h6] at hsh;obtain⟨A,hA⟩:∃A,w.heap.size=A:=⟨_,rfl⟩
 obtain⟨zs,hzs⟩:∃zs,[Value.int .i64 ref,.int .i64 flags,.int .i64 fmt,.bool inter,.int .i64 quant,.slice p k ca,.slice b n cb,.int .i64 zeros]=zs:=⟨_,rfl⟩
 obtain⟨wA,hwA⟩:∃wA,(w.alloc (.cells #[.int .i64 ref,.int .i64 flags,.int .i64 fmt,.bool inter,.int .i64 quant,.slice p k ca,.slice b n cb,.int .i64 zeros] 39 (0,0))).alloc (.cells #[.int .i64 ref',.int .i64 flags',.int .i64 fmt',.bool inter',.int .i64 quant',.slice p' k' ca',.slice b' n' cb',.int .i64 zeros'] 39 (0,0))=wA:=⟨_,rfl⟩
 have hb0:Below w.heap.size w wA:=by rw[←hwA];exact((Below.refl _ w).alloc (Nat.le_refl _) _).alloc (by simp) _
 have k6:wA.cell? ⟨A,6,none⟩=some (.slice b n cb):=Yab (cs:=[.int .i64 ref,.int .i64 flags,.int .i64 fmt,.bool inter,.int .i64 quant,.slice p k ca,.slice b n cb,.int .i64 zeros]) (by rw[←hwA,←hA];exact Ya8 (heap_alloc_new w _)) rfl
 have k6':wA.cell? ⟨A+1,6,none⟩=some (.slice b' n' cb'):=Yab (cs:=[.int .i64 ref',.int .i64 flags',.int .i64 fmt',.bool inter',.int .i64 quant',.slice p' k' ca',.slice b' n' cb',.int .i64 zeros']) (by
  rw[←hwA,←hA];exact Yu3 w _ _) rfl
 have KK:Hid (∀x,Below wA.heap.size wA x→(x.cell? ⟨A,6,none⟩=some (.slice b n cb)∧x.cell? ⟨A+1,6,none⟩=some (.slice b' n' cb'))∧Below w.heap.size w x):=Lib.hid fun x hx=>
  ⟨⟨(World.cell?_of_block (a:=⟨A,6,none⟩) (hx.block A (World.block_lt_of_cell? wA ⟨A,6,none⟩ k6))).trans k6,(World.cell?_of_block (a:=⟨A+1,6,none⟩) (hx.block (A+1) (World.block_lt_of_cell? wA ⟨A+1,6,none⟩ k6'))).trans k6'⟩,hb0.trans (hx.mono hb0.size)⟩
 have CI:=Lib.hid (hcI wA hb0);have CR:=Lib.hid hcR;have HWA:=Lib.hid hwA;have HA:=Lib.hid hA;have HBO:=Lib.hid hb0;clear hwA hA hb0 k6 k6' hcI hcR hzs;have hB:d1=false∨(d1=true∧d2=false)∨(d1=true∧d2=true∧d3=false)∨(d1=true∧d2=true∧d3=true):=by
  clear h1 h2 h3 hsh;cases d1 <;> cases d2 <;> cases d3 <;> simp
 rcases hB with rfl|⟨rfl,rfl⟩|⟨rfl,rfl,rfl⟩|⟨rfl,rfl,rfl⟩
 case _|_|_=>
  have F:=Lib.hid (show R=false from hsh);clear hsh KK CI CR
  go_enter Tryz.func25,Tryz.ntmps25
  go_wp2
  go_ret
  rw[HWA.out];exact⟨by rw[F.out];rfl,HBO.out⟩
 have hH:inter'=inter∨inter' = !inter:=by cases inter <;> cases inter' <;> simp
 rcases hH with rfl|rfl
 case inr=>
  have F:=Lib.hid (show R=false by rw[hsh];cases inter <;> rfl);clear hsh KK CI CR;cases inter <;>
  (go_enter Tryz.func25,Tryz.ntmps25
   go_wp2
   go_ret
   first|(rw[HWA.out];exact⟨by rw[F.out];rfl,HBO.out⟩)|(have h:=HWA.out;simp only[Bool.not_true,Bool.not_false] at h;rw[h];exact⟨by rw[F.out];rfl,HBO.out⟩))
 have hsh2:R=((d5&&es)&&(d6&&er)):=by rw[hsh];simp
 have HSH:=Lib.hid hsh2;clear hsh hsh2;have hB:d5=false∨(d5=true∧d6=false)∨(d5=true∧d6=true):=by
  clear h5 h6 HSH;cases d5 <;> cases d6 <;> simp
 rcases hB with rfl|⟨rfl,rfl⟩|⟨rfl,rfl⟩
 case _|_=>
  have F:=Lib.hid (show R=false by rw[HSH.out];first|rfl|(cases es <;> rfl));clear HSH KK CI CR;cases inter' <;>
  (go_enter Tryz.func25,Tryz.ntmps25
   go_wp2
   go_ret
   rw[HWA.out];exact⟨by rw[F.out];rfl,HBO.out⟩)
 have HS2:=Lib.hid (show R=(es&&er) by rw[HSH.out];simp);clear HSH;cases inter' <;>
 (go_enter Tryz.func25,Tryz.ntmps25
  go_wp2_with fail
  rw[HWA.out,HA.out];refine CI.out.mono ?_;rintro e w2 ⟨rfl,hb2⟩;obtain⟨⟨k6,k6'⟩,hbw2⟩:=KK.out w2 hb2;cases es with
  |false=>
   have F:=Lib.hid (show R=false from HS2.out)
   go_wp2
   go_ret
   exact⟨by rw[F.out];rfl,hbw2⟩
  |true=>
   have F:=Lib.hid (show R=er from HS2.out);have cR:=CR.out w2 hbw2
   go_wp2_with fail
   refine cR.mono ?_;rintro e w3 ⟨rfl,hb3⟩;have hbw3:=hbw2.trans (hb3.mono hbw2.size)
   go_wp2
   go_ret
   exact⟨by rw[F.out];rfl,hbw3⟩)
structure Yjc (S:ShP):Prop where
 rows:S.rows.length≤30
 supp:S.hd.supp.length≤100
 cels:∀i (h:i<S.rows.length),S.rows[i].cels.length≤200
 evs:∀i (h:i<S.rows.length),∀j (h':j<S.rows[i].cels.length),∀k,k<6→(S.rows[i].cels[j].ev k).length≤100
 all:(Yes S).length≤200
theorem Yjc.mem {S:ShP}(h:Yjc S):∀c∈Yes S,∀k,k<6→(c.ev k).length≤100:=by
 intro c hc k hk;obtain⟨r,hr,hc⟩:=List.mem_flatMap.1 hc;obtain⟨i,hi,rfl⟩:=List.mem_iff_getElem.1 hr;obtain⟨j,hj,rfl⟩:=List.mem_iff_getElem.1 hc;exact h.evs i hi j hj k hk
def Ydj (S:ShP)(w:World)(e:Ending)(w':World):Prop:=(∃y,e=.returned (.bool y)∧(y=true→Yjc S))∧Below w.heap.size w w'
theorem Ydj.no {S:ShP}{w w':World}(h:Below w.heap.size w w'):Ydj S w (.returned (.bool false)) w':=⟨⟨false,rfl,fun h=>by cases h⟩,h⟩
theorem Y8m (c:Cel)(sl:Nat→Value){e:Nat}(he:e<6):(Ybe c sl)[12+e]? =some (sl e):=by
 match e,he with
 |0,_|1,_|2,_|3,_|4,_|5,_=>rfl
set_option maxRecDepth 100000 in
set_option maxHeartbeats 4000000 in
theorem Qah (S:ShP)(p b:Option Addr)(ca cb:Nat)(w:World)(hl:S.hd.supp.length≤maxLen)(hn:S.rows.length≤maxLen)(hr:Ye1 w b S.rows):
  Calls Tryz.prog 18 #[.agg (Ya1 S.hd (.slice p S.hd.supp.length ca) (.slice b S.rows.length cb) S.zeros).toArray] w (Ydj S w):=by
 unfold maxLen at hn hl;obtain⟨n,hln⟩:∃n,S.rows.length=n:=⟨_,rfl⟩;obtain⟨q,hlq⟩:∃n,S.hd.supp.length=n:=⟨_,rfl⟩;rw[hln] at hn ⊢;rw[hlq] at hl ⊢;obtain⟨zs,hZ⟩:∃zs,Ya1 S.hd (.slice p q ca) (.slice b n cb) S.zeros=zs:=⟨_,rfl⟩;have z6:zs[6]? =some (.slice b n cb):=by rw[←hZ];rfl
 have z5:zs[5]? =some (.slice p q ca):=by rw[←hZ];rfl
 rw[hZ];obtain⟨B,hB⟩:∃B,w.heap.size=B:=⟨_,rfl⟩;obtain⟨wA,hwA⟩:∃wA,w.alloc (.cells zs.toArray 39 (0,0))=wA:=⟨_,rfl⟩;have hhA:wA.heap[B]? =some (.cells zs.toArray 39 (0,0)):=by rw[←hwA,←hB];exact heap_alloc_new w _
 have hbA:Below w.heap.size w wA:=by rw[←hwA];exact(Below.refl _ w).alloc (Nat.le_refl _) _
 have HWA:=Lib.hid hwA;have HB:=Lib.hid hB;have HBA:=Lib.hid hbA;have NR:=Lib.hid hln;have NQ:=Lib.hid hlq;have HR:=Lib.hid hr;have K6:=Lib.hid (Yab hhA z6);clear hwA hbA hZ hln hlq hr;by_cases h1:30<n
 ·have t1:decide (30<(n:Int))=true:=by simp;omega
  go_enter Tryz.func18,Tryz.ntmps18
  go_wp2
  go_ret
  rw[HWA.out];exact Ydj.no HBA.out
 have t1:decide (30<(n:Int))=false:=by simp;omega
 by_cases h2:100<q
 ·have t2:decide (100<(q:Int))=true:=by simp;omega
  go_enter Tryz.func18,Tryz.ntmps18
  go_wp2
  go_ret
  rw[HWA.out];exact Ydj.no HBA.out
 have t2:decide (100<(q:Int))=false:=by simp;omega
 go_enter Tryz.func18,Tryz.ntmps18
 go_wp2
 rw[HWA.out];have k6:=K6.out;clear z5 z6 t1 t2 K6 hhA
 go_loop [3,4] (fun v t=>∃i:Nat,t=.int .i64 (i:Int)∧v=.int .i64 ((Yqq S i).length:Int)∧i≤n∧(Yqq S i).length≤200*i∧Hid ((∀j (h:j<S.rows.length),j<i→S.rows[j].cels.length≤200)∧∀j (h:j<S.rows.length),j<i→∀m (h':m<S.rows[j].cels.length),∀k,k<6→(S.rows[j].cels[m].ev k).length≤100)) (fun _ t=>n-(intOf t).toNat)
 case atStart=>exact⟨0,rfl,rfl,Nat.zero_le _,Nat.zero_le _,Lib.hid ⟨fun j _ h=>absurd h (Nat.not_lt_zero j),fun j _ h=>absurd h (Nat.not_lt_zero j)⟩⟩
 case round=>
  obtain⟨i,rfl,rfl,hi,hL,ha⟩:=hrel;by_cases hlt:i<n
  ·have t1:decide ((i:Int)<(n:Int))=true:=by simp;omega
   have hil:i<S.rows.length:=by rw[NR.out];exact hlt
   obtain⟨b1,o1,rfl,hb1,hc1⟩:=Yjz HR.out (by omega);obtain⟨r,cap,hq,hml,hcel,hat⟩:=hc1 i hil;obtain⟨-,-,-,c3⟩:=hat _ HBA.out;have nx:=Y4k S hil;have NX:=Lib.hid (fun(h1:S.rows[i].cels.length≤200) (h2:∀m (h':m<S.rows[i].cels.length),∀k,k<6→(S.rows[i].cels[m].ev k).length≤100)=>(⟨fun j h hj=>(by
     by_cases e:j<i
     ·exact ha.out.1 j h e
     ·obtain rfl:j=i:=by omega
      exact h1),fun j h hj=>(by
     by_cases e:j<i
     ·exact ha.out.2 j h e
     ·obtain rfl:j=i:=by omega
      exact h2)⟩:(∀j (h:j<S.rows.length),j<i+1→S.rows[j].cels.length≤200)∧∀j (h:j<S.rows.length),j<i+1→∀m (h':m<S.rows[j].cels.length),∀k,k<6→(S.rows[j].cels[m].ev k).length≤100))
   clear hc1 hat ha;generalize S.rows[i].cels=m at *;have NC:=Lib.hid (show (Yqq S (i+1)).length=(Yqq S i).length+m.length by rw[nx,List.length_append]);generalize (Yqq S i).length=L at *;clear nx;by_cases hm:200<m.length
   ·have t2:decide (200<(m.length:Int))=true:=by simp;omega
    go_wp2
    go_ret
    exact Ydj.no HBA.out
   have t2:decide (200<(m.length:Int))=false:=by simp;omega
   go_wp2
   clear t1 t2
   go_loop [3,5] (fun v t=>∃k:Nat,t=.int .i64 (k:Int)∧v=.int .i64 ((L+k:Nat):Int)∧k≤m.length∧Hid (∀j (h:j<m.length),j<k→∀e,e<6→(m[j].ev e).length≤100)) (fun _ t=>m.length-(intOf t).toNat)
   case atStart=>exact⟨0,rfl,rfl,Nat.zero_le _,Lib.hid fun j _ h=>absurd h (Nat.not_lt_zero j)⟩
   case round=>
    obtain⟨k,rfl,rfl,hk,hev⟩:=hrel;by_cases hkm:k<m.length
    ·have t3:decide ((k:Int)<(m.length:Int))=true:=by simp;omega
     obtain⟨b2,o2,rfl,hb2,hcv⟩:=Yco.each hcel (by omega);obtain⟨vs,⟨p3,cap3,hvs,-,-⟩,hvc⟩:=hcv k hkm;have EX:=Lib.hid (fun(h2:∀e,e<6→(m[k].ev e).length≤100)=>(fun j h hj=>(by
      by_cases e:j<k
      ·exact hev.out j h e
      ·obtain rfl:j=k:=by omega
       exact h2):∀j (h:j<m.length),j<k+1→∀e,e<6→(m[j].ev e).length≤100))
     clear hcv hev;generalize m[k]=c at hvs EX;have EV:=Lib.hid (fun(e:Nat) (he:e<6)=>(by
      have h4:=hvc wA HBA.out (12+e) (.slice (p3 e) (c.ev e).length (cap3 e)) (by rw[hvs];exact Y8m c _ he);rwa [show o2+k*18+(12+e)=o2+k*18+12+e by omega] at h4:wA.cell? ⟨b2,o2+k*18+12+e,none⟩=some (.slice (p3 e) (c.ev e).length (cap3 e))))
     clear hvs hvc
     go_wp2
     clear t3
     go_loop [6] (fun t=>∃e:Nat,t=.int .i64 (e:Int)∧e≤6∧Hid (∀e',e'<e→(c.ev e').length≤100)) (fun t=>6-(intOf t).toNat)
     case atStart=>exact⟨0,rfl,Nat.zero_le _,Lib.hid fun j h=>absurd h (Nat.not_lt_zero j)⟩
     case round=>
      obtain⟨e,rfl,he,hee⟩:=hrel;by_cases he6:e<6
      ·have t3:decide ((e:Int)<6)=true:=by simp;omega
       have ce:=EV.out e he6;have HE:=hee;clear hee;obtain⟨l,hle⟩:∃l,(c.ev e).length=l:=⟨_,rfl⟩;rw[hle] at ce;have HLE:=Lib.hid hle;clear hle;by_cases hl100:100<l
       ·have t4:decide (100<(l:Int))=true:=by simp;omega
        go_wp2
        go_ret
        exact Ydj.no HBA.out
       ·have t4:decide (100<(l:Int))=false:=by simp;omega
        have N:=Lib.hid (show∀e',e'<e+1→(c.ev e').length≤100 from fun e' h=>by
         by_cases h3:e'<e
         ·exact HE.out e' h3
         ·obtain rfl:e'=e:=by omega
          rw[HLE.out];omega)
        clear HE
        go_wp2
        go_round
        case rel=>exact⟨e+1,by go_num,by omega,N⟩
        case measure=>simp[intOf];omega
      ·obtain rfl:e=6:=by omega
       have t3:decide (((6:Nat):Int)<6)=false:=by simp
       have N:=Lib.hid (EX.out hee.out);clear hee
       go_wp2
       go_round
       case rel=>exact⟨k+1,by go_num,by go_num,by omega,N⟩
       case measure=>simp[intOf];omega
    ·obtain rfl:m.length=k:=by omega
     have t3:decide ((m.length:Int)<(m.length:Int))=false:=by simp
     have N:=Lib.hid (NX.out (by omega) (fun j h=>hev.out j h h));clear hev NX
     go_wp2
     go_round
     case rel=>exact⟨i+1,by go_num,by rw[NC.out],by omega,by rw[NC.out];omega,N⟩
     case measure=>simp[intOf];omega
  ·obtain rfl:n=i:=by omega
   have t1:decide ((n:Int)<(n:Int))=false:=by simp
   have AL:=Lib.hid (Y8s S NR.out);have EV:=Lib.hid ha.out;rw[AL.out];by_cases h3:(Yes S).length≤200
   ·have t2:decide (((Yes S).length:Int)≤200)=true:=by simp;omega
    go_wp2
    go_ret
    exact⟨⟨true,rfl,fun _=>⟨by rw[NR.out];omega,by rw[NQ.out];omega,fun j h=>EV.out.1 j h (by rw[←NR.out];exact h),fun j h=>EV.out.2 j h (by rw[←NR.out];exact h),h3⟩⟩,HBA.out⟩
   ·have t2:decide (((Yes S).length:Int)≤200)=false:=by simp;omega
    go_wp2
    go_ret
    exact Ydj.no HBA.out
end Go.Proofs.YtjjmalchelniiaaGreatDoor