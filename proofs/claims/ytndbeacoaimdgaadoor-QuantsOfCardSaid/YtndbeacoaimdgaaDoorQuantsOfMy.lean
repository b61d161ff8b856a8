/- No condition. -/
import Derived.Test.YtndbeacoaimdgaaDoorQuantsOfMf
import Derived.Test.YtndbeacoaimdgaaDoorQuantsOfMg
import Derived.Test.YtndbeacoaimdgaaDoorQuantsOfMu
import Derived.Test.YtndbeacoaimdgaaDoorQuantsOfMx
import Derived.WalkKit
import Derived.WalkMore
import Derived.IntWalk
import Derived.Lib.Strings
import Derived.Lib.LaidTab
import Derived.MakeChecks
import Derived.Test.YtndbeacoaimdgaaDoorRows
namespace Go.Proofs.YtndbeacoaimdgaaDoor
open Go.RowKit Go.Lib
def Yq0:List Int:=[-1,-2,1,2]
def Yrf:List ByteArray:=[⟨#[48,48]⟩,⟨#[48,49]⟩,⟨#[49,48]⟩,⟨#[49,49]⟩]
def Ypq (v:Nat):Int:=Yq0[v]?.getD 0
def Ybb (s:Int):ByteArray:=if s = -1 then ⟨#[48,48]⟩ else if s = -2 then ⟨#[48,49]⟩ else if s=1 then ⟨#[49,48]⟩ else if s=2 then ⟨#[49,49]⟩ else ⟨#[]⟩
theorem Ydf {s:Int}(h:¬ s = -1∧¬ s = -2∧¬ s=1∧¬ s=2):Ybb s=⟨#[]⟩:=by
 unfold Ybb;rw[if_neg h.1,if_neg h.2.1,if_neg h.2.2.1,if_neg h.2.2.2]
def Yck (q s:Int):Int:=Yb8 (Yb8 q 1 31+Yb8 s (-2) 2) 1 31
theorem Yo9 (q s:Int):1≤Yck q s∧Yck q s≤31:=by unfold Yck Yb8;omega
def Ybe (w:World):Prop:=∀i,(h:i<4)→w.cell? ⟨0,2*i,none⟩=some (.string (Yrf[i]'h))∧w.cell? ⟨0,2*i+1,none⟩=some (.int .i64 (Yq0[i]'h))
theorem Ybe.lt {w:World}(h:Ybe w):0<w.heap.size:=World.block_lt_of_cell? w ⟨0,0,none⟩ (h 0 (by decide)).1
theorem Ybe.below {w w':World}(h:Ybe w)(hb:Below w.heap.size w w'):Ybe w':=fun i hi=>
 ⟨(hb.cell (p:=⟨0,2*i,none⟩) h.lt).trans (h i hi).1,(hb.cell (p:=⟨0,2*i+1,none⟩) h.lt).trans (h i hi).2⟩
set_option maxHeartbeats 400000 in
theorem Yhb (n:Int)(w:World):Calls Tryd.prog 46 #[.int .i64 n] w fun e w'=>e=.returned (.int .i64 (Yb8 n 1 31))∧w=w':=by
 have c:=fun w=>Yik n 1 31 w;generalize Yb8 n 1 31=q at c ⊢
 go_enter Tryd.func46,Tryd.ntmps46
 go_wp2_with (with_reducible refine(c _).mono ?_;rintro e w1 ⟨rfl,rfl⟩)
 go_ret
 exact⟨rfl,rfl⟩
set_option maxHeartbeats 400000 in
theorem Yl7 (q s:Int)(w:World):Calls Tryd.prog 34 #[.int .i64 q,.int .i64 s] w fun e w'=>e=.returned (.int .i64 (Yck q s))∧w=w':=by
 have c1:=fun w=>Yhb q w;have c2:=fun w=>Yik s (-2) 2 w;have c3:=fun w=>Yhb (Yb8 q 1 31+Yb8 s (-2) 2) w;have h1:1≤Yb8 q 1 31∧Yb8 q 1 31≤31:=⟨Yfu _ _ _,Yft _ _ _ (by omega)⟩;have h2:-2≤Yb8 s (-2) 2∧Yb8 s (-2) 2≤2:=⟨Yfu _ _ _,Yft _ _ _ (by omega)⟩;unfold Yck;generalize Yb8 q 1 31=a at *;generalize Yb8 s (-2) 2=b at *;generalize Yb8 (a+b) 1 31=c at *;obtain⟨a1,a2⟩:=h1;obtain⟨b1,b2⟩:=h2
 go_enter Tryd.func34,Tryd.ntmps34
 go_wp2_with fail
 refine(c1 _).mono ?_;rintro e w1 ⟨rfl,rfl⟩
 go_wp2_with fail
 refine(c2 _).mono ?_;rintro e w1 ⟨rfl,rfl⟩
 go_wp2_with fail
 refine(c3 _).mono ?_;rintro e w1 ⟨rfl,rfl⟩
 go_wp2
 go_ret
 exact⟨rfl,rfl⟩
def Ymn (a b:Int)(i:Nat):Prop:=∀j:Nat,j<i→Yck a (j:Int)≠b∧Yck a (-(j:Int))≠b
theorem Ymn.next {a b:Int}{i:Nat}(h:Ymn a b i)(h1:Yck a (i:Int)≠b)(h2:Yck a (-(i:Int))≠b):Ymn a b (i+1):=fun j hj=>by
 by_cases e:j=i
 ·subst e;exact⟨h1,h2⟩
 ·exact h j (by omega)
def Yea (s:Int)(i:Nat):Prop:=∀j,j<i→Ypq j≠s
theorem Yea.first (s:Int):Yea s 0:=fun j h=>absurd h (Nat.not_lt_zero j)
theorem Yea.next {s:Int}{i:Nat}(h:Yea s i)(h1:Ypq i≠s):Yea s (i+1):=fun j hj=>by
 by_cases e:j=i
 ·subst e;exact h1
 ·exact h j (by omega)
theorem Yea.all {s:Int}(h:Yea s 4):¬ s = -1∧¬ s = -2∧¬ s=1∧¬ s=2:=
 ⟨fun e=>h 0 (by decide) e.symm,fun e=>h 1 (by decide) e.symm,fun e=>h 2 (by decide) e.symm,fun e=>h 3 (by decide) e.symm⟩
theorem Yh4 (s:Int)(i:Nat)(z:Int)(h:Ypq i=z):((z==z)=true∧s=z)∨((z==s)=false∧Ypq i≠s):=by
 by_cases e:s=z
 ·exact .inl ⟨beq_self_eq_true z,e⟩
 ·exact .inr ⟨by rw[beq_eq_false_iff_ne];exact fun h=>e h.symm,by rw[h];exact fun h=>e h.symm⟩
def Yma:Value:=.agg #[.string ⟨#[48,48]⟩,.int .i64 (-1),.string ⟨#[48,49]⟩,.int .i64 (-2),.string ⟨#[49,48]⟩,.int .i64 1,.string ⟨#[49,49]⟩,.int .i64 2]
theorem Yfi (w:World):(Instr.index 108 Yma (.int .i64 0)).run Tryd.prog w=.ok (.agg #[.string ⟨#[48,48]⟩,.int .i64 (-1)]) w∧(Instr.index 108 Yma (.int .i64 1)).run Tryd.prog w=.ok (.agg #[.string ⟨#[48,49]⟩,.int .i64 (-2)]) w∧
  (Instr.index 108 Yma (.int .i64 2)).run Tryd.prog w=.ok (.agg #[.string ⟨#[49,48]⟩,.int .i64 1]) w∧(Instr.index 108 Yma (.int .i64 3)).run Tryd.prog w=.ok (.agg #[.string ⟨#[49,49]⟩,.int .i64 2]) w:=
 ⟨by kernel_rfl,by kernel_rfl,by kernel_rfl,by kernel_rfl⟩
set_option maxHeartbeats 1000000 in
theorem Yoc (s:Int)(w:World)(hp:Ybe w):Calls Tryd.prog 72 #[.int .i64 s] w fun e w'=>e=.returned (.tuple #[.string (Ybb s),.bool (!(Ybb s).data.toList.isEmpty)])∧Below w.heap.size w w':=by
 have c0:w.cell? ⟨0,0,none⟩=some (.string ⟨#[48,48]⟩):=(hp 0 (by decide)).1;have c1:w.cell? ⟨0,1,none⟩=some (.int .i64 (-1)):=(hp 0 (by decide)).2;have c2:w.cell? ⟨0,2,none⟩=some (.string ⟨#[48,49]⟩):=(hp 1 (by decide)).1;have c3:w.cell? ⟨0,3,none⟩=some (.int .i64 (-2)):=(hp 1 (by decide)).2;have c4:w.cell? ⟨0,4,none⟩=some (.string ⟨#[49,48]⟩):=(hp 2 (by decide)).1
 have c5:w.cell? ⟨0,5,none⟩=some (.int .i64 1):=(hp 2 (by decide)).2;have c6:w.cell? ⟨0,6,none⟩=some (.string ⟨#[49,49]⟩):=(hp 3 (by decide)).1;have c7:w.cell? ⟨0,7,none⟩=some (.int .i64 2):=(hp 3 (by decide)).2;have HV:=Lib.hid (show Value.agg #[.string ⟨#[48,48]⟩,.int .i64 (-1),.string ⟨#[48,49]⟩,.int .i64 (-2),.string ⟨#[49,48]⟩,.int .i64 1,.string ⟨#[49,49]⟩,.int .i64 2]=Yma from rfl)
 go_enter Tryd.func72,Tryd.ntmps72
 go_wp2
 rw[HV.out];clear c0 c1 c2 c3 c4 c5 c6 c7 hp HV;have i0:=fun w=>(Yfi w).1;have i1:=fun w=>(Yfi w).2.1;have i2:=fun w=>(Yfi w).2.2.1;have i3:=fun w=>(Yfi w).2.2.2;generalize Yma=pv at *;obtain⟨B,hB⟩:∃B,w.heap.size=B:=⟨_,rfl⟩;have hb0:Below B w w:=Below.refl _ _;have hz0:B≤w.heap.size:=by omega
 go_loopw [7] (fun v wr=>∃i:Nat,i≤4∧v=.int .i64 i∧Hid (Yea s i)∧Below B w wr∧B≤wr.heap.size) (fun v _=>4-(intOf v).toNat)
 case atStart=>exact⟨0,by omega,rfl,Lib.hid (Yea.first s),hb0,hz0⟩
 case round=>
  obtain⟨i,hi4,rfl,hno,hb,hz⟩:=hrel;have hb1:=fun o=>hb.alloc hz o;clear hb0 hz0;rcases (by omega:i=4∨i=0∨i=1∨i=2∨i=3) with rfl|rfl|rfl|rfl|rfl
  ·have R:=Lib.hid (Ydf hno.out.all)
   go_wp2
   go_ret2
   exact⟨by rw[R.out];rfl,by rw[hB];exact hb⟩
  ·rcases Yh4 s 0 (-1) rfl with ⟨e1,rfl⟩|⟨e1,e2⟩
   ·go_wp2
    go_ret2
    exact⟨rfl,by rw[hB];exact hb1 _⟩
   ·have N:=Lib.hid (hno.out.next e2);clear e2
    go_wp2
    go_roundw
    case rel=>exact⟨1,by omega,by go_num,N,hb1 _,by simp;omega⟩
    case measure=>simp[intOf]
  ·rcases Yh4 s 1 (-2) rfl with ⟨e1,rfl⟩|⟨e1,e2⟩
   ·go_wp2
    go_ret2
    exact⟨rfl,by rw[hB];exact hb1 _⟩
   ·have N:=Lib.hid (hno.out.next e2);clear e2
    go_wp2
    go_roundw
    case rel=>exact⟨2,by omega,by go_num,N,hb1 _,by simp;omega⟩
    case measure=>simp[intOf]
  ·rcases Yh4 s 2 1 rfl with ⟨e1,rfl⟩|⟨e1,e2⟩
   ·go_wp2
    go_ret2
    exact⟨rfl,by rw[hB];exact hb1 _⟩
   ·have N:=Lib.hid (hno.out.next e2);clear e2
    go_wp2
    go_roundw
    case rel=>exact⟨3,by omega,by go_num,N,hb1 _,by simp;omega⟩
    case measure=>simp[intOf]
  ·rcases Yh4 s 3 2 rfl with ⟨e1,rfl⟩|⟨e1,e2⟩
   ·go_wp2
    go_ret2
    exact⟨rfl,by rw[hB];exact hb1 _⟩
   ·have N:=Lib.hid (hno.out.next e2);clear e2
    go_wp2
    go_roundw
    case rel=>exact⟨4,by omega,by go_num,N,hb1 _,by simp;omega⟩
    case measure=>simp[intOf]
set_option maxHeartbeats 1000000 in
theorem Yod (s:Int)(w:World):Calls Tryd.prog 36 #[.int .i64 s] w fun e w'=>e=.returned (.string (Ybb s))∧Below w.heap.size w w':=by
 by_cases h0:s < -2
 ·have F:=Lib.hid (Ydf (s:=s) (by omega));have t0:decide (s < -2)=true:=by simpa using h0
  clear h0;rw[F.out]
  go_enter Tryd.func36,Tryd.ntmps36
  go_wp2
  go_ret
  exact⟨rfl,Below.refl _ _⟩
 by_cases h1:2<s
 ·have F:=Lib.hid (Ydf (s:=s) (by omega));have t0:decide (s < -2)=false:=by simpa using h0
  have t1:decide (2<s)=true:=by simpa using h1
  clear h0 h1;rw[F.out]
  go_enter Tryd.func36,Tryd.ntmps36
  go_wp2
  go_ret
  exact⟨rfl,Below.refl _ _⟩
 rcases (by omega:s = -2∨s = -1∨s=0∨s=1∨s=2) with rfl|rfl|rfl|rfl|rfl
 all_goals
  clear h0 h1
  go_enter Tryd.func36,Tryd.ntmps36
  go_wp2
  go_ret
  first
   |exact⟨rfl,Below.refl _ _⟩
   |exact⟨rfl,(Below.refl _ w).alloc (Nat.le_refl _) _⟩
set_option maxHeartbeats 1000000 in
theorem Yhd (q s:Int)(w:World):Calls Tryd.prog 20 #[.int .i64 q,.int .i64 s] w fun e w'=>e=.returned (.int .i64 (Yck q s))∧w=w':=by
 have c1:=fun w=>Yfv q 1 31 w;have c2:=fun w=>Yfv s 0 2 w;have c3:=fun w=>Yfv s (-2) 0 w;have h1:1≤Yb8 q 1 31∧Yb8 q 1 31≤31:=⟨Yfu _ _ _,Yft _ _ _ (by omega)⟩;have h2:0≤Yb8 s 0 2∧Yb8 s 0 2≤2:=⟨Yfu _ _ _,Yft _ _ _ (by omega)⟩;have h3:-2≤Yb8 s (-2) 0∧Yb8 s (-2) 0≤0:=⟨Yfu _ _ _,Yft _ _ _ (by omega)⟩;have h4:Yb8 s 0 2=0∨Yb8 s (-2) 0=0:=by unfold Yb8;omega
 have h5:Yb8 s (-2) 2=Yb8 s 0 2+Yb8 s (-2) 0:=by unfold Yb8;omega
 unfold Yck;rw[h5];generalize Yb8 q 1 31=a at *;generalize Yb8 s 0 2=b at *;generalize Yb8 s (-2) 0=c at *;clear h5;have H:=Lib.hid (And.intro h1 (And.intro h2 (And.intro h3 h4)));clear h1 h2 h3 h4
 go_enter Tryd.func20,Tryd.ntmps20
 go_wp2_with fail
 refine(c1 _).mono ?_;rintro e w1 ⟨rfl,rfl⟩
 go_wp2
 go_loop [5,6] (fun u v=>∃i y:Int,u=.int .i64 y∧v=.int .i64 i∧Hid (0≤i∧i≤b∧y=a+i∧y≤31)) (fun _ v=>(2-intOf v).toNat)
 case atStart=>exact⟨0,a,rfl,rfl,Lib.hid (by have:=H.out;omega)⟩
 case round=>
  obtain⟨i,y,rfl,rfl,I⟩:=hrel;have i1:0≤i:=I.out.1;have i2:i≤2:=by have:=H.out;have:=I.out;omega
  have y1:1≤y:=by have:=H.out;have:=I.out;omega
  have y2:y≤31:=I.out.2.2.2;rcases (by omega:(i<b∧y<31)∨(i<b∧¬ y<31)∨¬ i<b) with ⟨g1,g2⟩|⟨g1,g2⟩|g1
  ·have N:=Lib.hid (show 0≤i+1∧i+1≤b∧y+1=a+(i+1)∧y+1≤31 by have:=I.out;omega);have t0:decide (i<b)=true:=by simpa using g1
   have t1:decide (y<31)=true:=by simpa using g2
   go_wp2_with fail
   refine(c2 _).mono ?_;rintro e w1 ⟨rfl,rfl⟩;have i3:i<2:=by have:=H.out;omega
   clear g1 g2
   go_wp2
   go_round
   case rel=>exact⟨i+1,y+1,by go_num,by go_num,N⟩
   case measure=>simp[intOf];omega
  case' inr.inl=>
   have Y:=Lib.hid (show y=min (a+b) 31 by have:=I.out;omega);have t0:decide (i<b)=true:=by simpa using g1
   have t1:decide (y<31)=false:=by simpa using g2
  case' inr.inr=>
   have Y:=Lib.hid (show y=min (a+b) 31 by have:=I.out;have:=H.out;omega);have t0:decide (i<b)=false:=by simpa using g1
  all_goals
   clear g1
   try clear g2
   go_wp2_with fail
   refine(c2 _).mono ?_;rintro e w1 ⟨rfl,rfl⟩
   go_wp2
   clear I i1 i2
   go_loop [5,7] (fun u v=>∃k z:Int,u=.int .i64 z∧v=.int .i64 k∧Hid (c≤k∧k≤0∧z=y+k∧1≤z)) (fun _ v=>(2+intOf v).toNat)
   case atStart=>exact⟨0,y,rfl,rfl,Lib.hid (by have:=H.out;omega)⟩
   case round=>
    obtain⟨k,z,rfl,rfl,I⟩:=hrel;have i1:k≤0:=I.out.2.1;have i2:-2≤k:=by have:=H.out;have:=I.out;omega
    have z1:1≤z:=I.out.2.2.2;have z2:z≤31:=by have:=I.out;omega
    rcases (by omega:(c<k∧1<z)∨(c<k∧¬ 1<z)∨¬ c<k) with ⟨g1,g2⟩|⟨g1,g2⟩|g1
    ·have N:=Lib.hid (show c≤k-1∧k-1≤0∧z-1=y+(k-1)∧1≤z-1 by have:=I.out;omega);have t0:decide (c<k)=true:=by simpa using g1
     have t1:decide (1<z)=true:=by simpa using g2
     go_wp2_with fail
     refine(c3 _).mono ?_;rintro e w1 ⟨rfl,rfl⟩;have i3:-2<k:=by have:=H.out;omega
     clear g1 g2
     go_wp2
     go_round
     case rel=>exact⟨k-1,z-1,by go_num,by go_num,N⟩
     case measure=>simp[intOf];omega
    case' inr.inl=>
     have Z:=Lib.hid (show z=Yb8 (a+(b+c)) 1 31 by have:=I.out;have:=H.out;have:=Y.out;unfold Yb8;omega);have t0:decide (c<k)=true:=by simpa using g1
     have t1:decide (1<z)=false:=by simpa using g2
    case' inr.inr=>
     have Z:=Lib.hid (show z=Yb8 (a+(b+c)) 1 31 by have:=I.out;have:=H.out;have:=Y.out;unfold Yb8;omega);have t0:decide (c<k)=false:=by simpa using g1
    all_goals
     clear g1
     try clear g2
     go_wp2_with fail
     refine(c3 _).mono ?_;rintro e w1 ⟨rfl,rfl⟩
     go_wp2
     go_ret
     exact⟨Ydd Z.out,rfl⟩
theorem Ymb {H:Type}{enc:TypeId×Value→H}{P:Program}{w:World}{base:Nat}{sp:Nat→Bool}{held:Bool}{e ts ti:TypeId}{f0 f1:Field}
  (he:P.underlying e=some (.struct #[f0,f1]))(hstr:P.underlying ts=some .string)(hi:P.underlying ti=some (.int .i64))(e0:f0.type=ts)(e1:f1.type=ti)(o0:f0.offset=0)(o1:f1.offset=1)(cs:P.cellsOf ts=1)(ci:P.cellsOf ti=1)
  {k:Nat}{vs:List Value}{x:List UInt8}{z:Int}{q:List MemPlace}(hl:vs.length=2)(h:DataW.trod enc P w base sp held k e vs=some (.agg [.lit (.string x),.lit (.int .i64 z)],q)):
  ∃s:ByteArray,vs=[.string s,.int .i64 z]∧s.data.toList=x:=by
 obtain⟨xs,k,hk,hxy,_,hxl,hfs⟩:=DataW.trod_struct he h
 match xs,hxl,vs,hl with
 |[y0,y1],_,[v0,v1],_=>
  have g0:=hfs 0 f0 rfl;have g1:=hfs 1 f1 rfl;rw[e0,o0,cs] at g0;rw[e1,o1,ci] at g1;obtain⟨x0,q0,hy0,w0⟩:=DataW.trod_string hstr (show DataW.trod _ P w base sp held k ts [v0]=some y0 from g0);obtain⟨x1,q1,hy1,w1⟩:=DataW.trod_int hi (show DataW.trod _ P w base sp held k ti [v1]=some y1 from g1);subst hy0 hy1;injection q0 with q0;injection q1 with q1;subst q0 q1
  simp only[List.map_cons,List.map_nil,Prod.mk.injEq,DataW.agg.injEq,List.cons.injEq,DataW.lit.injEq,Lit.string.injEq,Lit.int.injEq,true_and,and_true] at hxy;obtain⟨⟨r0,r1⟩,_⟩:=hxy;subst r0 r1;exact⟨x0,rfl,rfl⟩
theorem Ype {H:Type}{enc:TypeId×Value→H}{P:Program}{w:World}{base:Nat}{sp:Nat→Bool}{held:Bool}{fuel:Nat}{t e:TypeId}{n c:Nat}{cs:List Value}{ls:List (DataW H)}{p:List MemPlace}
  (ht:P.underlying t=some (.array n e))(hce:P.cellsOf e=c)(hct:P.cellsOf t=n*c)
  (h:DataW.trod enc P w base sp held fuel t cs=some (.agg ls,p)):cs.length=n*c∧∀i,i<n→∃k d q,ls[i]? =some d∧DataW.trod enc P w base sp held k e ((cs.drop (i*c)).take c)=some (d,q):=by
 cases fuel with
 |zero=>simp[DataW.trod] at h
 |succ fuel=>
  simp only[DataW.trod,ht,hce,hct] at h
  split at h
  ·rename_i hl
   obtain⟨xs,hm,hx⟩:=Option.map_eq_some_iff.1 h;have hxs:xs.map (·.1)=ls:=by
    have:=congrArg Prod.fst hx
    simpa using this
   refine⟨hl,fun i hi=>?_⟩;obtain⟨b,hb,hf⟩:=mapM_at hm i i (by simp[hi]);refine⟨fuel,b.1,b.2,?_,hf⟩;rw[←hxs];simp[hb]
  ·cases h
theorem Yl9:(Rows.laid_overspill_steps_codes:DataW Unit)=.agg [.agg [.lit (.string [48,48]),.lit (.int .i64 (-1))],.agg [.lit (.string [48,49]),.lit (.int .i64 (-2))],.agg [.lit (.string [49,48]),.lit (.int .i64 1)],.agg [.lit (.string [49,49]),.lit (.int .i64 2)]]:=by kernel_rfl
theorem Yji {cs:List Value}{i:Nat}{a b:Value}(h:(cs.drop i).take 2=[a,b]):cs[i]? =some a∧cs[i+1]? =some b:=by
 have h0:=congrArg (·[0]?) h;have h1:=congrArg (·[1]?) h;simp only[List.getElem?_take,List.getElem?_drop] at h0 h1;exact⟨by simpa using h0,by simpa using h1⟩
theorem Ymc {laid : List (String × DataW Unit)} {W : World} (hL : laidMetH Tryd.prog laid W) (hm : ("overspill/steps.codes", Rows.laid_overspill_steps_codes) ∈ laid ∧ (laid.all fun x => x.2.handleName?.isNone) = true) : Ybe W := by
 rw[MakeChecks.laidMetH_plain _ _ _ hm.2] at hL;obtain⟨ps,hv,_,_⟩:=hL;obtain⟨g,t,cs,fuel,p,hg,ht,hc,hd⟩:=Yhu hv hm.1;obtain rfl := Option.some.inj ((show Tryd.prog.globalNamed "overspill/steps.codes" = some 0 by kernel_rfl).symm.trans hg)
 obtain rfl:=Option.some.inj ((show (Tryd.prog.globals[0]?).map (·.type)=some 108 by kernel_rfl).symm.trans ht);rw[Yl9] at hd;obtain⟨hl,hp⟩:=Ype (c:=2) Tryd.underlying108 (by kernel_rfl) (by kernel_rfl) hd;have hcell:=World.var?_cell hg hc;have key:∀i,(hi:i<4)→∃s:ByteArray,(cs.toList.drop (i*2)).take 2=[.string s,.int .i64 (Yq0[i]'hi)]∧s=Yrf[i]'hi:=by
  intro i hi;obtain⟨k,d,q,hd1,hd2⟩:=hp i hi;have hlen:((cs.toList.drop (i*2)).take 2).length=2:=by rw[List.length_take,List.length_drop,hl];omega
  rcases (by omega:i=0∨i=1∨i=2∨i=3) with rfl|rfl|rfl|rfl
  all_goals
   obtain rfl:=Option.some.inj hd1;obtain⟨s,h1,h2⟩:=Ymb Tryd.underlying107 Tryd.underlying9 Tryd.underlying3 rfl rfl rfl rfl (by kernel_rfl) (by kernel_rfl) hlen hd2;exact⟨s,h1,by apply ByteArray.ext;apply Array.ext';exact h2⟩
 intro i hi;obtain⟨s,h1,rfl⟩:=key i hi;obtain⟨h2,h3⟩:=Yji h1;rw[hcell,hcell,Nat.mul_comm 2 i,←Array.getElem?_toList,←Array.getElem?_toList];exact⟨h2,h3⟩
end Go.Proofs.YtndbeacoaimdgaaDoor