/- No condition. -/
import Derived.Test.YtnamlooifcpoaaaGreatDoorScreensNextMd
import Derived.Test.YtnamlooifcpoaaaGreatDoorScreensNextMk
import Derived.Test.YtnamlooifcpoaaaGreatDoorScreensNextMl
import Derived.Test.YtnamlooifcpoaaaGreatDoorScreensNextMo
import Derived.WalkKit
import Derived.WalkMore
import Derived.IntWalk
import Derived.Lib.Strings
import Derived.Lib.LaidTab
import Derived.MakeChecks
import Derived.Test.YtnamlooifcpoaaaGreatDoorRows
namespace Go.Proofs.YtnamlooifcpoaaaGreatDoor
open Go.RowKit Go.Lib
def Y22:List Int:=[-1,-2,1,2]
def Y3v:List ByteArray:=[⟨#[48,48]⟩,⟨#[48,49]⟩,⟨#[49,48]⟩,⟨#[49,49]⟩]
def Y0w (v:Nat):Int:=Y22[v]?.getD 0
def Ycn (s:Int):ByteArray:=if s = -1 then ⟨#[48,48]⟩ else if s = -2 then ⟨#[48,49]⟩ else if s=1 then ⟨#[49,48]⟩ else if s=2 then ⟨#[49,49]⟩ else ⟨#[]⟩
theorem Yf3 {s:Int}(h:¬ s = -1∧¬ s = -2∧¬ s=1∧¬ s=2):Ycn s=⟨#[]⟩:=by
 unfold Ycn;rw[if_neg h.1,if_neg h.2.1,if_neg h.2.2.1,if_neg h.2.2.2]
def Yeq (q s:Int):Int:=Yax (Yax q 1 31+Yax s (-2) 2) 1 31
theorem Yz5 (q s:Int):1≤Yeq q s∧Yeq q s≤31:=by unfold Yeq Yax;omega
def Yb9 (w:World):Prop:=∀i,(h:i<4)→w.cell? ⟨2,2*i,none⟩=some (.string (Y3v[i]'h))∧w.cell? ⟨2,2*i+1,none⟩=some (.int .i64 (Y22[i]'h))
theorem Yb9.lt {w:World}(h:Yb9 w):2<w.heap.size:=World.block_lt_of_cell? w ⟨2,0,none⟩ (h 0 (by decide)).1
theorem Yb9.below {w w':World}(h:Yb9 w)(hb:Below w.heap.size w w'):Yb9 w':=fun i hi=>
 ⟨(hb.cell (p:=⟨2,2*i,none⟩) h.lt).trans (h i hi).1,(hb.cell (p:=⟨2,2*i+1,none⟩) h.lt).trans (h i hi).2⟩
set_option maxHeartbeats 400000 in
theorem Ylq (n:Int)(w:World):Calls Tryz.prog 98 #[.int .i64 n] w fun e w'=>e=.returned (.int .i64 (Yax n 1 31))∧w=w':=by
 have c:=fun w=>Ybs n 1 31 w;generalize Yax n 1 31=q at c ⊢
 go_enter Tryz.func98,Tryz.ntmps98
 go_wp2_with (with_reducible refine(c _).mono ?_;rintro e w1 ⟨rfl,rfl⟩)
 go_ret
 exact⟨rfl,rfl⟩
set_option maxHeartbeats 400000 in
theorem Yun (q s:Int)(w:World):Calls Tryz.prog 74 #[.int .i64 q,.int .i64 s] w fun e w'=>e=.returned (.int .i64 (Yeq q s))∧w=w':=by
 have c1:=fun w=>Ylq q w;have c2:=fun w=>Ybs s (-2) 2 w;have c3:=fun w=>Ylq (Yax q 1 31+Yax s (-2) 2) w;have h1:1≤Yax q 1 31∧Yax q 1 31≤31:=⟨Ybl _ _ _,Ybk _ _ _ (by omega)⟩;have h2:-2≤Yax s (-2) 2∧Yax s (-2) 2≤2:=⟨Ybl _ _ _,Ybk _ _ _ (by omega)⟩;unfold Yeq;generalize Yax q 1 31=a at *;generalize Yax s (-2) 2=b at *;generalize Yax (a+b) 1 31=c at *;obtain⟨a1,a2⟩:=h1;obtain⟨b1,b2⟩:=h2
 go_enter Tryz.func74,Tryz.ntmps74
 go_wp2_with fail
 refine(c1 _).mono ?_;rintro e w1 ⟨rfl,rfl⟩
 go_wp2_with fail
 refine(c2 _).mono ?_;rintro e w1 ⟨rfl,rfl⟩
 go_wp2_with fail
 refine(c3 _).mono ?_;rintro e w1 ⟨rfl,rfl⟩
 go_wp2
 go_ret
 exact⟨rfl,rfl⟩
def Yvb (a b:Int)(i:Nat):Prop:=∀j:Nat,j<i→Yeq a (j:Int)≠b∧Yeq a (-(j:Int))≠b
theorem Yvb.next {a b:Int}{i:Nat}(h:Yvb a b i)(h1:Yeq a (i:Int)≠b)(h2:Yeq a (-(i:Int))≠b):Yvb a b (i+1):=fun j hj=>by
 by_cases e:j=i
 ·subst e;exact⟨h1,h2⟩
 ·exact h j (by omega)
def Yhb (s:Int)(i:Nat):Prop:=∀j,j<i→Y0w j≠s
theorem Yhb.first (s:Int):Yhb s 0:=fun j h=>absurd h (Nat.not_lt_zero j)
theorem Yhb.next {s:Int}{i:Nat}(h:Yhb s i)(h1:Y0w i≠s):Yhb s (i+1):=fun j hj=>by
 by_cases e:j=i
 ·subst e;exact h1
 ·exact h j (by omega)
theorem Yhb.all {s:Int}(h:Yhb s 4):¬ s = -1∧¬ s = -2∧¬ s=1∧¬ s=2:=
 ⟨fun e=>h 0 (by decide) e.symm,fun e=>h 1 (by decide) e.symm,fun e=>h 2 (by decide) e.symm,fun e=>h 3 (by decide) e.symm⟩
theorem Ym9 (s:Int)(i:Nat)(z:Int)(h:Y0w i=z):((z==z)=true∧s=z)∨((z==s)=false∧Y0w i≠s):=by
 by_cases e:s=z
 ·exact .inl ⟨beq_self_eq_true z,e⟩
 ·exact .inr ⟨by rw[beq_eq_false_iff_ne];exact fun h=>e h.symm,by rw[h];exact fun h=>e h.symm⟩
def Yuq:Value:=.agg #[.string ⟨#[48,48]⟩,.int .i64 (-1),.string ⟨#[48,49]⟩,.int .i64 (-2),.string ⟨#[49,48]⟩,.int .i64 1,.string ⟨#[49,49]⟩,.int .i64 2]
theorem Yja (w:World):(Instr.index 188 Yuq (.int .i64 0)).run Tryz.prog w=.ok (.agg #[.string ⟨#[48,48]⟩,.int .i64 (-1)]) w∧(Instr.index 188 Yuq (.int .i64 1)).run Tryz.prog w=.ok (.agg #[.string ⟨#[48,49]⟩,.int .i64 (-2)]) w∧
  (Instr.index 188 Yuq (.int .i64 2)).run Tryz.prog w=.ok (.agg #[.string ⟨#[49,48]⟩,.int .i64 1]) w∧(Instr.index 188 Yuq (.int .i64 3)).run Tryz.prog w=.ok (.agg #[.string ⟨#[49,49]⟩,.int .i64 2]) w:=
 ⟨by kernel_rfl,by kernel_rfl,by kernel_rfl,by kernel_rfl⟩
set_option maxHeartbeats 1000000 in
theorem Yyq (s:Int)(w:World)(hp:Yb9 w):Calls Tryz.prog 146 #[.int .i64 s] w fun e w'=>e=.returned (.tuple #[.string (Ycn s),.bool (!(Ycn s).data.toList.isEmpty)])∧Below w.heap.size w w':=by
 have c0:w.cell? ⟨2,0,none⟩=some (.string ⟨#[48,48]⟩):=(hp 0 (by decide)).1;have c1:w.cell? ⟨2,1,none⟩=some (.int .i64 (-1)):=(hp 0 (by decide)).2;have c2:w.cell? ⟨2,2,none⟩=some (.string ⟨#[48,49]⟩):=(hp 1 (by decide)).1;have c3:w.cell? ⟨2,3,none⟩=some (.int .i64 (-2)):=(hp 1 (by decide)).2;have c4:w.cell? ⟨2,4,none⟩=some (.string ⟨#[49,48]⟩):=(hp 2 (by decide)).1
 have c5:w.cell? ⟨2,5,none⟩=some (.int .i64 1):=(hp 2 (by decide)).2;have c6:w.cell? ⟨2,6,none⟩=some (.string ⟨#[49,49]⟩):=(hp 3 (by decide)).1;have c7:w.cell? ⟨2,7,none⟩=some (.int .i64 2):=(hp 3 (by decide)).2;have HV:=Lib.hid (show Value.agg #[.string ⟨#[48,48]⟩,.int .i64 (-1),.string ⟨#[48,49]⟩,.int .i64 (-2),.string ⟨#[49,48]⟩,.int .i64 1,.string ⟨#[49,49]⟩,.int .i64 2]=Yuq from rfl)
 go_enter Tryz.func146,Tryz.ntmps146
 go_wp2
 rw[HV.out];clear c0 c1 c2 c3 c4 c5 c6 c7 hp HV;have i0:=fun w=>(Yja w).1;have i1:=fun w=>(Yja w).2.1;have i2:=fun w=>(Yja w).2.2.1;have i3:=fun w=>(Yja w).2.2.2;generalize Yuq=pv at *;obtain⟨B,hB⟩:∃B,w.heap.size=B:=⟨_,rfl⟩;have hb0:Below B w w:=Below.refl _ _;have hz0:B≤w.heap.size:=by omega
 go_loopw [7] (fun v wr=>∃i:Nat,i≤4∧v=.int .i64 i∧Hid (Yhb s i)∧Below B w wr∧B≤wr.heap.size) (fun v _=>4-(intOf v).toNat)
 case atStart=>exact⟨0,by omega,rfl,Lib.hid (Yhb.first s),hb0,hz0⟩
 case round=>
  obtain⟨i,hi4,rfl,hno,hb,hz⟩:=hrel;have hb1:=fun o=>hb.alloc hz o;clear hb0 hz0;rcases (by omega:i=4∨i=0∨i=1∨i=2∨i=3) with rfl|rfl|rfl|rfl|rfl
  ·have R:=Lib.hid (Yf3 hno.out.all)
   go_wp2
   go_ret2
   exact⟨by rw[R.out];rfl,by rw[hB];exact hb⟩
  ·rcases Ym9 s 0 (-1) rfl with ⟨e1,rfl⟩|⟨e1,e2⟩
   ·go_wp2
    go_ret2
    exact⟨rfl,by rw[hB];exact hb1 _⟩
   ·have N:=Lib.hid (hno.out.next e2);clear e2
    go_wp2
    go_roundw
    case rel=>exact⟨1,by omega,by go_num,N,hb1 _,by simp;omega⟩
    case measure=>simp[intOf]
  ·rcases Ym9 s 1 (-2) rfl with ⟨e1,rfl⟩|⟨e1,e2⟩
   ·go_wp2
    go_ret2
    exact⟨rfl,by rw[hB];exact hb1 _⟩
   ·have N:=Lib.hid (hno.out.next e2);clear e2
    go_wp2
    go_roundw
    case rel=>exact⟨2,by omega,by go_num,N,hb1 _,by simp;omega⟩
    case measure=>simp[intOf]
  ·rcases Ym9 s 2 1 rfl with ⟨e1,rfl⟩|⟨e1,e2⟩
   ·go_wp2
    go_ret2
    exact⟨rfl,by rw[hB];exact hb1 _⟩
   ·have N:=Lib.hid (hno.out.next e2);clear e2
    go_wp2
    go_roundw
    case rel=>exact⟨3,by omega,by go_num,N,hb1 _,by simp;omega⟩
    case measure=>simp[intOf]
  ·rcases Ym9 s 3 2 rfl with ⟨e1,rfl⟩|⟨e1,e2⟩
   ·go_wp2
    go_ret2
    exact⟨rfl,by rw[hB];exact hb1 _⟩
   ·have N:=Lib.hid (hno.out.next e2);clear e2
    go_wp2
    go_roundw
    case rel=>exact⟨4,by omega,by go_num,N,hb1 _,by simp;omega⟩
    case measure=>simp[intOf]
set_option maxHeartbeats 1000000 in
theorem Yyr (s:Int)(w:World):Calls Tryz.prog 83 #[.int .i64 s] w fun e w'=>e=.returned (.string (Ycn s))∧Below w.heap.size w w':=by
 by_cases h0:s < -2
 ·have F:=Lib.hid (Yf3 (s:=s) (by omega));have t0:decide (s < -2)=true:=by simpa using h0
  clear h0;rw[F.out]
  go_enter Tryz.func83,Tryz.ntmps83
  go_wp2
  go_ret
  exact⟨rfl,Below.refl _ _⟩
 by_cases h1:2<s
 ·have F:=Lib.hid (Yf3 (s:=s) (by omega));have t0:decide (s < -2)=false:=by simpa using h0
  have t1:decide (2<s)=true:=by simpa using h1
  clear h0 h1;rw[F.out]
  go_enter Tryz.func83,Tryz.ntmps83
  go_wp2
  go_ret
  exact⟨rfl,Below.refl _ _⟩
 rcases (by omega:s = -2∨s = -1∨s=0∨s=1∨s=2) with rfl|rfl|rfl|rfl|rfl
 all_goals
  clear h0 h1
  go_enter Tryz.func83,Tryz.ntmps83
  go_wp2
  go_ret
  first
   |exact⟨rfl,Below.refl _ _⟩
   |exact⟨rfl,(Below.refl _ w).alloc (Nat.le_refl _) _⟩
set_option maxHeartbeats 1000000 in
theorem Ylu (q s:Int)(w:World):Calls Tryz.prog 42 #[.int .i64 q,.int .i64 s] w fun e w'=>e=.returned (.int .i64 (Yeq q s))∧w=w':=by
 have c1:=fun w=>Ybm q 1 31 w;have c2:=fun w=>Ybm s 0 2 w;have c3:=fun w=>Ybm s (-2) 0 w;have h1:1≤Yax q 1 31∧Yax q 1 31≤31:=⟨Ybl _ _ _,Ybk _ _ _ (by omega)⟩;have h2:0≤Yax s 0 2∧Yax s 0 2≤2:=⟨Ybl _ _ _,Ybk _ _ _ (by omega)⟩;have h3:-2≤Yax s (-2) 0∧Yax s (-2) 0≤0:=⟨Ybl _ _ _,Ybk _ _ _ (by omega)⟩;have h4:Yax s 0 2=0∨Yax s (-2) 0=0:=by unfold Yax;omega
 have h5:Yax s (-2) 2=Yax s 0 2+Yax s (-2) 0:=by unfold Yax;omega
 unfold Yeq;rw[h5];generalize Yax q 1 31=a at *;generalize Yax s 0 2=b at *;generalize Yax s (-2) 0=c at *;clear h5;have H:=Lib.hid (And.intro h1 (And.intro h2 (And.intro h3 h4)));clear h1 h2 h3 h4
 go_enter Tryz.func42,Tryz.ntmps42
 go_wp2_with fail
 refine(c1 _).mono ?_;rintro e w1 ⟨rfl,rfl⟩
 go_wp2
 go_loop [5,6] (fun u v=>∃i y:Int,u=.int .i64 y∧v=.int .i64 i∧Hid (0≤i∧i≤b∧y=a+i∧y≤31)) (fun _ v=>(2-intOf v).toNat)
 case atStart=>exact⟨0,a,rfl,rfl,Lib.hid (by have:=H.out;omega)⟩
 case round=>
  obtain⟨i,y,rfl,rfl,I⟩:=hrel;have i1:0≤i:=I.out.1;have i2:i≤2:=by have:=H.out;have:=I.out;omega
  have y1:1≤y:=by have:=H.out;have:=I.out;omega
  have y2:y≤31:=I.out.2.2.2;rcases (by omega:(i<b∧y<31)∨(i<b∧¬ y<31)∨¬ i<b) with ⟨g1,g2⟩|⟨g1,g2⟩|g1
  ·have N:=Lib.hid (show 0≤i+1∧i+1≤b∧y+1=a+(i+1)∧y+1≤31 by have:=I.out;omega);have t0:decide (i<b)=true:=by simpa using g1
   have t1:decide (y<31)=true:=by simpa using g2
   go_wp2_with fail
   refine(c2 _).mono ?_;rintro e w1 ⟨rfl,rfl⟩;have i3:i<2:=by have:=H.out;omega
   clear g1 g2
   go_wp2
   go_round
   case rel=>exact⟨i+1,y+1,by go_num,by go_num,N⟩
   case measure=>simp[intOf];omega
  case' inr.inl=>
   have Y:=Lib.hid (show y=min (a+b) 31 by have:=I.out;omega);have t0:decide (i<b)=true:=by simpa using g1
   have t1:decide (y<31)=false:=by simpa using g2
  case' inr.inr=>
   have Y:=Lib.hid (show y=min (a+b) 31 by have:=I.out;have:=H.out;omega);have t0:decide (i<b)=false:=by simpa using g1
  all_goals
   clear g1
   try clear g2
   go_wp2_with fail
   refine(c2 _).mono ?_;rintro e w1 ⟨rfl,rfl⟩
   go_wp2
   clear I i1 i2
   go_loop [5,7] (fun u v=>∃k z:Int,u=.int .i64 z∧v=.int .i64 k∧Hid (c≤k∧k≤0∧z=y+k∧1≤z)) (fun _ v=>(2+intOf v).toNat)
   case atStart=>exact⟨0,y,rfl,rfl,Lib.hid (by have:=H.out;omega)⟩
   case round=>
    obtain⟨k,z,rfl,rfl,I⟩:=hrel;have i1:k≤0:=I.out.2.1;have i2:-2≤k:=by have:=H.out;have:=I.out;omega
    have z1:1≤z:=I.out.2.2.2;have z2:z≤31:=by have:=I.out;omega
    rcases (by omega:(c<k∧1<z)∨(c<k∧¬ 1<z)∨¬ c<k) with ⟨g1,g2⟩|⟨g1,g2⟩|g1
    ·have N:=Lib.hid (show c≤k-1∧k-1≤0∧z-1=y+(k-1)∧1≤z-1 by have:=I.out;omega);have t0:decide (c<k)=true:=by simpa using g1
     have t1:decide (1<z)=true:=by simpa using g2
     go_wp2_with fail
     refine(c3 _).mono ?_;rintro e w1 ⟨rfl,rfl⟩;have i3:-2<k:=by have:=H.out;omega
     clear g1 g2
     go_wp2
     go_round
     case rel=>exact⟨k-1,z-1,by go_num,by go_num,N⟩
     case measure=>simp[intOf];omega
    case' inr.inl=>
     have Z:=Lib.hid (show z=Yax (a+(b+c)) 1 31 by have:=I.out;have:=H.out;have:=Y.out;unfold Yax;omega);have t0:decide (c<k)=true:=by simpa using g1
     have t1:decide (1<z)=false:=by simpa using g2
    case' inr.inr=>
     have Z:=Lib.hid (show z=Yax (a+(b+c)) 1 31 by have:=I.out;have:=H.out;have:=Y.out;unfold Yax;omega);have t0:decide (c<k)=false:=by simpa using g1
    all_goals
     clear g1
     try clear g2
     go_wp2_with fail
     refine(c3 _).mono ?_;rintro e w1 ⟨rfl,rfl⟩
     go_wp2
     go_ret
     exact⟨Ya6 Z.out,rfl⟩
theorem Yur {H:Type}{enc:TypeId×Value→H}{P:Program}{w:World}{base:Nat}{sp:Nat→Bool}{held:Bool}{e ts ti:TypeId}{f0 f1:Field}
  (he:P.underlying e=some (.struct #[f0,f1]))(hstr:P.underlying ts=some .string)(hi:P.underlying ti=some (.int .i64))(e0:f0.type=ts)(e1:f1.type=ti)(o0:f0.offset=0)(o1:f1.offset=1)(cs:P.cellsOf ts=1)(ci:P.cellsOf ti=1)
  {k:Nat}{vs:List Value}{x:List UInt8}{z:Int}{q:List MemPlace}(hl:vs.length=2)(h:DataW.trod enc P w base sp held k e vs=some (.agg [.lit (.string x),.lit (.int .i64 z)],q)):
  ∃s:ByteArray,vs=[.string s,.int .i64 z]∧s.data.toList=x:=by
 obtain⟨xs,k,hk,hxy,_,hxl,hfs⟩:=DataW.trod_struct he h
 match xs,hxl,vs,hl with
 |[y0,y1],_,[v0,v1],_=>
  have g0:=hfs 0 f0 rfl;have g1:=hfs 1 f1 rfl;rw[e0,o0,cs] at g0;rw[e1,o1,ci] at g1;obtain⟨x0,q0,hy0,w0⟩:=DataW.trod_string hstr (show DataW.trod _ P w base sp held k ts [v0]=some y0 from g0);obtain⟨x1,q1,hy1,w1⟩:=DataW.trod_int hi (show DataW.trod _ P w base sp held k ti [v1]=some y1 from g1);subst hy0 hy1;injection q0 with q0;injection q1 with q1;subst q0 q1
  simp only[List.map_cons,List.map_nil,Prod.mk.injEq,DataW.agg.injEq,List.cons.injEq,DataW.lit.injEq,Lit.string.injEq,Lit.int.injEq,true_and,and_true] at hxy;obtain⟨⟨r0,r1⟩,_⟩:=hxy;subst r0 r1;exact⟨x0,rfl,rfl⟩
theorem Y0c {H:Type}{enc:TypeId×Value→H}{P:Program}{w:World}{base:Nat}{sp:Nat→Bool}{held:Bool}{fuel:Nat}{t e:TypeId}{n c:Nat}{cs:List Value}{ls:List (DataW H)}{p:List MemPlace}
  (ht:P.underlying t=some (.array n e))(hce:P.cellsOf e=c)(hct:P.cellsOf t=n*c)
  (h:DataW.trod enc P w base sp held fuel t cs=some (.agg ls,p)):cs.length=n*c∧∀i,i<n→∃k d q,ls[i]? =some d∧DataW.trod enc P w base sp held k e ((cs.drop (i*c)).take c)=some (d,q):=by
 cases fuel with
 |zero=>simp[DataW.trod] at h
 |succ fuel=>
  simp only[DataW.trod,ht,hce,hct] at h
  split at h
  ·rename_i hl
   obtain⟨xs,hm,hx⟩:=Option.map_eq_some_iff.1 h;have hxs:xs.map (·.1)=ls:=by
    have:=congrArg Prod.fst hx
    simpa using this
   refine⟨hl,fun i hi=>?_⟩;obtain⟨b,hb,hf⟩:=mapM_at hm i i (by simp[hi]);refine⟨fuel,b.1,b.2,?_,hf⟩;rw[←hxs];simp[hb]
  ·cases h
theorem Yup:(Rows.laid_overspill_steps_codes:DataW Unit)=.agg [.agg [.lit (.string [48,48]),.lit (.int .i64 (-1))],.agg [.lit (.string [48,49]),.lit (.int .i64 (-2))],.agg [.lit (.string [49,48]),.lit (.int .i64 1)],.agg [.lit (.string [49,49]),.lit (.int .i64 2)]]:=by kernel_rfl
theorem Ypl {cs:List Value}{i:Nat}{a b:Value}(h:(cs.drop i).take 2=[a,b]):cs[i]? =some a∧cs[i+1]? =some b:=by
 have h0:=congrArg (·[0]?) h;have h1:=congrArg (·[1]?) h;simp only[List.getElem?_take,List.getElem?_drop] at h0 h1;exact⟨by simpa using h0,by simpa using h1⟩
theorem Yus {laid : List (String × DataW Unit)} {W : World} (hL : laidMetH Tryz.prog laid W) (hm : ("overspill/steps.codes", Rows.laid_overspill_steps_codes) ∈ laid ∧ (laid.all fun x => x.2.handleName?.isNone) = true) : Yb9 W := by
 rw[MakeChecks.laidMetH_plain _ _ _ hm.2] at hL;obtain⟨ps,hv,_,_⟩:=hL;obtain⟨g,t,cs,fuel,p,hg,ht,hc,hd⟩:=Yi1 hv hm.1;obtain rfl := Option.some.inj ((show Tryz.prog.globalNamed "overspill/steps.codes" = some 2 by kernel_rfl).symm.trans hg)
 obtain rfl:=Option.some.inj ((show (Tryz.prog.globals[2]?).map (·.type)=some 188 by kernel_rfl).symm.trans ht);rw[Yup] at hd;obtain⟨hl,hp⟩:=Y0c (c:=2) Tryz.underlying188 (by kernel_rfl) (by kernel_rfl) hd;have hcell:=World.var?_cell hg hc;have key:∀i,(hi:i<4)→∃s:ByteArray,(cs.toList.drop (i*2)).take 2=[.string s,.int .i64 (Y22[i]'hi)]∧s=Y3v[i]'hi:=by
  intro i hi;obtain⟨k,d,q,hd1,hd2⟩:=hp i hi;have hlen:((cs.toList.drop (i*2)).take 2).length=2:=by rw[List.length_take,List.length_drop,hl];omega
  rcases (by omega:i=0∨i=1∨i=2∨i=3) with rfl|rfl|rfl|rfl
  all_goals
   obtain rfl:=Option.some.inj hd1;obtain⟨s,h1,h2⟩:=Yur Tryz.underlying187 Tryz.underlying9 Tryz.underlying3 rfl rfl rfl rfl (by kernel_rfl) (by kernel_rfl) hlen hd2;exact⟨s,h1,by apply ByteArray.ext;apply Array.ext';exact h2⟩
 intro i hi;obtain⟨s,h1,rfl⟩:=key i hi;obtain⟨h2,h3⟩:=Ypl h1;rw[hcell,hcell,Nat.mul_comm 2 i,←Array.getElem?_toList,←Array.getElem?_toList];exact⟨h2,h3⟩
end Go.Proofs.YtnamlooifcpoaaaGreatDoor