/- No condition. -/
import Derived.Test.YtdnjefldijjgdaaGreatDoorRebuildCellsMb
import Derived.Test.YtdnjefldijjgdaaGreatDoorRebuildCellsMc
import Derived.Test.YtdnjefldijjgdaaGreatDoorRebuildCellsMe
import Derived.Test.YtdnjefldijjgdaaGreatDoorRebuildCellsMk
import Derived.Test.YtdnjefldijjgdaaGreatDoorRebuildCellsMl
import Derived.Test.YtdnjefldijjgdaaGreatDoorRebuildCellsMn
import Derived.WalkKit
import Derived.WalkMore
import Derived.IntWalk
import Derived.Lib.Strings
import Derived.Lib.LaidTab
import Derived.MakeChecks
import Derived.Test.YtdnjefldijjgdaaGreatDoorRows
namespace Go.Proofs.YtdnjefldijjgdaaGreatDoor
open Go.RowKit Go.Lib
def Yto:List Int:=[-1,-2,1,2]
def Yt8:List ByteArray:=[⟨#[48,48]⟩,⟨#[48,49]⟩,⟨#[49,48]⟩,⟨#[49,49]⟩]
def Ysb (v:Nat):Int:=Yto[v]?.getD 0
def Ybx (s:Int):ByteArray:=if s = -1 then ⟨#[48,48]⟩ else if s = -2 then ⟨#[48,49]⟩ else if s=1 then ⟨#[49,48]⟩ else if s=2 then ⟨#[49,49]⟩ else ⟨#[]⟩
theorem Yd6 {s:Int}(h:¬ s = -1∧¬ s = -2∧¬ s=1∧¬ s=2):Ybx s=⟨#[]⟩:=by
 unfold Ybx;rw[if_neg h.1,if_neg h.2.1,if_neg h.2.2.1,if_neg h.2.2.2]
def Yrn (q s:Int):Int:=Ya4 (Ya4 q 1 31+Ya4 s (-2) 2) 1 31
def Ybz (w:World):Prop:=∀i,(h:i<4)→w.cell? ⟨1,2*i,none⟩=some (.string (Yt8[i]'h))∧w.cell? ⟨1,2*i+1,none⟩=some (.int .i64 (Yto[i]'h))
theorem Ybz.lt {w:World}(h:Ybz w):1<w.heap.size:=World.block_lt_of_cell? w ⟨1,0,none⟩ (h 0 (by decide)).1
theorem Ybz.below {w w':World}(h:Ybz w)(hb:Below w.heap.size w w'):Ybz w':=fun i hi=>
 ⟨(hb.cell (p:=⟨1,2*i,none⟩) h.lt).trans (h i hi).1,(hb.cell (p:=⟨1,2*i+1,none⟩) h.lt).trans (h i hi).2⟩
def Yn0 (a b:Int)(i:Nat):Prop:=∀j:Nat,j<i→Yrn a (j:Int)≠b∧Yrn a (-(j:Int))≠b
theorem Yn0.next {a b:Int}{i:Nat}(h:Yn0 a b i)(h1:Yrn a (i:Int)≠b)(h2:Yrn a (-(i:Int))≠b):Yn0 a b (i+1):=fun j hj=>by
 by_cases e:j=i
 ·subst e;exact⟨h1,h2⟩
 ·exact h j (by omega)
def Yes (s:Int)(i:Nat):Prop:=∀j,j<i→Ysb j≠s
theorem Yes.first (s:Int):Yes s 0:=fun j h=>absurd h (Nat.not_lt_zero j)
theorem Yes.next {s:Int}{i:Nat}(h:Yes s i)(h1:Ysb i≠s):Yes s (i+1):=fun j hj=>by
 by_cases e:j=i
 ·subst e;exact h1
 ·exact h j (by omega)
theorem Yes.all {s:Int}(h:Yes s 4):¬ s = -1∧¬ s = -2∧¬ s=1∧¬ s=2:=
 ⟨fun e=>h 0 (by decide) e.symm,fun e=>h 1 (by decide) e.symm,fun e=>h 2 (by decide) e.symm,fun e=>h 3 (by decide) e.symm⟩
theorem Yip (s:Int)(i:Nat)(z:Int)(h:Ysb i=z):((z==z)=true∧s=z)∨((z==s)=false∧Ysb i≠s):=by
 by_cases e:s=z
 ·exact .inl ⟨beq_self_eq_true z,e⟩
 ·exact .inr ⟨by rw[beq_eq_false_iff_ne];exact fun h=>e h.symm,by rw[h];exact fun h=>e h.symm⟩
def Ynn:Value:=.agg #[.string ⟨#[48,48]⟩,.int .i64 (-1),.string ⟨#[48,49]⟩,.int .i64 (-2),.string ⟨#[49,48]⟩,.int .i64 1,.string ⟨#[49,49]⟩,.int .i64 2]
theorem Yf2 (w:World):(Instr.index 113 Ynn (.int .i64 0)).run Tryz.prog w=.ok (.agg #[.string ⟨#[48,48]⟩,.int .i64 (-1)]) w∧(Instr.index 113 Ynn (.int .i64 1)).run Tryz.prog w=.ok (.agg #[.string ⟨#[48,49]⟩,.int .i64 (-2)]) w∧
  (Instr.index 113 Ynn (.int .i64 2)).run Tryz.prog w=.ok (.agg #[.string ⟨#[49,48]⟩,.int .i64 1]) w∧(Instr.index 113 Ynn (.int .i64 3)).run Tryz.prog w=.ok (.agg #[.string ⟨#[49,49]⟩,.int .i64 2]) w:=
 ⟨by kernel_rfl,by kernel_rfl,by kernel_rfl,by kernel_rfl⟩
set_option maxHeartbeats 1000000 in
theorem Yqa (s:Int)(w:World)(hp:Ybz w):Calls Tryz.prog 81 #[.int .i64 s] w fun e w'=>e=.returned (.tuple #[.string (Ybx s),.bool (!(Ybx s).data.toList.isEmpty)])∧Below w.heap.size w w':=by
 have c0:w.cell? ⟨1,0,none⟩=some (.string ⟨#[48,48]⟩):=(hp 0 (by decide)).1;have c1:w.cell? ⟨1,1,none⟩=some (.int .i64 (-1)):=(hp 0 (by decide)).2;have c2:w.cell? ⟨1,2,none⟩=some (.string ⟨#[48,49]⟩):=(hp 1 (by decide)).1;have c3:w.cell? ⟨1,3,none⟩=some (.int .i64 (-2)):=(hp 1 (by decide)).2;have c4:w.cell? ⟨1,4,none⟩=some (.string ⟨#[49,48]⟩):=(hp 2 (by decide)).1
 have c5:w.cell? ⟨1,5,none⟩=some (.int .i64 1):=(hp 2 (by decide)).2;have c6:w.cell? ⟨1,6,none⟩=some (.string ⟨#[49,49]⟩):=(hp 3 (by decide)).1;have c7:w.cell? ⟨1,7,none⟩=some (.int .i64 2):=(hp 3 (by decide)).2;have HV:=Lib.hid (show Value.agg #[.string ⟨#[48,48]⟩,.int .i64 (-1),.string ⟨#[48,49]⟩,.int .i64 (-2),.string ⟨#[49,48]⟩,.int .i64 1,.string ⟨#[49,49]⟩,.int .i64 2]=Ynn from rfl)
 go_enter Tryz.func81,Tryz.ntmps81
 go_wp2
 rw[HV.out];clear c0 c1 c2 c3 c4 c5 c6 c7 hp HV;have i0:=fun w=>(Yf2 w).1;have i1:=fun w=>(Yf2 w).2.1;have i2:=fun w=>(Yf2 w).2.2.1;have i3:=fun w=>(Yf2 w).2.2.2;generalize Ynn=pv at *;obtain⟨B,hB⟩:∃B,w.heap.size=B:=⟨_,rfl⟩;have hb0:Below B w w:=Below.refl _ _;have hz0:B≤w.heap.size:=by omega
 go_loopw [7] (fun v wr=>∃i:Nat,i≤4∧v=.int .i64 i∧Hid (Yes s i)∧Below B w wr∧B≤wr.heap.size) (fun v _=>4-(intOf v).toNat)
 case atStart=>exact⟨0,by omega,rfl,Lib.hid (Yes.first s),hb0,hz0⟩
 case round=>
  obtain⟨i,hi4,rfl,hno,hb,hz⟩:=hrel;have hb1:=fun o=>hb.alloc hz o;clear hb0 hz0;rcases (by omega:i=4∨i=0∨i=1∨i=2∨i=3) with rfl|rfl|rfl|rfl|rfl
  ·have R:=Lib.hid (Yd6 hno.out.all)
   go_wp2
   go_ret2
   exact⟨by rw[R.out];rfl,by rw[hB];exact hb⟩
  ·rcases Yip s 0 (-1) rfl with ⟨e1,rfl⟩|⟨e1,e2⟩
   ·go_wp2
    go_ret2
    exact⟨rfl,by rw[hB];exact hb1 _⟩
   ·have N:=Lib.hid (hno.out.next e2);clear e2
    go_wp2
    go_roundw
    case rel=>exact⟨1,by omega,by go_num,N,hb1 _,by simp;omega⟩
    case measure=>simp[intOf]
  ·rcases Yip s 1 (-2) rfl with ⟨e1,rfl⟩|⟨e1,e2⟩
   ·go_wp2
    go_ret2
    exact⟨rfl,by rw[hB];exact hb1 _⟩
   ·have N:=Lib.hid (hno.out.next e2);clear e2
    go_wp2
    go_roundw
    case rel=>exact⟨2,by omega,by go_num,N,hb1 _,by simp;omega⟩
    case measure=>simp[intOf]
  ·rcases Yip s 2 1 rfl with ⟨e1,rfl⟩|⟨e1,e2⟩
   ·go_wp2
    go_ret2
    exact⟨rfl,by rw[hB];exact hb1 _⟩
   ·have N:=Lib.hid (hno.out.next e2);clear e2
    go_wp2
    go_roundw
    case rel=>exact⟨3,by omega,by go_num,N,hb1 _,by simp;omega⟩
    case measure=>simp[intOf]
  ·rcases Yip s 3 2 rfl with ⟨e1,rfl⟩|⟨e1,e2⟩
   ·go_wp2
    go_ret2
    exact⟨rfl,by rw[hB];exact hb1 _⟩
   ·have N:=Lib.hid (hno.out.next e2);clear e2
    go_wp2
    go_roundw
    case rel=>exact⟨4,by omega,by go_num,N,hb1 _,by simp;omega⟩
    case measure=>simp[intOf]
theorem Yno {H:Type}{enc:TypeId×Value→H}{P:Program}{w:World}{base:Nat}{sp:Nat→Bool}{held:Bool}{e ts ti:TypeId}{f0 f1:Field}
  (he:P.underlying e=some (.struct #[f0,f1]))(hstr:P.underlying ts=some .string)(hi:P.underlying ti=some (.int .i64))(e0:f0.type=ts)(e1:f1.type=ti)(o0:f0.offset=0)(o1:f1.offset=1)(cs:P.cellsOf ts=1)(ci:P.cellsOf ti=1)
  {k:Nat}{vs:List Value}{x:List UInt8}{z:Int}{q:List MemPlace}(hl:vs.length=2)(h:DataW.trod enc P w base sp held k e vs=some (.agg [.lit (.string x),.lit (.int .i64 z)],q)):
  ∃s:ByteArray,vs=[.string s,.int .i64 z]∧s.data.toList=x:=by
 obtain⟨xs,k,hk,hxy,_,hxl,hfs⟩:=DataW.trod_struct he h
 match xs,hxl,vs,hl with
 |[y0,y1],_,[v0,v1],_=>
  have g0:=hfs 0 f0 rfl;have g1:=hfs 1 f1 rfl;rw[e0,o0,cs] at g0;rw[e1,o1,ci] at g1;obtain⟨x0,q0,hy0,w0⟩:=DataW.trod_string hstr (show DataW.trod _ P w base sp held k ts [v0]=some y0 from g0);obtain⟨x1,q1,hy1,w1⟩:=DataW.trod_int hi (show DataW.trod _ P w base sp held k ti [v1]=some y1 from g1);subst hy0 hy1;injection q0 with q0;injection q1 with q1;subst q0 q1
  simp only[List.map_cons,List.map_nil,Prod.mk.injEq,DataW.agg.injEq,List.cons.injEq,DataW.lit.injEq,Lit.string.injEq,Lit.int.injEq,true_and,and_true] at hxy;obtain⟨⟨r0,r1⟩,_⟩:=hxy;subst r0 r1;exact⟨x0,rfl,rfl⟩
theorem Yru {H:Type}{enc:TypeId×Value→H}{P:Program}{w:World}{base:Nat}{sp:Nat→Bool}{held:Bool}{fuel:Nat}{t e:TypeId}{n c:Nat}{cs:List Value}{ls:List (DataW H)}{p:List MemPlace}
  (ht:P.underlying t=some (.array n e))(hce:P.cellsOf e=c)(hct:P.cellsOf t=n*c)
  (h:DataW.trod enc P w base sp held fuel t cs=some (.agg ls,p)):cs.length=n*c∧∀i,i<n→∃k d q,ls[i]? =some d∧DataW.trod enc P w base sp held k e ((cs.drop (i*c)).take c)=some (d,q):=by
 cases fuel with
 |zero=>simp[DataW.trod] at h
 |succ fuel=>
  simp only[DataW.trod,ht,hce,hct] at h
  split at h
  ·rename_i hl
   obtain⟨xs,hm,hx⟩:=Option.map_eq_some_iff.1 h;have hxs:xs.map (·.1)=ls:=by
    have:=congrArg Prod.fst hx
    simpa using this
   refine⟨hl,fun i hi=>?_⟩;obtain⟨b,hb,hf⟩:=mapM_at hm i i (by simp[hi]);refine⟨fuel,b.1,b.2,?_,hf⟩;rw[←hxs];simp[hb]
  ·cases h
theorem Ynm:(Rows.laid_overspill_steps_codes:DataW Unit)=.agg [.agg [.lit (.string [48,48]),.lit (.int .i64 (-1))],.agg [.lit (.string [48,49]),.lit (.int .i64 (-2))],.agg [.lit (.string [49,48]),.lit (.int .i64 1)],.agg [.lit (.string [49,49]),.lit (.int .i64 2)]]:=by kernel_rfl
theorem Yj7 {cs:List Value}{i:Nat}{a b:Value}(h:(cs.drop i).take 2=[a,b]):cs[i]? =some a∧cs[i+1]? =some b:=by
 have h0:=congrArg (·[0]?) h;have h1:=congrArg (·[1]?) h;simp only[List.getElem?_take,List.getElem?_drop] at h0 h1;exact⟨by simpa using h0,by simpa using h1⟩
theorem Ynp {laid : List (String × DataW Unit)} {W : World} (hL : laidMetH Tryz.prog laid W) (hm : ("overspill/steps.codes", Rows.laid_overspill_steps_codes) ∈ laid ∧ (laid.all fun x => x.2.handleName?.isNone) = true) : Ybz W := by
 rw[MakeChecks.laidMetH_plain _ _ _ hm.2] at hL;obtain⟨ps,hv,_,_⟩:=hL;obtain⟨g,t,cs,fuel,p,hg,ht,hc,hd⟩:=Yfx hv hm.1;obtain rfl := Option.some.inj ((show Tryz.prog.globalNamed "overspill/steps.codes" = some 1 by kernel_rfl).symm.trans hg)
 obtain rfl:=Option.some.inj ((show (Tryz.prog.globals[1]?).map (·.type)=some 113 by kernel_rfl).symm.trans ht);rw[Ynm] at hd;obtain⟨hl,hp⟩:=Yru (c:=2) Tryz.underlying113 (by kernel_rfl) (by kernel_rfl) hd;have hcell:=World.var?_cell hg hc;have key:∀i,(hi:i<4)→∃s:ByteArray,(cs.toList.drop (i*2)).take 2=[.string s,.int .i64 (Yto[i]'hi)]∧s=Yt8[i]'hi:=by
  intro i hi;obtain⟨k,d,q,hd1,hd2⟩:=hp i hi;have hlen:((cs.toList.drop (i*2)).take 2).length=2:=by rw[List.length_take,List.length_drop,hl];omega
  rcases (by omega:i=0∨i=1∨i=2∨i=3) with rfl|rfl|rfl|rfl
  all_goals
   obtain rfl:=Option.some.inj hd1;obtain⟨s,h1,h2⟩:=Yno Tryz.underlying112 Tryz.underlying9 Tryz.underlying3 rfl rfl rfl rfl (by kernel_rfl) (by kernel_rfl) hlen hd2;exact⟨s,h1,by apply ByteArray.ext;apply Array.ext';exact h2⟩
 intro i hi;obtain⟨s,h1,rfl⟩:=key i hi;obtain⟨h2,h3⟩:=Yj7 h1;rw[hcell,hcell,Nat.mul_comm 2 i,←Array.getElem?_toList,←Array.getElem?_toList];exact⟨h2,h3⟩
set_option maxHeartbeats 1000000 in
theorem Yqb (s:Int)(w:World):Calls Tryz.prog 17 #[.int .i64 s] w fun e w'=>e=.returned (.string (Ybx s))∧Below w.heap.size w w':=by
 by_cases h0:s < -2
 ·have F:=Lib.hid (Yd6 (s:=s) (by omega));have t0:decide (s < -2)=true:=by simpa using h0
  clear h0;rw[F.out]
  go_enter Tryz.func17,Tryz.ntmps17
  go_wp2
  go_ret
  exact⟨rfl,Below.refl _ _⟩
 by_cases h1:2<s
 ·have F:=Lib.hid (Yd6 (s:=s) (by omega));have t0:decide (s < -2)=false:=by simpa using h0
  have t1:decide (2<s)=true:=by simpa using h1
  clear h0 h1;rw[F.out]
  go_enter Tryz.func17,Tryz.ntmps17
  go_wp2
  go_ret
  exact⟨rfl,Below.refl _ _⟩
 rcases (by omega:s = -2∨s = -1∨s=0∨s=1∨s=2) with rfl|rfl|rfl|rfl|rfl
 all_goals
  clear h0 h1
  go_enter Tryz.func17,Tryz.ntmps17
  go_wp2
  go_ret
  first
   |exact⟨rfl,Below.refl _ _⟩
   |exact⟨rfl,(Below.refl _ w).alloc (Nat.le_refl _) _⟩
end Go.Proofs.YtdnjefldijjgdaaGreatDoor