/- No condition. -/
import Derived.Test.YtnamlooifcpoaaaGreatDoorScreensStillMk
import Derived.Test.YtnamlooifcpoaaaGreatDoorScreensStillMl
import Derived.Test.YtnamlooifcpoaaaGreatDoorScreensStillMo
import Derived.WalkKit
import Derived.WalkMore
import Derived.IntWalk
import Derived.Lib.Strings
import Derived.Lib.LaidTab
import Derived.MakeChecks
import Derived.Test.YtnamlooifcpoaaaGreatDoorRows
namespace Go.Proofs.YtnamlooifcpoaaaGreatDoor
open Go.RowKit Go.Lib
def Yzr:List Int:=[-1,-2,1,2]
def Y0k:List ByteArray:=[⟨#[48,48]⟩,⟨#[48,49]⟩,⟨#[49,48]⟩,⟨#[49,49]⟩]
def Yxf (v:Nat):Int:=Yzr[v]?.getD 0
def Yfb (s:Int):ByteArray:=if s = -1 then ⟨#[48,48]⟩ else if s = -2 then ⟨#[48,49]⟩ else if s=1 then ⟨#[49,48]⟩ else if s=2 then ⟨#[49,49]⟩ else ⟨#[]⟩
theorem Ymp {s:Int}(h:¬ s = -1∧¬ s = -2∧¬ s=1∧¬ s=2):Yfb s=⟨#[]⟩:=by
 unfold Yfb;rw[if_neg h.1,if_neg h.2.1,if_neg h.2.2.1,if_neg h.2.2.2]
def Yki (q s:Int):Int:=Yay (Yay q 1 31+Yay s (-2) 2) 1 31
def Ybh (w:World):Prop:=∀i,(h:i<4)→w.cell? ⟨2,2*i,none⟩=some (.string (Y0k[i]'h))∧w.cell? ⟨2,2*i+1,none⟩=some (.int .i64 (Yzr[i]'h))
theorem Ybh.lt {w:World}(h:Ybh w):2<w.heap.size:=World.block_lt_of_cell? w ⟨2,0,none⟩ (h 0 (by decide)).1
theorem Ybh.below {w w':World}(h:Ybh w)(hb:Below w.heap.size w w'):Ybh w':=fun i hi=>
 ⟨(hb.cell (p:=⟨2,2*i,none⟩) h.lt).trans (h i hi).1,(hb.cell (p:=⟨2,2*i+1,none⟩) h.lt).trans (h i hi).2⟩
set_option maxHeartbeats 400000 in
theorem Yjj (n:Int)(w:World):Calls Tryz.prog 98 #[.int .i64 n] w fun e w'=>e=.returned (.int .i64 (Yay n 1 31))∧w=w':=by
 have c:=fun w=>Ya1 n 1 31 w;generalize Yay n 1 31=q at c ⊢
 go_enter Tryz.func98,Tryz.ntmps98
 go_wp2_with (with_reducible refine(c _).mono ?_;rintro e w1 ⟨rfl,rfl⟩)
 go_ret
 exact⟨rfl,rfl⟩
set_option maxHeartbeats 400000 in
theorem Yqz (q s:Int)(w:World):Calls Tryz.prog 74 #[.int .i64 q,.int .i64 s] w fun e w'=>e=.returned (.int .i64 (Yki q s))∧w=w':=by
 have c1:=fun w=>Yjj q w;have c2:=fun w=>Ya1 s (-2) 2 w;have c3:=fun w=>Yjj (Yay q 1 31+Yay s (-2) 2) w;have h1:1≤Yay q 1 31∧Yay q 1 31≤31:=⟨Ybw _ _ _,Ybv _ _ _ (by omega)⟩;have h2:-2≤Yay s (-2) 2∧Yay s (-2) 2≤2:=⟨Ybw _ _ _,Ybv _ _ _ (by omega)⟩;unfold Yki;generalize Yay q 1 31=a at *;generalize Yay s (-2) 2=b at *;generalize Yay (a+b) 1 31=c at *;obtain⟨a1,a2⟩:=h1;obtain⟨b1,b2⟩:=h2
 go_enter Tryz.func74,Tryz.ntmps74
 go_wp2_with fail
 refine(c1 _).mono ?_;rintro e w1 ⟨rfl,rfl⟩
 go_wp2_with fail
 refine(c2 _).mono ?_;rintro e w1 ⟨rfl,rfl⟩
 go_wp2_with fail
 refine(c3 _).mono ?_;rintro e w1 ⟨rfl,rfl⟩
 go_wp2
 go_ret
 exact⟨rfl,rfl⟩
def Yrp (a b:Int)(i:Nat):Prop:=∀j:Nat,j<i→Yki a (j:Int)≠b∧Yki a (-(j:Int))≠b
theorem Yrp.next {a b:Int}{i:Nat}(h:Yrp a b i)(h1:Yki a (i:Int)≠b)(h2:Yki a (-(i:Int))≠b):Yrp a b (i+1):=fun j hj=>by
 by_cases e:j=i
 ·subst e;exact⟨h1,h2⟩
 ·exact h j (by omega)
def Yfh (s:Int)(i:Nat):Prop:=∀j,j<i→Yxf j≠s
theorem Yfh.first (s:Int):Yfh s 0:=fun j h=>absurd h (Nat.not_lt_zero j)
theorem Yfh.next {s:Int}{i:Nat}(h:Yfh s i)(h1:Yxf i≠s):Yfh s (i+1):=fun j hj=>by
 by_cases e:j=i
 ·subst e;exact h1
 ·exact h j (by omega)
theorem Yfh.all {s:Int}(h:Yfh s 4):¬ s = -1∧¬ s = -2∧¬ s=1∧¬ s=2:=
 ⟨fun e=>h 0 (by decide) e.symm,fun e=>h 1 (by decide) e.symm,fun e=>h 2 (by decide) e.symm,fun e=>h 3 (by decide) e.symm⟩
theorem Ykt (s:Int)(i:Nat)(z:Int)(h:Yxf i=z):((z==z)=true∧s=z)∨((z==s)=false∧Yxf i≠s):=by
 by_cases e:s=z
 ·exact .inl ⟨beq_self_eq_true z,e⟩
 ·exact .inr ⟨by rw[beq_eq_false_iff_ne];exact fun h=>e h.symm,by rw[h];exact fun h=>e h.symm⟩
def Yq2:Value:=.agg #[.string ⟨#[48,48]⟩,.int .i64 (-1),.string ⟨#[48,49]⟩,.int .i64 (-2),.string ⟨#[49,48]⟩,.int .i64 1,.string ⟨#[49,49]⟩,.int .i64 2]
theorem Yg3 (w:World):(Instr.index 188 Yq2 (.int .i64 0)).run Tryz.prog w=.ok (.agg #[.string ⟨#[48,48]⟩,.int .i64 (-1)]) w∧(Instr.index 188 Yq2 (.int .i64 1)).run Tryz.prog w=.ok (.agg #[.string ⟨#[48,49]⟩,.int .i64 (-2)]) w∧
  (Instr.index 188 Yq2 (.int .i64 2)).run Tryz.prog w=.ok (.agg #[.string ⟨#[49,48]⟩,.int .i64 1]) w∧(Instr.index 188 Yq2 (.int .i64 3)).run Tryz.prog w=.ok (.agg #[.string ⟨#[49,49]⟩,.int .i64 2]) w:=
 ⟨by kernel_rfl,by kernel_rfl,by kernel_rfl,by kernel_rfl⟩
set_option maxHeartbeats 1000000 in
theorem Yu0 (s:Int)(w:World)(hp:Ybh w):Calls Tryz.prog 146 #[.int .i64 s] w fun e w'=>e=.returned (.tuple #[.string (Yfb s),.bool (!(Yfb s).data.toList.isEmpty)])∧Below w.heap.size w w':=by
 have c0:w.cell? ⟨2,0,none⟩=some (.string ⟨#[48,48]⟩):=(hp 0 (by decide)).1;have c1:w.cell? ⟨2,1,none⟩=some (.int .i64 (-1)):=(hp 0 (by decide)).2;have c2:w.cell? ⟨2,2,none⟩=some (.string ⟨#[48,49]⟩):=(hp 1 (by decide)).1;have c3:w.cell? ⟨2,3,none⟩=some (.int .i64 (-2)):=(hp 1 (by decide)).2;have c4:w.cell? ⟨2,4,none⟩=some (.string ⟨#[49,48]⟩):=(hp 2 (by decide)).1
 have c5:w.cell? ⟨2,5,none⟩=some (.int .i64 1):=(hp 2 (by decide)).2;have c6:w.cell? ⟨2,6,none⟩=some (.string ⟨#[49,49]⟩):=(hp 3 (by decide)).1;have c7:w.cell? ⟨2,7,none⟩=some (.int .i64 2):=(hp 3 (by decide)).2;have HV:=Lib.hid (show Value.agg #[.string ⟨#[48,48]⟩,.int .i64 (-1),.string ⟨#[48,49]⟩,.int .i64 (-2),.string ⟨#[49,48]⟩,.int .i64 1,.string ⟨#[49,49]⟩,.int .i64 2]=Yq2 from rfl)
 go_enter Tryz.func146,Tryz.ntmps146
 go_wp2
 rw[HV.out];clear c0 c1 c2 c3 c4 c5 c6 c7 hp HV;have i0:=fun w=>(Yg3 w).1;have i1:=fun w=>(Yg3 w).2.1;have i2:=fun w=>(Yg3 w).2.2.1;have i3:=fun w=>(Yg3 w).2.2.2;generalize Yq2=pv at *;obtain⟨B,hB⟩:∃B,w.heap.size=B:=⟨_,rfl⟩;have hb0:Below B w w:=Below.refl _ _;have hz0:B≤w.heap.size:=by omega
 go_loopw [7] (fun v wr=>∃i:Nat,i≤4∧v=.int .i64 i∧Hid (Yfh s i)∧Below B w wr∧B≤wr.heap.size) (fun v _=>4-(intOf v).toNat)
 case atStart=>exact⟨0,by omega,rfl,Lib.hid (Yfh.first s),hb0,hz0⟩
 case round=>
  obtain⟨i,hi4,rfl,hno,hb,hz⟩:=hrel;have hb1:=fun o=>hb.alloc hz o;clear hb0 hz0;rcases (by omega:i=4∨i=0∨i=1∨i=2∨i=3) with rfl|rfl|rfl|rfl|rfl
  ·have R:=Lib.hid (Ymp hno.out.all)
   go_wp2
   go_ret2
   exact⟨by rw[R.out];rfl,by rw[hB];exact hb⟩
  ·rcases Ykt s 0 (-1) rfl with ⟨e1,rfl⟩|⟨e1,e2⟩
   ·go_wp2
    go_ret2
    exact⟨rfl,by rw[hB];exact hb1 _⟩
   ·have N:=Lib.hid (hno.out.next e2);clear e2
    go_wp2
    go_roundw
    case rel=>exact⟨1,by omega,by go_num,N,hb1 _,by simp;omega⟩
    case measure=>simp[intOf]
  ·rcases Ykt s 1 (-2) rfl with ⟨e1,rfl⟩|⟨e1,e2⟩
   ·go_wp2
    go_ret2
    exact⟨rfl,by rw[hB];exact hb1 _⟩
   ·have N:=Lib.hid (hno.out.next e2);clear e2
    go_wp2
    go_roundw
    case rel=>exact⟨2,by omega,by go_num,N,hb1 _,by simp;omega⟩
    case measure=>simp[intOf]
  ·rcases Ykt s 2 1 rfl with ⟨e1,rfl⟩|⟨e1,e2⟩
   ·go_wp2
    go_ret2
    exact⟨rfl,by rw[hB];exact hb1 _⟩
   ·have N:=Lib.hid (hno.out.next e2);clear e2
    go_wp2
    go_roundw
    case rel=>exact⟨3,by omega,by go_num,N,hb1 _,by simp;omega⟩
    case measure=>simp[intOf]
  ·rcases Ykt s 3 2 rfl with ⟨e1,rfl⟩|⟨e1,e2⟩
   ·go_wp2
    go_ret2
    exact⟨rfl,by rw[hB];exact hb1 _⟩
   ·have N:=Lib.hid (hno.out.next e2);clear e2
    go_wp2
    go_roundw
    case rel=>exact⟨4,by omega,by go_num,N,hb1 _,by simp;omega⟩
    case measure=>simp[intOf]
theorem Yq3 {H:Type}{enc:TypeId×Value→H}{P:Program}{w:World}{base:Nat}{sp:Nat→Bool}{held:Bool}{e ts ti:TypeId}{f0 f1:Field}
  (he:P.underlying e=some (.struct #[f0,f1]))(hstr:P.underlying ts=some .string)(hi:P.underlying ti=some (.int .i64))(e0:f0.type=ts)(e1:f1.type=ti)(o0:f0.offset=0)(o1:f1.offset=1)(cs:P.cellsOf ts=1)(ci:P.cellsOf ti=1)
  {k:Nat}{vs:List Value}{x:List UInt8}{z:Int}{q:List MemPlace}(hl:vs.length=2)(h:DataW.trod enc P w base sp held k e vs=some (.agg [.lit (.string x),.lit (.int .i64 z)],q)):
  ∃s:ByteArray,vs=[.string s,.int .i64 z]∧s.data.toList=x:=by
 obtain⟨xs,k,hk,hxy,_,hxl,hfs⟩:=DataW.trod_struct he h
 match xs,hxl,vs,hl with
 |[y0,y1],_,[v0,v1],_=>
  have g0:=hfs 0 f0 rfl;have g1:=hfs 1 f1 rfl;rw[e0,o0,cs] at g0;rw[e1,o1,ci] at g1;obtain⟨x0,q0,hy0,w0⟩:=DataW.trod_string hstr (show DataW.trod _ P w base sp held k ts [v0]=some y0 from g0);obtain⟨x1,q1,hy1,w1⟩:=DataW.trod_int hi (show DataW.trod _ P w base sp held k ti [v1]=some y1 from g1);subst hy0 hy1;injection q0 with q0;injection q1 with q1;subst q0 q1
  simp only[List.map_cons,List.map_nil,Prod.mk.injEq,DataW.agg.injEq,List.cons.injEq,DataW.lit.injEq,Lit.string.injEq,Lit.int.injEq,true_and,and_true] at hxy;obtain⟨⟨r0,r1⟩,_⟩:=hxy;subst r0 r1;exact⟨x0,rfl,rfl⟩
theorem Ywn {H:Type}{enc:TypeId×Value→H}{P:Program}{w:World}{base:Nat}{sp:Nat→Bool}{held:Bool}{fuel:Nat}{t e:TypeId}{n c:Nat}{cs:List Value}{ls:List (DataW H)}{p:List MemPlace}
  (ht:P.underlying t=some (.array n e))(hce:P.cellsOf e=c)(hct:P.cellsOf t=n*c)
  (h:DataW.trod enc P w base sp held fuel t cs=some (.agg ls,p)):cs.length=n*c∧∀i,i<n→∃k d q,ls[i]? =some d∧DataW.trod enc P w base sp held k e ((cs.drop (i*c)).take c)=some (d,q):=by
 cases fuel with
 |zero=>simp[DataW.trod] at h
 |succ fuel=>
  simp only[DataW.trod,ht,hce,hct] at h
  split at h
  ·rename_i hl
   obtain⟨xs,hm,hx⟩:=Option.map_eq_some_iff.1 h;have hxs:xs.map (·.1)=ls:=by
    have:=congrArg Prod.fst hx
    simpa using this
   refine⟨hl,fun i hi=>?_⟩;obtain⟨b,hb,hf⟩:=mapM_at hm i i (by simp[hi]);refine⟨fuel,b.1,b.2,?_,hf⟩;rw[←hxs];simp[hb]
  ·cases h
theorem Yq1:(Rows.laid_overspill_steps_codes:DataW Unit)=.agg [.agg [.lit (.string [48,48]),.lit (.int .i64 (-1))],.agg [.lit (.string [48,49]),.lit (.int .i64 (-2))],.agg [.lit (.string [49,48]),.lit (.int .i64 1)],.agg [.lit (.string [49,49]),.lit (.int .i64 2)]]:=by kernel_rfl
theorem Ymy {cs:List Value}{i:Nat}{a b:Value}(h:(cs.drop i).take 2=[a,b]):cs[i]? =some a∧cs[i+1]? =some b:=by
 have h0:=congrArg (·[0]?) h;have h1:=congrArg (·[1]?) h;simp only[List.getElem?_take,List.getElem?_drop] at h0 h1;exact⟨by simpa using h0,by simpa using h1⟩
theorem Yq4 {laid : List (String × DataW Unit)} {W : World} (hL : laidMetH Tryz.prog laid W) (hm : ("overspill/steps.codes", Rows.laid_overspill_steps_codes) ∈ laid ∧ (laid.all fun x => x.2.handleName?.isNone) = true) : Ybh W := by
 rw[MakeChecks.laidMetH_plain _ _ _ hm.2] at hL;obtain⟨ps,hv,_,_⟩:=hL;obtain⟨g,t,cs,fuel,p,hg,ht,hc,hd⟩:=Yg0 hv hm.1;obtain rfl := Option.some.inj ((show Tryz.prog.globalNamed "overspill/steps.codes" = some 2 by kernel_rfl).symm.trans hg)
 obtain rfl:=Option.some.inj ((show (Tryz.prog.globals[2]?).map (·.type)=some 188 by kernel_rfl).symm.trans ht);rw[Yq1] at hd;obtain⟨hl,hp⟩:=Ywn (c:=2) Tryz.underlying188 (by kernel_rfl) (by kernel_rfl) hd;have hcell:=World.var?_cell hg hc;have key:∀i,(hi:i<4)→∃s:ByteArray,(cs.toList.drop (i*2)).take 2=[.string s,.int .i64 (Yzr[i]'hi)]∧s=Y0k[i]'hi:=by
  intro i hi;obtain⟨k,d,q,hd1,hd2⟩:=hp i hi;have hlen:((cs.toList.drop (i*2)).take 2).length=2:=by rw[List.length_take,List.length_drop,hl];omega
  rcases (by omega:i=0∨i=1∨i=2∨i=3) with rfl|rfl|rfl|rfl
  all_goals
   obtain rfl:=Option.some.inj hd1;obtain⟨s,h1,h2⟩:=Yq3 Tryz.underlying187 Tryz.underlying9 Tryz.underlying3 rfl rfl rfl rfl (by kernel_rfl) (by kernel_rfl) hlen hd2;exact⟨s,h1,by apply ByteArray.ext;apply Array.ext';exact h2⟩
 intro i hi;obtain⟨s,h1,rfl⟩:=key i hi;obtain⟨h2,h3⟩:=Ymy h1;rw[hcell,hcell,Nat.mul_comm 2 i,←Array.getElem?_toList,←Array.getElem?_toList];exact⟨h2,h3⟩
end Go.Proofs.YtnamlooifcpoaaaGreatDoor