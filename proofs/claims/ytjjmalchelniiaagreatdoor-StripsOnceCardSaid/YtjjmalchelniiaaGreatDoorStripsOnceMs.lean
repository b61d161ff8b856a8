/- Part 19 of StripsOnce. No condition. -/
import Derived.Test.YtjjmalchelniiaaGreatDoorStripsOnceMb
import Derived.Test.YtjjmalchelniiaaGreatDoorStripsOnceMg
import Derived.Test.YtjjmalchelniiaaGreatDoorStripsOnceMo
import Derived.WalkKit
import Derived.WalkMore
import Derived.IntWalk
import Derived.Lib.Strings
import Derived.Lib.LaidTab
import Derived.MakeChecks
import Derived.Test.YtjjmalchelniiaaGreatDoorRows
import Derived.ProofKit
import Derived.Lib.Hide
namespace Go.Proofs.YtjjmalchelniiaaGreatDoor
open Go.RowKit Go.Lib
def Yqp:List ByteArray:=[⟨#[48,48,49,49]⟩,⟨#[48,48,49,48,49]⟩,⟨#[48,48,49,48,48]⟩,⟨#[49,48,48,49]⟩,⟨#[48,48,48,49,49]⟩,⟨#[48,49,49,49]⟩,⟨#[48,48,48,48,49,48]⟩,⟨#[49,48,49,49]⟩,⟨#[48,48,48,49,48]⟩,⟨#[48,48,48,48,49,49]⟩,⟨#[48,49,48,49]⟩,⟨#[49,48,49,48]⟩,⟨#[48,49,48,48]⟩,⟨#[49,48,48,48]⟩,⟨#[48,49,49,48]⟩,⟨#[49,49]⟩]
theorem Yc5:Yqp.length=16:=rfl
def Yf4 (intra:Bool)(i:Nat):Nat:=if intra then i else 15-i
def Yf2 (intra:Bool)(k:Int):ByteArray:=if 0≤k∧k<16 then Yqp[Yf4 intra k.toNat]?.getD ⟨#[]⟩ else ⟨#[]⟩
theorem Yxa {intra:Bool}{k:Int}(h:k<0∨16≤k):Yf2 intra k=⟨#[]⟩:=by
 unfold Yf2;rw[if_neg (by omega)]
def Ye3 (w:World):Prop:=∀i,(h:i<16)→w.cell? ⟨1,i,none⟩=some (.string (Yqp[i]'(by rw[Yc5];exact h)))
theorem Ye3.lt {w:World}(h:Ye3 w):1<w.heap.size:=World.block_lt_of_cell? w ⟨1,0,none⟩ (h 0 (by decide))
theorem Ye3.below {w w':World}(h:Ye3 w)(hb:Below w.heap.size w w'):Ye3 w':=fun i hi=>(hb.cell (p:=⟨1,i,none⟩) h.lt).trans (h i hi)
theorem Qas (intra:Bool)(k:Int)(h0:-1000≤k)(h1:k≤1000)(w:World):Calls Tryz.prog 202 #[.bool intra,.int .i64 k] w fun e w'=>e=.returned (.int .i64 (if intra then k else 15-k))∧w=w':=by
 cases intra with
 |true=>
  go_enter Tryz.func202,Tryz.ntmps202
  go_wp2
  go_ret
  exact⟨rfl,rfl⟩
 |false=>
  go_enter Tryz.func202,Tryz.ntmps202
  go_wp2
  go_ret
  exact⟨rfl,rfl⟩
theorem Ykt {intra:Bool}{i:Nat}(h:i<16):Yf4 intra i<16:=by
 unfold Yf4
 split <;> omega
theorem Y5h {intra:Bool}{i:Nat}(h:i<16):Yf4 intra (Yf4 intra i)=i:=by
 unfold Yf4
 split <;> omega
theorem Y2e (intra:Bool)(i:Nat)(h:i<16)(w:World):Calls Tryz.prog 202 #[.bool intra,.int .i64 (i:Int)] w fun e w'=>e=.returned (.int .i64 (Yf4 intra i:Nat))∧w=w':=by
 refine(Qas intra i (by omega) (by omega) w).mono ?_;rintro e w' ⟨rfl,rfl⟩;have e:(if intra then (i:Int) else 15-(i:Int))=(Yf4 intra i:Nat):=by
  unfold Yf4;cases intra
  ·simp;omega
  ·rfl
 exact⟨by rw[←e],rfl⟩
theorem Y90:∀j,(h:j<16)→(Yqp[j]'(by rw[Yc5];exact h)).data.toList.isEmpty=false:=by decide +kernel
theorem Y15 {intra:Bool}{a j:Nat}(h:a<16)(hj:Yf4 intra a=j):Yf2 intra (a:Int)=Yqp[j]'(by rw[Yc5,←hj];exact Ykt h):=by
 unfold Yf2;have hj16:j<Yqp.length:=by rw[Yc5,←hj];exact Ykt h
 rw[if_pos (by omega),Int.toNat_natCast];have e:Yqp[Yf4 intra a]? =some Yqp[j]:=by rw[hj];exact List.getElem?_eq_getElem hj16
 rw[e]
 rfl
theorem Y96 (intra:Bool)(k:Int)(w:World)(hp:Ye3 w):Calls Tryz.prog 186 #[.bool intra,.int .i64 k] w fun e w'=>e=.returned (.tuple #[.string (Yf2 intra k),.bool (!(Yf2 intra k).data.toList.isEmpty)])∧Below w.heap.size w w':=by
 by_cases h0:k<0
 ·have F:=Lib.hid (Yxa (intra:=intra) (.inl h0));have t0:decide (k<0)=true:=by simpa using h0
  clear h0;rw[F.out]
  go_enter Tryz.func186,Tryz.ntmps186
  go_wp2
  go_ret2
  exact⟨rfl,Below.refl _ _⟩
 by_cases h4:16≤k
 ·have F:=Lib.hid (Yxa (intra:=intra) (.inr h4));have t0:decide (k<0)=false:=by simpa using h0
  have t1:decide (16≤k)=true:=by simpa using h4
  clear h0 h4;rw[F.out]
  go_enter Tryz.func186,Tryz.ntmps186
  go_wp2
  go_ret2
  exact⟨rfl,Below.refl _ _⟩
 obtain⟨a,rfl⟩:∃a:Nat,k=a:=⟨k.toNat,by omega⟩;have t0:decide ((a:Int)<0)=false:=by simp
 have t1:decide (16≤(a:Int))=false:=by simp;omega
 have ha:a<16:=by omega
 obtain⟨j,hj⟩:∃j,Yf4 intra a=j:=⟨_,rfl⟩;have hj16:j<16:=by rw[←hj];exact Ykt ha
 have hcon:=fun x=>Y2e intra a ha x;rw[hj] at hcon;have F:=Lib.hid (Y15 (intra:=intra) ha hj);obtain⟨s,hs⟩:∃s,Yqp[j]'(by rw[Yc5];exact hj16)=s:=⟨_,rfl⟩;have hne:s.data.toList.isEmpty=false:=by rw[←hs];exact Y90 j hj16
 have c0:w.cell? ⟨1,j,none⟩=some (.string s):=(hp j hj16).trans (by rw[←hs]);rw[hs] at F;have G:=Lib.hid (show (!s.data.toList.isEmpty)=true by rw[hne];rfl);rw[F.out,G.out];clear h0 h4 hj hs hne F hp
 go_enter Tryz.func186,Tryz.ntmps186
 go_wp2_with fail
 refine(hcon _).mono ?_;rintro e w1 ⟨rfl,rfl⟩
 go_wp2
 go_ret2
 exact⟨rfl,Below.refl _ _⟩
def Qil:List Int:=[-1,-2,1,2]
def Qjs:List ByteArray:=[⟨#[48,48]⟩,⟨#[48,49]⟩,⟨#[49,48]⟩,⟨#[49,49]⟩]
def Y5z (v:Nat):Int:=Qil[v]?.getD 0
def Yb8 (s:Int):ByteArray:=if s = -1 then ⟨#[48,48]⟩ else if s = -2 then ⟨#[48,49]⟩ else if s=1 then ⟨#[49,48]⟩ else if s=2 then ⟨#[49,49]⟩ else ⟨#[]⟩
theorem Yxo {s:Int}(h:¬ s = -1∧¬ s = -2∧¬ s=1∧¬ s=2):Yb8 s=⟨#[]⟩:=by
 unfold Yb8;rw[if_neg h.1,if_neg h.2.1,if_neg h.2.2.1,if_neg h.2.2.2]
def stk (b:List UInt8):Int×Int×Nat:=if b.length<2 then (0,2,0) else (Y5z (num (b.take 2)),0,2)
theorem Qa6 {b:List UInt8}(h:b.length<2):stk b=(0,2,0):=if_pos h
theorem Yuf {b:List UInt8}(h:2≤b.length):stk b=(Y5z (num (b.take 2)),0,2):=if_neg (by omega)
def Qeg (q s:Int):Int:=Qgj (Qgj q 1 31+Qgj s (-2) 2) 1 31
def Ycn (w:World):Prop:=∀i,(h:i<4)→w.cell? ⟨0,2*i,none⟩=some (.string (Qjs[i]'h))∧w.cell? ⟨0,2*i+1,none⟩=some (.int .i64 (Qil[i]'h))
theorem Ycn.lt {w:World}(h:Ycn w):0<w.heap.size:=World.block_lt_of_cell? w ⟨0,0,none⟩ (h 0 (by decide)).1
theorem Ycn.below {w w':World}(h:Ycn w)(hb:Below w.heap.size w w'):Ycn w':=fun i hi=>
 ⟨(hb.cell (p:=⟨0,2*i,none⟩) h.lt).trans (h i hi).1,(hb.cell (p:=⟨0,2*i+1,none⟩) h.lt).trans (h i hi).2⟩
theorem Ycn.grown {w w':World}{b:Nat}(h:Ycn w)(hg:w.grownBy w' (some b))(hne:0≠b):Ycn w':=fun i hi=>by
 have e:∀o,w'.cell? ⟨0,o,none⟩=w.cell? ⟨0,o,none⟩:=fun o=>by
  have:=hg.block 0 h.lt (by simpa using hne);unfold World.cell?;rw[this]
 exact⟨(e _).trans (h i hi).1,(e _).trans (h i hi).2⟩
def Y6v (a b:Int)(i:Nat):Prop:=∀j:Nat,j<i→Qeg a (j:Int)≠b∧Qeg a (-(j:Int))≠b
theorem Y6v.next {a b:Int}{i:Nat}(h:Y6v a b i)(h1:Qeg a (i:Int)≠b)(h2:Qeg a (-(i:Int))≠b):Y6v a b (i+1):=fun j hj=>by
 by_cases e:j=i
 ·subst e;exact⟨h1,h2⟩
 ·exact h j (by omega)
def Yjz (s:Int)(i:Nat):Prop:=∀j,j<i→Y5z j≠s
theorem Yjz.first (s:Int):Yjz s 0:=fun j h=>absurd h (Nat.not_lt_zero j)
theorem Yjz.next {s:Int}{i:Nat}(h:Yjz s i)(h1:Y5z i≠s):Yjz s (i+1):=fun j hj=>by
 by_cases e:j=i
 ·subst e;exact h1
 ·exact h j (by omega)
theorem Yjz.all {s:Int}(h:Yjz s 4):¬ s = -1∧¬ s = -2∧¬ s=1∧¬ s=2:=
 ⟨fun e=>h 0 (by decide) e.symm,fun e=>h 1 (by decide) e.symm,fun e=>h 2 (by decide) e.symm,fun e=>h 3 (by decide) e.symm⟩
theorem Yue (s:Int)(i:Nat)(z:Int)(h:Y5z i=z):((z==z)=true∧s=z)∨((z==s)=false∧Y5z i≠s):=by
 by_cases e:s=z
 ·exact .inl ⟨beq_self_eq_true z,e⟩
 ·exact .inr ⟨by rw[beq_eq_false_iff_ne];exact fun h=>e h.symm,by rw[h];exact fun h=>e h.symm⟩
def Y50:Value:=.agg #[.string ⟨#[48,48]⟩,.int .i64 (-1),.string ⟨#[48,49]⟩,.int .i64 (-2),.string ⟨#[49,48]⟩,.int .i64 1,.string ⟨#[49,49]⟩,.int .i64 2]
theorem Yni (w:World):(Instr.index 195 Y50 (.int .i64 0)).run Tryz.prog w=.ok (.agg #[.string ⟨#[48,48]⟩,.int .i64 (-1)]) w∧(Instr.index 195 Y50 (.int .i64 1)).run Tryz.prog w=.ok (.agg #[.string ⟨#[48,49]⟩,.int .i64 (-2)]) w∧
  (Instr.index 195 Y50 (.int .i64 2)).run Tryz.prog w=.ok (.agg #[.string ⟨#[49,48]⟩,.int .i64 1]) w∧(Instr.index 195 Y50 (.int .i64 3)).run Tryz.prog w=.ok (.agg #[.string ⟨#[49,49]⟩,.int .i64 2]) w:=
 ⟨by kernel_rfl,by kernel_rfl,by kernel_rfl,by kernel_rfl⟩
set_option maxHeartbeats 1000000 in
theorem Yxn (s:Int)(w:World)(hp:Ycn w):Calls Tryz.prog 150 #[.int .i64 s] w fun e w'=>e=.returned (.tuple #[.string (Yb8 s),.bool (!(Yb8 s).data.toList.isEmpty)])∧Below w.heap.size w w':=by
 have c0:w.cell? ⟨0,0,none⟩=some (.string ⟨#[48,48]⟩):=(hp 0 (by decide)).1;have c1:w.cell? ⟨0,1,none⟩=some (.int .i64 (-1)):=(hp 0 (by decide)).2;have c2:w.cell? ⟨0,2,none⟩=some (.string ⟨#[48,49]⟩):=(hp 1 (by decide)).1;have c3:w.cell? ⟨0,3,none⟩=some (.int .i64 (-2)):=(hp 1 (by decide)).2;have c4:w.cell? ⟨0,4,none⟩=some (.string ⟨#[49,48]⟩):=(hp 2 (by decide)).1
 have c5:w.cell? ⟨0,5,none⟩=some (.int .i64 1):=(hp 2 (by decide)).2;have c6:w.cell? ⟨0,6,none⟩=some (.string ⟨#[49,49]⟩):=(hp 3 (by decide)).1;have c7:w.cell? ⟨0,7,none⟩=some (.int .i64 2):=(hp 3 (by decide)).2;have HV:=Lib.hid (show Value.agg #[.string ⟨#[48,48]⟩,.int .i64 (-1),.string ⟨#[48,49]⟩,.int .i64 (-2),.string ⟨#[49,48]⟩,.int .i64 1,.string ⟨#[49,49]⟩,.int .i64 2]=Y50 from rfl)
 go_enter Tryz.func150,Tryz.ntmps150
 go_wp2
 rw[HV.out];clear c0 c1 c2 c3 c4 c5 c6 c7 hp HV;have i0:=fun w=>(Yni w).1;have i1:=fun w=>(Yni w).2.1;have i2:=fun w=>(Yni w).2.2.1;have i3:=fun w=>(Yni w).2.2.2;generalize Y50=pv at *;obtain⟨B,hB⟩:∃B,w.heap.size=B:=⟨_,rfl⟩;have hb0:Below B w w:=Below.refl _ _;have hz0:B≤w.heap.size:=by omega
 go_loopw [7] (fun v wr=>∃i:Nat,i≤4∧v=.int .i64 i∧Hid (Yjz s i)∧Below B w wr∧B≤wr.heap.size) (fun v _=>4-(intOf v).toNat)
 case atStart=>exact⟨0,by omega,rfl,Lib.hid (Yjz.first s),hb0,hz0⟩
 case round=>
  obtain⟨i,hi4,rfl,hno,hb,hz⟩:=hrel;have hb1:=fun o=>hb.alloc hz o;clear hb0 hz0;rcases (by omega:i=4∨i=0∨i=1∨i=2∨i=3) with rfl|rfl|rfl|rfl|rfl
  ·have R:=Lib.hid (Yxo hno.out.all)
   go_wp2
   go_ret2
   exact⟨by rw[R.out];rfl,by rw[hB];exact hb⟩
  ·rcases Yue s 0 (-1) rfl with ⟨e1,rfl⟩|⟨e1,e2⟩
   ·go_wp2
    go_ret2
    exact⟨rfl,by rw[hB];exact hb1 _⟩
   ·have N:=Lib.hid (hno.out.next e2);clear e2
    go_wp2
    go_roundw
    case rel=>exact⟨1,by omega,by go_num,N,hb1 _,by simp;omega⟩
    case measure=>simp[intOf]
  ·rcases Yue s 1 (-2) rfl with ⟨e1,rfl⟩|⟨e1,e2⟩
   ·go_wp2
    go_ret2
    exact⟨rfl,by rw[hB];exact hb1 _⟩
   ·have N:=Lib.hid (hno.out.next e2);clear e2
    go_wp2
    go_roundw
    case rel=>exact⟨2,by omega,by go_num,N,hb1 _,by simp;omega⟩
    case measure=>simp[intOf]
  ·rcases Yue s 2 1 rfl with ⟨e1,rfl⟩|⟨e1,e2⟩
   ·go_wp2
    go_ret2
    exact⟨rfl,by rw[hB];exact hb1 _⟩
   ·have N:=Lib.hid (hno.out.next e2);clear e2
    go_wp2
    go_roundw
    case rel=>exact⟨3,by omega,by go_num,N,hb1 _,by simp;omega⟩
    case measure=>simp[intOf]
  ·rcases Yue s 3 2 rfl with ⟨e1,rfl⟩|⟨e1,e2⟩
   ·go_wp2
    go_ret2
    exact⟨rfl,by rw[hB];exact hb1 _⟩
   ·have N:=Lib.hid (hno.out.next e2);clear e2
    go_wp2
    go_roundw
    case rel=>exact⟨4,by omega,by go_num,N,hb1 _,by simp;omega⟩
    case measure=>simp[intOf]
def Qi7 (s:ByteArray)(rb p:Nat)(w:World)(e:Ending)(w':World):Prop:=
 e=.returned (.tuple #[.int .i64 (stk ((Yad s.data.toList).drop p)).1,.int .i64 (stk ((Yad s.data.toList).drop p)).2.1])∧
  Yba w' rb s (p+(stk ((Yad s.data.toList).drop p)).2.2)∧w.grownBy w' (some rb)
theorem Qim (s:ByteArray)(p:Nat):((Yad s.data.toList).drop p).length=8*s.size-p:=by rw[List.length_drop,Yag];rfl
set_option maxHeartbeats 1000000 in
theorem Y5w (w:World)(rb:Nat)(s:ByteArray)(p:Nat)(hp:Ycn w)(hne:0≠rb)(hr:Yba w rb s p):Calls Tryz.prog 212 #[.pointer (some ⟨rb,0,none⟩)] w (Qi7 s rb p w):=by
 have hpl:=hr.2.1;have hl:=Qim s p;have hdl:s.data.toList.length=s.size:=rfl;unfold Qi7;have hc:=Ycz w rb s p 2 hr;by_cases h2:8*s.size-p<2
 ·have hs:=Qa6 (b:=(Yad s.data.toList).drop p) (by omega);have ha:ask s.data.toList p 2=(0,2):=Ybo (by omega) (by rw[hdl];omega);have hto:Yc1 s.data.toList p 2=p:=by unfold Yc1;rw[ha];rfl
  rw[ha,hto] at hc;rw[hs];clear hs ha hto hl
  go_enter Tryz.func212,Tryz.ntmps212
  go_wp2_with fail
  refine hc.mono ?_;rintro e w1 ⟨rfl,hr1,hg1⟩
  go_wp2
  go_ret2
  exact⟨rfl,hr1,hg1⟩
 ·have hs:=Yuf (b:=(Yad s.data.toList).drop p) (by omega);have ha:ask s.data.toList p 2=(((Ya3 s.data.toList p 2:Nat):Int),0):=Yc8 (by omega) (by rw[hdl];omega);have hto:Yc1 s.data.toList p 2=p+2:=by unfold Yc1;rw[ha];rfl
  have hv:=Ycg s.data.toList p 2;have ht:num (((Yad s.data.toList).drop p).take 2)=Ya3 s.data.toList p 2:=rfl;rw[ha,hto] at hc;rw[hs,ht];obtain⟨v,hv'⟩:∃v,Ya3 s.data.toList p 2=v:=⟨_,rfl⟩;rw[hv'] at hc hv ⊢;have HP:=Lib.hid (fun w' (hg:w.grownBy w' (some rb))=>(hp.grown hg hne:Ycn w'));clear hs ha hto hl ht hv' hp;rcases (by omega:v=0∨v=1∨v=2∨v=3) with rfl|rfl|rfl|rfl
  all_goals
   go_enter Tryz.func212,Tryz.ntmps212
   go_wp2_with fail
   refine hc.mono ?_;rintro e w1 ⟨rfl,hr1,hg1⟩;have hp1:=HP.out _ hg1;have c1:w1.cell? ⟨0,1,none⟩=some (.int .i64 (-1)):=(hp1 0 (by decide)).2;have c3:w1.cell? ⟨0,3,none⟩=some (.int .i64 (-2)):=(hp1 1 (by decide)).2;have c5:w1.cell? ⟨0,5,none⟩=some (.int .i64 1):=(hp1 2 (by decide)).2;have c7:w1.cell? ⟨0,7,none⟩=some (.int .i64 2):=(hp1 3 (by decide)).2
   go_wp2
   go_ret2
   exact⟨rfl,hr1,hg1⟩
theorem Y93:(Rows.laid_overspill_cbpy_rows:DataW Unit)=.agg ((Yqp.map fun x=>x.data.toList).map fun l=>.lit (.string l)):=by kernel_rfl
theorem Y92 {laid : List (String × DataW Unit)} {W : World} (hL : laidMetH Tryz.prog laid W) (hm : ("overspill/cbpy.rows", Rows.laid_overspill_cbpy_rows) ∈ laid ∧ (laid.all fun x => x.2.handleName?.isNone) = true) : Ye3 W := by
 rw[MakeChecks.laidMetH_plain _ _ _ hm.2] at hL;obtain⟨ps,hv,_,_⟩:=hL;obtain⟨g,t,cs,fuel,p,hg,ht,hc,hd⟩:=Ykn hv hm.1;obtain rfl := Option.some.inj ((show Tryz.prog.globalNamed "overspill/cbpy.rows" = some 1 by kernel_rfl).symm.trans hg)
 obtain rfl:=Option.some.inj ((show (Tryz.prog.globals[1]?).map (·.type)=some 226 by kernel_rfl).symm.trans ht);rw[Y93] at hd;intro i hi;obtain⟨s,h1,h2⟩:=Yqf Tryz.underlying226 Tryz.underlying9 (by kernel_rfl) (by kernel_rfl) hd i hi;have hcell:=World.var?_cell hg hc i;have hs:s=Yqp[i]'(by rw[Yc5];exact hi):=by
  rw[List.getElem?_map,List.getElem?_eq_getElem (by rw[Yc5];exact hi)] at h2;apply ByteArray.ext;apply Array.ext';exact(Option.some.inj h2).symm
 rw[hcell,←hs,←Array.getElem?_toList];exact h1
theorem Y51 {H:Type}{enc:TypeId×Value→H}{P:Program}{w:World}{base:Nat}{sp:Nat→Bool}{held:Bool}{e ts ti:TypeId}{f0 f1:Field}
  (he:P.underlying e=some (.struct #[f0,f1]))(hstr:P.underlying ts=some .string)(hi:P.underlying ti=some (.int .i64))(e0:f0.type=ts)(e1:f1.type=ti)(o0:f0.offset=0)(o1:f1.offset=1)(cs:P.cellsOf ts=1)(ci:P.cellsOf ti=1)
  {k:Nat}{vs:List Value}{x:List UInt8}{z:Int}{q:List MemPlace}(hl:vs.length=2)(h:DataW.trod enc P w base sp held k e vs=some (.agg [.lit (.string x),.lit (.int .i64 z)],q)):
  ∃s:ByteArray,vs=[.string s,.int .i64 z]∧s.data.toList=x:=by
 obtain⟨xs,k,hk,hxy,_,hxl,hfs⟩:=DataW.trod_struct he h
 match xs,hxl,vs,hl with
 |[y0,y1],_,[v0,v1],_=>
  have g0:=hfs 0 f0 rfl;have g1:=hfs 1 f1 rfl;rw[e0,o0,cs] at g0;rw[e1,o1,ci] at g1;obtain⟨x0,q0,hy0,w0⟩:=DataW.trod_string hstr (show DataW.trod _ P w base sp held k ts [v0]=some y0 from g0);obtain⟨x1,q1,hy1,w1⟩:=DataW.trod_int hi (show DataW.trod _ P w base sp held k ti [v1]=some y1 from g1);subst hy0 hy1;injection q0 with q0;injection q1 with q1;subst q0 q1
  simp only[List.map_cons,List.map_nil,Prod.mk.injEq,DataW.agg.injEq,List.cons.injEq,DataW.lit.injEq,Lit.string.injEq,Lit.int.injEq,true_and,and_true] at hxy;obtain⟨⟨r0,r1⟩,_⟩:=hxy;subst r0 r1;exact⟨x0,rfl,rfl⟩
theorem Qes {H:Type}{enc:TypeId×Value→H}{P:Program}{w:World}{base:Nat}{sp:Nat→Bool}{held:Bool}{fuel:Nat}{t e:TypeId}{n c:Nat}{cs:List Value}{ls:List (DataW H)}{p:List MemPlace}
  (ht:P.underlying t=some (.array n e))(hce:P.cellsOf e=c)(hct:P.cellsOf t=n*c)
  (h:DataW.trod enc P w base sp held fuel t cs=some (.agg ls,p)):cs.length=n*c∧∀i,i<n→∃k d q,ls[i]? =some d∧DataW.trod enc P w base sp held k e ((cs.drop (i*c)).take c)=some (d,q):=by
 cases fuel with
 |zero=>simp[DataW.trod] at h
 |succ fuel=>
  simp only[DataW.trod,ht,hce,hct] at h
  split at h
  ·rename_i hl
   obtain⟨xs,hm,hx⟩:=Option.map_eq_some_iff.1 h;have hxs:xs.map (·.1)=ls:=by
    have:=congrArg Prod.fst hx
    simpa using this
   refine⟨hl,fun i hi=>?_⟩;obtain⟨b,hb,hf⟩:=mapM_at hm i i (by simp[hi]);refine⟨fuel,b.1,b.2,?_,hf⟩;rw[←hxs];simp[hb]
  ·cases h
theorem Y5y:(Rows.laid_overspill_steps_codes:DataW Unit)=.agg [.agg [.lit (.string [48,48]),.lit (.int .i64 (-1))],.agg [.lit (.string [48,49]),.lit (.int .i64 (-2))],.agg [.lit (.string [49,48]),.lit (.int .i64 1)],.agg [.lit (.string [49,49]),.lit (.int .i64 2)]]:=by kernel_rfl
theorem Yx6 {cs:List Value}{i:Nat}{a b:Value}(h:(cs.drop i).take 2=[a,b]):cs[i]? =some a∧cs[i+1]? =some b:=by
 have h0:=congrArg (·[0]?) h;have h1:=congrArg (·[1]?) h;simp only[List.getElem?_take,List.getElem?_drop] at h0 h1;exact⟨by simpa using h0,by simpa using h1⟩
theorem Y52 {laid : List (String × DataW Unit)} {W : World} (hL : laidMetH Tryz.prog laid W) (hm : ("overspill/steps.codes", Rows.laid_overspill_steps_codes) ∈ laid ∧ (laid.all fun x => x.2.handleName?.isNone) = true) : Ycn W := by
 rw[MakeChecks.laidMetH_plain _ _ _ hm.2] at hL;obtain⟨ps,hv,_,_⟩:=hL;obtain⟨g,t,cs,fuel,p,hg,ht,hc,hd⟩:=Ykn hv hm.1;obtain rfl := Option.some.inj ((show Tryz.prog.globalNamed "overspill/steps.codes" = some 0 by kernel_rfl).symm.trans hg)
 obtain rfl:=Option.some.inj ((show (Tryz.prog.globals[0]?).map (·.type)=some 195 by kernel_rfl).symm.trans ht);rw[Y5y] at hd;obtain⟨hl,hp⟩:=Qes (c:=2) Tryz.underlying195 (by kernel_rfl) (by kernel_rfl) hd;have hcell:=World.var?_cell hg hc;have key:∀i,(hi:i<4)→∃s:ByteArray,(cs.toList.drop (i*2)).take 2=[.string s,.int .i64 (Qil[i]'hi)]∧s=Qjs[i]'hi:=by
  intro i hi;obtain⟨k,d,q,hd1,hd2⟩:=hp i hi;have hlen:((cs.toList.drop (i*2)).take 2).length=2:=by rw[List.length_take,List.length_drop,hl];omega
  rcases (by omega:i=0∨i=1∨i=2∨i=3) with rfl|rfl|rfl|rfl
  all_goals
   obtain rfl:=Option.some.inj hd1;obtain⟨s,h1,h2⟩:=Y51 Tryz.underlying194 Tryz.underlying9 Tryz.underlying3 rfl rfl rfl rfl (by kernel_rfl) (by kernel_rfl) hlen hd2;exact⟨s,h1,by apply ByteArray.ext;apply Array.ext';exact h2⟩
 intro i hi;obtain⟨s,h1,rfl⟩:=key i hi;obtain⟨h2,h3⟩:=Yx6 h1;rw[hcell,hcell,Nat.mul_comm 2 i,←Array.getElem?_toList,←Array.getElem?_toList];exact⟨h2,h3⟩
end Go.Proofs.YtjjmalchelniiaaGreatDoor