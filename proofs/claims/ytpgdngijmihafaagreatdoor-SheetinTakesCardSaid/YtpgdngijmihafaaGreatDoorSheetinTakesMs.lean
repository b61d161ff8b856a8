/- Texts that SheetinTakes's proof stands on, part 19 of 52. No condition of its own. -/
import Derived.Test.YtpgdngijmihafaaGreatDoorSheetinTakesMa
import Derived.Test.YtpgdngijmihafaaGreatDoorSheetinTakesMf
import Derived.Test.YtpgdngijmihafaaGreatDoorSheetinTakesMr
import Derived.WalkKit
import Derived.WalkMore
import Derived.IntWalk
import Derived.Lib.Strings
import Derived.Lib.LaidTab
import Derived.MakeChecks
import Derived.Test.YtpgdngijmihafaaGreatDoorRows
import Derived.ProofKit
import Derived.Lib.Hide
namespace Go.Proofs.YtpgdngijmihafaaGreatDoor
open Go.RowKit Go.Lib
def Yxq:List ByteArray:=[⟨#[48,48,49,49]⟩,⟨#[48,48,49,48,49]⟩,⟨#[48,48,49,48,48]⟩,⟨#[49,48,48,49]⟩,⟨#[48,48,48,49,49]⟩,⟨#[48,49,49,49]⟩,⟨#[48,48,48,48,49,48]⟩,⟨#[49,48,49,49]⟩,⟨#[48,48,48,49,48]⟩,⟨#[48,48,48,48,49,49]⟩,⟨#[48,49,48,49]⟩,⟨#[49,48,49,48]⟩,⟨#[48,49,48,48]⟩,⟨#[49,48,48,48]⟩,⟨#[48,49,49,48]⟩,⟨#[49,49]⟩]
theorem Ydr:Yxq.length=16:=rfl
def Yt5 (intra:Bool) (i:Nat):Nat:=if intra then i else 15-i
def Y17 (intra:Bool) (k:Int):ByteArray:=if 0≤k∧k<16 then Yxq[Yt5 intra k.toNat]?.getD ⟨#[]⟩ else ⟨#[]⟩
def Ye2 (w:World):Prop:=∀i,(h:i<16)→w.cell? ⟨3,i,none⟩=some (.string (Yxq[i]'(by rw [Ydr];exact h)))
theorem Ye2.lt {w:World} (h:Ye2 w):3<w.heap.size:=World.block_lt_of_cell? w ⟨3,0,none⟩ (h 0 (by decide))
theorem Ye2.below {w w':World} (h:Ye2 w) (hb:Below w.heap.size w w'):Ye2 w':=fun i hi=> (hb.cell (p:=⟨3,i,none⟩) h.lt).trans (h i hi)
theorem Y10 (intra:Bool) (k:Int) (h0:-1000≤k) (h1:k≤1000) (w:World):Calls Tryz.prog 171 #[.bool intra,.int .i64 k] w fun e w'=> e = .returned (.int .i64 (if intra then k else 15-k))∧w=w':=by
 cases intra with
 | true=>
  go_enter Tryz.func171,Tryz.ntmps171
  go_wp2
  go_ret
  exact ⟨rfl,rfl⟩
 | false=>
  go_enter Tryz.func171,Tryz.ntmps171
  go_wp2
  go_ret
  exact ⟨rfl,rfl⟩
theorem Y74 (intra:Bool) (i:Nat) (h:i<16) (w:World):Calls Tryz.prog 171 #[.bool intra,.int .i64 (i:Int)] w fun e w'=> e = .returned (.int .i64 (Yt5 intra i:Nat))∧w=w':=by
 refine (Y10 intra i (by omega) (by omega) w).mono ?_
 rintro e w' ⟨rfl,rfl⟩
 have e:(if intra then (i:Int) else 15-(i:Int))=(Yt5 intra i:Nat):=by
  unfold Yt5
  cases intra
  ·simp;omega
  ·rfl
 exact ⟨by rw [←e],rfl⟩
def Y9t:List Int:=[-1,-2,1,2]
def Qbn:List ByteArray:=[⟨#[48,48]⟩,⟨#[48,49]⟩,⟨#[49,48]⟩,⟨#[49,49]⟩]
def Qbh (v:Nat):Int:=Y9t[v]?.getD 0
def Ykk (s:Int):ByteArray:=if s = -1 then ⟨#[48,48]⟩ else if s = -2 then ⟨#[48,49]⟩ else if s=1 then ⟨#[49,48]⟩ else if s=2 then ⟨#[49,49]⟩ else ⟨#[]⟩
def stk (b:List UInt8):Int×Int×Nat:=if b.length<2 then (0,2,0) else (Qbh (num (b.take 2)),0,2)
theorem Yvj {b:List UInt8} (h:b.length<2):stk b=(0,2,0):=if_pos h
theorem Yrf {b:List UInt8} (h:2≤b.length):stk b=(Qbh (num (b.take 2)),0,2):=if_neg (by omega)
def Yd5 (w:World):Prop:=∀i,(h:i<4)→w.cell? ⟨0,2*i,none⟩=some (.string (Qbn[i]'h))∧w.cell? ⟨0,2*i+1,none⟩=some (.int .i64 (Y9t[i]'h))
theorem Yd5.lt {w:World} (h:Yd5 w):0<w.heap.size:=World.block_lt_of_cell? w ⟨0,0,none⟩ (h 0 (by decide)).1
theorem Yd5.grown {w w':World} {b:Nat} (h:Yd5 w) (hg:w.grownBy w' (some b)) (hne:0≠b):Yd5 w':=fun i hi=> by
 have e:∀o,w'.cell? ⟨0,o,none⟩=w.cell? ⟨0,o,none⟩:=fun o=> by
  have:=hg.block 0 h.lt (by simpa using hne)
  unfold World.cell?
  rw [this]
 exact ⟨(e _).trans (h i hi).1,(e _).trans (h i hi).2⟩
def Qbb (s:ByteArray) (rb p:Nat) (w:World) (e:Ending) (w':World):Prop:=
 e = .returned (.tuple #[.int .i64 (stk ((Yac s.data.toList).drop p)).1,.int .i64 (stk ((Yac s.data.toList).drop p)).2.1])∧
  Ybb w' rb s (p+(stk ((Yac s.data.toList).drop p)).2.2)∧w.grownBy w' (some rb)
theorem Y80 (s:ByteArray) (p:Nat):((Yac s.data.toList).drop p).length=8*s.size-p:=by rw [List.length_drop,Yah];rfl
set_option maxHeartbeats 1000000 in
theorem Yz5 (w:World) (rb:Nat) (s:ByteArray) (p:Nat) (hp:Yd5 w) (hne:0≠rb) (hr:Ybb w rb s p):Calls Tryz.prog 134 #[.pointer (some ⟨rb,0,none⟩)] w (Qbb s rb p w):=by
 have hpl:=hr.2.1
 have hl:=Y80 s p
 have hdl:s.data.toList.length=s.size:=rfl
 unfold Qbb
 have hc:=Yci w rb s p 2 hr
 by_cases h2:8*s.size-p<2
 ·have hs:=Yvj (b:=(Yac s.data.toList).drop p) (by omega)
  have ha:ask s.data.toList p 2=(0,2):=Ybi (by omega) (by rw [hdl];omega)
  have hto:Ycm s.data.toList p 2=p:=by unfold Ycm;rw [ha];rfl
  rw [ha,hto] at hc
  rw [hs]
  clear hs ha hto hl
  go_enter Tryz.func134,Tryz.ntmps134
  go_wp2_with fail
  refine hc.mono ?_
  rintro e w1 ⟨rfl,hr1,hg1⟩
  go_wp2
  go_ret2
  exact ⟨rfl,hr1,hg1⟩
 ·have hs:=Yrf (b:=(Yac s.data.toList).drop p) (by omega)
  have ha:ask s.data.toList p 2=(((Ya0 s.data.toList p 2:Nat):Int),0):=Ycw (by omega) (by rw [hdl];omega)
  have hto:Ycm s.data.toList p 2=p+2:=by unfold Ycm;rw [ha];rfl
  have hv:=Ybr s.data.toList p 2
  have ht:num (((Yac s.data.toList).drop p).take 2)=Ya0 s.data.toList p 2:=rfl
  rw [ha,hto] at hc
  rw [hs,ht]
  obtain ⟨v,hv'⟩:∃v,Ya0 s.data.toList p 2=v:=⟨_,rfl⟩
  rw [hv'] at hc hv ⊢
  have HP:=Lib.hid (fun w' (hg:w.grownBy w' (some rb))=> (hp.grown hg hne:Yd5 w'))
  clear hs ha hto hl ht hv' hp
  rcases (by omega:v=0∨v=1∨v=2∨v=3) with rfl | rfl | rfl | rfl
  all_goals
   go_enter Tryz.func134,Tryz.ntmps134
   go_wp2_with fail
   refine hc.mono ?_
   rintro e w1 ⟨rfl,hr1,hg1⟩
   have hp1:=HP.out _ hg1
   have c1:w1.cell? ⟨0,1,none⟩=some (.int .i64 (-1)):=(hp1 0 (by decide)).2
   have c3:w1.cell? ⟨0,3,none⟩=some (.int .i64 (-2)):=(hp1 1 (by decide)).2
   have c5:w1.cell? ⟨0,5,none⟩=some (.int .i64 1):=(hp1 2 (by decide)).2
   have c7:w1.cell? ⟨0,7,none⟩=some (.int .i64 2):=(hp1 3 (by decide)).2
   go_wp2
   go_ret2
   exact ⟨rfl,hr1,hg1⟩
def Y1n (b:List UInt8) (at_:Nat) (w:World) (e:Ending) (w':World):Prop:=
 e = .returned (.tuple #[.int .i64 (stk b).1,.int .i64 ((at_+(stk b).2.2:Nat):Int),.int .i64 (stk b).2.1])∧Below w.heap.size w w'
set_option maxHeartbeats 1000000 in
theorem Ywh (s:ByteArray) (at_:Nat) (w:World) (hs:s.size≤140737488355328) (ha:at_≤s.size) (hr:Yba s.data.toList=true):
  Calls Tryz.prog 41 #[.string s,.int .i64 (at_:Int)] w (Y1n (s.data.toList.drop at_) at_ w):=by
 have hl:(s.data.toList.drop at_).length=s.size-at_:=by rw [List.length_drop];rfl
 unfold Y1n
 by_cases h2:s.size-at_<2
 ·have h:=Yvj (b:=s.data.toList.drop at_) (by omega)
  have t0:decide ((s.size:Int)-(at_:Int)<2)=true:=by simp;omega
  rw [h]
  clear h hl h2
  go_enter Tryz.func41,Tryz.ntmps41
  go_wp2
  go_ret3
  exact ⟨rfl,Below.refl _ _⟩
 ·have h:=Yrf (b:=s.data.toList.drop at_) (by omega)
  have t0:decide ((s.size:Int)-(at_:Int)<2)=false:=by simp;omega
  have hex:(s.extract at_ (at_+2)).data.toList=(s.data.toList.drop at_).take 2:=by
   rw [Yi6 s.data.toList at_ (at_+2),List.drop_take,show at_+2-at_=2 by omega]
  have hn:=fun w=> Ycz (s.extract at_ (at_+2)) (by rw [ByteArray.size_extract];omega) (by rw [hex];exact Ya9 _ _ (Yax _ _ hr)) w
  rw [hex] at hn
  have hv:num ((s.data.toList.drop at_).take 2)<4:=Yhj _ (Yax _ _ hr) 2 (by omega)
  rw [h]
  obtain ⟨v,hv'⟩:∃v,num ((s.data.toList.drop at_).take 2)=v:=⟨_,rfl⟩
  rw [hv'] at hn hv ⊢
  clear h hl hv' hex
  rcases (by omega:v=0∨v=1∨v=2∨v=3) with rfl | rfl | rfl | rfl
  all_goals
   go_enter Tryz.func41,Tryz.ntmps41
   go_wp2_with fail
   refine (hn _).mono ?_
   rintro e w1 ⟨rfl,rfl⟩
   go_wp2
   go_ret3
   exact ⟨rfl,(Below.refl _ w).alloc (Nat.le_refl _) _⟩
theorem Y3k:(Rows.laid_overspill_cbpy_rows:DataW Unit) = .agg ((Yxq.map fun x=> x.data.toList).map fun l=> .lit (.string l)):=by kernel_rfl
theorem Y2c {laid : List (String × DataW Unit)} {W : World} (hL : laidMetH Tryz.prog laid W) (hm : ("overspill/cbpy.rows", Rows.laid_overspill_cbpy_rows) ∈ laid ∧ (laid.all fun x => x.2.handleName?.isNone) = true) : Ye2 W := by
 rw [MakeChecks.laidMetH_plain _ _ _ hm.2] at hL
 obtain ⟨ps,hv,_,_⟩:=hL
 obtain ⟨g,t,cs,fuel,p,hg,ht,hc,hd⟩:=Yjg hv hm.1
 obtain rfl := Option.some.inj ((show Tryz.prog.globalNamed "overspill/cbpy.rows" = some 3 by kernel_rfl).symm.trans hg)
 obtain rfl:=Option.some.inj ((show (Tryz.prog.globals[3]?).map (·.type)=some 226 by kernel_rfl).symm.trans ht)
 rw [Y3k] at hd
 intro i hi
 obtain ⟨s,h1,h2⟩:=Yof Tryz.underlying226 Tryz.underlying9 (by kernel_rfl) (by kernel_rfl) hd i hi
 have hcell:=World.var?_cell hg hc i
 have hs:s=Yxq[i]'(by rw [Ydr];exact hi):=by
  rw [List.getElem?_map,List.getElem?_eq_getElem (by rw [Ydr];exact hi)] at h2
  apply ByteArray.ext
  apply Array.ext'
  exact (Option.some.inj h2).symm
 rw [hcell,←hs,←Array.getElem?_toList]
 exact h1
theorem Yy4 {H:Type} {enc:TypeId×Value→H} {P:Program} {w:World} {base:Nat} {sp:Nat→Bool} {held:Bool} {e ts ti:TypeId} {f0 f1:Field}
  (he:P.underlying e=some (.struct #[f0,f1])) (hstr:P.underlying ts=some .string) (hi:P.underlying ti=some (.int .i64)) (e0:f0.type=ts) (e1:f1.type=ti) (o0:f0.offset=0) (o1:f1.offset=1) (cs:P.cellsOf ts=1) (ci:P.cellsOf ti=1)
  {k:Nat} {vs:List Value} {x:List UInt8} {z:Int} {q:List MemPlace} (hl:vs.length=2) (h:DataW.trod enc P w base sp held k e vs=some (.agg [.lit (.string x),.lit (.int .i64 z)],q)):
  ∃s:ByteArray,vs = [.string s,.int .i64 z]∧s.data.toList=x:=by
 obtain ⟨xs,k,hk,hxy,_,hxl,hfs⟩:=DataW.trod_struct he h
 match xs,hxl,vs,hl with
 | [y0,y1],_,[v0,v1],_=>
  have g0:=hfs 0 f0 rfl
  have g1:=hfs 1 f1 rfl
  rw [e0,o0,cs] at g0
  rw [e1,o1,ci] at g1
  obtain ⟨x0,q0,hy0,w0⟩:=DataW.trod_string hstr (show DataW.trod _ P w base sp held k ts [v0]=some y0 from g0)
  obtain ⟨x1,q1,hy1,w1⟩:=DataW.trod_int hi (show DataW.trod _ P w base sp held k ti [v1]=some y1 from g1)
  subst hy0 hy1
  injection q0 with q0
  injection q1 with q1
  subst q0 q1
  simp only [List.map_cons,List.map_nil,Prod.mk.injEq,DataW.agg.injEq,List.cons.injEq,DataW.lit.injEq,Lit.string.injEq,Lit.int.injEq,true_and,and_true] at hxy
  obtain ⟨⟨r0,r1⟩,_⟩:=hxy
  subst r0 r1
  exact ⟨x0,rfl,rfl⟩
theorem Y7e {H:Type} {enc:TypeId×Value→H} {P:Program} {w:World} {base:Nat} {sp:Nat→Bool} {held:Bool} {fuel:Nat} {t e:TypeId} {n c:Nat} {cs:List Value} {ls:List (DataW H)} {p:List MemPlace}
  (ht:P.underlying t=some (.array n e)) (hce:P.cellsOf e=c) (hct:P.cellsOf t=n*c)
  (h:DataW.trod enc P w base sp held fuel t cs=some (.agg ls,p)):cs.length=n*c∧∀i,i<n→∃k d q,ls[i]? = some d∧DataW.trod enc P w base sp held k e ((cs.drop (i*c)).take c)=some (d,q):=by
 cases fuel with
 | zero=> simp [DataW.trod] at h
 | succ fuel=>
  simp only [DataW.trod,ht,hce,hct] at h
  split at h
  ·rename_i hl
   obtain ⟨xs,hm,hx⟩:=Option.map_eq_some_iff.1 h
   have hxs:xs.map (·.1)=ls:=by
    have:=congrArg Prod.fst hx
    simpa using this
   refine ⟨hl,fun i hi=> ?_⟩
   obtain ⟨b,hb,hf⟩:=mapM_at hm i i (by simp [hi])
   refine ⟨fuel,b.1,b.2,?_,hf⟩
   rw [←hxs]
   simp [hb]
  ·cases h
theorem Y0f:(Rows.laid_overspill_steps_codes:DataW Unit) = .agg [.agg [.lit (.string [48,48]),.lit (.int .i64 (-1))],.agg [.lit (.string [48,49]),.lit (.int .i64 (-2))],.agg [.lit (.string [49,48]),.lit (.int .i64 1)],.agg [.lit (.string [49,49]),.lit (.int .i64 2)]]:=by kernel_rfl
theorem Yr1 {cs:List Value} {i:Nat} {a b:Value} (h:(cs.drop i).take 2 = [a,b]):cs[i]? = some a∧cs[i+1]? = some b:=by
 have h0:=congrArg (·[0]?) h
 have h1:=congrArg (·[1]?) h
 simp only [List.getElem?_take,List.getElem?_drop] at h0 h1
 exact ⟨by simpa using h0,by simpa using h1⟩
theorem Yy6 {laid : List (String × DataW Unit)} {W : World} (hL : laidMetH Tryz.prog laid W) (hm : ("overspill/steps.codes", Rows.laid_overspill_steps_codes) ∈ laid ∧ (laid.all fun x => x.2.handleName?.isNone) = true) : Yd5 W := by
 rw [MakeChecks.laidMetH_plain _ _ _ hm.2] at hL
 obtain ⟨ps,hv,_,_⟩:=hL
 obtain ⟨g,t,cs,fuel,p,hg,ht,hc,hd⟩:=Yjg hv hm.1
 obtain rfl := Option.some.inj ((show Tryz.prog.globalNamed "overspill/steps.codes" = some 0 by kernel_rfl).symm.trans hg)
 obtain rfl:=Option.some.inj ((show (Tryz.prog.globals[0]?).map (·.type)=some 162 by kernel_rfl).symm.trans ht)
 rw [Y0f] at hd
 obtain ⟨hl,hp⟩:=Y7e (c:=2) Tryz.underlying162 (by kernel_rfl) (by kernel_rfl) hd
 have hcell:=World.var?_cell hg hc
 have key:∀i,(hi:i<4)→∃s:ByteArray,(cs.toList.drop (i*2)).take 2 = [.string s,.int .i64 (Y9t[i]'hi)]∧s=Qbn[i]'hi:=by
  intro i hi
  obtain ⟨k,d,q,hd1,hd2⟩:=hp i hi
  have hlen:((cs.toList.drop (i*2)).take 2).length=2:=by rw [List.length_take,List.length_drop,hl];omega
  rcases (by omega:i=0∨i=1∨i=2∨i=3) with rfl | rfl | rfl | rfl
  all_goals
   obtain rfl:=Option.some.inj hd1
   obtain ⟨s,h1,h2⟩:=Yy4 Tryz.underlying161 Tryz.underlying9 Tryz.underlying3 rfl rfl rfl rfl (by kernel_rfl) (by kernel_rfl) hlen hd2
   exact ⟨s,h1,by apply ByteArray.ext;apply Array.ext';exact h2⟩
 intro i hi
 obtain ⟨s,h1,rfl⟩:=key i hi
 obtain ⟨h2,h3⟩:=Yr1 h1
 rw [hcell,hcell,Nat.mul_comm 2 i,←Array.getElem?_toList,←Array.getElem?_toList]
 exact ⟨h2,h3⟩
end Go.Proofs.YtpgdngijmihafaaGreatDoor