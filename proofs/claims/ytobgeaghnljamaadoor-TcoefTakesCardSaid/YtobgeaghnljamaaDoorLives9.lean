/- The examples of chapter 9 come out; and what a row's condition on the listed variables gives: package tcoef's variables hold their tables. Condition: the variables hold their tables. -/
import Derived.Test.YtobgeaghnljamaaDoorEtake
import Derived.Test.YtobgeaghnljamaaDoorRows
import Derived.Test.YtobgeaghnljamaaDoorLaws
import Derived.Test.YtobgeaghnljamaaDoorOpen
namespace Go.Proofs.YtobgeaghnljamaaDoor
open Go.RowKit Go.Lib Go.ChangeShapes Go.WideShapes Go.ChangeAt

/-! ### The listed variables -/
theorem tcoef_text : (Rows.laid_overspill_tcoef_codes : DataW Unit) = tabData .u16 (codeZT.map fun z : Nat => (z : Int)) ∧ (Rows.laid_overspill_tcoef_lengths : DataW Unit) = tabData .u8 (lenZT.map fun z : Nat => (z : Int)) ∧ (Rows.laid_overspill_tcoef_ahead : DataW Unit) = tabData .u8 (aheadZT.map fun z : Nat => (z : Int)) := ⟨by kernel_rfl, by kernel_rfl, by kernel_rfl⟩
theorem nat_at (l : List Nat) (i : Nat) (h : i < (l.map fun z : Nat => (z : Int)).length) : (l.map fun z : Nat => (z : Int))[i] = ((l[i]?.getD 0 : Nat) : Int) := by
  have h2 : i < l.length := by simpa using h
  rw [List.getElem_map, List.getElem?_eq_getElem h2]
  rfl
/-- A listed variable that is a table of numbers holds them, cell for cell. -/
theorem nums_laid {P : Program} {W : World} {laid : List (String × DataW Unit)} {ps : List MemPlace} {name : String} {k : IntKind} {zs : List Int} {g : Nat} {t e : TypeId} {n : Nat} (hv : DataW.LaidVars P W laid ps) (hm : (name, (tabData k zs : DataW Unit)) ∈ laid)
    (hg : P.globalNamed name = some g) (ht : (P.globals[g]?).map (·.type) = some t) (hu : P.underlying t = some (.array n e)) (he : P.underlying e = some (.int k)) (hce : P.cellsOf e = 1) (hct : P.cellsOf t = n) (i : Nat) (hi : i < zs.length) :
    W.cell? ⟨g, i, none⟩ = some (.int k zs[i]) := by
  obtain ⟨g', t', cs, fuel, p, hg', ht', hc, hd⟩ := laid_one hv hm
  obtain rfl := Option.some.inj (hg.symm.trans hg')
  obtain rfl := Option.some.inj (ht.symm.trans ht')
  have h1 := cells_of_tab hu he hce hct hd
  have hcell := World.var?_cell hg hc i
  rw [hcell, ← Array.getElem?_toList, h1, List.getElem?_map, List.getElem?_eq_getElem hi]
  rfl
theorem tcoef_laid {laid : List (String × DataW Unit)} {W : World} (hL : laidMetH Tryd.prog laid W) (hm : (("overspill/tcoef.codes", Rows.laid_overspill_tcoef_codes) ∈ laid ∧ ("overspill/tcoef.lengths", Rows.laid_overspill_tcoef_lengths) ∈ laid ∧ ("overspill/tcoef.ahead", Rows.laid_overspill_tcoef_ahead) ∈ laid) ∧ (laid.all fun x => x.2.handleName?.isNone) = true) : HasT W := by
  rw [MakeChecks.laidMetH_plain _ _ _ hm.2] at hL
  obtain ⟨ps, hv, _, _⟩ := hL
  obtain ⟨h1, h2, h3⟩ := hm.1
  rw [tcoef_text.1] at h1
  rw [tcoef_text.2.1] at h2
  rw [tcoef_text.2.2] at h3
  have hlc : (codeZT.map fun z : Nat => (z : Int)).length = 103 := rfl
  have hll : (lenZT.map fun z : Nat => (z : Int)).length = 103 := rfl
  have hla : (aheadZT.map fun z : Nat => (z : Int)).length = 11 := rfl
  refine ⟨fun i hi => ?_, fun i hi => ?_⟩
  · have g1 := nums_laid hv h1 (g := 0) (t := 76) (by kernel_rfl) (by kernel_rfl) Tryd.underlying76 Tryd.underlying75 (by kernel_rfl) (by kernel_rfl) i (by rw [hlc]; exact hi)
    have g2 := nums_laid hv h2 (g := 1) (t := 77) (by kernel_rfl) (by kernel_rfl) Tryd.underlying77 Tryd.underlying5 (by kernel_rfl) (by kernel_rfl) i (by rw [hll]; exact hi)
    rw [nat_at] at g1 g2
    exact ⟨g1, g2⟩
  · have g3 := nums_laid hv h3 (g := 2) (t := 78) (by kernel_rfl) (by kernel_rfl) Tryd.underlying78 Tryd.underlying5 (by kernel_rfl) (by kernel_rfl) i (by rw [hla]; exact hi)
    rw [nat_at] at g3
    exact g3

/-- An event that comes in by value. -/
theorem open_ev {H : Type} {enc : TypeId × Value → H} {P : Program} {w : World} {r : Reach} {b0 base : Nat} {sp : Nat → Bool} {held : Bool} {t tb ti : TypeId} {f0 f1 f2 : Field} {v : Value} {d : DataW H} {ps : List MemPlace}
    (ht : P.underlying t = some (.struct #[f0, f1, f2])) (hb : P.underlying tb = some .bool) (hi : P.underlying ti = some (.int .i64)) (e0 : f0.type = tb) (e1 : f1.type = ti) (e2 : f2.type = ti) (o0 : f0.offset = 0) (o1 : f1.offset = 1) (o2 : f2.offset = 2)
    (cb : P.cellsOf tb = 1) (ci : P.cellsOf ti = 1) (hc : P.cellsOf t = 3) (hval : Value.okWide P w r b0 t v) (hd : DataW.Trod enc P w base sp held t v d ps) :
    ∃ (l : Bool) (x y : Int), v = .agg #[.bool l, .int .i64 x, .int .i64 y] ∧ (Lit.int .i64 x).wf = true ∧ (Lit.int .i64 y).wf = true := by
  obtain ⟨cs, rfl, hsz, _⟩ : ∃ cs, v = .agg cs ∧ cs.size = P.cellsOf t ∧ Row.okWide P w r b0 t cs := by
    simpa [Value.okWide, ht] using hval
  rw [hc] at hsz
  obtain ⟨fuel, hf⟩ := hd
  obtain ⟨xs, k, hk, hxy, _, hxl, hfs⟩ := DataW.trod_struct ht hf
  obtain ⟨l⟩ := cs
  match l, hsz, xs, hxl with
  | [c0, c1, c2], _, [y0, y1, y2], _ =>
    have g0 := hfs 0 f0 rfl
    have g1 := hfs 1 f1 rfl
    have g2 := hfs 2 f2 rfl
    rw [e0, o0, cb] at g0
    rw [e1, o1, ci] at g1
    rw [e2, o2, ci] at g2
    obtain ⟨x0, q0, _⟩ := DataW.trod_bool hb (show DataW.trod _ P w base sp held k tb [c0] = some y0 from g0)
    obtain ⟨x1, q1, _, w1⟩ := DataW.trod_int hi (show DataW.trod _ P w base sp held k ti [c1] = some y1 from g1)
    obtain ⟨x2, q2, _, w2⟩ := DataW.trod_int hi (show DataW.trod _ P w base sp held k ti [c2] = some y2 from g2)
    injection q0 with q0
    injection q1 with q1
    injection q2 with q2
    subst q0 q1 q2
    exact ⟨x0, x1, x2, rfl, w1, w2⟩

/-! ### The examples -/
theorem ev_a : eventAt false 0 1 = ⟨#[49, 48, 48]⟩ ∧ eventAt false 0 13 = ⟨#[48, 48, 48, 48, 48, 49, 49, 48, 48, 48, 48, 48, 48, 48, 48, 48, 48, 48, 49, 49, 48, 49]⟩ ∧ etk (showL [120]) = ((true, 0, -1), 0, 5) := by decide +kernel
set_option maxHeartbeats 1000000 in
theorem lives9 (w : World) (hp : HasT w) : Calls Tryd.prog 10 #[] w fun e w' => e = .returned (.bool true) ∧ Below w.heap.size w w' := by
  obtain ⟨e1, e2, e3⟩ := ev_a
  have HP := Lib.hid (fun (x : World) (hx : Below w.heap.size w x) => (hp.below hx : HasT x))
  have E3 := Lib.hid (show etk ((showL (⟨#[120]⟩ : ByteArray).data.toList).drop 0) = ((true, 0, -1), 0, 5) from e3)
  have hr1 := fun x hx => erow_code false 0 1 x hx
  have hr2 := fun x hx => erow_code false 0 13 x hx
  rw [e1] at hr1
  rw [e2] at hr2
  clear e1 e2 e3
  go_enter Tryd.func10, Tryd.ntmps10
  go_wp2_with fail
  refine (hr1 _ hp).mono ?_
  rintro e w1 ⟨rfl, hb1⟩
  have hz1 := hb1.size
  go_wp2_with fail
  refine (hr2 _ (HP.out _ hb1)).mono ?_
  rintro e w2 ⟨rfl, hb2⟩
  have hb3 := hb1.trans (hb2.mono hz1)
  have hz3 := hb3.size
  clear hb1 hb2 hz1 hr1 hr2
  go_wp2_with fail
  refine (rnew_code _ _).mono ?_
  rintro e w3 ⟨rfl, rfl⟩
  obtain ⟨R, hR⟩ : ∃ R, w2.heap.size = R := ⟨_, rfl⟩
  have hr0 : IsRd (w2.alloc (rdObj ⟨#[120]⟩ 0)) R ⟨#[120]⟩ 0 := IsRd.fresh hR (by decide)
  have hb4 := hb3.alloc hz3 (rdObj ⟨#[120]⟩ 0)
  have hz4 := hb4.size
  rw [hR] at hz3 ⊢
  generalize w2.alloc (rdObj ⟨#[120]⟩ 0) = x1 at hr0 hb4 hz4 ⊢
  clear hb3 hR
  go_wp2_with fail
  refine (eget_code _ R ⟨#[120]⟩ 0 (HP.out _ hb4) hr0).mono ?_
  rintro e x2 ⟨rfl, hr5, hg5⟩
  obtain ⟨hb5, hz5⟩ := below_ownP hb4 hz4 hg5 hz3
  rw [E3.out] at hr5 ⊢
  simp only [evVal]
  go_wp2
  go_ret
  exact ⟨rfl, hb5.alloc hz5 _⟩
end Go.Proofs.YtobgeaghnljamaaDoor
