/- Pieces that come in, and the patches that they tell. No condition. -/
import Derived.Test.YtmmgbnjfbapmcaaPlayd
import Derived.Test.YtmmgbnjfbapmcaaPopen
namespace Go.Proofs.Ytmmgbnjfbapmcaa
open Go.RowKit Go.Lib Go.ChangeShapes Go.WideShapes Go.ChangeAt

/-- A slice of int that came in. -/
def IntsIn (w : World) (p : Option Addr) (n : Nat) (f : Nat → Int) : Prop := n = 0 ∨ ∃ b o, p = some ⟨b, o, none⟩ ∧ b < w.heap.size ∧ ∀ i, i < n → w.cell? ⟨b, o + i, none⟩ = some (.int .i64 (f i))
theorem IntsIn.below {w w' : World} {p : Option Addr} {n : Nat} {f : Nat → Int} (h : IntsIn w p n f) (hb : Below w.heap.size w w') : IntsIn w' p n f := by
  rcases h with h | ⟨b, o, rfl, hl, h⟩
  · exact .inl h
  · exact .inr ⟨b, o, rfl, by have := hb.size; omega, fun i hi => (hb.cell (p := ⟨b, o + i, none⟩) hl).trans (h i hi)⟩
/-- A piece's cells. -/
def PieceIn (w : World) (vs : List Value) : Prop := ∃ (n : Int) (p : Option Addr) (len cap : Nat) (f : Nat → Int), vs = [.int .i64 n, .slice p len cap] ∧ len ≤ maxLen ∧ IntsIn w p len f
section
variable {H : Type} {enc : TypeId × Value → H} {P : Program}
theorem ints_cell {w : World} {base fuel : Nat} {sp : Nat → Bool} {held : Bool} {t e : TypeId} {v : Value} {x : DataW H × List MemPlace}
    (ht : P.underlying t = some (.slice e)) (he : P.underlying e = some (.int .i64)) (ce : P.cellsOf e = 1)
    (hf : DataW.trod enc P w base sp held fuel t [v] = some x) : ∃ p len cap f, v = .slice p len cap ∧ len ≤ maxLen ∧ IntsIn w p len f := by
  rcases Go.Deep.open_slice1 ht ce hf with ⟨h1, _⟩ | ⟨a, len, cap, m, n, V, D, Pl, h1, hb, hl, hm, hmm, _, hx⟩
  · injection h1 with h1
    exact ⟨none, 0, 0, fun _ => 0, h1, Nat.zero_le _, .inl rfl⟩
  · injection h1 with h1
    subst h1
    have hlm : len ≤ m := by rw [hmm]; split <;> omega
    have each : ∀ i, i < len → ∃ y : Int, w.cell? (a.add i) = some (.int .i64 y) := by
      intro i hi
      obtain ⟨h1, h2⟩ := hx i (by omega)
      obtain ⟨y, e0, _, _⟩ := DataW.trod_int he h2
      injection e0 with e0
      exact ⟨y, by rw [h1, e0]⟩
    refine ⟨some a, len, cap, fun i => match w.cell? (a.add i) with | some (.int _ y) => y | _ => 0, rfl, by omega, ?_⟩
    by_cases h0 : len = 0
    · exact .inl h0
    · right
      obtain ⟨y0, hy0⟩ := each 0 (by omega)
      have ea : a = ⟨a.block, a.off, none⟩ := by
        have : a.add 0 = a := by cases a with | mk b o s => cases s <;> simp [Addr.add]
        rw [this] at hy0
        exact spot_none hy0
      have hy1 : w.cell? ⟨a.block, a.off + 0, none⟩ = some (.int .i64 y0) := by
        rw [ea] at hy0
        simpa [Addr.add] using hy0
      refine ⟨a.block, a.off, by rw [← ea], World.block_lt_of_cell? w ⟨a.block, a.off + 0, none⟩ hy1, fun i hi => ?_⟩
      obtain ⟨y, hy⟩ := each i hi
      have eadd : a.add i = ⟨a.block, a.off + i, none⟩ := by rw [ea]; simp [Addr.add]
      simp only [hy]
      rw [← eadd]
      exact hy
theorem piece_row {w : World} {base : Nat} {sp : Nat → Bool} {held : Bool} {t ti tl : TypeId} {f0 f1 : Field}
    (ht : P.underlying t = some (.struct #[f0, f1])) (hi : P.underlying ti = some (.int .i64)) (hl : P.underlying tl = some (.slice ti))
    (e0 : f0.type = ti) (e1 : f1.type = tl) (o0 : f0.offset = 0) (o1 : f1.offset = 1) (ci : P.cellsOf ti = 1) (cl : P.cellsOf tl = 1) :
    ∀ k (vs : List Value) y, vs.length = 2 → DataW.trod enc P w base sp held k t vs = some y → PieceIn w vs := by
  intro k vs y hlen h
  obtain ⟨xs, m, hk, hxy, _, hxl, hfs⟩ := DataW.trod_struct ht h
  match vs, hlen, xs, hxl with
  | [c0, c1], _, [y0, y1], _ =>
    have g0 := hfs 0 f0 rfl
    have g1 := hfs 1 f1 rfl
    rw [e0, o0, ci] at g0
    rw [e1, o1, cl] at g1
    obtain ⟨x0, q0, _, _⟩ := DataW.trod_int hi (show DataW.trod _ P w base sp held m ti [c0] = some y0 from g0)
    obtain ⟨p, len, cap, f, rfl, h1, h2⟩ := ints_cell hl hi ci (show DataW.trod _ P w base sp held m tl [c1] = some y1 from g1)
    injection q0 with q0
    exact ⟨x0, p, len, cap, f, by rw [q0], h1, h2⟩
end
/-- The patch of a piece. -/
def patF (f : Nat → Int) : Nat → Nat → Int
  | 0 => fun _ => 0
  | i + 1 => setF (patF f i) (i / 64 % 6 * 64 + i % 64) (f i)
set_option maxRecDepth 1000000 in
set_option maxHeartbeats 8000000 in
theorem patch_code (n : Int) (p : Option Addr) (len cap : Nat) (f : Nat → Int) (w : World) (hm : len ≤ maxLen) (hp : IntsIn w p len f) :
    Calls Try.prog 21 #[.agg #[.int .i64 n, .slice p len cap]] w fun e w' => e = .returned (.agg (arn 384 (patF f len))) ∧ Below w.heap.size w w' := by
  obtain ⟨B, wA, wB, wC, hB, hwA, hwB, hwC, hzA, hzB, hzC, hC0, hC1, hC2, hbC⟩ := laid3 w (.cells #[.int .i64 n, .slice p len cap] 54 (0, 0)) (.cells (arn 384 fun _ => 0) 37 (0, 0)) (.cells (arn 384 fun _ => 0) 37 (0, 0))
  replace hC2 : wC.heap[B + 2]? = some (ptO (patF f 0)) := hC2
  have HPP := Lib.hid (fun g => pt_sized g)
  have hz0 := pt_zero
  have HYS : (arn 384 fun _ => 0).size = 384 := arn_size _ _
  have HLN : len ≤ 9223372036854775807 := by unfold maxLen at hm; omega
  generalize hY : (arn 384 fun _ => 0) = Y at *
  have HWA := Lib.hid hwA
  have HWB := Lib.hid hwB
  have HWC := Lib.hid hwC
  have HB := Lib.hid hB
  clear hY hwA hwB hwC hB hm
  go_enter Try.func21, Try.ntmps21
  go_wp2
  rw [HWA.out, HB.out, HWB.out, HWC.out]
  go_loopw [4] (fun z wr => ∃ i : Nat, i ≤ len ∧ z = .int .i64 i ∧ wr.heap[B]? = some (.cells #[.int .i64 n, .slice p len cap] 54 (0, 0)) ∧ wr.heap[B + 1]? = some (.cells Y 37 (0, 0)) ∧ wr.heap[B + 2]? = some (ptO (patF f i)) ∧ Below B w wr ∧ B + 3 ≤ wr.heap.size) (fun z _ => len - (RowKit.intOf z).toNat)
  case atStart => exact ⟨0, by omega, rfl, hC0, hC1, hC2, hbC, by omega⟩
  case round =>
    clear hC0 hC1 hC2 hbC hzA hzB hzC
    obtain ⟨i, hil, rfl, h0, h1, h2, hb, hz⟩ := hrel
    have c1 : wr.cell? ⟨B, 1, none⟩ = some (.slice p len cap) := part_cells (cs := [.int .i64 n, .slice p len cap]) h0 rfl
    by_cases hlt : i < len
    · have t0 : decide ((i : Int) < (len : Int)) = true := decide_eq_true (by omega)
      rcases hp with hp | ⟨ob, oo, rfl, hob, hcs⟩
      · omega
      have HC1 := Lib.hid (fun (y : World) (hy : Below wr.heap.size wr y) => (hy.cell (p := ⟨B, 1, none⟩) (by show B < _; omega)).trans c1)
      have HC2 := Lib.hid (fun (y : World) (hy : Below wr.heap.size wr y) => (hy.cell (p := ⟨ob, oo + i, none⟩) (by show ob < _; have := hb.size; omega)).trans ((hb.cell (p := ⟨ob, oo + i, none⟩) (by show ob < B; have := HB.out; omega)).trans (hcs i hlt)))
      have HGE := Lib.hid (fun (y : World) (hy : Below wr.heap.size wr y) => (⟨(hy.block B (by omega)).trans h0, (hy.block (B + 1) (by omega)).trans h1, (hy.block (B + 2) (by omega)).trans h2, hb.trans (hy.mono (by omega)), by have := hy.size; omega⟩ : y.heap[B]? = some (.cells #[.int .i64 n, .slice (some ⟨ob, oo, none⟩) len cap] 54 (0, 0)) ∧ y.heap[B + 1]? = some (.cells Y 37 (0, 0)) ∧ y.heap[B + 2]? = some (ptO (patF f i)) ∧ Below B w y ∧ B + 3 ≤ y.heap.size))
      have hq1 : ((i : Int)).tdiv 64 = ((i / 64 : Nat) : Int) := by rw [Int.tdiv_eq_ediv_of_nonneg (by omega)]; omega
      have hq2 : (((i / 64 : Nat) : Int)).tmod 6 = ((i / 64 % 6 : Nat) : Int) := by rw [Int.tmod_eq_emod_of_nonneg (by omega)]; omega
      have hq3 : ((i : Int)).tmod 64 = ((i % 64 : Nat) : Int) := by rw [Int.tmod_eq_emod_of_nonneg (by omega)]; omega
      have hb6 : i / 64 % 6 < 6 := Nat.mod_lt _ (by omega)
      have hc64 : i % 64 < 64 := Nat.mod_lt _ (by omega)
      have hda : i / 64 ≤ i := Nat.div_le_self _ _
      have HNX := Lib.hid (show patF f (i + 1) = setF (patF f i) (i / 64 % 6 * 64 + i % 64) (f i) from rfl)
      generalize i / 64 % 6 = bb at *
      generalize i / 64 = aa at *
      generalize i % 64 = cc at *
      have W1 : IntKind.i64.wrap (aa : Int) = (aa : Int) := wrapNat (by omega)
      clear h0 h1 h2 hb hcs
      go_wp2
      refine wp_region_calm (S := fun y => Below wr.heap.size wr y) 12 (by kernel_rfl) (by kernel_rfl) (Below.refl _ _).drew ?_
      simp only [List.take_succ_cons, List.take_zero, List.drop_succ_cons, List.drop_zero]
      refine calm_value (v := ?v0) (by kernel_rfl) ?m ?_; (case m => (intro x _; go_simp; try with_reducible rfl))
      simp only [Act.put, List.setIfInBounds_toArray, List.set_cons_zero, List.set_cons_succ]
      refine calm_value (v := ?v1) (by kernel_rfl) ?m ?_; (case m => (intro x _; go_simp; try with_reducible rfl))
      simp only [Act.put, List.setIfInBounds_toArray, List.set_cons_zero, List.set_cons_succ]
      refine calm_value (v := ?v2) (by kernel_rfl) ?m ?_; (case m => (intro x _; go_simp; try with_reducible rfl))
      simp only [Act.put, List.setIfInBounds_toArray, List.set_cons_zero, List.set_cons_succ]
      refine calm_value (v := ?v3) (by kernel_rfl) ?m ?_; (case m => (intro x _; go_simp; try with_reducible rfl))
      simp only [Act.put, List.setIfInBounds_toArray, List.set_cons_zero, List.set_cons_succ]
      refine calm_value (v := ?v4) (by kernel_rfl) ?m ?_; (case m => (intro x _; go_simp; try with_reducible rfl))
      simp only [Act.put, List.setIfInBounds_toArray, List.set_cons_zero, List.set_cons_succ]
      refine calm_value (v := ?v5) (by kernel_rfl) ?m ?_; (case m => (intro x _; go_simp; try with_reducible rfl))
      simp only [Act.put, List.setIfInBounds_toArray, List.set_cons_zero, List.set_cons_succ]
      refine calm_cell 52 _ ⟨B, 1, none⟩ (.slice (some ⟨ob, oo, none⟩) len cap) (by kernel_rfl) rfl rfl (fun x hx => by have c0 := (HC1.out x hx); go_simp) ?_
      simp only [Act.put, List.setIfInBounds_toArray, List.set_cons_zero, List.set_cons_succ]
      refine calm_value (v := ?v7) (by kernel_rfl) ?m ?_; (case m => (intro x _; go_simp; try with_reducible rfl))
      simp only [Act.put, List.setIfInBounds_toArray, List.set_cons_zero, List.set_cons_succ]
      refine calm_value (v := ?v8) (by kernel_rfl) ?m ?_; (case m => (intro x _; go_simp; try with_reducible rfl))
      simp only [Act.put, List.setIfInBounds_toArray, List.set_cons_zero, List.set_cons_succ]
      refine calm_cell 3 _ ⟨ob, oo + i, none⟩ (.int .i64 (f i)) (by kernel_rfl) rfl rfl (fun x hx => by have c0 := (HC2.out x hx); go_simp) ?_
      simp only [Act.put, List.setIfInBounds_toArray, List.set_cons_zero, List.set_cons_succ]
      refine calm_value (v := ?v10) (by kernel_rfl) ?m ?_; (case m => (intro x _; go_simp; rw [if_pos (by omega)]))
      simp only [Act.put, List.setIfInBounds_toArray, List.set_cons_zero, List.set_cons_succ]
      refine calm_value (v := ?v11) (by kernel_rfl) ?m ?_; (case m => (intro x _; go_simp; rw [if_pos (by omega)]))
      simp only [Act.put, List.setIfInBounds_toArray, List.set_cons_zero, List.set_cons_succ]
      refine calm_nil fun x2 hx => ?_
      obtain ⟨h0, h1, h2, hb, hz2⟩ := HGE.out x2 hx
      have cc2 : x2.cell? ⟨B + 1 + 1, bb * 64 + cc, none⟩ = some (.int .i64 (patF f i (bb * 64 + cc))) := arn_cell (i := bb * 64 + cc) h2 (by omega)
      have ff2 : x2.frozen? ⟨B + 1 + 1, bb * 64 + cc, none⟩ = false := arn_free (i := bb * 64 + cc) h2
      have PUT := Lib.hid (⟨heap_set h0 (by simp; omega), heap_set h1 (by simp), by rw [HNX.out]; exact arn_put (i := bb * 64 + cc) (f i) h2, hb.setCell (by simp; omega) _, by simp [World.setCell]; omega⟩ : (x2.setCell ⟨B + 1 + 1, bb * 64 + cc, none⟩ (.int .i64 (f i))).heap[B]? = some (.cells #[.int .i64 n, .slice (some ⟨ob, oo, none⟩) len cap] 54 (0, 0)) ∧ (x2.setCell ⟨B + 1 + 1, bb * 64 + cc, none⟩ (.int .i64 (f i))).heap[B + 1]? = some (.cells Y 37 (0, 0)) ∧ (x2.setCell ⟨B + 1 + 1, bb * 64 + cc, none⟩ (.int .i64 (f i))).heap[B + 2]? = some (ptO (patF f (i + 1))) ∧ Below B w (x2.setCell ⟨B + 1 + 1, bb * 64 + cc, none⟩ (.int .i64 (f i))) ∧ B + 3 ≤ (x2.setCell ⟨B + 1 + 1, bb * 64 + cc, none⟩ (.int .i64 (f i))).heap.size)
      clear h0 h1 h2 hb hx
      go_wp2
      go_roundw
      case rel => exact ⟨i + 1, by omega, by go_num, PUT.out⟩
      case measure => simp [RowKit.intOf]; omega
    · obtain rfl : i = len := by omega
      have t0 : decide ((i : Int) < (i : Int)) = false := decide_eq_false (by omega)
      have HSV := HPP.out (patF f i)
      have HOV := arn_one 384 (patF f i)
      have HVS : (arn 384 (patF f i)).size = 384 := arn_size _ _
      have h2' : wr.heap[B + 2]? = some (.cells (arn 384 (patF f i)) 37 (0, 0)) := h2
      obtain ⟨V, hV⟩ : ∃ V, arn 384 (patF f i) = V := ⟨_, rfl⟩
      rw [hV] at HSV HOV HVS h2'
      have HVV := Lib.hid hV
      have HYV : Y.size = V.size := by rw [HYS, HVS]
      clear hV h2
      go_wp2_with (first | (with_reducible refine wpList_load_row rfl 37 _ rfl (B + 2) rfl 37 V (0, 0) _ h2' Try.underlying37 rfl HSV ?_) | (with_reducible refine wp_store_arr rfl 37 _ _ rfl (B + 1) V Y rfl rfl 37 h1 HSV HYV HOV ?_; intro w2 hh2 hg2))
      refine bodyPost_ret (results_cell_row rfl _ _ (B + 1) 37 _ (0, 0) _ rfl hh2 Try.underlying37 rfl HSV) rfl ?_
      exact ⟨by rw [HVV.out], by rw [HB.out]; exact hb.grown hg2 (by omega) (fun k hk => by injection hk with hk; omega)⟩
end Go.Proofs.Ytmmgbnjfbapmcaa
