/- bytes.Clone: the same bytes in memory of the call's own. No condition. -/
import Derived.Test.YtmmgbnjfbapmcaaPtold
import Derived.Lib.SliceRun
namespace Go.Proofs.Ytmmgbnjfbapmcaa
open Go.RowKit Go.Lib

theorem byL_get {n : Nat} (f : Nat → Int) {i : Nat} (h : i < n) : ((byL n f).map (Value.int .u8))[i]? = some (.int .u8 (f i)) := by simp [byL, h]
theorem byL_cells (n : Nat) (f : Nat → Int) : ((byL n f).map (Value.int .u8)).length = n := by rw [List.length_map, byL_len]
/-- A row of the call's own as a plane. -/
theorem own_plane {w : World} {base n : Nat} {v : Value} {f : Nat → Int} (hn : 0 < n) (hr : ∀ i, i < n → 0 ≤ f i ∧ f i ≤ 255) (h : w.ownsRow base 5 1 v n ((byL n f).map (Value.int .u8))) : ∃ g, base ≤ g ∧ OwnPl w v g n f := by
  rcases h.2 with ⟨_, h0⟩ | ⟨g, cap, cur, rfl, hg, hh, hc, _, _, ht⟩
  · omega
  · refine ⟨g, hg, cap, rfl, hc, fun i hi => ⟨?_, frozen_of_row w g i _ _ hh, hr i hi⟩⟩
    rw [cell_of_row w g i _ _ _ hh]
    rw [Nat.mul_one] at ht
    have e := congrArg (fun l => l[i]?) ht
    simp only [byL_get f hi, List.getElem?_take, if_pos hi] at e
    simpa using e
set_option maxRecDepth 100000 in
set_option maxHeartbeats 2000000 in
theorem clone_code (v : Value) (g n : Nat) (f : Nat → Int) (w : World) (h : OwnPl w v g n f) (hn : 0 < n) (hm : n ≤ 1073741824) :
    Calls Try.prog 38 #[v] w fun e w' => ∃ v' R, e = .returned v' ∧ w.heap.size ≤ R ∧ OwnPl w' v' R n f ∧ Below w.heap.size w w' := by
  obtain ⟨c, rfl, hc, h⟩ := h
  have HR := Lib.hid (fun i (hi : i < n) => (h i hi).2.2)
  obtain ⟨i0, hi, hz0, hz1, hz2⟩ := info_parts (show (Try.prog.info? 5).map (fun i => (i.zero, i.size, i.bytes)) = some (some (Value.int IntKind.u8 0), 1, 1) by kernel_rfl)
  have q22 : ∀ (w : World) (a : Option Addr) (n c n' c' : Nat), (binOp .eql 22 (.slice a n c) (.slice none n' c')).run Try.prog w = .ok (.bool a.isNone) w := fun w a n c n' c' => Lib.run_eql_slice_nil w _ _ a n c n' c' Try.underlying22
  have A := Lib.hid (fun i (hi : i < n) => (h i hi).1)
  clear h
  go_enter Try.func38, Try.ntmps38
  go_wp2_with (at_builtin; refine wpList_append_own _ rfl _ _ 22 rfl w.heap.size 5 i0 (.int .u8 0) 1 1 Try.underlying22 hi hz0 hz1 hz2 rfl (by decide) _ _ _ rfl (World.ownsRow_made w #[] 0 (Nat.le_refl _) (Nat.zero_le _) rfl) ⟨g, 0, none⟩ n c ((byL n f).map (Value.int .u8)) rfl ?qc1 ?qc2 ?qc3 ?qc4 ?qc5 ?qc6 ?_)
  case qc1 => rw [byL_cells]; omega
  case qc2 =>
    intro j u hj
    have hjn : j < n := by
      have := (List.getElem?_eq_some_iff.1 hj).1
      rwa [byL_cells] at this
    have e1 : (⟨g, 0, none⟩ : Addr).add j = ⟨g, j, none⟩ := by unfold Addr.add; split <;> simp_all
    rw [byL_get f hjn] at hj
    injection hj with hj
    subst hj
    rw [e1]
    exact (((Below.refl _ w).alloc (Nat.le_refl _) _).cell (p := ⟨g, j, none⟩) (World.block_lt_of_cell? w ⟨g, j, none⟩ (A.out j hjn))).trans (A.out j hjn)
  case qc3 => intro u hu; obtain ⟨x, _, rfl⟩ := List.mem_map.1 hu; rfl
  case qc4 => unfold maxLen; omega
  case qc5 => omega
  case qc6 => simp
  intro v' w1 hown hgrow _
  go_wp2
  go_ret
  obtain ⟨R, hR, hO⟩ := own_plane hn HR.out (by simpa using hown)
  exact ⟨v', R, rfl, hR, hO, ((Below.refl _ w).alloc (Nat.le_refl _) _).grown hgrow (by simp) (by intro k hk; simp [Value.ownBlock] at hk; omega)⟩
set_option maxRecDepth 100000 in
theorem clone_nil (w : World) : Calls Try.prog 38 #[.slice none 0 0] w fun e w' => e = .returned (.slice none 0 0) ∧ w = w' := by
  have q22 : ∀ (w : World) (a : Option Addr) (n c n' c' : Nat), (binOp .eql 22 (.slice a n c) (.slice none n' c')).run Try.prog w = .ok (.bool a.isNone) w := fun w a n c n' c' => Lib.run_eql_slice_nil w _ _ a n c n' c' Try.underlying22
  go_enter Try.func38, Try.ntmps38
  go_wp2
  go_ret
  exact ⟨rfl, rfl⟩
end Go.Proofs.Ytmmgbnjfbapmcaa
