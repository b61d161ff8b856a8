/- What slices.AppendSeq appends of package mcbpc's iterator over codes. Conditions: a slice of the call's own, still empty; what the iterator has captured lies in two boxes. -/
import Derived.Test.YtoacbdaamdodaaaDoorMcodes
import Derived.Maps.AppendAt
import Derived.WalkKit
namespace Go.Proofs.YtoacbdaamdodaaaDoor
open Go.RowKit Go.Lib
attribute [local go_sem] Oper.semAt_some

/-- A code's own block, which a round lays. -/
def codeObj (x : ByteArray × Sym) : Obj := .cells (encCY x).toArray 54 (0, 0)
theorem new_cells (W : World) (x : ByteArray × Sym) : ∀ j u, [Value.string x.1, .int .i64 (sA x.2), .int .i64 (sB x.2)][j]? = some u → (W.alloc (.cells #[.string x.1, .int .i64 (sA x.2), .int .i64 (sB x.2)] 54)).cell? ((⟨W.heap.size, 0, none⟩ : Addr).add j) = some u := by
  intro j u hj
  rw [Addr.add_mid, Nat.zero_add]
  exact part_cells (cs := [Value.string x.1, .int .i64 (sA x.2), .int .i64 (sB x.2)]) (heap_alloc_new W _) hj
set_option maxRecDepth 100000 in
set_option maxHeartbeats 4000000 in
theorem append_codes (B0 b0 b1 : Nat) (inter : Bool) (f : ByteArray) (sl : Value) (w : World) (hB : B0 ≤ w.heap.size) (hsl : w.ownsRow B0 54 3 sl 0 [])
    (hs1 : ∃ p c, sl = .slice p 0 c) (hb0 : Boxed w b0 4 (.bool inter)) (hb1 : Boxed w b1 9 (.string f)) :
    Calls Tryd.prog 20 #[sl, .func (.func 32) #[] #[.pointer (some ⟨b0, 0, none⟩), .pointer (some ⟨b1, 0, none⟩)]] w fun e w' =>
      ∃ v, e = .returned v ∧ w'.ownsRow B0 54 3 v (upto inter f.data.toList 24).length (codeCellsY (upto inter f.data.toList 24)) ∧ Below B0 w w' := by
  obtain ⟨p, c, rfl⟩ := hs1
  obtain ⟨i0, hi, hz0, hz1, hz2⟩ := info_parts info_codeY
  have hl0 := hb0.lt
  have hl1 := hb1.lt
  refine (callsIn_wide (n := 3)).1 ?_
  refine callsIn_of_wp_marks Tryd.func20 rfl trivial ?_ rfl
  simp only [Tryd.ntmps20, List.size_toArray, List.length_cons, List.length_nil, Nat.reduceAdd, Nat.reduceSub, Array.replicate_succ, Array.replicate_zero, List.push_toArray, List.append_toArray, List.nil_append, List.cons_append]
  gi_wp2
  have bS := Boxed.new w 49 (.slice p 0 c)
  have bB0 := hb0.alloc (.cells #[.slice p 0 c] 49)
  have bB1 := hb1.alloc (.cells #[.slice p 0 c] 49)
  have hr0 := hsl.alloc (.cells #[.slice p 0 c] 49)
  have hBW : Below B0 w (w.alloc (.cells #[.slice p 0 c] 49)) := (Below.refl _ w).alloc hB _
  have hsz : (w.alloc (.cells #[.slice p 0 c] 49)).heap.size = w.heap.size + 1 := by simp
  obtain ⟨W0, hW0⟩ : ∃ W0, w.alloc (.cells #[.slice p 0 c] 49) = W0 := ⟨_, rfl⟩
  rw [hW0] at bS bB0 bB1 hr0 hBW hsz ⊢
  clear hW0
  refine wpIn_rangeFunc_ownH rfl (by omega) (gf := 32) (lb := #[.pointer (some ⟨b0, 0, none⟩), .pointer (some ⟨b1, 0, none⟩)]) rfl trivial (enters_of Tryd.func32 (by kernel_rfl) rfl)
    (codes_stops _ (by omega) b0 b1 inter f W0 bB0 bB1) (fun h k => ⟨fun x => k.1 (h.1 x), fun x => k.2 (h.2 x)⟩)
    (fun W l o o' hl _ _ _ => KeepB.grown (grownBy_putObj' W l o') (by intro e; injection e with e; omega) (by intro e; injection e with e; omega)) (Below.refl _ _) (fun _ => rfl)
    (fun pre W => ((∃ v, Boxed W w.heap.size 49 v ∧ W.ownsRow B0 54 3 v pre.length (codeCellsY pre) ∧ True) ∧ Boxed W b0 4 (.bool inter) ∧ Boxed W b1 9 (.string f)) ∧ Below B0 w W)
    (fun _ _ _ => False)
    (OwnFrom.and (OwnFrom.and (Own.from (holdsRow_own B0 w.heap.size 49 54 3 (fun pre => pre.length) codeCellsY (fun _ _ => True)) _) (OwnFrom.and (Own.from (boxed_own _ _ _) _) (Own.from (boxed_own _ _ _) _))) (ownFrom_below hB (by omega)))
    (fun _ _ _ _ _ hs _ _ => hs)
    ⟨⟨⟨_, bS, hr0, trivial⟩, bB0, bB1⟩, hBW⟩
    (fun x a' W => ∃ Bx, W.heap[Bx]? = some (codeObj x) ∧ a' = { tmps := #[.slice p 0 c, .func (.func 32) #[] #[.pointer (some ⟨b0, 0, none⟩), .pointer (some ⟨b1, 0, none⟩)], .pointer (some ⟨w.heap.size, 0, none⟩), undef, .slice none 0 0, .pointer (some ⟨Bx, 0, none⟩), .func (.func 32) #[] #[.pointer (some ⟨b0, 0, none⟩), .pointer (some ⟨b1, 0, none⟩)], .agg #[.string x.1, .int .i64 (sA x.2), .int .i64 (sB x.2)], undef, undef, undef, undef, undef], defers := [] })
    (fun x a' _ X Y row hs hg hr => by
      obtain ⟨Bx, h1, h2⟩ := hs
      refine ⟨Bx, (hg.block Bx (Array.getElem?_eq_some_iff.1 h1).1 (fun e => ?_)).trans h1, h2⟩
      obtain ⟨_, o, ho, hc⟩ := hr Bx e.symm
      rw [h1] at ho
      cases ho
      cases hc)
    ?assign ?body ?done ?stop
  case assign =>
    rintro l pre x W K ⟨⟨⟨v, bS1, hr1, _⟩, bB01, bB11⟩, hB1⟩ hK
    unfold encS
    gi_wp2
    exact hK _ _ ((KeepsOthers.alloc _ _).from _) (KeepB.grown (World.grownBy_alloc W _ none) (by simp) (by simp)) ⟨⟨⟨v, bS1.alloc _, hr1.alloc _, trivial⟩, bB01.alloc _, bB11.alloc _⟩, hB1.alloc (Nat.le_trans hB hB1.size) _⟩ ⟨W.heap.size, heap_alloc_new W _, rfl⟩
  case body =>
    rintro l pre x a' W hl _ ⟨⟨⟨v, bS1, hr1, _⟩, bB01, bB11⟩, hB1⟩ ⟨Bx, hBx, rfl⟩ hlt
    have cS := bS1.cell
    have fS := bS1.frozen
    have x0 : W.cell? ⟨Bx, 0, none⟩ = some (.string x.1) := part_cells hBx rfl
    have x1 : W.cell? ⟨Bx, 1, none⟩ = some (.int .i64 (sA x.2)) := part_cells hBx rfl
    have x2 : W.cell? ⟨Bx, 2, none⟩ = some (.int .i64 (sB x.2)) := part_cells hBx rfl
    have hBz : B0 ≤ W.heap.size := Nat.le_trans hB hB1.size
    gi_wp2_with (gi_at_builtin; refine wpListIn_append_own _ rfl _ _ 49 rfl B0 54 i0 _ 3 32 Tryd.underlying49 hi hz0 hz1 hz2 rfl (by decide) _ _ _ rfl (hr1.alloc _) ⟨W.heap.size, 0, none⟩ 1 1 [.string x.1, .int .i64 (sA x.2), .int .i64 (sB x.2)] rfl rfl (new_cells W x) (enc_oneY x) (by unfold maxLen; omega) (by omega) (by simp; omega) ?_; intro v' w1 hown' hgrow _; obtain ⟨g', cap', rfl⟩ := ownsRow_succ hown'; obtain ⟨hv1, hv2, hr2, hk2, hb2⟩ := bS1.appended (by decide) hr1 hBz hB hown' hgrow; have hc1 := hv1.cell; have hf1 := hv1.frozen)
    have n0 := ((bB01.alloc (.cells #[.string x.1, .int .i64 (sA x.2), .int .i64 (sB x.2)] 54)).kept hgrow (bB01.not_row (by decide) hr1)).other (B' := w.heap.size) (by omega) (.slice (some ⟨g', 0, none⟩) (pre.length + 1) cap')
    have n1 := ((bB11.alloc (.cells #[.string x.1, .int .i64 (sA x.2), .int .i64 (sB x.2)] 54)).kept hgrow (bB11.not_row (by decide) hr1)).other (B' := w.heap.size) (by omega) (.slice (some ⟨g', 0, none⟩) (pre.length + 1) cap')
    refine ⟨hk2.from _, ⟨fun _ => n0, fun _ => n1⟩, ⟨⟨⟨_, hv2, ?_, trivial⟩, n0, n1⟩, hB1.trans hb2⟩⟩
    rw [List.length_append, codeCells_snocY]
    exact hr2
  case done =>
    rintro D zs W hD rfl ⟨⟨⟨v, bS1, hr1, _⟩, bB01, bB11⟩, hB1⟩ hK
    have cS := bS1.cell
    gi_wp2
    refine ⟨by simp, .inl ⟨_, _, rfl, run_takeDeferred hK, ?_⟩⟩
    exact ⟨_, results_tmp rfl _ _ _, _, rfl, ownsRow_putObj hr1 _ hK rfl, hB1.trans (belowK_b (w := w) hB W D _ _ (by omega) hK rfl rfl)⟩
  case stop =>
    rintro D c pre W _ _ h _
    exact h.elim
end Go.Proofs.YtoacbdaamdodaaaDoor
