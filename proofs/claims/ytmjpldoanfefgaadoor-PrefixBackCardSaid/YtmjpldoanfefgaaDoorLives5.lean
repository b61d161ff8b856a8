/- The example of chapter 5 comes out. No condition. -/
import Derived.Test.YtmjpldoanfefgaaDoorMakes
import Derived.Deep.Light
namespace Go.Proofs.YtmjpldoanfefgaaDoor
open Go.RowKit Go.Maps Go.Sort

def exL : List (ByteArray × Int) := [(⟨#[49]⟩, 7), (⟨#[48, 49]⟩, 8)]
theorem ex_ok : mkP exL := by
  refine ⟨by decide, by decide, by decide, ?_, by decide⟩
  show List.Pairwise _ [[(49 : UInt8)], [48, 49]]
  decide
theorem ex_rows {ds : List (ByteArray × Int)} (h : ds.Perm exL) (b : List UInt8) : tk (ds.map rowC) b 25 1 = tk [[49], [48, 49]] b 25 1 := tk_perm (h.map rowC) b 25 1
theorem ex_tk : tk [[49], [48, 49]] ((showL [96]).drop 0) 25 1 = (0, 2) ∧ tk [[49], [48, 49]] ((showL [96]).drop 2) 25 1 = (0, 1) ∧ tk [[49], [48, 49]] ((showL [96]).drop 3) 25 1 = (3, 0) := by decide +kernel
theorem ex_take : ((showL [96]).drop 0).take 2 = [48, 49] ∧ ((showL [96]).drop 2).take 1 = [49] := by decide +kernel
theorem ex_sym {ds : List (ByteArray × Int)} (h : ds.Perm exL) {x : ByteArray × Int} (hx : x ∈ ds) : (rowC x = [48, 49] → x.2 = 8) ∧ (rowC x = [49] → x.2 = 7) := by
  have := h.mem_iff.1 hx
  unfold exL at this
  simp only [List.mem_cons, List.not_mem_nil, or_false] at this
  rcases this with rfl | rfl
  · exact ⟨fun h => (by cases h), fun _ => rfl⟩
  · exact ⟨fun _ => rfl, fun h => (by cases h)⟩
/-- What is asked of a table's codes, where they lie in their order. -/
theorem made_free {l ds : List (ByteArray × Int)} (h : mkP l) (hp : ds.Perm l) : free (ds.map rowC) ∧ ∀ x ∈ ds, okRow (rowC x) = true :=
  ⟨(free_perm (hp.map rowC)).2 h.2.2.2.1, fun x hx => h.2.2.1 x (hp.mem_iff.1 hx)⟩
set_option maxRecDepth 100000 in
set_option maxHeartbeats 4000000 in
theorem lives5 (w : World) : Calls Tryd.prog 8 #[] w fun e w' => e = .returned (.bool true) ∧ Below w.heap.size w w' := by
  have hcd : ∀ o, o = Obj.cells #[.string ⟨#[49]⟩, .int .i64 7, .string ⟨#[48, 49]⟩, .int .i64 8] 55 (0, 0) → Cds (w.alloc o) (some ⟨w.heap.size, 0, none⟩) exL := by
    intro o ho
    have hh : (w.alloc o).heap[w.heap.size]? = some (.cells [.string ⟨#[49]⟩, .int .i64 7, .string ⟨#[48, 49]⟩, .int .i64 8].toArray 55 (0, 0)) := by rw [ho]; exact heap_alloc_new w _
    refine .inr ⟨w.heap.size, 0, rfl, by simp, fun i hi => ?_⟩
    match i, hi with
    | 0, _ => exact ⟨part_cells hh rfl, part_cells hh rfl⟩
    | 1, _ => exact ⟨part_cells hh rfl, part_cells hh rfl⟩
  have hb0 : ∀ o, Below w.heap.size w (w.alloc o) := fun o => (Below.refl _ w).alloc (Nat.le_refl _) o
  have HC := Lib.hid hcd
  have HB := Lib.hid hb0
  clear hcd hb0
  go_enter Tryd.func8, Tryd.ntmps8
  go_wp2_with fail
  refine (make_code exL (some ⟨w.heap.size, 0, none⟩) 2 _ (HC.out _ rfl) (by decide) (by decide)).mono ?_
  rintro e w1 ⟨hy, _, hb1⟩
  obtain ⟨tb, ds, rfl, ht, hp, hs⟩ := hy ex_ok
  obtain ⟨hf, ho⟩ := made_free ex_ok hp
  clear hy
  have hbw1 := (HB.out _).trans (hb1.mono (by simp))
  obtain ⟨R, hR⟩ : ∃ R, w1.heap.size = R := ⟨_, rfl⟩
  have hrl := ht.lt
  rw [hR] at ht hrl
  have hr0 : IsRd (w1.alloc (rdObj ⟨#[96]⟩ 0)) R ⟨#[96]⟩ 0 := IsRd.fresh hR (by decide)
  have hbR : Below R w1 (w1.alloc (rdObj ⟨#[96]⟩ 0)) := by rw [← hR]; exact (Below.refl _ w1).alloc (Nat.le_refl _) _
  have htR : ∀ x, Below R w1 x → IsTb x R tb ds (longL exL : Nat) := fun x hx => ht.below (by rw [hR]; exact hx)
  have hfin : ∀ x, Below R w1 x → Below w.heap.size w x := fun x hx => hbw1.trans (hx.mono (by rw [← hR]; exact hbw1.size))
  have hz0 : R < (w1.alloc (rdObj ⟨#[96]⟩ 0)).heap.size := by simp; omega
  have hrR : ∀ x y, Below R w1 x → R < x.heap.size → x.grownBy y (some R) → Below R w1 y ∧ R < y.heap.size := fun x y hx hz hg => ⟨hx.grown hg (Nat.le_of_lt hz) (by intro k hk; injection hk with hk; omega), Nat.lt_of_lt_of_le hz hg.size⟩
  have TR := Lib.hid htR
  have FN := Lib.hid hfin
  have GR := Lib.hid hrR
  have HP := Lib.hid hp
  have HS := Lib.hid hs
  have HF := Lib.hid hf
  have HO := Lib.hid ho
  have HR := Lib.hid hR
  clear htR hfin hrR hp hs hf ho ht hbw1 hb1
  go_wp2_with fail
  refine (rnew_code _ _).mono ?_
  rintro e w2 ⟨rfl, rfl⟩
  rw [HR.out]
  generalize w1.alloc (rdObj ⟨#[96]⟩ 0) = x0 at hr0 hbR hz0 ⊢
  obtain ⟨t1, t2, t3⟩ := ex_tk
  obtain ⟨s1, s2⟩ := ex_take
  have T1 := Lib.hid ((ex_rows HP.out ((showL [96]).drop 0)).trans t1)
  have T2 := Lib.hid ((ex_rows HP.out ((showL [96]).drop 2)).trans t2)
  have T3 := Lib.hid ((ex_rows HP.out ((showL [96]).drop 3)).trans t3)
  have S1 := Lib.hid s1
  have S2 := Lib.hid s2
  clear t1 t2 t3 s1 s2
  go_wp2_with fail
  refine (ttake_code _ R tb R ds _ _ 0 (TR.out _ hbR) hr0 (Nat.le_refl _) HS.out HF.out HO.out).mono ?_
  rintro e x1 ⟨v1, rfl, hv1, _, hr1, hg1⟩
  rw [show (⟨#[96]⟩ : ByteArray).data.toList = [96] from rfl, T1.out] at hr1 hv1 ⊢
  obtain ⟨y1, hy1, hyr1, rfl⟩ := hv1 rfl
  rw [(ex_sym HP.out hy1).1 (hyr1.trans S1.out)]
  obtain ⟨hb1, hz1⟩ := GR.out _ _ hbR hz0 hg1
  clear hv1 hy1 hyr1 hg1 hbR hz0 hr0
  go_wp2_with fail
  refine (ttake_code _ R tb R ds _ _ 2 (TR.out _ hb1) hr1 (Nat.le_refl _) HS.out HF.out HO.out).mono ?_
  rintro e x2 ⟨v2, rfl, hv2, _, hr2, hg2⟩
  rw [show (⟨#[96]⟩ : ByteArray).data.toList = [96] from rfl, T2.out] at hr2 hv2 ⊢
  obtain ⟨y2, hy2, hyr2, rfl⟩ := hv2 rfl
  rw [(ex_sym HP.out hy2).2 (hyr2.trans S2.out)]
  obtain ⟨hb2, hz2⟩ := GR.out _ _ hb1 hz1 hg2
  clear hv2 hy2 hyr2 hg2 hb1 hz1 hr1
  go_wp2_with fail
  refine (ttake_code _ R tb R ds _ _ 3 (TR.out _ hb2) hr2 (Nat.le_refl _) HS.out HF.out HO.out).mono ?_
  rintro e x3 ⟨v3, rfl, _, hv3, hr3, hg3⟩
  rw [show (⟨#[96]⟩ : ByteArray).data.toList = [96] from rfl, T3.out] at hv3 ⊢
  obtain rfl := hv3 (by decide)
  obtain ⟨hb3, hz3⟩ := GR.out _ _ hb2 hz2 hg3
  clear hv3 hg3 hb2 hz2 hr2
  go_wp2_with fail
  refine (longest_code _ R tb ds _ (TR.out _ hb3)).mono ?_
  rintro e w' ⟨rfl, rfl⟩
  rw [show ((longL exL : Nat) : Int) = 2 from rfl]
  go_wp2
  go_ret
  exact ⟨rfl, FN.out _ hb3⟩
end Go.Proofs.YtmjpldoanfefgaaDoor
