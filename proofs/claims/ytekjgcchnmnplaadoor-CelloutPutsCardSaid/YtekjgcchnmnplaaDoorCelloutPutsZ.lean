/- Any cell is written as the document's own answer says, behind what is there, or refused, and then nothing is written; and the chapter's examples come out. Conditions: none but the law's own (up to 100 events a block, 100 digits ahead), and the card's: what the listed variables hold when the call begins. -/
import Derived.Test.YtekjgcchnmnplaaDoorCelloutPutsMe
import Derived.Test.YtekjgcchnmnplaaDoorCelloutPutsMq
import Derived.Test.YtekjgcchnmnplaaDoorCelloutPutsMt
import Derived.Test.YtekjgcchnmnplaaDoorCelloutPutsMu
import Derived.Test.YtekjgcchnmnplaaDoorCelloutPutsMbe
import Derived.Test.YtekjgcchnmnplaaDoorCelloutPutsMbi
import Derived.Test.YtekjgcchnmnplaaDoorCelloutPutsMbj
import Derived.Test.YtekjgcchnmnplaaDoorCelloutPutsMbk
import Derived.Test.YtekjgcchnmnplaaDoorCards
import Derived.Test.YtekjgcchnmnplaaDoorTie
import Derived.RegionTactic
import Derived.ProofKit
import Derived.LaidMore
import Derived.OpenShut
import Derived.Lay
import Derived.SizedLaws
import Derived.SevenTiedAt
import Derived.Stop.Joined
namespace Go.Proofs.YtekjgcchnmnplaaDoor
open Go.ChangeShapes Go.WideShapes Go.ChangeAt Go.RowKit
set_option linter.unusedVariables false
set_option maxRecDepth 100000 in
set_option maxHeartbeats 8000000 in
theorem celloutPuts_walk (k0 : Cel) (p : Nat → Option Addr) (n cap : Nat → Nat) (h : ByteArray) (inter : Bool) (x y : Int) (w : World) (w0 : ∀ i, i < 6 → n i ≤ maxLen ∧ RowsAt w EvCells 3 (p i) (n i)) (hhs : h.size ≤ maxLen) (wx : (Lit.int .i64 x).wf = true) (wy : (Lit.int .i64 y).wf = true) (ht : TabsLo w.heap.size w) :
  Calls Tryd.prog 3 #[.agg (celL k0 fun i => .slice (p i) (n i) (cap i)).toArray, .agg #[.string h, .bool inter], .agg #[.int .i64 x, .int .i64 y]] w fun e w' => e = .returned (.bool true) ∧ Below w.heap.size w w' := by
 obtain ⟨c, ha, hae⟩ := cel_of_rows k0 p n cap w0
 have hnm := fun i hi => (w0 i hi).1
 rw [ha]
 clear ha w0
 have hhs' := hhs
 unfold maxLen at hhs
 obtain ⟨A, hA⟩ : ∃ A, (celL c fun i => .slice (p i) (n i) (cap i)).toArray = A := ⟨_, rfl⟩
 have HSZ : (Tryd.prog.info? 27).map (·.size) = some A.size := hA ▸ cel_sizeA c _
 have hfew := fun z => few_code c p n cap z hnm
 rw [hA]
 simp only [hA] at hfew
 obtain ⟨B, w1, w2, w3, hB, hw1, hw2, hw3, hz1, hz2, hz3, hC0, hC1, hC2, hb3⟩ := laid3 w (.cells A 27 (0, 0)) (.cells #[.string h, .bool inter] 29 (0, 0)) (.cells #[.int .i64 x, .int .i64 y] 22 (0, 0))
 rw [hB] at ht
 have LC := Lib.hid (fun z (hz : Below (B + 3) w3 z) => ((hz.block B (by omega)).trans hC0 : z.heap[B]? = some (.cells A 27 (0, 0))))
 have LH := Lib.hid (fun z (hz : Below (B + 3) w3 z) => (by
  have h1 := (hz.block (B + 1) (by omega)).trans hC1
  have h2 := (hz.block (B + 2) (by omega)).trans hC2
  exact ⟨part_cells (cs := [.string h, .bool inter]) h1 rfl, part_cells (cs := [.string h, .bool inter]) h1 rfl, part_cells (cs := [.int .i64 x, .int .i64 y]) h2 rfl, part_cells (cs := [.int .i64 x, .int .i64 y]) h2 rfl⟩ : z.cell? ⟨B + 1, 0, none⟩ = some (.string h) ∧ z.cell? ⟨B + 1, 1, none⟩ = some (.bool inter) ∧ z.cell? ⟨B + 1 + 1, 0, none⟩ = some (.int .i64 x) ∧ z.cell? ⟨B + 1 + 1, 1, none⟩ = some (.int .i64 y)))
 have HTH := Lib.hid (fun z (hz : Below (B + 3) w3 z) => (by
  have h := ht.below (hb3.trans (hz.mono (by omega)))
  exact TabsLo.here h.pats h.mvd h.steps h.tcoef : TabsLo z.heap.size z))
 have HBX := Lib.hid (fun z (hz : Below (B + 3) w3 z) => (hb3.trans (hz.mono (by omega)) : Below B w z))
 have HCI := Lib.hid (fun (hf : ∀ i, i < 6 → n i ≤ 100) z (hz : Below (B + 3) w3 z) => (fun i hi => ⟨(hae i hi).1, Nat.le_trans (hf i hi) (by decide), (hae i hi).2.below (hB ▸ hb3.trans (hz.mono (by omega)))⟩ : CelIn z c p n))
 have h00 : Below (B + 3) w3 w3 := Below.refl _ _
 have HA := Lib.hid hA
 have HB := Lib.hid hB
 have HW1 := Lib.hid hw1
 have HW2 := Lib.hid hw2
 have HW3 := Lib.hid hw3
 have HZ3 := Lib.hid hz3
 obtain ⟨fb, hfb⟩ : ∃ fb, ((List.range 6).all fun i => decide (n i ≤ 100)) = fb := ⟨_, rfl⟩
 rw [hfb] at hfew
 have FB := Lib.hid (fun (h : fb = true) i (hi : i < 6) => (by rw [← hfb, List.all_eq_true] at h; exact of_decide_eq_true (h i (List.mem_range.2 hi)) : n i ≤ 100))
 clear hA hB hw1 hw2 hw3 hz1 hz2 hz3 hC0 hC1 hC2 hb3 ht hae hnm hfb
 go_enter Tryd.func3, Tryd.ntmps3
 go_wp2_with (first | (with_reducible refine wpList_load_row rfl 27 _ rfl w.heap.size rfl 27 A (0, 0) _ (heap_keep (heap_keep (heap_alloc_new w _))) Tryd.underlying27 rfl HSZ ?_) | (with_reducible refine wpList_wanted_load (by kernel_rfl) 27 _ rfl w.heap.size rfl 27 A (0, 0) _ (heap_keep (heap_keep (heap_alloc_new w _))) Tryd.underlying27 rfl HSZ ?_))
 rw [HW1.out, HW2.out, HW3.out, HB.out]
 refine (hfew _).mono ?_
 rintro e z1 ⟨rfl, hbz⟩
 have hb1 := h00.trans (hbz.mono (by rw [HZ3.out]; omega))
 have hs1 := hb1.size
 rw [HZ3.out] at hs1
 clear hbz
 cases fb with
 | false =>
  go_wp2_with fail
  refine (lives22 _ (HTH.out _ hb1)).mono ?_
  rintro e wl ⟨rfl, hbl⟩
  have hend := hb1.trans (hbl.mono (by have := hb1.size; rw [HZ3.out] at this; omega))
  go_wp2
  go_ret
  exact ⟨rfl, by rw [HB.out]; exact HBX.out _ hend⟩
 | true =>
 have few := FB.out rfl
 obtain ⟨c0, c1, c2, c3⟩ := LH.out _ hb1
 by_cases h100 : 100 < h.size
 ·have t0 : decide (100 < (h.size : Int)) = true := by simp; omega
  have t1 : decide (100 < h.size) = true := decide_eq_true h100
  clear h100
  go_wp2_with fail
  refine (lives22 _ (HTH.out _ hb1)).mono ?_
  rintro e wl ⟨rfl, hbl⟩
  have hend := hb1.trans (hbl.mono (by have := hb1.size; rw [HZ3.out] at this; omega))
  go_wp2
  go_ret
  exact ⟨rfl, by rw [HB.out]; exact HBX.out _ hend⟩
 have t0 : decide (100 < (h.size : Int)) = false := by simp; omega
 have t1 : decide (100 < h.size) = false := decide_eq_false h100
 have hpl := fun z => plain_page h hhs' z
 cases hrow : isRow h.data.toList with
 | false =>
  rw [hrow] at hpl
  go_wp2_with fail
  refine (hpl _).mono ?_
  rintro e z2 ⟨rfl, rfl⟩
  go_wp2_with fail
  refine (lives22 _ (HTH.out _ hb1)).mono ?_
  rintro e wl ⟨rfl, hbl⟩
  have hend := hb1.trans (hbl.mono (by have := hb1.size; rw [HZ3.out] at this; omega))
  go_wp2
  go_ret
  exact ⟨rfl, by rw [HB.out]; exact HBX.out _ hend⟩
 | true =>
 rw [hrow] at hpl
 have CI := Lib.hid (HCI.out few)
 have hrp := right_page inter c p n cap z1 (CI.out _ hb1)
 rw [HA.out] at hrp
 have g1 := LC.out _ hb1
 go_wp2_with fail
 refine (hpl _).mono ?_
 rintro e z2 ⟨rfl, rfl⟩
 go_wp2_with (first | (with_reducible refine wpList_load_row rfl 27 _ rfl B rfl 27 A (0, 0) _ g1 Tryd.underlying27 rfl HSZ ?_) | (with_reducible refine wpList_wanted_load (by kernel_rfl) 27 _ rfl B rfl 27 A (0, 0) _ g1 Tryd.underlying27 rfl HSZ ?_))
 refine hrp.mono ?_
 rintro e z2 ⟨rfl, hbz⟩
 have hb2 := hb1.trans (hbz.mono (by omega))
 have hs2 := hbz.size
 clear hbz hb1 c0 c1 c2 c3 g1 hrp
 go_wp2_with fail
 refine (new_code _).mono ?_
 rintro e z3' ⟨rfl, rfl⟩
 obtain ⟨D, hD⟩ : ∃ D, z2.heap.size = D := ⟨_, rfl⟩
 obtain ⟨z3, hz3⟩ : ∃ z3, z2.alloc newWr = z3 := ⟨_, rfl⟩
 have hw3 : IsWr z3 (D + 1) D [] := by rw [← hz3]; exact IsWr.fresh hD (Nat.lt_succ_self _)
 have hbz : Below D z2 z3 := by rw [← hz3, ← hD]; exact (Below.refl _ z2).alloc (Nat.le_refl _) _
 have hs3 : z3.heap.size = D + 1 := by rw [← hz3]; simp; omega
 have hDB : B + 3 ≤ D := by omega
 have hb3 := hb2.trans (hbz.mono (by omega))
 obtain ⟨c0, c1, c2, c3⟩ := LH.out _ hb3
 rw [hz3, hD]
 clear hz3 hbz hs2
 have hadd := add_code z3 (D + 1) D [] h hw3 hrow (by rw [List.length_nil]; omega) (by omega)
 rw [List.nil_append] at hadd
 go_wp2_with fail
 refine hadd.mono ?_
 rintro e z4 ⟨rfl, hw4, hg4⟩
 have hbz := grown_low hg4 (Nat.le_refl _) (by omega : D ≤ z3.heap.size)
 have hb4 := hb3.trans (hbz.mono hDB)
 have hs4 : D + 1 ≤ z4.heap.size := by have := hg4.size; omega
 obtain ⟨d0, d1, d2, d3⟩ := LH.out _ hb4
 have g4 := LC.out _ hb4
 have hsl : h.data.toList.length = h.size := rfl
 obtain ⟨a, hsa⟩ : ∃ a, h.data.toList = a := ⟨_, rfl⟩
 have HAL := Lib.hid (show a.length = h.size by rw [← hsa]; rfl)
 have HSA := Lib.hid hsa
 rw [hsa] at hw4
 clear c0 c1 c2 c3 hbz hb3 hg4 hadd hw3 hs3 hpl
 have hri := fun z (hz : Below (B + 3) w3 z) => cright_code inter c p n cap z (CI.out z hz) (HTH.out z hz).tcoef (HTH.out z hz).steps
 rw [HA.out] at hri
 cases hm : celMay inter c with
 | false =>
  have hput := cput_not inter x y c p n cap D z4 (CI.out _ hb4) (HTH.out _ hb4) hm
  rw [HA.out] at hput
  rw [hm] at hri
  clear hm
  go_wp2_with (first | (with_reducible refine wpList_load_row rfl 27 _ rfl B rfl 27 A (0, 0) _ g4 Tryd.underlying27 rfl HSZ ?_) | (with_reducible refine wpList_wanted_load (by kernel_rfl) 27 _ rfl B rfl 27 A (0, 0) _ g4 Tryd.underlying27 rfl HSZ ?_))
  refine hput.mono ?_
  rintro e z5 ⟨rfl, hbz⟩
  have hw5 := hw4.below hbz
  have hb5 := hb4.trans (hbz.mono (by omega))
  have hs5 := hbz.size
  obtain ⟨c0, c1, c2, c3⟩ := LH.out _ hb5
  have g5 := LC.out _ hb5
  clear d0 d1 d2 d3 g4 hbz hput hb4
  go_wp2_with (first | (with_reducible refine wpList_load_row rfl 27 _ rfl B rfl 27 A (0, 0) _ g5 Tryd.underlying27 rfl HSZ ?_) | (with_reducible refine wpList_wanted_load (by kernel_rfl) 27 _ rfl B rfl 27 A (0, 0) _ g5 Tryd.underlying27 rfl HSZ ?_))
  refine (hri _ hb5).mono ?_
  rintro e z6 ⟨rfl, hbz⟩
  have hw6 := hw5.below hbz
  have hb6 := hb5.trans (hbz.mono (by omega))
  have hs6 := hbz.size
  obtain ⟨d0, d1, d2, d3⟩ := LH.out _ hb6
  have g6 := LC.out _ hb6
  clear c0 c1 c2 c3 g5 hbz hb5 hri
  go_wp2_with (first | (with_reducible refine wpList_load_row rfl 27 _ rfl B rfl 27 A (0, 0) _ g6 Tryd.underlying27 rfl HSZ ?_) | (with_reducible refine wpList_wanted_load (by kernel_rfl) 27 _ rfl B rfl 27 A (0, 0) _ g6 Tryd.underlying27 rfl HSZ ?_))
  refine (cput_nil inter _ A _).mono ?_
  rintro e z7 ⟨rfl, hbz⟩
  have hw7 := hw6.below hbz
  have hb7 := hb6.trans (hbz.mono (by omega))
  have hs7 := hbz.size
  have hlen := fun z (hz : Below z7.heap.size z7 z) => len_code z _ _ _ (hw7.below hz)
  rw [HAL.out] at hlen
  have LE := Lib.hid (fun z (hz : Below z7.heap.size z7 z) => ((hlen z hz).mono fun e y' h => ⟨h.1, h.2 ▸ hz⟩ : Calls Tryd.prog 12 #[.pointer (some ⟨D, 0, none⟩)] z fun e y' => e = .returned (.int .i64 (h.size : Int)) ∧ Below z7.heap.size z7 y'))
  have LI := Lib.hid (fun z (hz : Below z7.heap.size z7 z) => ((lives22 z (HTH.out z (hb7.trans (hz.mono (by omega))))).mono fun e y' h => ⟨h.1, hz.trans (h.2.mono hz.size)⟩ : Calls Tryd.prog 6 #[] z fun e y' => e = .returned (.bool true) ∧ Below z7.heap.size z7 y'))
  have HH := Lib.hid (fun z (hz : Below z7.heap.size z7 z) => (LH.out z (hb7.trans (hz.mono (by omega)))).1)
  have hbd := (Below.refl z7.heap.size z7).drew
  have HEND := Lib.hid (fun z (hz : Below z7.heap.size z7 z) => HBX.out z (hb7.trans (hz.mono (by omega))))
  clear d0 d1 d2 d3 g6 hbz hb6 hlen
  go_wp2
  refine wp_region_calm (S := fun z => Below z7.heap.size z7 z) 13 (by kernel_rfl) (by kernel_rfl) hbd ?_
  simp only [List.take_succ_cons, List.take_zero, List.drop_succ_cons, List.drop_zero]
  iterate 4 (refine calm_value (by kernel_rfl) (fun x _ => by go_simp; try with_reducible rfl) ?_; simp only [Act.put, List.setIfInBounds_toArray, List.set_cons_zero, List.set_cons_succ])
  refine calm_call (by kernel_rfl) LE.out (fun _ => by kernel_rfl) ?_; simp only [Act.put, List.setIfInBounds_toArray, List.set_cons_zero, List.set_cons_succ]
  refine calm_value (by kernel_rfl) (fun x _ => by go_simp; try with_reducible rfl) ?_; simp only [Act.put, List.setIfInBounds_toArray, List.set_cons_zero, List.set_cons_succ]
  refine calm_cell 9 _ ⟨B + 1, 0, none⟩ (.string h) (by kernel_rfl) rfl rfl (fun x hx => by have c0 := HH.out x hx; go_simp) ?_; simp only [Act.put, List.setIfInBounds_toArray, List.set_cons_zero, List.set_cons_succ]
  refine calm_value (by kernel_rfl) (fun x _ => by go_simp; try with_reducible rfl) ?_; simp only [Act.put, List.setIfInBounds_toArray, List.set_cons_zero, List.set_cons_succ]
  refine calm_value (v := .bool true) (by kernel_rfl) (fun x hx => by go_simp; try simp) ?_; simp only [Act.put, List.setIfInBounds_toArray, List.set_cons_zero, List.set_cons_succ]
  iterate 2 (refine calm_value (by kernel_rfl) (fun x _ => by go_simp; try with_reducible rfl) ?_; simp only [Act.put, List.setIfInBounds_toArray, List.set_cons_zero, List.set_cons_succ])
  refine calm_call (by kernel_rfl) LI.out (fun _ => by kernel_rfl) ?_; simp only [Act.put, List.setIfInBounds_toArray, List.set_cons_zero, List.set_cons_succ]
  refine calm_value (by kernel_rfl) (fun x _ => by go_simp; try with_reducible rfl) ?_; simp only [Act.put, List.setIfInBounds_toArray, List.set_cons_zero, List.set_cons_succ]
  refine calm_nil fun z hz => ?_
  go_wp2
  go_ret
  exact ⟨rfl, by rw [HB.out]; exact HEND.out _ hz⟩
 | true =>
  have hml := may_len hm x y
  have hput := cput_ok inter x y c p n cap (D + 1) D a z4 hw4 (by rw [HAL.out]; omega) (by omega) (fun z hz => by
   have h1 := hb4.trans ((grown_low hz (Nat.le_refl D) (by omega)).mono hDB)
   exact ⟨HTH.out z h1, CI.out z h1⟩) hm
  rw [HA.out] at hput
  have hrwp := fun z (hz : Below (B + 3) w3 z) => crow_page inter x y c p n cap z (CI.out z hz) hm
  rw [HA.out] at hrwp
  have hrr : isRow (a ++ celRow inter x y c) = true := by rw [isRow_append, celRow_row, ← HSA.out, hrow]; rfl
  rw [hm] at hri
  obtain ⟨V, hV⟩ : ∃ V, h ++ strL (celRow inter x y c) = V := ⟨_, rfl⟩
  have hVl : V.data.toList = a ++ celRow inter x y c := by rw [← hV, ← HSA.out]; simp [strL]
  have hRBs : (strL (celRow inter x y c)).size ≤ 20000 := by rw [strL_size]; exact hml
  have hVs : V.size ≤ 20100 := by rw [← hV, ByteArray.size_append]; omega
  generalize a ++ celRow inter x y c = r at hput hrr hVl
  generalize strL (celRow inter x y c) = RB at hrwp hV hRBs
  have hrl : r.length = V.size := by rw [← hVl]; rfl
  have hpk := fun z => pack_page V (by omega) (by rw [hVl]; exact hrr) z
  rw [hVl] at hpk
  have HV2 := Lib.hid hV
  clear hm hml hV hVl hrr
  go_wp2_with (first | (with_reducible refine wpList_load_row rfl 27 _ rfl B rfl 27 A (0, 0) _ g4 Tryd.underlying27 rfl HSZ ?_) | (with_reducible refine wpList_wanted_load (by kernel_rfl) 27 _ rfl B rfl 27 A (0, 0) _ g4 Tryd.underlying27 rfl HSZ ?_))
  refine hput.mono ?_
  rintro e z5 ⟨rfl, hw5, hg5⟩
  have hb5 := hb4.trans ((grown_low hg5 (Nat.le_refl D) (by omega)).mono hDB)
  have hs5 := hg5.size
  obtain ⟨c0, c1, c2, c3⟩ := LH.out _ hb5
  have g5 := LC.out _ hb5
  clear d0 d1 d2 d3 g4 hg5 hput hb4 hw4
  go_wp2_with (first | (with_reducible refine wpList_load_row rfl 27 _ rfl B rfl 27 A (0, 0) _ g5 Tryd.underlying27 rfl HSZ ?_) | (with_reducible refine wpList_wanted_load (by kernel_rfl) 27 _ rfl B rfl 27 A (0, 0) _ g5 Tryd.underlying27 rfl HSZ ?_))
  refine (hri _ hb5).mono ?_
  rintro e z6 ⟨rfl, hbz⟩
  have hw6 := hw5.below hbz
  have hb6 := hb5.trans (hbz.mono (by omega))
  have hs6 := hbz.size
  obtain ⟨d0, d1, d2, d3⟩ := LH.out _ hb6
  have g6 := LC.out _ hb6
  clear c0 c1 c2 c3 g5 hbz hb5 hri
  go_wp2_with (first | (with_reducible refine wpList_load_row rfl 27 _ rfl B rfl 27 A (0, 0) _ g6 Tryd.underlying27 rfl HSZ ?_) | (with_reducible refine wpList_wanted_load (by kernel_rfl) 27 _ rfl B rfl 27 A (0, 0) _ g6 Tryd.underlying27 rfl HSZ ?_))
  refine (cput_nil inter _ A _).mono ?_
  rintro e z7 ⟨rfl, hbz⟩
  have hw7 := hw6.below hbz
  have hb7 := hb6.trans (hbz.mono (by omega))
  have hs7 := hbz.size
  have HH := Lib.hid (fun z (hz : Below z7.heap.size z7 z) => LH.out z (hb7.trans (hz.mono (by omega))))
  have HC := Lib.hid (fun z (hz : Below z7.heap.size z7 z) => LC.out z (hb7.trans (hz.mono (by omega))))
  have RW := Lib.hid (fun z (hz : Below z7.heap.size z7 z) => ((hrwp z (hb7.trans (hz.mono (by omega)))).mono fun e y' h => ⟨h.1, hz.trans (h.2.mono hz.size)⟩ : Calls Tryd.prog 13 #[.bool inter, .agg #[.int .i64 x, .int .i64 y], .agg A] z fun e y' => e = .returned (.string RB) ∧ Below z7.heap.size z7 y'))
  have hbd := (Below.refl z7.heap.size z7).drew
  clear d0 d1 d2 d3 g6 hbz hb6 hrwp
  go_wp2
  refine wp_region_calm (S := fun z => Below z7.heap.size z7 z) 8 (by kernel_rfl) (by kernel_rfl) hbd ?_
  simp only [List.take_succ_cons, List.take_zero, List.drop_succ_cons, List.drop_zero]
  refine calm_value (by kernel_rfl) (fun x _ => by go_simp; try with_reducible rfl) ?_; simp only [Act.put, List.setIfInBounds_toArray, List.set_cons_zero, List.set_cons_succ]
  refine calm_cell 9 _ ⟨B + 1, 0, none⟩ (.string h) (by kernel_rfl) rfl rfl (fun x hx => by have c0 := (HH.out x hx).1; go_simp) ?_; simp only [Act.put, List.setIfInBounds_toArray, List.set_cons_zero, List.set_cons_succ]
  refine calm_value (by kernel_rfl) (fun x _ => by go_simp; try with_reducible rfl) ?_; simp only [Act.put, List.setIfInBounds_toArray, List.set_cons_zero, List.set_cons_succ]
  refine calm_cell 4 _ ⟨B + 1, 1, none⟩ (.bool inter) (by kernel_rfl) rfl rfl (fun x hx => by have c0 := (HH.out x hx).2.1; go_simp) ?_; simp only [Act.put, List.setIfInBounds_toArray, List.set_cons_zero, List.set_cons_succ]
  refine calm_value (v := .agg #[.int .i64 x, .int .i64 y]) (by kernel_rfl) (fun z' hx => by obtain ⟨-, -, e0, e1⟩ := HH.out z' hx; go_simp) ?_; simp only [Act.put, List.setIfInBounds_toArray, List.set_cons_zero, List.set_cons_succ]
  refine calm_load 27 _ B 27 A (0, 0) _ (by kernel_rfl) rfl rfl (fun x hx => HC.out x hx) Tryd.underlying27 rfl HSZ ?_; simp only [Act.put, List.setIfInBounds_toArray, List.set_cons_zero, List.set_cons_succ]
  refine calm_call (by kernel_rfl) RW.out (fun _ => by kernel_rfl) ?_; simp only [Act.put, List.setIfInBounds_toArray, List.set_cons_zero, List.set_cons_succ]
  refine calm_value (v := .string (h ++ RB)) (by kernel_rfl) (fun x hx => by go_simp; first | omega | trivial) ?_; simp only [Act.put, List.setIfInBounds_toArray, List.set_cons_zero, List.set_cons_succ]
  refine calm_nil fun z8 hz8 => ?_
  rw [HV2.out]
  have hw8 := hw7.below hz8
  have hb8 := hb7.trans (hz8.mono (by omega))
  have hs8 := hz8.size
  have hlen := len_code _ _ _ _ hw8
  rw [hrl] at hlen
  obtain ⟨P, hP⟩ : ∃ P : ByteArray, ⟨(packL r).toArray⟩ = P := ⟨_, rfl⟩
  have htx := text_code _ _ _ _ hw8 (by omega)
  rw [hP] at hpk htx
  have g9 : (P.toList == P.toList) = true := by simp
  clear hP HH HC RW hbd hb7
  go_wp2_with fail
  refine hlen.mono ?_
  rintro e z9 ⟨rfl, rfl⟩
  go_wp2_with fail
  refine htx.mono ?_
  rintro e z10 ⟨rfl, hbz⟩
  have hb10 := hb8.trans (hbz.mono (by omega))
  have hs10 := hbz.size
  clear hbz hb8 hlen htx
  go_wp2_with fail
  refine (hpk _).mono ?_
  rintro e z11 ⟨rfl, hbz⟩
  have hb11 := hb10.trans (hbz.mono (by omega))
  clear hbz
  go_wp2_with fail
  refine (lives22 _ (HTH.out _ hb11)).mono ?_
  rintro e wl ⟨rfl, hbl⟩
  have hend := hb11.trans (hbl.mono (by have := hb11.size; rw [HZ3.out] at this; omega))
  go_wp2
  go_ret
  exact ⟨rfl, by rw [HB.out]; exact HBX.out _ hend⟩
theorem celloutPuts_own : ownKnob Tryd.prog.godebug = none := by kernel_rfl
theorem celloutPuts_laid : laidOutB Tryd.prog = true := by kernel_rfl
theorem celloutPuts_reads : Tryd.f3.params.toList.all (fun t => Tryd.prog.readableRec t && decide (t < Tryd.prog.types.size)) = true := by kernel_rfl
set_option maxRecDepth 100000 in
theorem celloutPuts_lifted (os : Os) (started : os.Started) (H : Type) (enc : TypeId × Value → H) :
  ReturnsInHanded {} Tryd.checked os 3 .any (fun w args => (Rows.celloutPutsSpec.pre enc Tryd.prog Tryd.f3 Rows.celloutPutsRow.domain false w args ∧ laidMetH Tryd.prog Rows.celloutPutsRow.laid w) ∧ sizedMet enc Tryd.prog Tryd.f3 (OpenSpec.ofChange Rows.celloutPutsSpec) false w args)
   (Rows.celloutPutsSpec.post enc Tryd.prog Tryd.f3 false true false false) := by
 refine returnsInHanded_of_change_and (C := Tryd.checked) (X := fun w _ => laidMetH Tryd.prog Rows.celloutPutsRow.laid w) (fun _ _ _ hh h => h.of_heap hh) celloutPuts_own started (by kernel_rfl) Tryd.func3
  (ChangeSpec.witness_shaped (enc := enc) (C := Tryd.checked) (os := os) (X := fun w _ => laidMetH Tryd.prog Rows.celloutPutsRow.laid w) false (World.laidAll Tryd.prog os Rows.celloutPutsRow.laid) #[.agg (celL celZ nilS).toArray, .agg #[.string ⟨#[]⟩, .bool false], .agg #[.int .i64 0, .int .i64 0]] 8 (World.laidAll_os _ _ _)
   (World.shaped_of_ZipB (by kernel_rfl) (by kernel_rfl)) (by kernel_rfl) (by kernel_rfl) (by kernel_rfl)
   (by rw [MakeChecks.laidMetH_plain _ _ _ (by kernel_rfl)]; exact laidMet_laidAll _ (by kernel_rfl) (by kernel_rfl))) ?_
 intro W base args ds gs before hval0 hW _ hsz0 hL _
 have hval : ∀ (j : Nat) t v, Tryd.f3.params[j]? = some t → args[j]? = some v → Value.okWide Tryd.prog W .any base t v := hval0
 have hW' := hW
 obtain ⟨p, q, hA0, hV, rfl, hfz, hnd⟩ := hW
 have hA : DataW.TrodAll enc Tryd.prog W 0 (fun _ => true) true Tryd.f3.params.toList args.toList ds p := hA0
 rw [Tryd.params3] at hA hval
 obtain ⟨v0, vs0, d0, ds0, p0, q0, hargs, rfl, rfl, h0, r0⟩ := trodAll_cons hA
 obtain ⟨v1, vs1, d1, ds1, p1, q1, rfl, rfl, rfl, h1, r1⟩ := trodAll_cons r0
 obtain ⟨v2, vs2, d2, ds2, p2, q2, rfl, rfl, rfl, h2, r2⟩ := trodAll_cons r1
 obtain ⟨rfl, rfl, rfl⟩ := trodAll_nil r2
 obtain rfl : args = #[v0, v1, v2] := by cases args; simp_all
 obtain ⟨rfl, rfl⟩ := trodVars_none hV
 obtain ⟨k0, p0', n0, c0, rfl, w0⟩ := open_cel 3 EvCells Tryd.underlying27 Tryd.underlying4 Tryd.underlying3 Tryd.underlying22 Tryd.underlying23 Tryd.underlying25 Tryd.underlying24 ⟨rfl, rfl, rfl, rfl, rfl, rfl, rfl⟩ ⟨rfl, rfl, rfl, rfl, rfl, rfl, rfl⟩ (by kernel_rfl) (by kernel_rfl) (by kernel_rfl) (by kernel_rfl) (by kernel_rfl) (by kernel_rfl) (by kernel_rfl) (by kernel_rfl) (by decide) (ev_struct Tryd.underlying85 Tryd.underlying4 Tryd.underlying3 rfl rfl rfl rfl rfl rfl (by kernel_rfl) (by kernel_rfl)) (hval 0 27 v0 rfl rfl) h0
 obtain ⟨a1, b1, rfl, w1⟩ := open_hows Tryd.underlying29 Tryd.underlying9 Tryd.underlying4 rfl rfl rfl rfl (by kernel_rfl) (by kernel_rfl) (by kernel_rfl) (hval 1 29 v1 rfl rfl) h1
 obtain ⟨a2, b2, rfl, w2, x2⟩ := open_two Tryd.underlying22 Tryd.underlying3 (by kernel_rfl) (by kernel_rfl) (hval 2 22 v2 rfl rfl) h2
 clear hA0 hval0
 refine (celloutPuts_walk k0 p0' n0 c0 a1 b1 a2 b2 W w0 w1 w2 x2 (cel_laid hL ⟨by simp [Rows.celloutPutsRow], by kernel_rfl⟩)).mono fun e W' ⟨he, hb⟩ => ?_
 subst he
 exact ⟨_, rfl, law_end celloutPuts_laid celloutPuts_reads rfl Tryd.underlying4 rfl hW' rfl hb⟩
theorem celloutPuts_over : Rows.celloutPutsRow.holds Tryd.pinned (OpenSpec.ofChange Rows.celloutPutsSpec) :=
 OpenClaim.holds_of_wide 3 Tryd.f3 rfl rfl rfl rfl rfl rfl rfl ⟨rfl, rfl, rfl, rfl, rfl⟩ rfl rfl rfl rfl rfl (by kernel_rfl) Tryd.func3 (by kernel_rfl)
  (of_decide_eq_true (by kernel_rfl)) (by unfold Func.isWrapper; first | (rw [if_pos (by decide +kernel)]; kernel_rfl) | (rw [if_neg (by decide +kernel)]; exact ⟨rfl, rfl⟩))
  (fun os started H enc _ => celloutPuts_lifted os started H enc)
theorem celloutPuts_holds : Rows.CelloutPutsCardSaid :=
 Claim7.holds_tied_plain_at .later [] [.data, .data, .data, .data, .data, .data, .data] true Rows.celloutPutsCard.stood.harness false celloutPuts_over (fun _ h => by cases h) (by kernel_rfl) (fun _ h => by cases h) celloutPuts_row_tie rfl ⟨rfl, rfl⟩ (by kernel_rfl) rfl
  (fun f fn hf hfn => by
   obtain rfl : f = 3 := Option.some.inj ((show Tryd.prog.funcNamed "overspill/overspilllaw22.CelloutPuts" = some 3 by kernel_rfl).symm.trans hf) |>.symm
   obtain rfl : fn = Tryd.f3 := (Option.some.inj (Tryd.func3.symm.trans hfn)).symm
   exact ⟨by kernel_rfl, fun j t ht => by
    rw [Tryd.params3] at ht
    have hm : t ∈ [27, 29, 22] := by simpa using Array.mem_of_getElem? ht
    have hall : ([27, 29, 22].all fun u => !Tryd.prog.wantsStandIn u) = true := by kernel_rfl
    exact (show Tryd.prog.wantsStandIn t = false by simpa using List.all_eq_true.1 hall t hm)⟩)
  (by kernel_rfl)
#print axioms celloutPuts_holds
end Go.Proofs.YtekjgcchnmnplaaDoor
