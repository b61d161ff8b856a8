/- A cell that was written behind any bits, by any vector that is foretold, is read again. Conditions: none but the law's own (up to 100 events a block, 100 digits ahead), and the card's: what the listed variables hold when the call begins. -/
import Derived.Test.YtekjgcchnmnplaaGreatDoorCelloutBackMl
import Derived.Test.YtekjgcchnmnplaaGreatDoorCelloutBackMq
import Derived.Test.YtekjgcchnmnplaaGreatDoorCelloutBackMu
import Derived.Test.YtekjgcchnmnplaaGreatDoorCelloutBackMba
import Derived.Test.YtekjgcchnmnplaaGreatDoorCelloutBackMbg
import Derived.Test.YtekjgcchnmnplaaGreatDoorCelloutBackMbr
import Derived.Test.YtekjgcchnmnplaaGreatDoorCelloutBackMbs
import Derived.Test.YtekjgcchnmnplaaGreatDoorCards
import Derived.Test.YtekjgcchnmnplaaGreatDoorTie
import Derived.RegionTactic
import Derived.ProofKit
import Derived.LaidMore
import Derived.OpenShut
import Derived.Lay
import Derived.SizedLaws
import Derived.SevenTiedAt
import Derived.Stop.Joined
namespace Go.Proofs.YtekjgcchnmnplaaGreatDoor
open Go.ChangeShapes Go.WideShapes Go.ChangeAt Go.RowKit
set_option linter.unusedVariables false
set_option maxRecDepth 100000 in
set_option maxHeartbeats 8000000 in
theorem celloutBack_walk (k0 : Cel) (p : Nat → Option Addr) (n cap : Nat → Nat) (h : ByteArray) (inter : Bool) (x y : Int) (w : World) (w0 : ∀ i, i < 6 → n i ≤ maxLen ∧ RowsAt w EvCells 3 (p i) (n i)) (hhs : h.size ≤ maxLen) (wx : (Lit.int .i64 x).wf = true) (wy : (Lit.int .i64 y).wf = true) (ht : TabsLo w.heap.size w) :
  Calls Tryz.prog 3 #[.agg (celL k0 fun i => .slice (p i) (n i) (cap i)).toArray, .agg #[.string h, .bool inter], .agg #[.int .i64 x, .int .i64 y]] w fun e w' => e = .returned (.bool true) ∧ Below w.heap.size w w' := by
 obtain ⟨c, ha, hae⟩ := cel_of_rows k0 p n cap w0
 have hnm := fun i hi => (w0 i hi).1
 rw [ha]
 clear ha w0
 have hhs' := hhs
 unfold maxLen at hhs
 obtain ⟨A, hA⟩ : ∃ A, (celL c fun i => .slice (p i) (n i) (cap i)).toArray = A := ⟨_, rfl⟩
 have HSZ : (Tryz.prog.info? 27).map (·.size) = some A.size := hA ▸ cel_sizeA c _
 have hfew := fun z => few_code c p n cap z hnm
 rw [hA]
 simp only [hA] at hfew
 obtain ⟨B, w1, w2, w3, hB, hw1, hw2, hw3, hz1, hz2, hz3, hC0, hC1, hC2, hb3⟩ := laid3 w (.cells A 27 (0, 0)) (.cells #[.string h, .bool inter] 29 (0, 0)) (.cells #[.int .i64 x, .int .i64 y] 22 (0, 0))
 rw [hB] at ht
 have LC := Lib.hid (fun z (hz : Below (B + 3) w3 z) => ((hz.block B (by omega)).trans hC0 : z.heap[B]? = some (.cells A 27 (0, 0))))
 have LH := Lib.hid (fun z (hz : Below (B + 3) w3 z) => (by
  have h1 := (hz.block (B + 1) (by omega)).trans hC1
  have h2 := (hz.block (B + 2) (by omega)).trans hC2
  exact ⟨part_cells (cs := [.string h, .bool inter]) h1 rfl, part_cells (cs := [.string h, .bool inter]) h1 rfl, part_cells (cs := [.int .i64 x, .int .i64 y]) h2 rfl, part_cells (cs := [.int .i64 x, .int .i64 y]) h2 rfl⟩ : z.cell? ⟨B + 1, 0, none⟩ = some (.string h) ∧ z.cell? ⟨B + 1, 1, none⟩ = some (.bool inter) ∧ z.cell? ⟨B + 1 + 1, 0, none⟩ = some (.int .i64 x) ∧ z.cell? ⟨B + 1 + 1, 1, none⟩ = some (.int .i64 y)))
 have HTH := Lib.hid (fun z (hz : Below (B + 3) w3 z) => (by
  have h := ht.below (hb3.trans (hz.mono (by omega)))
  exact TabsLo.here h.pats h.mvd h.steps h.tcoef : TabsLo z.heap.size z))
 have HTL := Lib.hid (fun z (hz : Below (B + 3) w3 z) => (ht.below (hb3.trans (hz.mono (by omega))) : TabsLo B z))
 have HBX := Lib.hid (fun z (hz : Below (B + 3) w3 z) => (hb3.trans (hz.mono (by omega)) : Below B w z))
 have HCI := Lib.hid (fun (hf : ∀ i, i < 6 → n i ≤ 100) z (hz : Below (B + 3) w3 z) => (fun i hi => ⟨(hae i hi).1, Nat.le_trans (hf i hi) (by decide), (hae i hi).2.below (hB ▸ hb3.trans (hz.mono (by omega)))⟩ : CelIn z c p n))
 have h00 : Below (B + 3) w3 w3 := Below.refl _ _
 have HA := Lib.hid hA
 have HB := Lib.hid hB
 have HW1 := Lib.hid hw1
 have HW2 := Lib.hid hw2
 have HW3 := Lib.hid hw3
 have HZ3 := Lib.hid hz3
 obtain ⟨fb, hfb⟩ : ∃ fb, ((List.range 6).all fun i => decide (n i ≤ 100)) = fb := ⟨_, rfl⟩
 rw [hfb] at hfew
 have FB := Lib.hid (fun (h : fb = true) i (hi : i < 6) => (by rw [← hfb, List.all_eq_true] at h; exact of_decide_eq_true (h i (List.mem_range.2 hi)) : n i ≤ 100))
 clear hA hB hw1 hw2 hw3 hz1 hz2 hz3 hC0 hC1 hC2 hb3 ht hae hnm hfb
 go_enter Tryz.func3, Tryz.ntmps3
 go_wp2_with (first | (with_reducible refine wpList_load_row rfl 27 _ rfl w.heap.size rfl 27 A (0, 0) _ (heap_keep (heap_keep (heap_alloc_new w _))) Tryz.underlying27 rfl HSZ ?_) | (with_reducible refine wpList_wanted_load (by kernel_rfl) 27 _ rfl w.heap.size rfl 27 A (0, 0) _ (heap_keep (heap_keep (heap_alloc_new w _))) Tryz.underlying27 rfl HSZ ?_))
 rw [HW1.out, HW2.out, HW3.out, HB.out]
 refine (hfew _).mono ?_
 rintro e z1 ⟨rfl, hbz⟩
 have hb1 := h00.trans (hbz.mono (by rw [HZ3.out]; omega))
 have hs1 := hb1.size
 rw [HZ3.out] at hs1
 clear hbz
 cases fb with
 | false =>
  go_wp2_with fail
  refine (lives22 _ (HTH.out _ hb1)).mono ?_
  rintro e wl ⟨rfl, hbl⟩
  have hend := hb1.trans (hbl.mono (by have := hb1.size; rw [HZ3.out] at this; omega))
  go_wp2
  go_ret
  exact ⟨rfl, by rw [HB.out]; exact HBX.out _ hend⟩
 | true =>
 have few := FB.out rfl
 obtain ⟨c0, c1, c2, c3⟩ := LH.out _ hb1
 by_cases h100 : 100 < h.size
 ·have t0 : decide (100 < (h.size : Int)) = true := by simp; omega
  have t1 : decide (100 < h.size) = true := decide_eq_true h100
  clear h100
  go_wp2_with fail
  refine (lives22 _ (HTH.out _ hb1)).mono ?_
  rintro e wl ⟨rfl, hbl⟩
  have hend := hb1.trans (hbl.mono (by have := hb1.size; rw [HZ3.out] at this; omega))
  go_wp2
  go_ret
  exact ⟨rfl, by rw [HB.out]; exact HBX.out _ hend⟩
 have t0 : decide (100 < (h.size : Int)) = false := by simp; omega
 have t1 : decide (100 < h.size) = false := decide_eq_false h100
 have CI := Lib.hid (HCI.out few)
 go_wp2_with fail
 refine (new_code _).mono ?_
 rintro e z3' ⟨rfl, rfl⟩
 obtain ⟨D, hD⟩ : ∃ D, z1.heap.size = D := ⟨_, rfl⟩
 obtain ⟨z3, hz3⟩ : ∃ z3, z1.alloc newWr = z3 := ⟨_, rfl⟩
 have hw3 : IsWr z3 (D + 1) D [] := by rw [← hz3]; exact IsWr.fresh hD (Nat.lt_succ_self _)
 have hbz : Below D z1 z3 := by rw [← hz3, ← hD]; exact (Below.refl _ z1).alloc (Nat.le_refl _) _
 have hs3 : z3.heap.size = D + 1 := by rw [← hz3]; simp; omega
 have hDB : B + 3 ≤ D := by omega
 have hb3 := hb1.trans (hbz.mono (by omega))
 rw [hz3, hD]
 clear hz3 hbz c0 c1 c2 c3
 obtain ⟨c0, c1, c2, c3⟩ := LH.out _ hb3
 have hadd := add_all z3 (D + 1) D [] h hw3 (by rw [List.length_nil]; omega) (by omega)
 rw [List.nil_append] at hadd
 have har := addB_row h
 have hal := addB_len h
 generalize addB h = a at hadd har hal
 go_wp2_with fail
 refine hadd.mono ?_
 rintro e z4 ⟨ce, rfl, hw4, hg4⟩
 have hbz := grown_low hg4 (Nat.le_refl _) (by omega : D ≤ z3.heap.size)
 have hb4 := hb3.trans (hbz.mono hDB)
 have hs4 : D + 1 ≤ z4.heap.size := by have := hg4.size; omega
 have g4 := LC.out _ hb4
 clear c0 c1 c2 c3 hbz hb3 hg4 hadd hw3 hs3
 obtain ⟨c0, c1, c2, c3⟩ := LH.out _ hb4
 go_wp2_with fail
 refine (len_code _ _ _ _ hw4).mono ?_
 rintro e z5' ⟨rfl, rfl⟩
 cases hm : celMay inter c with
 | false =>
  have hput := cput_not inter x y c p n cap D z4 (CI.out _ hb4) (HTH.out _ hb4) hm
  rw [HA.out] at hput
  have hri := fun z (hz : Below (B + 3) w3 z) => cright_code inter c p n cap z (CI.out z hz) (HTH.out z hz).tcoef (HTH.out z hz).steps
  rw [HA.out, hm] at hri
  clear hm
  go_wp2_with (first | (with_reducible refine wpList_load_row rfl 27 _ rfl B rfl 27 A (0, 0) _ g4 Tryz.underlying27 rfl HSZ ?_) | (with_reducible refine wpList_wanted_load (by kernel_rfl) 27 _ rfl B rfl 27 A (0, 0) _ g4 Tryz.underlying27 rfl HSZ ?_))
  refine hput.mono ?_
  rintro e z5 ⟨rfl, hbz⟩
  have hw5 := hw4.below hbz
  have hb5 := hb4.trans (hbz.mono (by omega))
  have hs5 := hbz.size
  clear c0 c1 c2 c3 g4 hbz hput hb4
  obtain ⟨c0, c1, c2, c3⟩ := LH.out _ hb5
  have g5 := LC.out _ hb5
  have ee : ((a.length : Int) == (a.length : Int)) = true := by simp
  go_wp2_with fail
  refine (len_code _ _ _ _ hw5).mono ?_
  rintro e z6' ⟨rfl, rfl⟩
  go_wp2_with (first | (with_reducible refine wpList_load_row rfl 27 _ rfl B rfl 27 A (0, 0) _ g5 Tryz.underlying27 rfl HSZ ?_) | (with_reducible refine wpList_wanted_load (by kernel_rfl) 27 _ rfl B rfl 27 A (0, 0) _ g5 Tryz.underlying27 rfl HSZ ?_))
  refine (hri _ hb5).mono ?_
  rintro e z6 ⟨rfl, hbz⟩
  have hb6 := hb5.trans (hbz.mono (by omega))
  clear hbz hb5 g5 c0 c1 c2 c3 hri
  go_wp2_with fail
  refine (lives22 _ (HTH.out _ hb6)).mono ?_
  rintro e wl ⟨rfl, hbl⟩
  have hend := hb6.trans (hbl.mono (by have := hb6.size; rw [HZ3.out] at this; omega))
  go_wp2
  go_ret
  exact ⟨rfl, by rw [HB.out]; exact HBX.out _ hend⟩
 | true =>
  have hml := may_len hm x y
  have hput := cput_ok inter x y c p n cap (D + 1) D a z4 hw4 (by omega) (by omega) (fun z hz => by
   have h1 := hb4.trans ((grown_low hz (Nat.le_refl D) (by omega)).mono hDB)
   exact ⟨HTH.out z h1, CI.out z h1⟩) hm
  rw [HA.out] at hput
  have hrr : isRow (a ++ celRow inter x y c) = true := by rw [isRow_append, celRow_row, har]; rfl
  obtain ⟨cc, hcc, hcs⟩ := ctk_there (inter := inter) (x := x) (y := y) (c := c) (Seg.all a (celRow inter x y c) (List.replicate ((8 - (a ++ celRow inter x y c).length % 8) % 8) 48)) hm
  rw [show a ++ celRow inter x y c ++ List.replicate ((8 - (a ++ celRow inter x y c).length % 8) % 8) 48 = padL (a ++ celRow inter x y c) from rfl, ← List.length_append] at hcc
  have hrl : (a ++ celRow inter x y c).length ≤ 20100 := by rw [List.length_append]; omega
  have hra : a.length ≤ (a ++ celRow inter x y c).length := by rw [List.length_append]; omega
  generalize a ++ celRow inter x y c = r at hput hrr hcc hrl hra
  obtain ⟨P, hP⟩ : ∃ P : ByteArray, (⟨(packL r).toArray⟩ : ByteArray) = P := ⟨_, rfl⟩
  have hps : P.size = (r.length + 7) / 8 := by rw [← hP, size_mk, packL_length]
  have hsh : showL P.data.toList = padL r := by rw [← hP]; exact show_pack r hrr
  go_wp2_with (first | (with_reducible refine wpList_load_row rfl 27 _ rfl B rfl 27 A (0, 0) _ g4 Tryz.underlying27 rfl HSZ ?_) | (with_reducible refine wpList_wanted_load (by kernel_rfl) 27 _ rfl B rfl 27 A (0, 0) _ g4 Tryz.underlying27 rfl HSZ ?_))
  refine hput.mono ?_
  rintro e z5 ⟨rfl, hw5, hg5⟩
  have hb5 := hb4.trans ((grown_low hg5 (Nat.le_refl D) (by omega)).mono hDB)
  have hs5 := hg5.size
  clear c0 c1 c2 c3 g4 hg5 hput hb4 hw4
  have htx := text_code _ _ _ _ hw5 (by omega)
  rw [hP] at htx
  clear hP
  go_wp2_with fail
  refine htx.mono ?_
  rintro e z6 ⟨rfl, hbz⟩
  have hw6 := hw5.below hbz
  have hb6 := hb5.trans (hbz.mono (by omega))
  have hs6 := hbz.size
  clear hbz hb5 htx hw5
  go_wp2_with fail
  refine (rnew_code _ _).mono ?_
  rintro e z7' ⟨rfl, rfl⟩
  obtain ⟨E, hE⟩ : ∃ E, z6.heap.size = E := ⟨_, rfl⟩
  obtain ⟨z7, hz7⟩ : ∃ z7, z6.alloc (rdObj P 0) = z7 := ⟨_, rfl⟩
  have hr7 : IsRd z7 E P 0 := by rw [← hz7]; exact IsRd.fresh hE (by omega)
  have hbz : Below E z6 z7 := by rw [← hz7, ← hE]; exact (Below.refl _ z6).alloc (Nat.le_refl _) _
  have hs7 : z7.heap.size = E + 1 := by rw [← hz7]; simp; omega
  have hED : D + 1 ≤ E := by omega
  have hbE7 := hbz
  have hb7 := hb6.trans (hbz.mono (by omega))
  have HWE := Lib.hid (fun z (hz : Below E z6 z) => (hw6.below (hE ▸ hz) : IsWr z (D + 1) D r))
  rw [hz7, hE]
  clear hz7 hbz hw6 hb6 hE
  go_wp2_with fail
  refine (seek_code _ _ _ _ (a.length : Int) hr7 (by omega) (by omega)).mono ?_
  rintro e z8 ⟨rfl, hr8, hg8⟩
  rw [Int.toNat_natCast] at hr8
  have hbz := grown_low hg8 (Nat.le_refl E) (by omega)
  have hbE8 := hbE7.trans hbz
  have hb8 := hb7.trans (hbz.mono (by omega))
  have hs8 := hg8.size
  clear hbz hg8 hbE7 hb7 hr7
  obtain ⟨c0, c1, c2, c3⟩ := LH.out _ hb8
  have ht8 := HTH.out _ hb8
  have hTB : TabsLo E z8 := by
   have h := HTL.out _ hb8
   exact ⟨h.pats, h.mvd, h.steps, h.tcoef, by have := h.lo; omega⟩
  have ct := ctake_code (N := E) inter x y hTB (Nat.le_refl _) hr8
  unfold CtakeGives at ct
  rw [hsh, hcc] at ct
  obtain ⟨Y, hY⟩ : ∃ Y : Array Value, (celL celZ nilS).toArray = Y := ⟨_, rfl⟩
  have hzv : ∀ w, (zeroValue 27).run Tryz.prog w = .ok (.agg Y) w := by rw [← hY]; exact cel_zero
  have HY := Lib.hid hY
  have HCT := Lib.hid hcc
  clear hY ht8 hcc
  go_wp2_with fail
  refine ct.mono ?_
  rintro e z9 ⟨c', q, f, sl, hk, rfl, hs, hr9, hg9⟩
  simp only [Prod.mk.injEq] at hk
  obtain ⟨rfl, rfl, rfl⟩ := hk
  have hbz := grown_low hg9 (Nat.le_refl E) (by omega)
  have hbE9 := hbE8.trans hbz
  have hb9 := hb8.trans (hbz.mono (by omega))
  have hs9 := hg9.size
  obtain ⟨p', n', cap', hcl, hci⟩ := slat_in hs (fun i _ => by have h := ctk_len inter (padL r) x y a.length i; rw [HCT.out] at h; exact h)
  rw [hcl]
  obtain ⟨Z, hZ⟩ : ∃ Z, (celL cc fun i => .slice (p' i) (n' i) (cap' i)).toArray = Z := ⟨_, rfl⟩
  rw [hZ]
  have siz : (Tryz.prog.info? 27).map (·.size) = some Z.size := hZ ▸ cel_size _ _
  have syz : Y.size = Z.size := by rw [← hZ, ← HY.out]; rfl
  have one : Z.all (·.oneCell') = true := hZ ▸ cel_one _ _ fun i hi => rfl
  obtain ⟨X, hX⟩ : ∃ X, z9.heap.size = X := ⟨_, rfl⟩
  have hDX : D ≤ X := by omega
  obtain ⟨zA, hzA⟩ : ∃ u, z9.alloc (.cells Z 27 (0, 0)) = u := ⟨_, rfl⟩
  have hbA' : Below X z9 zA := by rw [← hzA, ← hX]; exact (Below.refl _ z9).alloc (Nat.le_refl _) _
  have hbA := hb9.trans (hbA'.mono (by omega))
  have hzsA : zA.heap.size = X + 1 := by rw [← hzA, ← hX]; simp
  have hrA : IsRd zA E P r.length := hr9.below (hX ▸ hbA')
  have hwA := HWE.out _ (hbE9.trans (hbA'.mono (by omega)))
  have hciA : CelIn zA cc p' n' := hci.below (hX ▸ hbA')
  have gZ : zA.heap[X]? = some (.cells Z 27 (0, 0)) := by rw [← hzA, ← hX]; exact heap_alloc_new z9 _
  have gA := LC.out _ hbA
  have hsm := celsame_code cc c p' p n' n cap' cap zA hciA (CI.out _ hbA)
  rw [hcs, hZ, HA.out] at hsm
  have HX := Lib.hid hX
  have HZA := Lib.hid hzA
  clear hX hzA hbA' hs hr9 hg9 hbz hcl hci hbE8 hb8 hbE9 hb9 ct c0 c1 c2 c3 hr8 HCT hcs hZ hciA
  go_wp2_with (first | (with_reducible refine wp_store_fresh rfl 27 _ _ rfl Z Y 27 rfl rfl siz syz one ?_; rw [HZA.out, HX.out]) | (with_reducible refine wpList_load_row rfl 27 _ rfl B rfl 27 A (0, 0) _ gA Tryz.underlying27 rfl HSZ ?_) | (with_reducible refine wpList_wanted_load (by kernel_rfl) 27 _ rfl B rfl 27 A (0, 0) _ gA Tryz.underlying27 rfl HSZ ?_) | (with_reducible refine wpList_load_row rfl 27 _ rfl X rfl 27 Z (0, 0) _ gZ Tryz.underlying27 rfl siz ?_) | (with_reducible refine wpList_wanted_load (by kernel_rfl) 27 _ rfl X rfl 27 Z (0, 0) _ gZ Tryz.underlying27 rfl siz ?_))
  refine hsm.mono ?_
  rintro e zB ⟨rfl, hbz⟩
  have hrB := hrA.below hbz
  have hwB := hwA.below hbz
  have hbB := hbA.trans (hbz.mono (by omega))
  have ee : ((r.length : Int) == (r.length : Int)) = true := by simp
  clear hbz hrA hwA hbA gZ gA hsm
  go_wp2_with fail
  refine (at_code _ _ _ _ hrB).mono ?_
  rintro e zC ⟨rfl, rfl⟩
  go_wp2_with fail
  refine (len_code _ _ _ _ hwB).mono ?_
  rintro e zD ⟨rfl, rfl⟩
  go_wp2_with fail
  refine (lives22 _ (HTH.out _ hbB)).mono ?_
  rintro e wl ⟨rfl, hbl⟩
  have hend := hbB.trans (hbl.mono (by have := hbB.size; rw [HZ3.out] at this; omega))
  go_wp2
  go_ret
  exact ⟨rfl, by rw [HB.out]; exact HBX.out _ hend⟩
theorem celloutBack_own : ownKnob Tryz.prog.godebug = none := by kernel_rfl
theorem celloutBack_laid : laidOutB Tryz.prog = true := by kernel_rfl
theorem celloutBack_reads : Tryz.f3.params.toList.all (fun t => Tryz.prog.readableRec t && decide (t < Tryz.prog.types.size)) = true := by kernel_rfl
set_option maxRecDepth 100000 in
theorem celloutBack_lifted (os : Os) (started : os.Started) (H : Type) (enc : TypeId × Value → H) :
  ReturnsInHanded {} Tryz.checked os 3 .any (fun w args => (Rows.celloutBackSpec.pre enc Tryz.prog Tryz.f3 Rows.celloutBackRow.domain false w args ∧ laidMetH Tryz.prog Rows.celloutBackRow.laid w) ∧ sizedMet enc Tryz.prog Tryz.f3 (OpenSpec.ofChange Rows.celloutBackSpec) false w args)
   (Rows.celloutBackSpec.post enc Tryz.prog Tryz.f3 false true false false) := by
 refine returnsInHanded_of_change_and (C := Tryz.checked) (X := fun w _ => laidMetH Tryz.prog Rows.celloutBackRow.laid w) (fun _ _ _ hh h => h.of_heap hh) celloutBack_own started (by kernel_rfl) Tryz.func3
  (ChangeSpec.witness_shaped (enc := enc) (C := Tryz.checked) (os := os) (X := fun w _ => laidMetH Tryz.prog Rows.celloutBackRow.laid w) false (World.laidAll Tryz.prog os Rows.celloutBackRow.laid) #[.agg (celL celZ nilS).toArray, .agg #[.string ⟨#[]⟩, .bool false], .agg #[.int .i64 0, .int .i64 0]] 8 (World.laidAll_os _ _ _)
   (World.shaped_of_ZipB (by kernel_rfl) (by kernel_rfl)) (by kernel_rfl) (by kernel_rfl) (by kernel_rfl)
   (by rw [MakeChecks.laidMetH_plain _ _ _ (by kernel_rfl)]; exact laidMet_laidAll _ (by kernel_rfl) (by kernel_rfl))) ?_
 intro W base args ds gs before hval0 hW _ hsz0 hL _
 have hval : ∀ (j : Nat) t v, Tryz.f3.params[j]? = some t → args[j]? = some v → Value.okWide Tryz.prog W .any base t v := hval0
 have hW' := hW
 obtain ⟨p, q, hA0, hV, rfl, hfz, hnd⟩ := hW
 have hA : DataW.TrodAll enc Tryz.prog W 0 (fun _ => true) true Tryz.f3.params.toList args.toList ds p := hA0
 rw [Tryz.params3] at hA hval
 obtain ⟨v0, vs0, d0, ds0, p0, q0, hargs, rfl, rfl, h0, r0⟩ := trodAll_cons hA
 obtain ⟨v1, vs1, d1, ds1, p1, q1, rfl, rfl, rfl, h1, r1⟩ := trodAll_cons r0
 obtain ⟨v2, vs2, d2, ds2, p2, q2, rfl, rfl, rfl, h2, r2⟩ := trodAll_cons r1
 obtain ⟨rfl, rfl, rfl⟩ := trodAll_nil r2
 obtain rfl : args = #[v0, v1, v2] := by cases args; simp_all
 obtain ⟨rfl, rfl⟩ := trodVars_none hV
 obtain ⟨k0, p0', n0, c0, rfl, w0⟩ := open_cel 3 EvCells Tryz.underlying27 Tryz.underlying4 Tryz.underlying3 Tryz.underlying22 Tryz.underlying23 Tryz.underlying25 Tryz.underlying24 ⟨rfl, rfl, rfl, rfl, rfl, rfl, rfl⟩ ⟨rfl, rfl, rfl, rfl, rfl, rfl, rfl⟩ (by kernel_rfl) (by kernel_rfl) (by kernel_rfl) (by kernel_rfl) (by kernel_rfl) (by kernel_rfl) (by kernel_rfl) (by kernel_rfl) (by decide) (ev_struct Tryz.underlying69 Tryz.underlying4 Tryz.underlying3 rfl rfl rfl rfl rfl rfl (by kernel_rfl) (by kernel_rfl)) (hval 0 27 v0 rfl rfl) h0
 obtain ⟨a1, b1, rfl, w1⟩ := open_hows Tryz.underlying29 Tryz.underlying9 Tryz.underlying4 rfl rfl rfl rfl (by kernel_rfl) (by kernel_rfl) (by kernel_rfl) (hval 1 29 v1 rfl rfl) h1
 obtain ⟨a2, b2, rfl, w2, x2⟩ := open_two Tryz.underlying22 Tryz.underlying3 (by kernel_rfl) (by kernel_rfl) (hval 2 22 v2 rfl rfl) h2
 clear hA0 hval0
 refine (celloutBack_walk k0 p0' n0 c0 a1 b1 a2 b2 W w0 w1 w2 x2 (cel_laid hL ⟨by simp [Rows.celloutBackRow], by kernel_rfl⟩)).mono fun e W' ⟨he, hb⟩ => ?_
 subst he
 exact ⟨_, rfl, law_end celloutBack_laid celloutBack_reads rfl Tryz.underlying4 rfl hW' rfl hb⟩
theorem celloutBack_over : Rows.celloutBackRow.holds Tryz.pinned (OpenSpec.ofChange Rows.celloutBackSpec) :=
 OpenClaim.holds_of_wide 3 Tryz.f3 rfl rfl rfl rfl rfl rfl rfl ⟨rfl, rfl, rfl, rfl, rfl⟩ rfl rfl rfl rfl rfl (by kernel_rfl) Tryz.func3 (by kernel_rfl)
  (of_decide_eq_true (by kernel_rfl)) (by unfold Func.isWrapper; first | (rw [if_pos (by decide +kernel)]; kernel_rfl) | (rw [if_neg (by decide +kernel)]; exact ⟨rfl, rfl⟩))
  (fun os started H enc _ => celloutBack_lifted os started H enc)
theorem celloutBack_holds : Rows.CelloutBackCardSaid :=
 Claim7.holds_tied_plain_at .later [] [.data, .data, .data, .data, .data, .data, .data, .data, .data, .data, .data, .pinned] true Rows.celloutBackCard.stood.harness false celloutBack_over (fun _ h => by cases h) (by kernel_rfl) (fun _ h => by cases h) celloutBack_row_tie rfl ⟨rfl, rfl⟩ (by kernel_rfl) rfl
  (fun f fn hf hfn => by
   obtain rfl : f = 3 := Option.some.inj ((show Tryz.prog.funcNamed "overspill/overspilllaw22.CelloutBack" = some 3 by kernel_rfl).symm.trans hf) |>.symm
   obtain rfl : fn = Tryz.f3 := (Option.some.inj (Tryz.func3.symm.trans hfn)).symm
   exact ⟨by kernel_rfl, fun j t ht => by
    rw [Tryz.params3] at ht
    have hm : t ∈ [27, 29, 22] := by simpa using Array.mem_of_getElem? ht
    have hall : ([27, 29, 22].all fun u => !Tryz.prog.wantsStandIn u) = true := by kernel_rfl
    exact (show Tryz.prog.wantsStandIn t = false by simpa using List.all_eq_true.1 hall t hm)⟩)
  (by kernel_rfl)
#print axioms celloutBack_holds
end Go.Proofs.YtekjgcchnmnplaaGreatDoor
