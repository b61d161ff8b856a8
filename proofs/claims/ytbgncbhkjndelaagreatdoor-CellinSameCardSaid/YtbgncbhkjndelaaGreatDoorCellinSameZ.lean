/- Whether any two cells are the same is what the document's own answer says; each is the same as itself; and the chapter's examples come out. Conditions: none but the law's own (up to 100 events a block), and the card's: what the listed variables hold when the call begins. -/
import Derived.Test.YtbgncbhkjndelaaGreatDoorCellinSameMi
import Derived.Test.YtbgncbhkjndelaaGreatDoorCellinSameMbf
import Derived.Test.YtbgncbhkjndelaaGreatDoorCellinSameMbh
import Derived.Test.YtbgncbhkjndelaaGreatDoorCellinSameMbi
import Derived.Test.YtbgncbhkjndelaaGreatDoorCards
import Derived.Test.YtbgncbhkjndelaaGreatDoorTie
import Derived.RegionTactic
import Derived.ProofKit
import Derived.LaidMore
import Derived.OpenShut
import Derived.Lay
import Derived.SizedLaws
import Derived.SevenTiedAt
import Derived.Stop.Joined
namespace Go.Proofs.YtbgncbhkjndelaaGreatDoor
open Go.ChangeShapes Go.WideShapes Go.ChangeAt Go.RowKit
set_option linter.unusedVariables false
theorem cel_of_rows {w : World} (k : Cel) (p : Nat → Option Addr) (n c : Nat → Nat) (h : ∀ i, i < 6 → n i ≤ maxLen ∧ RowsAt w EvCells 3 (p i) (n i)) :
  ∃ k' : Cel, (celL k fun i => .slice (p i) (n i) (c i)) = (celL k' fun i => .slice (p i) (n i) (c i)) ∧ ∀ i, i < 6 → n i = (k'.ev i).length ∧ EvsIn w (p i) (k'.ev i) := by
 have each : ∀ i, ∃ l : List Ev, i < 6 → l.length = n i ∧ EvsIn w (p i) l := by
  intro i
  by_cases hi : i < 6
  ·obtain ⟨l, h1, h2, _⟩ := rows_evs (h i hi).2
   exact ⟨l, fun _ => ⟨h1, h2⟩⟩
  ·exact ⟨[], fun h => absurd h hi⟩
 refine ⟨{ k with ev := fun i => (each i).choose }, rfl, fun i hi => ?_⟩
 have h2 := (each i).choose_spec hi
 exact ⟨h2.1.symm, h2.2⟩
set_option maxRecDepth 100000 in
set_option maxHeartbeats 4000000 in
theorem cellinSame_walk (k0 : Cel) (p0 : Nat → Option Addr) (n0 c0 : Nat → Nat) (k1 : Cel) (p1 : Nat → Option Addr) (n1 c1 : Nat → Nat) (w : World) (w0 : ∀ i, i < 6 → n0 i ≤ maxLen ∧ RowsAt w EvCells 3 (p0 i) (n0 i)) (w1 : ∀ i, i < 6 → n1 i ≤ maxLen ∧ RowsAt w EvCells 3 (p1 i) (n1 i)) (ht : TabsLo w.heap.size w) :
  Calls Tryz.prog 4 #[.agg (celL k0 fun i => .slice (p0 i) (n0 i) (c0 i)).toArray, .agg (celL k1 fun i => .slice (p1 i) (n1 i) (c1 i)).toArray] w fun e w' => e = .returned (.bool true) ∧ Below w.heap.size w w' := by
 obtain ⟨a, ha, hae⟩ := cel_of_rows k0 p0 n0 c0 w0
 obtain ⟨b, hb, hbe⟩ := cel_of_rows k1 p1 n1 c1 w1
 have N0 := Lib.hid (fun i hi => (w0 i hi).1)
 have N1 := Lib.hid (fun i hi => (w1 i hi).1)
 rw [ha, hb]
 clear ha hb w0 w1
 obtain ⟨A, hA⟩ : ∃ A, (celL a fun i => .slice (p0 i) (n0 i) (c0 i)).toArray = A := ⟨_, rfl⟩
 obtain ⟨B, hB⟩ : ∃ A, (celL b fun i => .slice (p1 i) (n1 i) (c1 i)).toArray = A := ⟨_, rfl⟩
 have sizA : (Tryz.prog.info? 34).map (·.size) = some A.size := hA ▸ cel_size _ _
 have sizB : (Tryz.prog.info? 34).map (·.size) = some B.size := hB ▸ cel_size _ _
 rw [hA, hB]
 obtain ⟨R, wA, wB, hR, hwA, hwB, hzA, hzB, hC0, hC1, hbB⟩ := laid2 w (.cells A 34 (0, 0)) (.cells B 34 (0, 0))
 rw [hR] at ht
 have HT := Lib.hid (fun (z : World) (hx : Below (R + 2) wB z) (hz : R + 2 ≤ z.heap.size) => (by
  have h := ht.below (hbB.trans (hx.mono (by omega)))
  exact TabsLo.here h.pats h.mvd h.steps h.tcoef : TabsLo z.heap.size z))
 have LA := Lib.hid (fun x (hx : Below (R + 2) wB x) => (hx.block R (by omega)).trans hC0)
 have LB := Lib.hid (fun x (hx : Below (R + 2) wB x) => (hx.block (R + 1) (by omega)).trans hC1)
 have IA := Lib.hid (fun (h : ∀ j, j < 6 → n0 j ≤ 100 ∧ n1 j ≤ 100) x (hx : Below (R + 2) wB x) => (fun i hi => ⟨(hae i hi).1, Nat.le_trans (h i hi).1 (by decide), (hae i hi).2.below (hR ▸ hbB.trans (hx.mono (by omega)))⟩ : CelIn x a p0 n0))
 have IB := Lib.hid (fun (h : ∀ j, j < 6 → n0 j ≤ 100 ∧ n1 j ≤ 100) x (hx : Below (R + 2) wB x) => (fun i hi => ⟨(hbe i hi).1, Nat.le_trans (h i hi).2 (by decide), (hbe i hi).2.below (hR ▸ hbB.trans (hx.mono (by omega)))⟩ : CelIn x b p1 n1))
 have HBX := Lib.hid (fun (z : World) (hx : Below (R + 2) wB z) => (hR ▸ hbB.trans (hx.mono (by omega)) : Below w.heap.size w z))
 have HA := Lib.hid hA
 have HB := Lib.hid hB
 have HWA := Lib.hid hwA
 have HWB := Lib.hid hwB
 have HR := Lib.hid hR
 clear hA hB hwA hwB hR hC0 hC1 hbB ht hae hbe hzA
 go_enter Tryz.func4, Tryz.ntmps4
 go_wp2
 rw [HWA.out, HR.out, HWB.out]
 go_loopw [5] (fun z wr => ∃ i : Nat, i ≤ 6 ∧ z = .int .i64 i ∧ Hid (∀ j, j < i → n0 j ≤ 100 ∧ n1 j ≤ 100) ∧ Below (R + 2) wB wr) (fun z _ => 6 - (intOf z).toNat)
 case atStart => exact ⟨0, by omega, rfl, Lib.hid fun j h => absurd h (Nat.not_lt_zero j), Below.refl _ _⟩
 case round =>
  obtain ⟨i, hi6, rfl, hs, hb⟩ := hrel
  have hz2 : R + 2 ≤ wr.heap.size := hzB ▸ hb.size
  by_cases hlt : i < 6
  ·have t0 : decide ((i : Int) < 6) = true := by simp; omega
   have a0 : wr.cell? ⟨R, 12 + i, none⟩ = some (.slice (p0 i) (n0 i) (c0 i)) := part_cells (o := 12 + i) (LA.out wr hb |>.trans (by rw [← HA.out])) (celL_ev a _ i hlt)
   have b0 : wr.cell? ⟨R + 1, 12 + i, none⟩ = some (.slice (p1 i) (n1 i) (c1 i)) := part_cells (o := 12 + i) (LB.out wr hb |>.trans (by rw [← HB.out])) (celL_ev b _ i hlt)
   have m0 := N0.out i hlt
   have m1 := N1.out i hlt
   unfold maxLen at m0 m1
   have HS := Lib.hid (fun (h : n0 i ≤ 100 ∧ n1 i ≤ 100) j (hj : j < i + 1) => ((Nat.lt_succ_iff_lt_or_eq.1 hj).elim (hs.out j) fun e => e ▸ h : n0 j ≤ 100 ∧ n1 j ≤ 100))
   clear hs
   generalize p0 i = P0 at a0
   generalize p1 i = P1 at b0
   generalize c0 i = C0 at a0
   generalize c1 i = C1 at b0
   generalize hn0 : n0 i = M0 at a0 m0 HS
   generalize hn1 : n1 i = M1 at b0 m1 HS
   clear hn0 hn1
   by_cases h0 : 100 < M0
   ·have t1 : decide (100 < (M0 : Int)) = true := by simp; omega
    clear h0 HS
    go_wp2_with fail
    refine (lives21 _ (HT.out _ hb hz2)).mono ?_
    rintro e w' ⟨rfl, hb5⟩
    go_wp2
    go_ret
    exact ⟨rfl, HBX.out _ (hb.trans (hb5.mono hz2))⟩
   ·have t1 : decide (100 < (M0 : Int)) = false := by simp; omega
    by_cases h1 : 100 < M1
    ·have t2 : decide (100 < (M1 : Int)) = true := by simp; omega
     clear h0 h1 HS
     go_wp2_with fail
     refine (lives21 _ (HT.out _ hb hz2)).mono ?_
     rintro e w' ⟨rfl, hb5⟩
     go_wp2
     go_ret
     exact ⟨rfl, HBX.out _ (hb.trans (hb5.mono hz2))⟩
    ·have t2 : decide (100 < (M1 : Int)) = false := by simp; omega
     have HS2 := Lib.hid (HS.out ⟨by omega, by omega⟩)
     clear h0 h1 HS
     go_wp2
     go_roundw
     case rel => exact ⟨i + 1, by omega, by go_num, HS2, hb⟩
     case measure => simp [intOf]; omega
  ·obtain rfl : i = 6 := by omega
   have t0 : decide ((6 : Int) < 6) = false := by simp
   have hA2 := LA.out wr hb
   have hB2 := LB.out wr hb
   have cAB := fun z hz => celsame_code a b p0 p1 n0 n1 c0 c1 z (IA.out hs.out z hz) (IB.out hs.out z hz)
   have pAB := fun z hz => celsame_page a b p0 p1 n0 n1 c0 c1 z (IA.out hs.out z hz) (IB.out hs.out z hz)
   have cAA := fun z hz => celsame_code a a p0 p0 n0 n0 c0 c0 z (IA.out hs.out z hz) (IA.out hs.out z hz)
   have cBB := fun z hz => celsame_code b b p1 p1 n1 n1 c1 c1 z (IB.out hs.out z hz) (IB.out hs.out z hz)
   rw [HA.out, HB.out] at cAB pAB
   rw [HA.out, celB_self] at cAA
   rw [HB.out, celB_self] at cBB
   generalize celB a b = r at cAB pAB
   have CAB := Lib.hid cAB
   have PAB := Lib.hid pAB
   have CAA := Lib.hid cAA
   have CBB := Lib.hid cBB
   have gr : (r == r) = true := by simp
   clear cAB pAB cAA cBB hs
   have HA2 := Lib.hid (fun z (hz : Below (R + 2) wB z) => LA.out z hz)
   have HB2 := Lib.hid (fun z (hz : Below (R + 2) wB z) => LB.out z hz)
   have K1 := Lib.hid (fun z (hz : Below (R + 2) wB z) => ((CAB.out z hz).mono fun e y h => ⟨h.1, hz.trans (h.2.mono (hzB ▸ hz.size))⟩ : Calls Tryz.prog 13 #[.agg A, .agg B] z fun e y => e = .returned (.bool r) ∧ Below (R + 2) wB y))
   have K2 := Lib.hid (fun z (hz : Below (R + 2) wB z) => ((PAB.out z hz).mono fun e y h => ⟨h.1, hz.trans (h.2.mono (hzB ▸ hz.size))⟩ : Calls Tryz.prog 11 #[.agg A, .agg B] z fun e y => e = .returned (.bool r) ∧ Below (R + 2) wB y))
   have K3 := Lib.hid (fun z (hz : Below (R + 2) wB z) => ((CAA.out z hz).mono fun e y h => ⟨h.1, hz.trans (h.2.mono (hzB ▸ hz.size))⟩ : Calls Tryz.prog 13 #[.agg A, .agg A] z fun e y => e = .returned (.bool true) ∧ Below (R + 2) wB y))
   have K4 := Lib.hid (fun z (hz : Below (R + 2) wB z) => ((CBB.out z hz).mono fun e y h => ⟨h.1, hz.trans (h.2.mono (hzB ▸ hz.size))⟩ : Calls Tryz.prog 13 #[.agg B, .agg B] z fun e y => e = .returned (.bool true) ∧ Below (R + 2) wB y))
   have K5 := Lib.hid (fun z (hz : Below (R + 2) wB z) => ((lives21 z (HT.out z hz (hzB ▸ hz.size))).mono fun e y h => ⟨h.1, hz.trans (h.2.mono (hzB ▸ hz.size))⟩ : Calls Tryz.prog 7 #[] z fun e y => e = .returned (.bool true) ∧ Below (R + 2) wB y))
   have hbd := hb.drew
   clear hA2 hB2 CAB PAB CAA CBB
   go_wp2
   refine wp_region_calm (S := fun x => Below (R + 2) wB x) 21 (by kernel_rfl) (by kernel_rfl) hbd ?_
   simp only [List.take_succ_cons, List.take_zero, List.drop_succ_cons, List.drop_zero]
   refine calm_load 34 _ R 34 A (0, 0) _ (by kernel_rfl) rfl rfl (fun x hx => HA2.out x hx) Tryz.underlying34 rfl sizA ?_; simp only [Act.put, List.setIfInBounds_toArray, List.set_cons_zero, List.set_cons_succ]
   refine calm_load 34 _ (R + 1) 34 B (0, 0) _ (by kernel_rfl) rfl rfl (fun x hx => HB2.out x hx) Tryz.underlying34 rfl sizB ?_; simp only [Act.put, List.setIfInBounds_toArray, List.set_cons_zero, List.set_cons_succ]
   refine calm_call (by kernel_rfl) K1.out (fun _ => by kernel_rfl) ?_; simp only [Act.put, List.setIfInBounds_toArray, List.set_cons_zero, List.set_cons_succ]
   refine calm_load 34 _ R 34 A (0, 0) _ (by kernel_rfl) rfl rfl (fun x hx => HA2.out x hx) Tryz.underlying34 rfl sizA ?_; simp only [Act.put, List.setIfInBounds_toArray, List.set_cons_zero, List.set_cons_succ]
   refine calm_load 34 _ (R + 1) 34 B (0, 0) _ (by kernel_rfl) rfl rfl (fun x hx => HB2.out x hx) Tryz.underlying34 rfl sizB ?_; simp only [Act.put, List.setIfInBounds_toArray, List.set_cons_zero, List.set_cons_succ]
   refine calm_call (by kernel_rfl) K2.out (fun _ => by kernel_rfl) ?_; simp only [Act.put, List.setIfInBounds_toArray, List.set_cons_zero, List.set_cons_succ]
   iterate 2 (refine calm_value (by kernel_rfl) (fun x _ => by go_simp; try with_reducible rfl) ?_; simp only [Act.put, List.setIfInBounds_toArray, List.set_cons_zero, List.set_cons_succ])
   iterate 2 (refine calm_load 34 _ R 34 A (0, 0) _ (by kernel_rfl) rfl rfl (fun x hx => HA2.out x hx) Tryz.underlying34 rfl sizA ?_; simp only [Act.put, List.setIfInBounds_toArray, List.set_cons_zero, List.set_cons_succ])
   refine calm_call (by kernel_rfl) K3.out (fun _ => by kernel_rfl) ?_; simp only [Act.put, List.setIfInBounds_toArray, List.set_cons_zero, List.set_cons_succ]
   iterate 2 (refine calm_value (by kernel_rfl) (fun x _ => by go_simp; try with_reducible rfl) ?_; simp only [Act.put, List.setIfInBounds_toArray, List.set_cons_zero, List.set_cons_succ])
   iterate 2 (refine calm_load 34 _ (R + 1) 34 B (0, 0) _ (by kernel_rfl) rfl rfl (fun x hx => HB2.out x hx) Tryz.underlying34 rfl sizB ?_; simp only [Act.put, List.setIfInBounds_toArray, List.set_cons_zero, List.set_cons_succ])
   refine calm_call (by kernel_rfl) K4.out (fun _ => by kernel_rfl) ?_; simp only [Act.put, List.setIfInBounds_toArray, List.set_cons_zero, List.set_cons_succ]
   iterate 2 (refine calm_value (by kernel_rfl) (fun x _ => by go_simp; try with_reducible rfl) ?_; simp only [Act.put, List.setIfInBounds_toArray, List.set_cons_zero, List.set_cons_succ])
   refine calm_call (by kernel_rfl) K5.out (fun _ => by kernel_rfl) ?_; simp only [Act.put, List.setIfInBounds_toArray, List.set_cons_zero, List.set_cons_succ]
   iterate 2 (refine calm_value (by kernel_rfl) (fun x _ => by go_simp; try with_reducible rfl) ?_; simp only [Act.put, List.setIfInBounds_toArray, List.set_cons_zero, List.set_cons_succ])
   refine calm_nil fun x hx => ?_
   go_wp2
   go_ret
   exact ⟨rfl, HBX.out _ hx⟩
theorem cellinSame_own : ownKnob Tryz.prog.godebug = none := by kernel_rfl
theorem cellinSame_laid : laidOutB Tryz.prog = true := by kernel_rfl
theorem cellinSame_reads : Tryz.f4.params.toList.all (fun t => Tryz.prog.readableRec t && decide (t < Tryz.prog.types.size)) = true := by kernel_rfl
set_option maxRecDepth 100000 in
theorem cellinSame_lifted (os : Os) (started : os.Started) (H : Type) (enc : TypeId × Value → H) :
  ReturnsInHanded {} Tryz.checked os 4 .any (fun w args => (Rows.cellinSameSpec.pre enc Tryz.prog Tryz.f4 Rows.cellinSameRow.domain false w args ∧ laidMetH Tryz.prog Rows.cellinSameRow.laid w) ∧ sizedMet enc Tryz.prog Tryz.f4 (OpenSpec.ofChange Rows.cellinSameSpec) false w args)
   (Rows.cellinSameSpec.post enc Tryz.prog Tryz.f4 false true false false) := by
 refine returnsInHanded_of_change_and (C := Tryz.checked) (X := fun w _ => laidMetH Tryz.prog Rows.cellinSameRow.laid w) (fun _ _ _ hh h => h.of_heap hh) cellinSame_own started (by kernel_rfl) Tryz.func4
  (ChangeSpec.witness_shaped (enc := enc) (C := Tryz.checked) (os := os) (X := fun w _ => laidMetH Tryz.prog Rows.cellinSameRow.laid w) false (World.laidAll Tryz.prog os Rows.cellinSameRow.laid) #[.agg (celL celZ nilS).toArray, .agg (celL celZ nilS).toArray] 8 (World.laidAll_os _ _ _)
   (World.shaped_of_ZipB (by kernel_rfl) (by kernel_rfl)) (by kernel_rfl) (by kernel_rfl) (by kernel_rfl)
   (by rw [MakeChecks.laidMetH_plain _ _ _ (by kernel_rfl)]; exact laidMet_laidAll _ (by kernel_rfl) (by kernel_rfl))) ?_
 intro W base args ds gs before hval0 hW _ hsz0 hL _
 have hval : ∀ (j : Nat) t v, Tryz.f4.params[j]? = some t → args[j]? = some v → Value.okWide Tryz.prog W .any base t v := hval0
 have hW' := hW
 obtain ⟨p, q, hA0, hV, rfl, hfz, hnd⟩ := hW
 have hA : DataW.TrodAll enc Tryz.prog W 0 (fun _ => true) true Tryz.f4.params.toList args.toList ds p := hA0
 rw [Tryz.params4] at hA hval
 obtain ⟨v0, vs0, d0, ds0, p0, q0, hargs, rfl, rfl, h0, r0⟩ := trodAll_cons hA
 obtain ⟨v1, vs1, d1, ds1, p1, q1, rfl, rfl, rfl, h1, r1⟩ := trodAll_cons r0
 obtain ⟨rfl, rfl, rfl⟩ := trodAll_nil r1
 obtain rfl : args = #[v0, v1] := by cases args; simp_all
 obtain ⟨rfl, rfl⟩ := trodVars_none hV
 obtain ⟨k0, p0', n0, c0, rfl, w0⟩ := open_cel 3 EvCells Tryz.underlying34 Tryz.underlying4 Tryz.underlying3 Tryz.underlying24 Tryz.underlying30 Tryz.underlying32 Tryz.underlying31 ⟨rfl, rfl, rfl, rfl, rfl, rfl, rfl⟩ ⟨rfl, rfl, rfl, rfl, rfl, rfl, rfl⟩ (by kernel_rfl) (by kernel_rfl) (by kernel_rfl) (by kernel_rfl) (by kernel_rfl) (by kernel_rfl) (by kernel_rfl) (by kernel_rfl) (by decide) (ev_struct Tryz.underlying61 Tryz.underlying4 Tryz.underlying3 rfl rfl rfl rfl rfl rfl (by kernel_rfl) (by kernel_rfl)) (hval 0 34 v0 rfl rfl) h0
 obtain ⟨k1, p1', n1, c1, rfl, w1⟩ := open_cel 3 EvCells Tryz.underlying34 Tryz.underlying4 Tryz.underlying3 Tryz.underlying24 Tryz.underlying30 Tryz.underlying32 Tryz.underlying31 ⟨rfl, rfl, rfl, rfl, rfl, rfl, rfl⟩ ⟨rfl, rfl, rfl, rfl, rfl, rfl, rfl⟩ (by kernel_rfl) (by kernel_rfl) (by kernel_rfl) (by kernel_rfl) (by kernel_rfl) (by kernel_rfl) (by kernel_rfl) (by kernel_rfl) (by decide) (ev_struct Tryz.underlying61 Tryz.underlying4 Tryz.underlying3 rfl rfl rfl rfl rfl rfl (by kernel_rfl) (by kernel_rfl)) (hval 1 34 v1 rfl rfl) h1
 clear hA0 hval0
 refine (cellinSame_walk k0 p0' n0 c0 k1 p1' n1 c1 W w0 w1 (cel_laid hL ⟨by simp [Rows.cellinSameRow], by kernel_rfl⟩)).mono fun e W' ⟨he, hb⟩ => ?_
 subst he
 exact ⟨_, rfl, law_end cellinSame_laid cellinSame_reads rfl Tryz.underlying4 rfl hW' rfl hb⟩
theorem cellinSame_over : Rows.cellinSameRow.holds Tryz.pinned (OpenSpec.ofChange Rows.cellinSameSpec) :=
 OpenClaim.holds_of_wide 4 Tryz.f4 rfl rfl rfl rfl rfl rfl rfl ⟨rfl, rfl, rfl, rfl, rfl⟩ rfl rfl rfl rfl rfl (by kernel_rfl) Tryz.func4 (by kernel_rfl)
  (of_decide_eq_true (by kernel_rfl)) (by unfold Func.isWrapper; first | (rw [if_pos (by decide +kernel)]; kernel_rfl) | (rw [if_neg (by decide +kernel)]; exact ⟨rfl, rfl⟩))
  (fun os started H enc _ => cellinSame_lifted os started H enc)
theorem cellinSame_holds : Rows.CellinSameCardSaid :=
 Claim7.holds_tied_plain_at .later [] [.data, .data, .data, .data, .data, .data, .data, .data, .data, .data, .data, .pinned] true Rows.cellinSameCard.stood.harness false cellinSame_over (fun _ h => by cases h) (by kernel_rfl) (fun _ h => by cases h) cellinSame_row_tie rfl ⟨rfl, rfl⟩ (by kernel_rfl) rfl
  (fun f fn hf hfn => by
   obtain rfl : f = 4 := Option.some.inj ((show Tryz.prog.funcNamed "overspill/overspilllaw21.CellinSame" = some 4 by kernel_rfl).symm.trans hf) |>.symm
   obtain rfl : fn = Tryz.f4 := (Option.some.inj (Tryz.func4.symm.trans hfn)).symm
   exact ⟨by kernel_rfl, fun j t ht => by
    rw [Tryz.params4] at ht
    have hm : t ∈ [34, 34] := by simpa using Array.mem_of_getElem? ht
    have hall : ([34, 34].all fun u => !Tryz.prog.wantsStandIn u) = true := by kernel_rfl
    exact (show Tryz.prog.wantsStandIn t = false by simpa using List.all_eq_true.1 hall t hm)⟩)
  (by kernel_rfl)
#print axioms cellinSame_holds
end Go.Proofs.YtbgncbhkjndelaaGreatDoor
