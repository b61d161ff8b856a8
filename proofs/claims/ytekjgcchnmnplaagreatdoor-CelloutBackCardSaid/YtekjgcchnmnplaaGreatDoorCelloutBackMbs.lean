/- Texts that CelloutBack's proof stands on, part 45 of 45. No condition of its own. -/
import Derived.Test.YtekjgcchnmnplaaGreatDoorCelloutBackMj
import Derived.Test.YtekjgcchnmnplaaGreatDoorCelloutBackMq
import Derived.Test.YtekjgcchnmnplaaGreatDoorCelloutBackMs
import Derived.Test.YtekjgcchnmnplaaGreatDoorCelloutBackMbc
import Derived.Test.YtekjgcchnmnplaaGreatDoorCelloutBackMbo
import Derived.Test.YtekjgcchnmnplaaGreatDoorCelloutBackMbp
import Derived.Test.YtekjgcchnmnplaaGreatDoorCelloutBackMbr
namespace Go.Proofs.YtekjgcchnmnplaaGreatDoor
open Go.RowKit Go.Lib
theorem Moved.lone {a b : Nat} {w x : World} (h : Moved a b w x) (hb : w.heap.size ≤ b) : w.grownBy x (some a) :=
 ⟨h.os, h.tape, h.output, h.size, fun k hk hn => h.block k hk (fun e => hn (by rw [e])) (by omega)⟩
def CtakeGives (inter : Bool) (s : ByteArray) (rb : Nat) (x y : Int) (p : Nat) (w : World) (e : Ending) (w' : World) : Prop :=
 ∃ (c : Cel) (q : Nat) (f : Int) (sl : Nat → Value), ctk inter (showL s.data.toList) x y p = (c, q, f) ∧ e = .returned (.tuple #[.agg (celL c sl).toArray, .int .i64 f]) ∧ (∀ i, i < 6 → SlAt w' w.heap.size (sl i) (c.ev i)) ∧ IsRd w' rb s q ∧ w.grownBy w' (some rb)
set_option maxRecDepth 100000 in
set_option maxHeartbeats 2000000 in
theorem ctake_code {N : Nat} {w : World} {rb : Nat} {s : ByteArray} {p : Nat} (inter : Bool) (x y : Int) (ht : TabsLo N w) (hN : N ≤ rb) (hr : IsRd w rb s p) :
  Calls Tryz.prog 15 #[.pointer (some ⟨rb, 0, none⟩), .bool inter, .agg #[.int .i64 x, .int .i64 y]] w (CtakeGives inter s rb x y p w) := by
 obtain ⟨Y, hY⟩ : ∃ Y : Array Value, (celL celZ nilS).toArray = Y := ⟨_, rfl⟩
 have hzv : ∀ w, (zeroValue 27).run Tryz.prog w = .ok (.agg Y) w := by rw [← hY]; exact cel_zero
 have HSY : (Tryz.prog.info? 27).map (·.size) = some Y.size := hY ▸ cel_size _ _
 have HOY : Y.all (·.oneCell') = true := hY ▸ cel_one _ _ fun _ _ => rfl
 obtain ⟨A, wA, wB, wC, hA, hwA, hwB, hwC, hzA, hzB, hzC, hC0, hC1, hC2, hbC⟩ := laid3 w (.cells #[.int .i64 x, .int .i64 y] 22 (0, 0)) (.cells Y 27 (0, 0)) (.cells #[.pointer (some ⟨rb, 0, none⟩), .int .i64 0] 65 (0, 0))
 have hrA : rb < A := hA ▸ hr.lt
 have hrC : IsRd wC rb s p := hr.under hbC hrA
 have hps := hr.2.1
 have RD : RdAt wC (A + 2) rb s (p, 0) := ⟨hC2, hrC, by omega⟩
 have p0 : wC.cell? ⟨A, 0, none⟩ = some (.int .i64 x) := part_cells (cs := [.int .i64 x, .int .i64 y]) hC0 rfl
 have p1 : wC.cell? ⟨A, 1, none⟩ = some (.int .i64 y) := part_cells (cs := [.int .i64 x, .int .i64 y]) hC0 rfl
 have r0 : wC.cell? ⟨A + 2, 0, none⟩ = some (.pointer (some ⟨rb, 0, none⟩)) := part_cells (cs := [.pointer (some ⟨rb, 0, none⟩), .int .i64 0]) hC2 rfl
 have cc := cell_code (N := N) inter x y (ht.below (hbC.mono (by omega))) hN RD
 have HY := Lib.hid hY
 have HA := Lib.hid hA
 have HWA := Lib.hid hwA
 have HWB := Lib.hid hwB
 have HWC := Lib.hid hwC
 have HBC := Lib.hid hbC
 have HZA := Lib.hid hzA
 have HC1 := Lib.hid hC1
 clear hY hA hwA hwB hwC hbC hzA hC1 hC0 hC2 RD ht hr hN
 go_enter Tryz.func15, Tryz.ntmps15
 go_wp2_with fail
 rw [HWA.out, HA.out, HWB.out, HWC.out]
 refine (at_code _ _ _ _ hrC).mono ?_
 rintro e w0 ⟨rfl, rfl⟩
 go_wp2_with fail
 refine cc.mono ?_
 rintro e w1 ⟨c, st1, sl, hcel, rfl, hsl, hr1, hm1⟩
 obtain ⟨Z, hZ⟩ : ∃ Z, (celL c sl).toArray = Z := ⟨_, rfl⟩
 rw [hZ]
 obtain ⟨C, hC⟩ : ∃ C, w1.heap.size = C := ⟨_, rfl⟩
 obtain ⟨w2, hw2⟩ : ∃ z, w1.alloc (.cells Z 27 (0, 0)) = z := ⟨_, rfl⟩
 have hb2 : Below C w1 w2 := by rw [← hw2, ← hC]; exact (Below.refl _ w1).alloc (Nat.le_refl _) _
 have hz1 := hm1.size
 have hr2 := hr1.under hb2 (by omega)
 have hcZ : w2.heap[C]? = some (.cells Z 27 (0, 0)) := by rw [← hw2, ← hC]; exact heap_alloc_new w1 _
 have hcR : w2.heap[A + 1]? = some (.cells Y 27 (0, 0)) := (hb2.block (A + 1) (by omega)).trans ((hm1.block (A + 1) (by omega) (by omega) (by omega)).trans HC1.out)
 have hz2 : C < w2.heap.size := by rw [← hw2, ← hC]; simp
 have HSZ : (Tryz.prog.info? 27).map (·.size) = some Z.size := hZ ▸ cel_size _ _
 have HYZ : Y.size = Z.size := by rw [← hZ, ← HY.out]; rfl
 have HONE : Z.all (·.oneCell') = true := hZ ▸ cel_one _ _ fun i hi => (hsl i hi).one
 have hg2 : w.grownBy w2 (some rb) := by
  have h1 : Moved rb (A + 2) w w1 := ((Moved.refl rb (A + 2) w).onto HBC.out (Nat.le_of_eq HA.out)).trans hm1
  exact (h1.onto hb2 (by have := h1.size; omega)).lone (by have := HA.out; omega)
 have hsl2 : ∀ i, i < 6 → SlAt w2 (A + 2) (sl i) (c.ev i) := fun i hi => ((hsl i hi).from (by omega)).below (hC ▸ hb2)
 have HZ := Lib.hid hZ
 have HC := Lib.hid hC
 have HW2 := Lib.hid hw2
 have HCEL := Lib.hid hcel
 have HSL := Lib.hid hsl2
 have w1c := part_cells (o := 1) hr2.1 rfl
 have w1p := part_cells (o := 0) hr2.1 rfl
 obtain ⟨q, f⟩ := st1
 simp only at w1c w1p
 have h2A : A + 3 ≤ C := by omega
 clear hZ hC hw2 hcel hsl hsl2 hm1 hr1 hb2 cc hz1
 by_cases hf : f = 0
 ·subst hf
  go_wp2_with (first | (with_reducible refine wp_store_fresh rfl 27 _ _ rfl Z Y 27 rfl rfl HSZ HYZ HONE ?_; rw [HW2.out, HC.out]) | (with_reducible refine wpList_load_row rfl 27 _ rfl C rfl 27 Z (0, 0) _ hcZ Tryz.underlying27 rfl HSZ ?_) | (with_reducible refine wp_store_arr rfl 27 _ _ rfl (A + 1) Z Y rfl rfl 27 hcR HSZ HYZ HONE ?_; intro w5 hh5 hg5))
  refine bodyPost_ret (results_pair rfl _ _ (A + 1) 27 _ (0, 0) _ rfl hh5 Tryz.underlying27 rfl HSZ) rfl ?_
  have hb5 := below_set hg5 (by omega)
  exact ⟨c, q, 0, sl, cel_right HCEL.out, by rw [HZ.out]; rfl, fun i hi => ((HSL.out i hi).moved (Moved.grown hg5 (.inl rfl) : Moved (A + 1) (A + 1) _ _) (by omega) (by omega)).from (by have := HA.out; omega), hr2.2.1.under hb5 (by omega), ⟨hb5.os.trans hg2.os, hb5.tape.trans hg2.tape, hb5.output.trans hg2.output, Nat.le_trans hg2.size hb5.size, fun k hk hn => (hb5.block k (by have := HA.out; omega)).trans (hg2.block k hk hn)⟩⟩
 ·have g0 : (f != 0) = true := by simpa using hf
  have HF := Lib.hid hf
  clear hf
  go_wp2_with (with_reducible refine wp_store_fresh rfl 27 _ _ rfl Z Y 27 rfl rfl HSZ HYZ HONE ?_; rw [HW2.out, HC.out])
  refine (seek_code _ _ _ _ (p : Int) hr2.2.1 (by omega) (by omega)).mono ?_
  rintro e w3 ⟨rfl, hr3, hg3⟩
  rw [Int.toNat_natCast] at hr3
  have hcR3 := (hg3.block (A + 1) (by omega) (by simp; omega)).trans hcR
  have w3c := (World.cell?_of_block (a := ⟨A + 2, 1, none⟩) (hg3.block (A + 2) (by omega) (by simp; omega))).trans w1c
  have hz3 := hg3.size
  go_wp2
  refine wp_region_held_drew (S := (fun z => z.cell? ⟨A + 2, 1, none⟩ = some (.int .i64 f))) (by kernel_rfl) w3c (fun hH => ?_)
  refine held_take 0 (some 29) (v := .agg Y) rfl rfl (by kernel_rfl) (by kernel_rfl) (by kernel_rfl) (fun _ _ _ h => h) hH (Or.inl ⟨by kernel_rfl, ?_⟩) ?_
  ·(intro x _; go_simp; try with_reducible rfl)
  try simp only [Act.put, List.setIfInBounds_toArray, List.set_cons_zero, List.set_cons_succ]
  refine held_take 1 (some 30) (v := ?_) rfl rfl (by kernel_rfl) (by kernel_rfl) (by kernel_rfl) (fun _ _ _ h => h) hH (Or.inl ⟨by kernel_rfl, ?_⟩) ?_
  rotate_left
  ·(intro x _; go_simp; try with_reducible rfl)
  rotate_right
  try simp only [Act.put, List.setIfInBounds_toArray, List.set_cons_zero, List.set_cons_succ]
  refine held_take 2 (some 31) (v := .int .i64 f) rfl rfl (by kernel_rfl) (by kernel_rfl) (by kernel_rfl) (fun _ _ _ h => h) hH (Or.inl ⟨by kernel_rfl, ?_⟩) ?_
  ·(intro x hx; have c0 := (show _ from hx); go_simp)
  try simp only [Act.put, List.setIfInBounds_toArray, List.set_cons_zero, List.set_cons_succ]
  refine wpAnyH_ready (rs := [3]) (by kernel_rfl) (by simp) ?_
  refine AllReadyH.cons rfl (fun K hK => ?_) AllReadyH.nil
  refine (if_pos (by kernel_rfl)).mpr ?_
  have hcR4 : w3.drew.heap[A + 1]? = some (.cells Y 27 (0, 0)) := hcR3
  refine wp_store_row 27 _ _ rfl (A + 1) Y rfl rfl 27 Y hcR4 HSY rfl HOY ?_
  obtain ⟨w5, hw5⟩ : ∃ w5, w3.drew.setRow (A + 1) Y = w5 := ⟨_, rfl⟩
  have hh5 : w5.heap[A + 1]? = some (.cells Y 27 (0, 0)) := by rw [← hw5]; exact setRow_heap _ _ _ _ _ _ hcR4
  have hg5 : w3.drew.grownBy w5 (some (A + 1)) := by rw [← hw5]; exact ⟨rfl, rfl, rfl, by simp, fun k _ hk => setRow_other _ _ _ _ (by intro e; exact hk (by rw [e]))⟩
  have hS5 : w5.cell? ⟨A + 2, 1, none⟩ = some (.int .i64 f) := (World.cell?_of_block (a := ⟨A + 2, 1, none⟩) (hg5.block (A + 2) (show A + 2 < w3.heap.size by omega) (by simp))).trans w3c
  rw [hw5]
  refine hK.out _ _ hS5 (fun hH2 => ?_)
  clear hK K hH hw5
  refine held_take 4 (some 7) (v := ?_) rfl rfl (by kernel_rfl) (by kernel_rfl) (by kernel_rfl) (fun _ _ _ h => h) hH2 (Or.inl ⟨by kernel_rfl, ?_⟩) ?_
  rotate_left
  ·(intro x _; go_simp; try with_reducible rfl)
  rotate_right
  try simp only [Act.put]
  refine wpAnyH_done (by kernel_rfl) ?_ _
  go_wp2
  refine bodyPost_ret (results_pair rfl _ _ (A + 1) 27 _ (0, 0) _ rfl hh5 Tryz.underlying27 rfl HSY) rfl ?_
  have hb5 := ((Below.refl (A + 1) w3).drew).trans (below_set hg5 (show A + 1 < w3.heap.size by omega))
  exact ⟨celZ, p, f, nilS, cel_wrong HF.out (by rw [HCEL.out]), by rw [HY.out]; rfl, fun i hi => SlAt.nil _ _, hr3.under hb5 (by omega), ⟨hb5.os.trans (hg3.os.trans hg2.os), hb5.tape.trans (hg3.tape.trans hg2.tape), hb5.output.trans (hg3.output.trans hg2.output), Nat.le_trans hg2.size (Nat.le_trans hz3 hb5.size), fun k hk hn => (hb5.block k (by have := HA.out; omega)).trans ((hg3.block k (Nat.lt_of_lt_of_le hk hg2.size) hn).trans (hg2.block k hk hn))⟩⟩
end Go.Proofs.YtekjgcchnmnplaaGreatDoor

namespace Go.Proofs.YtekjgcchnmnplaaGreatDoor
open Go.RowKit Go.Lib
theorem ctk_len (inter : Bool) (S : List UInt8) (x y : Int) (p i : Nat) : ((ctk inter S x y p).1.ev i).length ≤ 65 := by
 have hb : ∀ a b st, (blkS a b S st).2.1.length ≤ 65 := by
  intro a b st
  unfold blkS
  split
  ·exact btk_len S st.1 a b
  ·exact Nat.zero_le _
 unfold ctk
 split
 ·simp only [celS]
  split
  ·exact Nat.zero_le _
  ·exact hb _ _ _
 ·exact Nat.zero_le _
theorem slat_in {w : World} {B : Nat} {c : Cel} {sl : Nat → Value} (h : ∀ i, i < 6 → SlAt w B (sl i) (c.ev i)) (hl : ∀ i, i < 6 → (c.ev i).length ≤ 65) :
  ∃ (p : Nat → Option Addr) (n cap : Nat → Nat), celL c sl = celL c (fun i => .slice (p i) (n i) (cap i)) ∧ CelIn w c p n := by
 obtain ⟨p0, k0, e0, v0, _⟩ := h 0 (by omega)
 obtain ⟨p1, k1, e1, v1, _⟩ := h 1 (by omega)
 obtain ⟨p2, k2, e2, v2, _⟩ := h 2 (by omega)
 obtain ⟨p3, k3, e3, v3, _⟩ := h 3 (by omega)
 obtain ⟨p4, k4, e4, v4, _⟩ := h 4 (by omega)
 obtain ⟨p5, k5, e5, v5, _⟩ := h 5 (by omega)
 refine ⟨six p0 p1 p2 p3 p4 p5, fun i => (c.ev i).length, six k0 k1 k2 k3 k4 k5, ?_, fun i hi => ⟨rfl, Nat.le_trans (hl i hi) (by decide), ?_⟩⟩
 ·unfold celL
  rw [e0, e1, e2, e3, e4, e5]
  rfl
 ·match i, hi with
  | 0, _ => exact v0
  | 1, _ => exact v1
  | 2, _ => exact v2
  | 3, _ => exact v3
  | 4, _ => exact v4
  | 5, _ => exact v5
end Go.Proofs.YtekjgcchnmnplaaGreatDoor
