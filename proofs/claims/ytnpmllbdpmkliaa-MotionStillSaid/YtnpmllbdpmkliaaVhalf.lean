/- Samples at halves: the closure that tells them, and what makes it. No condition. -/
import Derived.Test.YtnpmllbdpmkliaaVec
import Derived.Test.YtnpmllbdpmkliaaRound
namespace Go.Proofs.Ytnpmllbdpmkliaa
open Go.RowKit Go.Lib

/-- The sample at halves: four together, and 2, by 4. -/
def halfF (f : Nat → Int) (W x y : Nat) : Int := (f (y / 2 * W + x / 2) + f (y / 2 * W + x / 2 + x % 2) + (f (y / 2 * W + x / 2 + y % 2 * W) + f (y / 2 * W + x / 2 + y % 2 * W + x % 2)) + 2) / 4
theorem round_four {s : Int} (h0 : 0 ≤ s) (h1 : s ≤ 1020) : round s 2 = (s + 2) / 4 := by
  unfold round
  rw [clip_of s _ _ (by omega) (by omega), if_neg (by decide +kernel)]
  rfl
/-- A value that tells samples of a plane. -/
def SampAt (w : World) (lo : Nat) (c v : Value) (W : Nat) : Prop := ∃ r1 r2, c = .func (.func 42) #[] #[.pointer (some ⟨r1, 0, none⟩), .pointer (some ⟨r2, 0, none⟩)] ∧ w.cell? ⟨r1, 0, none⟩ = some (.int .i64 (W : Int)) ∧ w.cell? ⟨r2, 0, none⟩ = some v ∧ lo ≤ r1 ∧ lo ≤ r2
theorem SampAt.below {w w' : World} {lo : Nat} {c v : Value} {W : Nat} (h : SampAt w lo c v W) (hb : Below w.heap.size w w') : SampAt w' lo c v W := by
  obtain ⟨r1, r2, rfl, h1, h2, h3⟩ := h
  exact ⟨r1, r2, rfl, (hb.cell (p := ⟨r1, 0, none⟩) (World.block_lt_of_cell? w ⟨r1, 0, none⟩ h1)).trans h1, (hb.cell (p := ⟨r2, 0, none⟩) (World.block_lt_of_cell? w ⟨r2, 0, none⟩ h2)).trans h2, h3⟩
theorem SampAt.grown {w w' : World} {lo b : Nat} {c v : Value} {W : Nat} (h : SampAt w lo c v W) (hg : w.grownBy w' (some b)) (hb : b < lo) : SampAt w' lo c v W := by
  obtain ⟨r1, r2, rfl, h1, h2, h3, h4⟩ := h
  have k1 := hg.block r1 (World.block_lt_of_cell? w ⟨r1, 0, none⟩ h1) (by intro e; injection e with e; omega)
  have k2 := hg.block r2 (World.block_lt_of_cell? w ⟨r2, 0, none⟩ h2) (by intro e; injection e with e; omega)
  exact ⟨r1, r2, rfl, (World.cell?_of_block (a := ⟨r1, 0, none⟩) k1).trans h1, (World.cell?_of_block (a := ⟨r2, 0, none⟩) k2).trans h2, h3, h4⟩
theorem SampAt.mono {w : World} {lo lo' : Nat} {c v : Value} {W : Nat} (h : SampAt w lo c v W) (hl : lo' ≤ lo) : SampAt w lo' c v W := by
  obtain ⟨r1, r2, rfl, h1, h2, h3, h4⟩ := h
  exact ⟨r1, r2, rfl, h1, h2, by omega, by omega⟩
set_option maxRecDepth 100000 in
set_option maxHeartbeats 4000000 in
theorem over_code (k : Int) (v : Nat → Value) (p : Nat) (w : World) (hp : p < 3) (hv : ∀ p, p < 3 → ∃ a n c, v p = .slice a n c) :
    Calls Try.prog 27 #[.agg (frA k v), .int .i64 (p : Int)] w fun e w' => ∃ c, e = .returned c ∧ SampAt w' w.heap.size c (v p) (wid k p) ∧ Below w.heap.size w w' := by
  have cP := fun w => fplane_code k p w
  rw [fmtP_at k p hp] at cP
  obtain ⟨B, hB⟩ : ∃ B, w.heap.size = B := ⟨_, rfl⟩
  obtain ⟨wA, hwA⟩ : ∃ wA, w.alloc (.cells (frA k v) 29 (0, 0)) = wA := ⟨_, rfl⟩
  have hA : wA.heap[B]? = some (frO 29 k v) := by rw [← hwA, ← hB]; exact heap_alloc_new w _
  have hz : wA.heap.size = B + 1 := by rw [← hwA, ← hB]; simp
  have hb : Below B w wA := by rw [← hwA, ← hB]; exact (Below.refl _ w).alloc (Nat.le_refl _) _
  have hmf : ∀ (fn : Fn) (first cap : Array Value) (w : World), (Instr.makeFunc fn first cap).run Try.prog w = .ok (.func fn first cap) w := fun _ _ _ _ => rfl
  have hc0 := fr_cell0 hA
  have hcp := fr_cell hA hp
  obtain ⟨ad, nn, cc, hvp⟩ := hv p hp
  rw [hvp] at hcp ⊢
  generalize wid k p = W at *
  generalize hei k p = H at *
  have HWA := Lib.hid hwA
  have HB := Lib.hid hB
  clear hwA hB hA hvp
  go_enter Try.func27, Try.ntmps27
  go_wp2_with (first | (with_reducible refine (cP _).mono ?_; rintro e w1 ⟨rfl, rfl⟩) | rw [HWA.out, HB.out])
  go_ret
  have hq := (Below.refl B wA).alloc (by omega) (.cells #[.slice ad nn cc] 26 (0, 0))
  have hq2 := hq.alloc (by simp; omega) (.cells #[.int .i64 (W : Int)] 3 (0, 0))
  rw [HB.out]
  refine ⟨_, rfl, ⟨B + 1 + 1, B + 1, rfl, ?_, ?_, by omega, by omega⟩, hb.trans hq2⟩
  · exact part_cells (cs := [.int .i64 (W : Int)]) (by rw [← hz]; have := heap_alloc_new (wA.alloc (.cells #[.slice ad nn cc] 26 (0, 0))) (.cells #[.int .i64 (W : Int)] 3 (0, 0)); simpa using this) rfl
  · exact part_cells (cs := [.slice ad nn cc]) (by rw [← hz]; exact heap_keep (heap_alloc_new wA _)) rfl
set_option maxRecDepth 100000 in
set_option maxHeartbeats 4000000 in
theorem half_code (r1 r2 b o n c W x y : Nat) (f : Nat → Int) (w : World) (h1 : w.cell? ⟨r1, 0, none⟩ = some (.int .i64 (W : Int))) (h2 : w.cell? ⟨r2, 0, none⟩ = some (.slice (some ⟨b, o, none⟩) n c)) (hn : n ≤ 1073741824) (hy : y ≤ 10000)
    (hf : ∀ i, i < n → w.cell? ⟨b, o + i, none⟩ = some (.int .u8 (f i)) ∧ 0 ≤ f i ∧ f i ≤ 255) (hin : y / 2 * W + x / 2 + y % 2 * W + x % 2 < n) :
    Calls Try.prog 42 #[.int .i64 (x : Int), .int .i64 (y : Int), .pointer (some ⟨r1, 0, none⟩), .pointer (some ⟨r2, 0, none⟩)] w fun e w' => e = .returned (.int .i64 (halfF f W x y)) ∧ Below w.heap.size w w' := by
  have e1 : (x : Int).tmod 2 = ((x % 2 : Nat) : Int) := by rw [Int.tmod_eq_emod_of_nonneg (by omega)]; rfl
  have e2 : (y : Int).tmod 2 = ((y % 2 : Nat) : Int) := by rw [Int.tmod_eq_emod_of_nonneg (by omega)]; rfl
  have e3 : (x : Int).tdiv 2 = ((x / 2 : Nat) : Int) := by rw [Int.tdiv_eq_ediv_of_nonneg (by omega)]; rfl
  have e4 : (y : Int).tdiv 2 = ((y / 2 : Nat) : Int) := by rw [Int.tdiv_eq_ediv_of_nonneg (by omega)]; rfl
  have b1 : x % 2 ≤ 1 := by omega
  have b2 : y % 2 ≤ 1 := by omega
  have hq := Lib.hid (show halfF f W x y = (f (y / 2 * W + x / 2) + f (y / 2 * W + x / 2 + x % 2) + (f (y / 2 * W + x / 2 + y % 2 * W) + f (y / 2 * W + x / 2 + y % 2 * W + x % 2)) + 2) / 4 from rfl)
  generalize halfF f W x y = res at *
  generalize x % 2 = xr at *
  generalize x / 2 = xq at *
  generalize hyr : y % 2 = yr at *
  generalize hyq : y / 2 = yq at *
  have hyq2 : yq ≤ 10000 := by omega
  clear hyr hyq
  obtain ⟨mb, hmb⟩ : ∃ mb, yr * W = mb := ⟨_, rfl⟩
  obtain ⟨m, hm⟩ : ∃ m, yq * W = m := ⟨_, rfl⟩
  have M1 : (yr : Int) * (W : Int) = (mb : Int) := by rw [← hmb]; exact (Int.natCast_mul _ _).symm
  have M2 : (yq : Int) * (W : Int) = (m : Int) := by rw [← hm]; exact (Int.natCast_mul _ _).symm
  rw [hm, hmb] at hin hq
  clear hm hmb
  obtain ⟨A, hA⟩ : ∃ A, m + xq = A := ⟨_, rfl⟩
  rw [hA] at hin hq
  have M3 : (m : Int) + (xq : Int) = (A : Int) := by omega
  have u1 : IntKind.i64.wrap (mb : Int) = (mb : Int) := wrapNat (by omega)
  have u2 : IntKind.i64.wrap (m : Int) = (m : Int) := wrapNat (by omega)
  have u3 : IntKind.i64.wrap (xq : Int) = (xq : Int) := wrapNat (by omega)
  have u5 : IntKind.i64.wrap (A : Int) = (A : Int) := wrapNat (by omega)
  have u4 : IntKind.i64.wrap (yq : Int) = (yq : Int) := wrapNat (by omega)
  obtain ⟨p0, q0⟩ := hf A (by omega)
  obtain ⟨p1, q1⟩ := hf (A + xr) (by omega)
  obtain ⟨p2, q2⟩ := hf (A + mb) (by omega)
  obtain ⟨p3, q3⟩ := hf (A + mb + xr) (by omega)
  obtain ⟨s1, hs1⟩ : ∃ s, A + xr = s := ⟨_, rfl⟩
  obtain ⟨s2, hs2⟩ : ∃ s, A + mb = s := ⟨_, rfl⟩
  obtain ⟨s3, hs3⟩ : ∃ s, A + mb + xr = s := ⟨_, rfl⟩
  have v1 : (A : Int) + (xr : Int) = (s1 : Int) := by omega
  have v2 : (A : Int) + (mb : Int) = (s2 : Int) := by omega
  have v3 : (s2 : Int) + (xr : Int) = (s3 : Int) := by omega
  have u6 : IntKind.i64.wrap (s1 : Int) = (s1 : Int) := wrapNat (by omega)
  have u7 : IntKind.i64.wrap (s2 : Int) = (s2 : Int) := wrapNat (by omega)
  have u8 : IntKind.i64.wrap (s3 : Int) = (s3 : Int) := wrapNat (by omega)
  have i0 : A < n := by omega
  have i1 : s1 < n := by omega
  have i2 : s2 < n := by omega
  have i3 : s3 < n := by omega
  have hr := Lib.hid (fun x => round_code (f A + f (A + xr) + (f (A + mb) + f (A + mb + xr))) 2 x)
  rw [round_four (by omega) (by omega), ← hq.out] at hr
  rw [hs1] at p1 q1 hr
  rw [hs3] at p3 q3 hr
  rw [hs2] at p2 q2 hr
  generalize f A = z0 at *
  generalize f s1 = z1 at *
  generalize f s2 = z2 at *
  generalize f s3 = z3 at *
  clear hA hf hq hs1 hs2 hs3 hin
  have L := fun {ad : Addr} {v : Value} (h : w.cell? ad = some v) (hs : ad = ⟨ad.block, ad.off, none⟩) (x : World) (hx : Below w.heap.size w x) => (hx.cell (p := ad) (World.block_lt_of_cell? w ad h)).trans h
  have HW := Lib.hid (L h1 rfl)
  have HS := Lib.hid (L h2 rfl)
  have P0 := Lib.hid (L p0 rfl)
  have P1 := Lib.hid (L p1 rfl)
  have P2 := Lib.hid (L p2 rfl)
  have P3 := Lib.hid (L p3 rfl)
  clear L h1 h2 p0 p1 p2 p3
  go_enter Try.func42, Try.ntmps42
  go_wp2
  refine wp_region_calm (S := fun x => Below w.heap.size w x) 8 (by kernel_rfl) (by kernel_rfl) (Below.refl _ _).drew ?_
  simp only [List.take_succ_cons, List.take_zero, List.drop_succ_cons, List.drop_zero]
  refine calm_value (v := ?va0) (by kernel_rfl) ?m ?_; (case m => (intro x _; go_simp; try with_reducible rfl))
  simp only [Act.put, List.setIfInBounds_toArray, List.set_cons_zero, List.set_cons_succ]
  refine calm_value (v := ?va1) (by kernel_rfl) ?m ?_; (case m => (intro x _; go_simp; try with_reducible rfl))
  simp only [Act.put, List.setIfInBounds_toArray, List.set_cons_zero, List.set_cons_succ]
  refine calm_value (v := ?va2) (by kernel_rfl) ?m ?_; (case m => (intro x _; go_simp; try with_reducible rfl))
  simp only [Act.put, List.setIfInBounds_toArray, List.set_cons_zero, List.set_cons_succ]
  refine calm_value (v := ?va3) (by kernel_rfl) ?m ?_; (case m => (intro x _; go_simp; try with_reducible rfl))
  simp only [Act.put, List.setIfInBounds_toArray, List.set_cons_zero, List.set_cons_succ]
  refine calm_cell 3 _ ⟨r1, 0, none⟩ (.int .i64 (W : Int)) (by kernel_rfl) rfl rfl (fun x hx => by have c0 := HW.out x hx; go_simp) ?_
  simp only [Act.put, List.setIfInBounds_toArray, List.set_cons_zero, List.set_cons_succ]
  refine calm_value (v := ?va5) (by kernel_rfl) ?m ?_; (case m => (intro x _; go_simp; try with_reducible rfl))
  simp only [Act.put, List.setIfInBounds_toArray, List.set_cons_zero, List.set_cons_succ]
  refine calm_value (v := ?va6) (by kernel_rfl) ?m ?_; (case m => (intro x _; go_simp; try with_reducible rfl))
  simp only [Act.put, List.setIfInBounds_toArray, List.set_cons_zero, List.set_cons_succ]
  refine calm_value (v := ?va7) (by kernel_rfl) ?m ?_; (case m => (intro x _; go_simp; try with_reducible rfl))
  simp only [Act.put, List.setIfInBounds_toArray, List.set_cons_zero, List.set_cons_succ]
  refine calm_nil fun x hx => ?_
  have l1 := HW.out x hx
  have l2 := HS.out x hx
  have l3 := P0.out x hx
  have l4 := P1.out x hx
  have l5 := P2.out x hx
  have l6 := P3.out x hx
  go_wp2
  refine wp_region_calm (S := fun x => Below w.heap.size w x) 14 (by kernel_rfl) (by kernel_rfl) hx.drew ?_
  simp only [List.take_succ_cons, List.take_zero, List.drop_succ_cons, List.drop_zero]
  clear l1 l2 l3 l4 l5 l6
  refine calm_cell 26 _ ⟨r2, 0, none⟩ (.slice (some ⟨b, o, none⟩) n c) (by kernel_rfl) rfl rfl (fun x hx => by have c0 := HS.out x hx; go_simp) ?_
  simp only [Act.put, List.setIfInBounds_toArray, List.set_cons_zero, List.set_cons_succ]
  refine calm_value (v := ?vb1) (by kernel_rfl) ?m ?_; (case m => (intro x _; go_simp; try with_reducible rfl))
  simp only [Act.put, List.setIfInBounds_toArray, List.set_cons_zero, List.set_cons_succ]
  refine calm_value (v := ?vb2) (by kernel_rfl) ?m ?_; (case m => (intro x _; go_simp; try with_reducible rfl))
  simp only [Act.put, List.setIfInBounds_toArray, List.set_cons_zero, List.set_cons_succ]
  refine calm_cell 5 _ ⟨b, o + A, none⟩ (.int .u8 z0) (by kernel_rfl) rfl rfl (fun x hx => by have c0 := P0.out x hx; go_simp) ?_
  simp only [Act.put, List.setIfInBounds_toArray, List.set_cons_zero, List.set_cons_succ]
  refine calm_value (v := ?vb4) (by kernel_rfl) ?m ?_; (case m => (intro x _; go_simp; try with_reducible rfl))
  simp only [Act.put, List.setIfInBounds_toArray, List.set_cons_zero, List.set_cons_succ]
  refine calm_cell 26 _ ⟨r2, 0, none⟩ (.slice (some ⟨b, o, none⟩) n c) (by kernel_rfl) rfl rfl (fun x hx => by have c0 := HS.out x hx; go_simp) ?_
  simp only [Act.put, List.setIfInBounds_toArray, List.set_cons_zero, List.set_cons_succ]
  refine calm_value (v := ?vb6) (by kernel_rfl) ?m ?_; (case m => (intro x _; go_simp; try with_reducible rfl))
  simp only [Act.put, List.setIfInBounds_toArray, List.set_cons_zero, List.set_cons_succ]
  refine calm_value (v := ?vb7) (by kernel_rfl) ?m ?_; (case m => (intro x _; go_simp; try with_reducible rfl))
  simp only [Act.put, List.setIfInBounds_toArray, List.set_cons_zero, List.set_cons_succ]
  refine calm_value (v := ?vb8) (by kernel_rfl) ?m ?_; (case m => (intro x _; go_simp; try with_reducible rfl))
  simp only [Act.put, List.setIfInBounds_toArray, List.set_cons_zero, List.set_cons_succ]
  refine calm_value (v := ?vb9) (by kernel_rfl) ?m ?_; (case m => (intro x _; go_simp; try with_reducible rfl))
  simp only [Act.put, List.setIfInBounds_toArray, List.set_cons_zero, List.set_cons_succ]
  refine calm_cell 5 _ ⟨b, o + s1, none⟩ (.int .u8 z1) (by kernel_rfl) rfl rfl (fun x hx => by have c0 := P1.out x hx; go_simp) ?_
  simp only [Act.put, List.setIfInBounds_toArray, List.set_cons_zero, List.set_cons_succ]
  refine calm_value (v := ?vb11) (by kernel_rfl) ?m ?_; (case m => (intro x _; go_simp; try with_reducible rfl))
  simp only [Act.put, List.setIfInBounds_toArray, List.set_cons_zero, List.set_cons_succ]
  refine calm_value (v := ?vb12) (by kernel_rfl) ?m ?_; (case m => (intro x _; go_simp; try with_reducible rfl))
  simp only [Act.put, List.setIfInBounds_toArray, List.set_cons_zero, List.set_cons_succ]
  refine calm_value (v := ?vb13) (by kernel_rfl) ?m ?_; (case m => (intro x _; go_simp; try with_reducible rfl))
  simp only [Act.put, List.setIfInBounds_toArray, List.set_cons_zero, List.set_cons_succ]
  refine calm_nil fun x hx => ?_
  go_wp2
  refine wp_region_calm (S := fun x => Below w.heap.size w x) 18 (by kernel_rfl) (by kernel_rfl) hx.drew ?_
  simp only [List.take_succ_cons, List.take_zero, List.drop_succ_cons, List.drop_zero]
  refine calm_cell 26 _ ⟨r2, 0, none⟩ (.slice (some ⟨b, o, none⟩) n c) (by kernel_rfl) rfl rfl (fun x hx => by have c0 := HS.out x hx; go_simp) ?_
  simp only [Act.put, List.setIfInBounds_toArray, List.set_cons_zero, List.set_cons_succ]
  refine calm_value (v := ?vc1) (by kernel_rfl) ?m ?_; (case m => (intro x _; go_simp; try with_reducible rfl))
  simp only [Act.put, List.setIfInBounds_toArray, List.set_cons_zero, List.set_cons_succ]
  refine calm_value (v := ?vc2) (by kernel_rfl) ?m ?_; (case m => (intro x _; go_simp; try with_reducible rfl))
  simp only [Act.put, List.setIfInBounds_toArray, List.set_cons_zero, List.set_cons_succ]
  refine calm_value (v := ?vc3) (by kernel_rfl) ?m ?_; (case m => (intro x _; go_simp; try with_reducible rfl))
  simp only [Act.put, List.setIfInBounds_toArray, List.set_cons_zero, List.set_cons_succ]
  refine calm_value (v := ?vc4) (by kernel_rfl) ?m ?_; (case m => (intro x _; go_simp; try with_reducible rfl))
  simp only [Act.put, List.setIfInBounds_toArray, List.set_cons_zero, List.set_cons_succ]
  refine calm_cell 5 _ ⟨b, o + s2, none⟩ (.int .u8 z2) (by kernel_rfl) rfl rfl (fun x hx => by have c0 := P2.out x hx; go_simp) ?_
  simp only [Act.put, List.setIfInBounds_toArray, List.set_cons_zero, List.set_cons_succ]
  refine calm_value (v := ?vc6) (by kernel_rfl) ?m ?_; (case m => (intro x _; go_simp; try with_reducible rfl))
  simp only [Act.put, List.setIfInBounds_toArray, List.set_cons_zero, List.set_cons_succ]
  refine calm_cell 26 _ ⟨r2, 0, none⟩ (.slice (some ⟨b, o, none⟩) n c) (by kernel_rfl) rfl rfl (fun x hx => by have c0 := HS.out x hx; go_simp) ?_
  simp only [Act.put, List.setIfInBounds_toArray, List.set_cons_zero, List.set_cons_succ]
  refine calm_value (v := ?vc8) (by kernel_rfl) ?m ?_; (case m => (intro x _; go_simp; try with_reducible rfl))
  simp only [Act.put, List.setIfInBounds_toArray, List.set_cons_zero, List.set_cons_succ]
  refine calm_value (v := ?vc9) (by kernel_rfl) ?m ?_; (case m => (intro x _; go_simp; try with_reducible rfl))
  simp only [Act.put, List.setIfInBounds_toArray, List.set_cons_zero, List.set_cons_succ]
  refine calm_value (v := ?vc10) (by kernel_rfl) ?m ?_; (case m => (intro x _; go_simp; try with_reducible rfl))
  simp only [Act.put, List.setIfInBounds_toArray, List.set_cons_zero, List.set_cons_succ]
  refine calm_value (v := ?vc11) (by kernel_rfl) ?m ?_; (case m => (intro x _; go_simp; try with_reducible rfl))
  simp only [Act.put, List.setIfInBounds_toArray, List.set_cons_zero, List.set_cons_succ]
  refine calm_value (v := ?vc12) (by kernel_rfl) ?m ?_; (case m => (intro x _; go_simp; try with_reducible rfl))
  simp only [Act.put, List.setIfInBounds_toArray, List.set_cons_zero, List.set_cons_succ]
  refine calm_value (v := ?vc13) (by kernel_rfl) ?m ?_; (case m => (intro x _; go_simp; try with_reducible rfl))
  simp only [Act.put, List.setIfInBounds_toArray, List.set_cons_zero, List.set_cons_succ]
  refine calm_cell 5 _ ⟨b, o + s3, none⟩ (.int .u8 z3) (by kernel_rfl) rfl rfl (fun x hx => by have c0 := P3.out x hx; go_simp) ?_
  simp only [Act.put, List.setIfInBounds_toArray, List.set_cons_zero, List.set_cons_succ]
  refine calm_value (v := ?vc15) (by kernel_rfl) ?m ?_; (case m => (intro x _; go_simp; try with_reducible rfl))
  simp only [Act.put, List.setIfInBounds_toArray, List.set_cons_zero, List.set_cons_succ]
  refine calm_value (v := ?vc16) (by kernel_rfl) ?m ?_; (case m => (intro x _; go_simp; try with_reducible rfl))
  simp only [Act.put, List.setIfInBounds_toArray, List.set_cons_zero, List.set_cons_succ]
  refine calm_value (v := ?vc17) (by kernel_rfl) ?m ?_; (case m => (intro x _; go_simp; try with_reducible rfl))
  simp only [Act.put, List.setIfInBounds_toArray, List.set_cons_zero, List.set_cons_succ]
  refine calm_nil fun x hx => ?_
  go_wp2_with (with_reducible refine (hr.out _).mono ?_; rintro e w1 ⟨rfl, rfl⟩)
  go_ret
  exact ⟨rfl, hx⟩
/-- The closure, called. -/
theorem samp_code {w : World} {lo : Nat} {s v : Value} {W n : Nat} {f : Nat → Int} (hs : SampAt w lo s v W) (hv : BtAt w v n f) (hn : n ≤ 1073741824) (x y : Nat) (hy : y ≤ 10000) (hin : y / 2 * W + x / 2 + y % 2 * W + x % 2 < n) :
    ∃ r1 r2, s = .func (.func 42) #[] #[.pointer (some ⟨r1, 0, none⟩), .pointer (some ⟨r2, 0, none⟩)] ∧ Calls Try.prog 42 #[.int .i64 (x : Int), .int .i64 (y : Int), .pointer (some ⟨r1, 0, none⟩), .pointer (some ⟨r2, 0, none⟩)] w fun e w' => e = .returned (.int .i64 (halfF f W x y)) ∧ Below w.heap.size w w' := by
  obtain ⟨r1, r2, rfl, h1, h2, -⟩ := hs
  obtain ⟨p, c, rfl, -, h⟩ := hv
  rcases h with h | ⟨b, o, rfl, h⟩
  · omega
  · exact ⟨r1, r2, rfl, half_code r1 r2 b o n c W x y f w h1 h2 hn hy h hin⟩
end Go.Proofs.Ytnpmllbdpmkliaa
