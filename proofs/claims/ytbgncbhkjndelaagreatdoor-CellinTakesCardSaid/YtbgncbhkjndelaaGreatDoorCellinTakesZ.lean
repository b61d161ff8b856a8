/- Which cell is read at any bit of any text, in either kind of sheets, by any vector that is foretold, or what is wrong, and where the reader stands then, is what the document's own answers say; and the chapter's examples come out. Conditions: none but the law's own (texts of up to 500 bytes), and the card's: what the listed variables hold when the call begins. -/
import Derived.Test.YtbgncbhkjndelaaGreatDoorCellinTakesMe
import Derived.Test.YtbgncbhkjndelaaGreatDoorCellinTakesMbg
import Derived.Test.YtbgncbhkjndelaaGreatDoorCellinTakesMbi
import Derived.Test.YtbgncbhkjndelaaGreatDoorCellinTakesMbl
import Derived.Test.YtbgncbhkjndelaaGreatDoorCards
import Derived.Test.YtbgncbhkjndelaaGreatDoorTie
import Derived.RegionTactic
import Derived.ProofKit
import Derived.LaidMore
import Derived.OpenShut
import Derived.Lay
import Derived.SizedLaws
import Derived.SevenTiedAt
import Derived.Stop.Joined
namespace Go.Proofs.YtbgncbhkjndelaaGreatDoor
open Go.ChangeShapes Go.WideShapes Go.ChangeAt Go.RowKit
set_option linter.unusedVariables false
theorem ctk_len (inter : Bool) (S : List UInt8) (x y : Int) (p i : Nat) : ((ctk inter S x y p).1.ev i).length ≤ 65 := by
 have hb : ∀ a b st, (blkS a b S st).2.1.length ≤ 65 := by
  intro a b st
  unfold blkS
  split
  ·exact btk_len S st.1 a b
  ·exact Nat.zero_le _
 unfold ctk
 split
 ·simp only [celS]
  split
  ·exact Nat.zero_le _
  ·exact hb _ _ _
 ·exact Nat.zero_le _
structure LwAt (B D : Nat) (wB x : World) (s : ByteArray) (q : Nat) (c : Cel) (p : Nat → Option Addr) (n : Nat → Nat) (Z : Array Value) : Prop where
 below : Below (B + 2) wB x
 rd : IsRd x (B + 2) s q
 ci : CelIn x c p n
 cel : x.heap[D]? = some (.cells Z 34 (0, 0))
 lt : B + 3 ≤ D ∧ D < x.heap.size
structure WwAt (x3 x7 : World) (D W : Nat) (c : Cel) (slw : Nat → Value) : Prop where
 below : Below (D + 1) x3 x7
 want : x7.heap[W]? = some (.cells (celL c slw).toArray 34 (0, 0))
 lt : D < W ∧ W < x7.heap.size
 sl : ∀ i, i < 6 → SlAt x7 0 (slw i) (c.ev i)
theorem below_alloc7 {x y z : World} {o : Obj} {W : Nat} (h : x.alloc o = y) (hg : y.grownBy z (some W)) (hW : x.heap.size = W) : Below x.heap.size x z := by
 have hb : Below x.heap.size x y := by rw [← h]; exact (Below.refl _ x).alloc (Nat.le_refl _) _
 exact ⟨hg.os.trans hb.os, hg.tape.trans hb.tape, hg.output.trans hb.output, Nat.le_trans hb.size hg.size, fun k hk => (hg.block k (Nat.lt_of_lt_of_le hk hb.size) (by simp; omega)).trans (hb.block k hk)⟩
theorem LwAt.move {B D : Nat} {wB x z : World} {s : ByteArray} {q : Nat} {c : Cel} {p : Nat → Option Addr} {n : Nat → Nat} {Z : Array Value} (h : LwAt B D wB x s q c p n Z) (hb : Below x.heap.size x z) : LwAt B D wB z s q c p n Z :=
 ⟨h.below.trans (hb.mono (by have := h.lt; omega)), h.rd.below hb, h.ci.below hb, (hb.block D h.lt.2).trans h.cel, h.lt.1, Nat.lt_of_lt_of_le h.lt.2 hb.size⟩
theorem slat_in {w : World} {B : Nat} {c : Cel} {sl : Nat → Value} (h : ∀ i, i < 6 → SlAt w B (sl i) (c.ev i)) (hl : ∀ i, i < 6 → (c.ev i).length ≤ 65) :
  ∃ (p : Nat → Option Addr) (n cap : Nat → Nat), celL c sl = celL c (fun i => .slice (p i) (n i) (cap i)) ∧ CelIn w c p n := by
 obtain ⟨p0, k0, e0, v0, _⟩ := h 0 (by omega)
 obtain ⟨p1, k1, e1, v1, _⟩ := h 1 (by omega)
 obtain ⟨p2, k2, e2, v2, _⟩ := h 2 (by omega)
 obtain ⟨p3, k3, e3, v3, _⟩ := h 3 (by omega)
 obtain ⟨p4, k4, e4, v4, _⟩ := h 4 (by omega)
 obtain ⟨p5, k5, e5, v5, _⟩ := h 5 (by omega)
 refine ⟨six p0 p1 p2 p3 p4 p5, fun i => (c.ev i).length, six k0 k1 k2 k3 k4 k5, ?_, fun i hi => ⟨rfl, Nat.le_trans (hl i hi) (by decide), ?_⟩⟩
 ·unfold celL
  rw [e0, e1, e2, e3, e4, e5]
  rfl
 ·match i, hi with
  | 0, _ => exact v0
  | 1, _ => exact v1
  | 2, _ => exact v2
  | 3, _ => exact v3
  | 4, _ => exact v4
  | 5, _ => exact v5
set_option maxRecDepth 100000 in
set_option maxHeartbeats 4000000 in
theorem cellinTakes_walk (s : ByteArray) (from_ : Int) (inter : Bool) (x y : Int) (w : World) (hss : s.size ≤ maxLen) (hz : s.size ≤ 140737488355328) (wf : (Lit.int .i64 from_).wf = true) (wx : (Lit.int .i64 x).wf = true) (wy : (Lit.int .i64 y).wf = true) (ht : TabsLo w.heap.size w) :
  Calls Tryz.prog 3 #[.string s, .agg #[.int .i64 from_, .bool inter], .agg #[.int .i64 x, .int .i64 y]] w fun e w' => e = .returned (.bool true) ∧ Below w.heap.size w w' := by
 unfold maxLen at hss
 obtain ⟨B, wA, wB, hB, hwA, hwB, hzA, hzB, hC0, hC1, hbB⟩ := laid2 w (.cells #[.int .i64 from_, .bool inter] 23 (0, 0)) (.cells #[.int .i64 x, .int .i64 y] 24 (0, 0))
 rw [hB] at ht
 have CELLS := Lib.hid (fun (z : World) (hx : Below (B + 2) wB z) => (by
  have h0 := (hx.block B (by omega)).trans hC0
  have h1 := (hx.block (B + 1) (by omega)).trans hC1
  exact ⟨part_cells (cs := [.int .i64 from_, .bool inter]) h0 rfl, part_cells (cs := [.int .i64 from_, .bool inter]) h0 rfl, part_cells (cs := [.int .i64 x, .int .i64 y]) h1 rfl, part_cells (cs := [.int .i64 x, .int .i64 y]) h1 rfl⟩ : z.cell? ⟨B, 0, none⟩ = some (.int .i64 from_) ∧ z.cell? ⟨B, 1, none⟩ = some (.bool inter) ∧ z.cell? ⟨B + 1, 0, none⟩ = some (.int .i64 x) ∧ z.cell? ⟨B + 1, 1, none⟩ = some (.int .i64 y)))
 have H1 := Lib.hid (fun (z : World) (hx : Below (B + 2) wB z) => ((hx.block (B + 1) (by omega)).trans hC1 : z.heap[B + 1]? = some (.cells #[.int .i64 x, .int .i64 y] 24 (0, 0))))
 have HT := Lib.hid (fun (z : World) (hx : Below (B + 2) wB z) => (ht.below (hbB.trans (hx.mono (by omega))) : TabsLo B z))
 have HTH := Lib.hid (fun (z : World) (hx : Below (B + 2) wB z) (hzz : B + 2 ≤ z.heap.size) => (by
  have h := ht.below (hbB.trans (hx.mono (by omega)))
  exact TabsLo.here h.pats h.mvd h.steps h.tcoef : TabsLo z.heap.size z))
 have HBX := Lib.hid (fun (z : World) (hx : Below (B + 2) wB z) => (hbB.trans (hx.mono (by omega)) : Below B w z))
 have hb0 : Below (B + 2) wB wB := Below.refl _ _
 have HB := Lib.hid hB
 have HWA := Lib.hid hwA
 have HWB := Lib.hid hwB
 obtain ⟨x0, hx0⟩ : ∃ x0, wB.alloc (rdObj s 0) = x0 := ⟨_, rfl⟩
 have hr0 : IsRd x0 (B + 2) s 0 := by rw [← hx0]; exact IsRd.fresh hzB hz
 have hb1 : Below (B + 2) wB x0 := by rw [← hx0]; exact hb0.alloc (by omega) _
 have hz1 : B + 2 ≤ x0.heap.size := by rw [← hx0]; simp; omega
 have hz1' : B + 2 < x0.heap.size := by rw [← hx0]; simp; omega
 have HX0 := Lib.hid hx0
 obtain ⟨d0, d1, d2, d3⟩ := CELLS.out _ hb1
 clear hB hwA hwB hbB ht hC0 hC1 hx0 hb0
 by_cases h500 : 500 < s.size
 ·have t0 : decide (500 < (s.size : Int)) = true := by simp; omega
  clear h500
  go_enter Tryz.func3, Tryz.ntmps3
  go_wp2_with fail
  rw [HWA.out, HB.out, HWB.out]
  refine (rnew_code _ _).mono ?_
  rintro e w1 ⟨rfl, rfl⟩
  rw [HX0.out, hzB]
  go_wp2_with fail
  refine (lives21 _ (HTH.out _ hb1 hz1)).mono ?_
  rintro e w' ⟨rfl, hb⟩
  go_wp2
  go_ret
  exact ⟨rfl, by rw [HB.out]; exact HBX.out _ (hb1.trans (hb.mono hz1))⟩
 have t0 : decide (500 < (s.size : Int)) = false := by simp; omega
 by_cases hfr : 0 ≤ from_ ∧ from_ ≤ 8 * (s.size : Int)
 ·obtain ⟨f0, f1⟩ := hfr
  go_enter Tryz.func3, Tryz.ntmps3
  go_wp2_with fail
  rw [HWA.out, HB.out, HWB.out]
  refine (rnew_code _ _).mono ?_
  rintro e w1 ⟨rfl, rfl⟩
  rw [HX0.out, hzB]
  go_wp2_with fail
  refine (seek_code _ _ _ _ from_ hr0 f0 f1).mono ?_
  rintro e x1 ⟨rfl, hr1, hg1⟩
  obtain ⟨a, ha⟩ : ∃ a : Nat, from_ = a := ⟨from_.toNat, by omega⟩
  subst ha
  rw [Int.toNat_natCast] at hr1
  obtain ⟨hb2, hz2⟩ := below_ownP hb1 hz1 hg1 (Nat.le_refl _)
  obtain ⟨c0, c1, c2, c3⟩ := CELLS.out _ hb2
  have ct := ctake_code (N := B) inter x y (HT.out _ hb2) (by omega) hr1
  have hz2' : B + 2 < x1.heap.size := hr1.lt
  obtain ⟨Y, hY⟩ : ∃ Y : Array Value, (celL celZ nilS).toArray = Y := ⟨_, rfl⟩
  have hzv : ∀ w, (zeroValue 34).run Tryz.prog w = .ok (.agg Y) w := by rw [← hY]; exact cel_zero
  have HY := Lib.hid hY
  clear hr0 hg1 hb1 hz1 hz1' d0 d1 d2 d3 hY
  go_wp2_with fail
  refine ct.mono ?_
  rintro e x2 ⟨c, q, f, sl, hk, rfl, hs, hr3, hg3⟩
  obtain ⟨hb4, hz4⟩ := below_ownP hb2 hz2 hg3 (Nat.le_refl _)
  obtain ⟨p, n, cap, hcl, hci⟩ := slat_in hs (fun i _ => by have h := ctk_len inter (showL s.data.toList) x y a i; rw [hk] at h; exact h)
  rw [hcl]
  obtain ⟨Z, hZ⟩ : ∃ Z, (celL c fun i => .slice (p i) (n i) (cap i)).toArray = Z := ⟨_, rfl⟩
  rw [hZ]
  have siz : (Tryz.prog.info? 34).map (·.size) = some Z.size := hZ ▸ cel_size _ _
  have syz : Y.size = Z.size := by rw [← hZ, ← HY.out]; rfl
  have one : Z.all (·.oneCell') = true := hZ ▸ cel_one _ _ fun i hi => rfl
  obtain ⟨D, hD⟩ : ∃ D, x2.heap.size = D := ⟨_, rfl⟩
  obtain ⟨x3, hx3⟩ : ∃ u, x2.alloc (.cells Z 34 (0, 0)) = u := ⟨_, rfl⟩
  have hb23 : Below D x2 x3 := by rw [← hx3, ← hD]; exact (Below.refl _ x2).alloc (Nat.le_refl _) _
  have hb5 : Below (B + 2) wB x3 := hb4.trans (hb23.mono (by omega))
  have hz5 : x3.heap.size = D + 1 := by rw [← hx3, ← hD]; simp
  have hr5 : IsRd x3 (B + 2) s q := hr3.below (hD ▸ hb23)
  have hci5 : CelIn x3 c p n := hci.below (hD ▸ hb23)
  have hcel : x3.heap[D]? = some (.cells Z 34 (0, 0)) := by rw [← hx3, ← hD]; exact heap_alloc_new x2 _
  have hDB : B + 3 ≤ D := by have := hg3.size; omega
  obtain ⟨d0, d1, d2, d3⟩ := CELLS.out _ hb5
  have hsl : (⟨(showL s.data.toList).toArray⟩ : ByteArray).size = 8 * s.size := by rw [size_mk, showL_length]; rfl
  have hshow := fun z => show_page s (by omega) z
  have hpg := fun z => ptake_cel inter (⟨(showL s.data.toList).toArray⟩ : ByteArray) a x y z (by rw [hsl]; omega) (by rw [hsl]; omega) (showL_row _)
  unfold PcelGives at hpg
  rw [show (⟨(showL s.data.toList).toArray⟩ : ByteArray).data.toList = showL s.data.toList from rfl, hk] at hpg
  generalize (⟨(showL s.data.toList).toArray⟩ : ByteArray) = yb at hshow hpg hsl
  have HPG := Lib.hid hpg
  have HSHOW := Lib.hid hshow
  have HZ := Lib.hid hZ
  have HD := Lib.hid hD
  have HX3 := Lib.hid hx3
  have HLEN := Lib.hid (fun i => (by have h := ctk_len inter (showL s.data.toList) x y a i; rw [hk] at h; exact h : (c.ev i).length ≤ 65))
  clear hk hsl hpg hshow hZ hD hx3 hb23 hs hr3 hg3 hb4 hz4 hci ct hb2 hz2 hz2' hr1 c0 c1 c2 c3 hcl
  have AT3 : LwAt B D wB x3 s q c p n Z := ⟨hb5, hr5, hci5, hcel, hDB, by omega⟩
  have HC1 := Lib.hid (fun (z : World) (hz : LwAt B D wB z s q c p n Z) => ((CELLS.out z hz.below) : z.cell? ⟨B, 0, none⟩ = some (.int .i64 a) ∧ z.cell? ⟨B, 1, none⟩ = some (.bool inter) ∧ z.cell? ⟨B + 1, 0, none⟩ = some (.int .i64 x) ∧ z.cell? ⟨B + 1, 1, none⟩ = some (.int .i64 y)))
  have HC2 := Lib.hid (fun (z : World) (hz : LwAt B D wB z s q c p n Z) => (H1.out z hz.below))
  clear hb5 hr5 hci5 hcel d0 d1 d2 d3
  go_wp2_with (with_reducible refine wp_store_fresh rfl 34 _ _ rfl Z Y 34 rfl rfl siz syz one ?_; rw [HX3.out, HD.out])
  refine wp_region_held_drew (S := (fun z => LwAt B D wB z s q c p n Z)) (by kernel_rfl) (AT3.move ((Below.refl x3.heap.size x3).drew)) (fun hH => ?_)
  refine held_take 0 (some 37) (v := ?_) rfl rfl (by kernel_rfl) (by kernel_rfl) (by kernel_rfl) (fun _ _ _ h => h) hH (Or.inl ⟨by kernel_rfl, ?_⟩) ?_
  rotate_left
  ·(intro z _; go_simp; try with_reducible rfl)
  rotate_right
  try simp only [Act.put, List.setIfInBounds_toArray, List.set_cons_zero, List.set_cons_succ]
  refine held_take 2 (some 39) (v := ?_) rfl rfl (by kernel_rfl) (by kernel_rfl) (by kernel_rfl) (fun _ _ _ h => h) hH (Or.inl ⟨by kernel_rfl, ?_⟩) ?_
  rotate_left
  ·(intro z _; go_simp; try with_reducible rfl)
  rotate_right
  try simp only [Act.put, List.setIfInBounds_toArray, List.set_cons_zero, List.set_cons_succ]
  refine held_take 3 (some 40) (v := .int .i64 (a : Int)) rfl rfl (by kernel_rfl) (by kernel_rfl) (by kernel_rfl) (fun _ _ _ h => h) hH (Or.inl ⟨by kernel_rfl, ?_⟩) ?_
  ·(intro z hz; have c0 := ((HC1.out z hz).1); go_simp)
  try simp only [Act.put, List.setIfInBounds_toArray, List.set_cons_zero, List.set_cons_succ]
  refine held_take 4 (some 41) (v := ?_) rfl rfl (by kernel_rfl) (by kernel_rfl) (by kernel_rfl) (fun _ _ _ h => h) hH (Or.inl ⟨by kernel_rfl, ?_⟩) ?_
  rotate_left
  ·(intro z _; go_simp; try with_reducible rfl)
  rotate_right
  try simp only [Act.put, List.setIfInBounds_toArray, List.set_cons_zero, List.set_cons_succ]
  refine held_take 5 (some 42) (v := .bool inter) rfl rfl (by kernel_rfl) (by kernel_rfl) (by kernel_rfl) (fun _ _ _ h => h) hH (Or.inl ⟨by kernel_rfl, ?_⟩) ?_
  ·(intro z hz; have c0 := ((HC1.out z hz).2.1); go_simp)
  try simp only [Act.put, List.setIfInBounds_toArray, List.set_cons_zero, List.set_cons_succ]
  refine held_take 6 (some 43) (v := .agg #[.int .i64 x, .int .i64 y]) rfl rfl (by kernel_rfl) (by kernel_rfl) (by kernel_rfl) (fun _ _ _ h => h) hH (Or.inl ⟨by kernel_rfl, fun z hz => exec_load (ty := 24) (x := .tmp 5) (ad := ⟨B + 1, 0, none⟩) (by kernel_rfl) (by kernel_rfl) (run_loadVar_row z (B + 1) _ _ #[.int .i64 x, .int .i64 y] (0, 0) _ (HC2.out z hz) Tryz.underlying24 rfl two_size)⟩) ?_
  try simp only [Act.put, List.setIfInBounds_toArray, List.set_cons_zero, List.set_cons_succ]
  obtain ⟨x3d, hx3d⟩ : ∃ z, x3.drew = z := ⟨_, rfl⟩
  have hBx3d : Below (D + 1) x3 x3d := by rw [← hx3d]; exact (Below.refl _ x3).drew
  rw [hx3d]
  clear hH
  have hH := AT3.move (hz5 ▸ hBx3d)
  refine wpAnyH_ready (rs := [1, 12]) (by kernel_rfl) (by simp) ?_
  refine AllReadyH.cons rfl (fun K hK => ?_) (AllReadyH.cons rfl (fun K hK => ?_) AllReadyH.nil)
  ·go_simp
   go_wp2_with fail
   refine (HSHOW.out _).mono ?_
   rintro e xs ⟨rfl, hbxs⟩
   have hBxs := hBx3d.trans (hbxs.mono (by have := hBx3d.size; omega))
   refine hK.out _ _ (AT3.move (hz5 ▸ hBxs)) (fun hH2 => ?_)
   clear hK K hH
   have hH := hH2
   clear hH2
   try simp only [Act.put, List.setIfInBounds_toArray, List.set_cons_zero, List.set_cons_succ]
   refine wpAnyH_ready (rs := [7, 12]) (by kernel_rfl) (by simp) ?_
   refine AllReadyH.cons rfl (fun K hK => ?_) (AllReadyH.cons rfl (fun K hK => ?_) AllReadyH.nil)
   ·go_simp
    go_wp2_with fail
    refine (HPG.out _).mono ?_
    rintro e xt ⟨c', q', f', slw, heq, rfl, hsl, hbxt⟩
    simp only [Prod.mk.injEq] at heq
    obtain ⟨rfl, rfl, rfl⟩ := heq
    have hBxt := hBxs.trans (hbxt.mono (by have := hBxs.size; omega))
    refine hK.out _ _ (AT3.move (hz5 ▸ hBxt)) (fun hH2 => ?_)
    clear hK K hH
    have hH := hH2
    clear hH2
    try simp only [Act.put, List.setIfInBounds_toArray, List.set_cons_zero, List.set_cons_succ]
    refine held_take 8 (some 36) (v := ?_) rfl rfl (by kernel_rfl) (by kernel_rfl) (by kernel_rfl) (fun _ _ _ h => h) hH (Or.inl ⟨by kernel_rfl, ?_⟩) ?_
    rotate_left
    ·(intro z _; go_simp; try with_reducible rfl)
    rotate_right
    try simp only [Act.put, List.setIfInBounds_toArray, List.set_cons_zero, List.set_cons_succ]
    refine held_take 9 (some 45) (v := ?_) rfl rfl (by kernel_rfl) (by kernel_rfl) (by kernel_rfl) (fun _ _ _ h => h) hH (Or.inl ⟨by kernel_rfl, ?_⟩) ?_
    rotate_left
    ·(intro z _; go_simp; try with_reducible rfl)
    rotate_right
    try simp only [Act.put, List.setIfInBounds_toArray, List.set_cons_zero, List.set_cons_succ]
    refine held_take 10 (some 46) (v := ?_) rfl rfl (by kernel_rfl) (by kernel_rfl) (by kernel_rfl) (fun _ _ _ h => h) hH (Or.inl ⟨by kernel_rfl, ?_⟩) ?_
    rotate_left
    ·(intro z _; go_simp; try with_reducible rfl)
    rotate_right
    try simp only [Act.put, List.setIfInBounds_toArray, List.set_cons_zero, List.set_cons_succ]
    refine held_take 11 (some 47) (v := ?_) rfl rfl (by kernel_rfl) (by kernel_rfl) (by kernel_rfl) (fun _ _ _ h => h) hH (Or.inl ⟨by kernel_rfl, ?_⟩) ?_
    rotate_left
    ·(intro z _; go_simp; try with_reducible rfl)
    rotate_right
    try simp only [Act.put, List.setIfInBounds_toArray, List.set_cons_zero, List.set_cons_succ]
    refine wpAnyH_ready (rs := [12]) (by kernel_rfl) (by simp) ?_
    refine AllReadyH.cons rfl (fun K hK => ?_) AllReadyH.nil
    go_simp
    obtain ⟨W, hW⟩ : ∃ W, xt.heap.size = W := ⟨_, rfl⟩
    obtain ⟨xa, hxa⟩ : ∃ z, xt.alloc (.cells Y 34 (0, 0)) = z := ⟨_, rfl⟩
    have hbxa : Below xt.heap.size xt xa := by rw [← hxa]; exact (Below.refl _ xt).alloc (Nat.le_refl _) _
    have hBxa := hBxt.trans (hbxa.mono (by have := hBxt.size; omega))
    have hwxa : xa.heap[W]? = some (.cells Y 34 (0, 0)) := by rw [← hxa, ← hW]; exact heap_alloc_new xt _
    have hsxa : W < xa.heap.size := by rw [← hxa, ← hW]; simp
    have hDW : D < W := by have := hBxt.size; omega
    first | rw [hW, hxa] | rw [hxa]
    refine hK.out _ _ (AT3.move (hz5 ▸ hBxa)) (fun hH2 => ?_)
    clear hK K hH
    have hH := hH2
    clear hH2
    try simp only [Act.put, List.setIfInBounds_toArray, List.set_cons_zero, List.set_cons_succ]
    obtain ⟨Zw, hZw⟩ : ∃ Z, (celL c slw).toArray = Z := ⟨_, rfl⟩
    rw [hZw]
    have sizw : (Tryz.prog.info? 34).map (·.size) = some Zw.size := hZw ▸ cel_size _ _
    have syzw : Y.size = Zw.size := by rw [← hZw, ← HY.out]; rfl
    have onew : Zw.all (·.oneCell') = true := hZw ▸ cel_one _ _ fun i hi => (hsl i hi).one
    refine wpAnyH_ready (rs := [13]) (by kernel_rfl) (by simp) ?_
    refine AllReadyH.cons rfl (fun K hK => ?_) AllReadyH.nil
    refine (if_pos (by kernel_rfl)).mpr ?_
    refine wp_store_row 34 _ _ rfl W Zw rfl rfl 34 Y hwxa sizw syzw onew ?_
    obtain ⟨x7, hx7⟩ : ∃ z, xa.setRow W Zw = z := ⟨_, rfl⟩
    have hg7 : xa.grownBy x7 (some W) := by rw [← hx7]; exact ⟨rfl, rfl, rfl, by simp, fun k _ hk => setRow_other _ _ _ _ (by intro e; exact hk (by rw [e]))⟩
    have hw7 : x7.heap[W]? = some (.cells (celL c slw).toArray 34 (0, 0)) := by rw [hZw, ← hx7]; exact setRow_heap _ _ _ _ _ _ hwxa
    have hB7 := hBxa.trans ((below_set hg7 hsxa).mono (by omega))
    have HWW := Lib.hid (show WwAt x3 x7 D W c slw from ⟨hB7, hw7, ⟨hDW, Nat.lt_of_lt_of_le hsxa hg7.size⟩, fun i hi => ((hsl i hi).from (Nat.zero_le _)).below ((below_alloc7 hxa hg7 hW))⟩)
    rw [hx7]
    refine hK.out _ _ (AT3.move (hz5 ▸ hB7)) (fun hH2 => ?_)
    clear hK K hH hx7 hg7 hw7
    have hH := hH2
    clear hH2
    refine held_take 14 (some 11) (v := ?_) rfl rfl (by kernel_rfl) (by kernel_rfl) (by kernel_rfl) (fun _ _ _ h => h) hH (Or.inl ⟨by kernel_rfl, ?_⟩) ?_
    rotate_left
    ·(intro z _; go_simp; try with_reducible rfl)
    rotate_right
    try simp only [Act.put]
    refine held_take 15 (some 12) (v := ?_) rfl rfl (by kernel_rfl) (by kernel_rfl) (by kernel_rfl) (fun _ _ _ h => h) hH (Or.inl ⟨by kernel_rfl, ?_⟩) ?_
    rotate_left
    ·(intro z _; go_simp; try with_reducible rfl)
    rotate_right
    try simp only [Act.put]
    refine wpAnyH_done (by kernel_rfl) ?_ _
    clear hH
    obtain ⟨pw, nw, kw, hclw, hciw⟩ := slat_in HWW.out.sl (fun i _ => HLEN.out i)
    have hwant := HWW.out.want
    rw [hclw] at hwant
    have hbw := HWW.out.below
    have hltw := HWW.out.lt
    have L7 := AT3.move (hz5 ▸ hbw)
    obtain ⟨Zw2, hZw2⟩ : ∃ Z, (celL c fun i => .slice (pw i) (nw i) (kw i)).toArray = Z := ⟨_, rfl⟩
    rw [hZw2] at hwant
    have sizw2 : (Tryz.prog.info? 34).map (·.size) = some Zw2.size := hZw2 ▸ cel_size _ _
    have HZW := Lib.hid hZw2
    have HCIW := Lib.hid hciw
    have HL7 := Lib.hid L7
    obtain ⟨e0, e1, e2, e3⟩ := HC1.out x7 L7
    have hcel7 := L7.cel
    have hsame := fun z (h1 : CelIn z c p n) (h2 : CelIn z c pw nw) => celsame_page c c p pw n nw cap kw z h1 h2
    rw [HZ.out, hZw2, celB_self] at hsame
    have HSAME := Lib.hid hsame
    have hsz7 := L7.lt
    clear hZw hZw2 hclw hciw L7 hbw sizw syzw onew hsame
    go_wp2_with fail
    refine (ctake_nil inter x y _).mono ?_
    rintro e x8 ⟨rfl, hb8⟩
    rw [HY.out]
    obtain ⟨x9, hx9⟩ : ∃ z, x8.alloc (.cells Y 34 (0, 0)) = z := ⟨_, rfl⟩
    have hb79 : Below x7.heap.size x7 x9 := by rw [← hx9]; exact hb8.alloc hb8.size _
    have L9 := HL7.out.move hb79
    have hciw9 := HCIW.out.below hb79
    have hwant9 := (hb79.block W hltw.2).trans hwant
    have hcel9 := L9.cel
    have hci9 := L9.ci
    have HX9 := Lib.hid hx9
    have HSY : (Tryz.prog.info? 34).map (·.size) = some Y.size := HY.out ▸ cel_size _ _
    have HOY : Y.all (·.oneCell') = true := HY.out ▸ cel_one _ _ fun _ _ => rfl
    have hs9 := HSAME.out x9 hci9 hciw9
    have g2 : (f == f) = true := by simp
    have g3 : ((q : Int) == (q : Int)) = true := by simp
    clear hb8 hx9 hb79 e0 e1 e2 e3 hcel7 hwant
    go_wp2_with (first | (with_reducible refine wp_store_fresh rfl 34 _ _ rfl Y Y 34 rfl rfl HSY rfl HOY ?_; rw [HX9.out]) | (with_reducible refine wpList_load_row rfl 34 _ rfl D rfl 34 Z (0, 0) _ hcel9 Tryz.underlying34 rfl siz ?_) | (with_reducible refine wpList_load_row rfl 34 _ rfl W rfl 34 Zw2 (0, 0) _ hwant9 Tryz.underlying34 rfl sizw2 ?_))
    refine hs9.mono ?_
    rintro e x10 ⟨rfl, hb10⟩
    have L10 := L9.move hb10
    go_wp2_with fail
    refine (at_code _ _ _ _ L10.rd).mono ?_
    rintro e x11 ⟨rfl, rfl⟩
    go_wp2_with fail
    refine (lives21 _ (HTH.out _ L10.below (by have := L10.lt; omega))).mono ?_
    rintro e x11 ⟨rfl, hb11⟩
    go_wp2
    go_ret
    exact ⟨rfl, by rw [HB.out]; exact HBX.out _ (L10.move hb11).below⟩
   ·go_simp
    obtain ⟨W, hW⟩ : ∃ W, xs.heap.size = W := ⟨_, rfl⟩
    obtain ⟨xa, hxa⟩ : ∃ z, xs.alloc (.cells Y 34 (0, 0)) = z := ⟨_, rfl⟩
    have hbxa : Below xs.heap.size xs xa := by rw [← hxa]; exact (Below.refl _ xs).alloc (Nat.le_refl _) _
    have hBxa := hBxs.trans (hbxa.mono (by have := hBxs.size; omega))
    have hwxa : xa.heap[W]? = some (.cells Y 34 (0, 0)) := by rw [← hxa, ← hW]; exact heap_alloc_new xs _
    have hsxa : W < xa.heap.size := by rw [← hxa, ← hW]; simp
    have hDW : D < W := by have := hBxs.size; omega
    first | rw [hW, hxa] | rw [hxa]
    refine hK.out _ _ (AT3.move (hz5 ▸ hBxa)) (fun hH2 => ?_)
    clear hK K hH
    have hH := hH2
    clear hH2
    try simp only [Act.put, List.setIfInBounds_toArray, List.set_cons_zero, List.set_cons_succ]
    refine wpAnyH_ready (rs := [7]) (by kernel_rfl) (by simp) ?_
    refine AllReadyH.cons rfl (fun K hK => ?_) AllReadyH.nil
    go_simp
    go_wp2_with fail
    refine (HPG.out _).mono ?_
    rintro e xt ⟨c', q', f', slw, heq, rfl, hsl, hbxt⟩
    simp only [Prod.mk.injEq] at heq
    obtain ⟨rfl, rfl, rfl⟩ := heq
    have hBxt := hBxa.trans (hbxt.mono (by have := hBxa.size; omega))
    refine hK.out _ _ (AT3.move (hz5 ▸ hBxt)) (fun hH2 => ?_)
    clear hK K hH
    have hH := hH2
    clear hH2
    try simp only [Act.put, List.setIfInBounds_toArray, List.set_cons_zero, List.set_cons_succ]
    have hwxt := (hbxt.block W hsxa).trans hwxa
    have hsxt := Nat.lt_of_lt_of_le hsxa hbxt.size
    refine held_take 8 (some 36) (v := ?_) rfl rfl (by kernel_rfl) (by kernel_rfl) (by kernel_rfl) (fun _ _ _ h => h) hH (Or.inl ⟨by kernel_rfl, ?_⟩) ?_
    rotate_left
    ·(intro z _; go_simp; try with_reducible rfl)
    rotate_right
    try simp only [Act.put, List.setIfInBounds_toArray, List.set_cons_zero, List.set_cons_succ]
    refine held_take 9 (some 45) (v := ?_) rfl rfl (by kernel_rfl) (by kernel_rfl) (by kernel_rfl) (fun _ _ _ h => h) hH (Or.inl ⟨by kernel_rfl, ?_⟩) ?_
    rotate_left
    ·(intro z _; go_simp; try with_reducible rfl)
    rotate_right
    try simp only [Act.put, List.setIfInBounds_toArray, List.set_cons_zero, List.set_cons_succ]
    refine held_take 10 (some 46) (v := ?_) rfl rfl (by kernel_rfl) (by kernel_rfl) (by kernel_rfl) (fun _ _ _ h => h) hH (Or.inl ⟨by kernel_rfl, ?_⟩) ?_
    rotate_left
    ·(intro z _; go_simp; try with_reducible rfl)
    rotate_right
    try simp only [Act.put, List.setIfInBounds_toArray, List.set_cons_zero, List.set_cons_succ]
    refine held_take 11 (some 47) (v := ?_) rfl rfl (by kernel_rfl) (by kernel_rfl) (by kernel_rfl) (fun _ _ _ h => h) hH (Or.inl ⟨by kernel_rfl, ?_⟩) ?_
    rotate_left
    ·(intro z _; go_simp; try with_reducible rfl)
    rotate_right
    try simp only [Act.put, List.setIfInBounds_toArray, List.set_cons_zero, List.set_cons_succ]
    obtain ⟨Zw, hZw⟩ : ∃ Z, (celL c slw).toArray = Z := ⟨_, rfl⟩
    rw [hZw]
    have sizw : (Tryz.prog.info? 34).map (·.size) = some Zw.size := hZw ▸ cel_size _ _
    have syzw : Y.size = Zw.size := by rw [← hZw, ← HY.out]; rfl
    have onew : Zw.all (·.oneCell') = true := hZw ▸ cel_one _ _ fun i hi => (hsl i hi).one
    refine wpAnyH_ready (rs := [13]) (by kernel_rfl) (by simp) ?_
    refine AllReadyH.cons rfl (fun K hK => ?_) AllReadyH.nil
    refine (if_pos (by kernel_rfl)).mpr ?_
    refine wp_store_row 34 _ _ rfl W Zw rfl rfl 34 Y hwxt sizw syzw onew ?_
    obtain ⟨x7, hx7⟩ : ∃ z, xt.setRow W Zw = z := ⟨_, rfl⟩
    have hg7 : xt.grownBy x7 (some W) := by rw [← hx7]; exact ⟨rfl, rfl, rfl, by simp, fun k _ hk => setRow_other _ _ _ _ (by intro e; exact hk (by rw [e]))⟩
    have hw7 : x7.heap[W]? = some (.cells (celL c slw).toArray 34 (0, 0)) := by rw [hZw, ← hx7]; exact setRow_heap _ _ _ _ _ _ hwxt
    have hB7 := hBxt.trans ((below_set hg7 hsxt).mono (by omega))
    have HWW := Lib.hid (show WwAt x3 x7 D W c slw from ⟨hB7, hw7, ⟨hDW, Nat.lt_of_lt_of_le hsxt hg7.size⟩, fun i hi => ((hsl i hi).moved (Moved.grown hg7 (.inl rfl) : Moved W W _ _) hsxa hsxa).from (Nat.zero_le _)⟩)
    rw [hx7]
    refine hK.out _ _ (AT3.move (hz5 ▸ hB7)) (fun hH2 => ?_)
    clear hK K hH hx7 hg7 hw7
    have hH := hH2
    clear hH2
    refine held_take 14 (some 11) (v := ?_) rfl rfl (by kernel_rfl) (by kernel_rfl) (by kernel_rfl) (fun _ _ _ h => h) hH (Or.inl ⟨by kernel_rfl, ?_⟩) ?_
    rotate_left
    ·(intro z _; go_simp; try with_reducible rfl)
    rotate_right
    try simp only [Act.put]
    refine held_take 15 (some 12) (v := ?_) rfl rfl (by kernel_rfl) (by kernel_rfl) (by kernel_rfl) (fun _ _ _ h => h) hH (Or.inl ⟨by kernel_rfl, ?_⟩) ?_
    rotate_left
    ·(intro z _; go_simp; try with_reducible rfl)
    rotate_right
    try simp only [Act.put]
    refine wpAnyH_done (by kernel_rfl) ?_ _
    clear hH
    obtain ⟨pw, nw, kw, hclw, hciw⟩ := slat_in HWW.out.sl (fun i _ => HLEN.out i)
    have hwant := HWW.out.want
    rw [hclw] at hwant
    have hbw := HWW.out.below
    have hltw := HWW.out.lt
    have L7 := AT3.move (hz5 ▸ hbw)
    obtain ⟨Zw2, hZw2⟩ : ∃ Z, (celL c fun i => .slice (pw i) (nw i) (kw i)).toArray = Z := ⟨_, rfl⟩
    rw [hZw2] at hwant
    have sizw2 : (Tryz.prog.info? 34).map (·.size) = some Zw2.size := hZw2 ▸ cel_size _ _
    have HZW := Lib.hid hZw2
    have HCIW := Lib.hid hciw
    have HL7 := Lib.hid L7
    obtain ⟨e0, e1, e2, e3⟩ := HC1.out x7 L7
    have hcel7 := L7.cel
    have hsame := fun z (h1 : CelIn z c p n) (h2 : CelIn z c pw nw) => celsame_page c c p pw n nw cap kw z h1 h2
    rw [HZ.out, hZw2, celB_self] at hsame
    have HSAME := Lib.hid hsame
    have hsz7 := L7.lt
    clear hZw hZw2 hclw hciw L7 hbw sizw syzw onew hsame
    go_wp2_with fail
    refine (ctake_nil inter x y _).mono ?_
    rintro e x8 ⟨rfl, hb8⟩
    rw [HY.out]
    obtain ⟨x9, hx9⟩ : ∃ z, x8.alloc (.cells Y 34 (0, 0)) = z := ⟨_, rfl⟩
    have hb79 : Below x7.heap.size x7 x9 := by rw [← hx9]; exact hb8.alloc hb8.size _
    have L9 := HL7.out.move hb79
    have hciw9 := HCIW.out.below hb79
    have hwant9 := (hb79.block W hltw.2).trans hwant
    have hcel9 := L9.cel
    have hci9 := L9.ci
    have HX9 := Lib.hid hx9
    have HSY : (Tryz.prog.info? 34).map (·.size) = some Y.size := HY.out ▸ cel_size _ _
    have HOY : Y.all (·.oneCell') = true := HY.out ▸ cel_one _ _ fun _ _ => rfl
    have hs9 := HSAME.out x9 hci9 hciw9
    have g2 : (f == f) = true := by simp
    have g3 : ((q : Int) == (q : Int)) = true := by simp
    clear hb8 hx9 hb79 e0 e1 e2 e3 hcel7 hwant
    go_wp2_with (first | (with_reducible refine wp_store_fresh rfl 34 _ _ rfl Y Y 34 rfl rfl HSY rfl HOY ?_; rw [HX9.out]) | (with_reducible refine wpList_load_row rfl 34 _ rfl D rfl 34 Z (0, 0) _ hcel9 Tryz.underlying34 rfl siz ?_) | (with_reducible refine wpList_load_row rfl 34 _ rfl W rfl 34 Zw2 (0, 0) _ hwant9 Tryz.underlying34 rfl sizw2 ?_))
    refine hs9.mono ?_
    rintro e x10 ⟨rfl, hb10⟩
    have L10 := L9.move hb10
    go_wp2_with fail
    refine (at_code _ _ _ _ L10.rd).mono ?_
    rintro e x11 ⟨rfl, rfl⟩
    go_wp2_with fail
    refine (lives21 _ (HTH.out _ L10.below (by have := L10.lt; omega))).mono ?_
    rintro e x11 ⟨rfl, hb11⟩
    go_wp2
    go_ret
    exact ⟨rfl, by rw [HB.out]; exact HBX.out _ (L10.move hb11).below⟩
  ·go_simp
   obtain ⟨W, hW⟩ : ∃ W, x3d.heap.size = W := ⟨_, rfl⟩
   obtain ⟨xa, hxa⟩ : ∃ z, x3d.alloc (.cells Y 34 (0, 0)) = z := ⟨_, rfl⟩
   have hbxa : Below x3d.heap.size x3d xa := by rw [← hxa]; exact (Below.refl _ x3d).alloc (Nat.le_refl _) _
   have hBxa := hBx3d.trans (hbxa.mono (by have := hBx3d.size; omega))
   have hwxa : xa.heap[W]? = some (.cells Y 34 (0, 0)) := by rw [← hxa, ← hW]; exact heap_alloc_new x3d _
   have hsxa : W < xa.heap.size := by rw [← hxa, ← hW]; simp
   have hDW : D < W := by have := hBx3d.size; omega
   first | rw [hW, hxa] | rw [hxa]
   refine hK.out _ _ (AT3.move (hz5 ▸ hBxa)) (fun hH2 => ?_)
   clear hK K hH
   have hH := hH2
   clear hH2
   try simp only [Act.put, List.setIfInBounds_toArray, List.set_cons_zero, List.set_cons_succ]
   refine wpAnyH_ready (rs := [1]) (by kernel_rfl) (by simp) ?_
   refine AllReadyH.cons rfl (fun K hK => ?_) AllReadyH.nil
   go_simp
   go_wp2_with fail
   refine (HSHOW.out _).mono ?_
   rintro e xs ⟨rfl, hbxs⟩
   have hBxs := hBxa.trans (hbxs.mono (by have := hBxa.size; omega))
   refine hK.out _ _ (AT3.move (hz5 ▸ hBxs)) (fun hH2 => ?_)
   clear hK K hH
   have hH := hH2
   clear hH2
   try simp only [Act.put, List.setIfInBounds_toArray, List.set_cons_zero, List.set_cons_succ]
   refine wpAnyH_ready (rs := [7]) (by kernel_rfl) (by simp) ?_
   refine AllReadyH.cons rfl (fun K hK => ?_) AllReadyH.nil
   go_simp
   go_wp2_with fail
   refine (HPG.out _).mono ?_
   rintro e xt ⟨c', q', f', slw, heq, rfl, hsl, hbxt⟩
   simp only [Prod.mk.injEq] at heq
   obtain ⟨rfl, rfl, rfl⟩ := heq
   have hBxt := hBxs.trans (hbxt.mono (by have := hBxs.size; omega))
   refine hK.out _ _ (AT3.move (hz5 ▸ hBxt)) (fun hH2 => ?_)
   clear hK K hH
   have hH := hH2
   clear hH2
   try simp only [Act.put, List.setIfInBounds_toArray, List.set_cons_zero, List.set_cons_succ]
   have hwxt := (hbxt.block W (Nat.lt_of_lt_of_le hsxa hbxs.size)).trans ((hbxs.block W hsxa).trans hwxa)
   have hsxt := Nat.lt_of_lt_of_le (Nat.lt_of_lt_of_le hsxa hbxs.size) hbxt.size
   refine held_take 8 (some 36) (v := ?_) rfl rfl (by kernel_rfl) (by kernel_rfl) (by kernel_rfl) (fun _ _ _ h => h) hH (Or.inl ⟨by kernel_rfl, ?_⟩) ?_
   rotate_left
   ·(intro z _; go_simp; try with_reducible rfl)
   rotate_right
   try simp only [Act.put, List.setIfInBounds_toArray, List.set_cons_zero, List.set_cons_succ]
   refine held_take 9 (some 45) (v := ?_) rfl rfl (by kernel_rfl) (by kernel_rfl) (by kernel_rfl) (fun _ _ _ h => h) hH (Or.inl ⟨by kernel_rfl, ?_⟩) ?_
   rotate_left
   ·(intro z _; go_simp; try with_reducible rfl)
   rotate_right
   try simp only [Act.put, List.setIfInBounds_toArray, List.set_cons_zero, List.set_cons_succ]
   refine held_take 10 (some 46) (v := ?_) rfl rfl (by kernel_rfl) (by kernel_rfl) (by kernel_rfl) (fun _ _ _ h => h) hH (Or.inl ⟨by kernel_rfl, ?_⟩) ?_
   rotate_left
   ·(intro z _; go_simp; try with_reducible rfl)
   rotate_right
   try simp only [Act.put, List.setIfInBounds_toArray, List.set_cons_zero, List.set_cons_succ]
   refine held_take 11 (some 47) (v := ?_) rfl rfl (by kernel_rfl) (by kernel_rfl) (by kernel_rfl) (fun _ _ _ h => h) hH (Or.inl ⟨by kernel_rfl, ?_⟩) ?_
   rotate_left
   ·(intro z _; go_simp; try with_reducible rfl)
   rotate_right
   try simp only [Act.put, List.setIfInBounds_toArray, List.set_cons_zero, List.set_cons_succ]
   obtain ⟨Zw, hZw⟩ : ∃ Z, (celL c slw).toArray = Z := ⟨_, rfl⟩
   rw [hZw]
   have sizw : (Tryz.prog.info? 34).map (·.size) = some Zw.size := hZw ▸ cel_size _ _
   have syzw : Y.size = Zw.size := by rw [← hZw, ← HY.out]; rfl
   have onew : Zw.all (·.oneCell') = true := hZw ▸ cel_one _ _ fun i hi => (hsl i hi).one
   refine wpAnyH_ready (rs := [13]) (by kernel_rfl) (by simp) ?_
   refine AllReadyH.cons rfl (fun K hK => ?_) AllReadyH.nil
   refine (if_pos (by kernel_rfl)).mpr ?_
   refine wp_store_row 34 _ _ rfl W Zw rfl rfl 34 Y hwxt sizw syzw onew ?_
   obtain ⟨x7, hx7⟩ : ∃ z, xt.setRow W Zw = z := ⟨_, rfl⟩
   have hg7 : xt.grownBy x7 (some W) := by rw [← hx7]; exact ⟨rfl, rfl, rfl, by simp, fun k _ hk => setRow_other _ _ _ _ (by intro e; exact hk (by rw [e]))⟩
   have hw7 : x7.heap[W]? = some (.cells (celL c slw).toArray 34 (0, 0)) := by rw [hZw, ← hx7]; exact setRow_heap _ _ _ _ _ _ hwxt
   have hB7 := hBxt.trans ((below_set hg7 hsxt).mono (by omega))
   have HWW := Lib.hid (show WwAt x3 x7 D W c slw from ⟨hB7, hw7, ⟨hDW, Nat.lt_of_lt_of_le hsxt hg7.size⟩, fun i hi => ((hsl i hi).moved (Moved.grown hg7 (.inl rfl) : Moved W W _ _) (Nat.lt_of_lt_of_le hsxa hbxs.size) (Nat.lt_of_lt_of_le hsxa hbxs.size)).from (Nat.zero_le _)⟩)
   rw [hx7]
   refine hK.out _ _ (AT3.move (hz5 ▸ hB7)) (fun hH2 => ?_)
   clear hK K hH hx7 hg7 hw7
   have hH := hH2
   clear hH2
   refine held_take 14 (some 11) (v := ?_) rfl rfl (by kernel_rfl) (by kernel_rfl) (by kernel_rfl) (fun _ _ _ h => h) hH (Or.inl ⟨by kernel_rfl, ?_⟩) ?_
   rotate_left
   ·(intro z _; go_simp; try with_reducible rfl)
   rotate_right
   try simp only [Act.put]
   refine held_take 15 (some 12) (v := ?_) rfl rfl (by kernel_rfl) (by kernel_rfl) (by kernel_rfl) (fun _ _ _ h => h) hH (Or.inl ⟨by kernel_rfl, ?_⟩) ?_
   rotate_left
   ·(intro z _; go_simp; try with_reducible rfl)
   rotate_right
   try simp only [Act.put]
   refine wpAnyH_done (by kernel_rfl) ?_ _
   clear hH
   obtain ⟨pw, nw, kw, hclw, hciw⟩ := slat_in HWW.out.sl (fun i _ => HLEN.out i)
   have hwant := HWW.out.want
   rw [hclw] at hwant
   have hbw := HWW.out.below
   have hltw := HWW.out.lt
   have L7 := AT3.move (hz5 ▸ hbw)
   obtain ⟨Zw2, hZw2⟩ : ∃ Z, (celL c fun i => .slice (pw i) (nw i) (kw i)).toArray = Z := ⟨_, rfl⟩
   rw [hZw2] at hwant
   have sizw2 : (Tryz.prog.info? 34).map (·.size) = some Zw2.size := hZw2 ▸ cel_size _ _
   have HZW := Lib.hid hZw2
   have HCIW := Lib.hid hciw
   have HL7 := Lib.hid L7
   obtain ⟨e0, e1, e2, e3⟩ := HC1.out x7 L7
   have hcel7 := L7.cel
   have hsame := fun z (h1 : CelIn z c p n) (h2 : CelIn z c pw nw) => celsame_page c c p pw n nw cap kw z h1 h2
   rw [HZ.out, hZw2, celB_self] at hsame
   have HSAME := Lib.hid hsame
   have hsz7 := L7.lt
   clear hZw hZw2 hclw hciw L7 hbw sizw syzw onew hsame
   go_wp2_with fail
   refine (ctake_nil inter x y _).mono ?_
   rintro e x8 ⟨rfl, hb8⟩
   rw [HY.out]
   obtain ⟨x9, hx9⟩ : ∃ z, x8.alloc (.cells Y 34 (0, 0)) = z := ⟨_, rfl⟩
   have hb79 : Below x7.heap.size x7 x9 := by rw [← hx9]; exact hb8.alloc hb8.size _
   have L9 := HL7.out.move hb79
   have hciw9 := HCIW.out.below hb79
   have hwant9 := (hb79.block W hltw.2).trans hwant
   have hcel9 := L9.cel
   have hci9 := L9.ci
   have HX9 := Lib.hid hx9
   have HSY : (Tryz.prog.info? 34).map (·.size) = some Y.size := HY.out ▸ cel_size _ _
   have HOY : Y.all (·.oneCell') = true := HY.out ▸ cel_one _ _ fun _ _ => rfl
   have hs9 := HSAME.out x9 hci9 hciw9
   have g2 : (f == f) = true := by simp
   have g3 : ((q : Int) == (q : Int)) = true := by simp
   clear hb8 hx9 hb79 e0 e1 e2 e3 hcel7 hwant
   go_wp2_with (first | (with_reducible refine wp_store_fresh rfl 34 _ _ rfl Y Y 34 rfl rfl HSY rfl HOY ?_; rw [HX9.out]) | (with_reducible refine wpList_load_row rfl 34 _ rfl D rfl 34 Z (0, 0) _ hcel9 Tryz.underlying34 rfl siz ?_) | (with_reducible refine wpList_load_row rfl 34 _ rfl W rfl 34 Zw2 (0, 0) _ hwant9 Tryz.underlying34 rfl sizw2 ?_))
   refine hs9.mono ?_
   rintro e x10 ⟨rfl, hb10⟩
   have L10 := L9.move hb10
   go_wp2_with fail
   refine (at_code _ _ _ _ L10.rd).mono ?_
   rintro e x11 ⟨rfl, rfl⟩
   go_wp2_with fail
   refine (lives21 _ (HTH.out _ L10.below (by have := L10.lt; omega))).mono ?_
   rintro e x11 ⟨rfl, hb11⟩
   go_wp2
   go_ret
   exact ⟨rfl, by rw [HB.out]; exact HBX.out _ (L10.move hb11).below⟩
 ·have hn : from_ < 0 ∨ 8 * (s.size : Int) < from_ := by omega
  clear hfr
  go_enter Tryz.func3, Tryz.ntmps3
  go_wp2_with fail
  rw [HWA.out, HB.out, HWB.out]
  refine (rnew_code _ _).mono ?_
  rintro e w1 ⟨rfl, rfl⟩
  rw [HX0.out, hzB]
  go_wp2_with fail
  refine (seek_not _ _ _ _ from_ hr0 hn).mono ?_
  rintro e x1 ⟨rfl, rfl⟩
  go_wp2_with fail
  refine (lives21 _ (HTH.out _ hb1 hz1)).mono ?_
  rintro e w' ⟨rfl, hb⟩
  go_wp2
  go_ret
  exact ⟨rfl, by rw [HB.out]; exact HBX.out _ (hb1.trans (hb.mono hz1))⟩
theorem cellinTakes_own : ownKnob Tryz.prog.godebug = none := by kernel_rfl
theorem cellinTakes_laid : laidOutB Tryz.prog = true := by kernel_rfl
theorem cellinTakes_reads : Tryz.f3.params.toList.all (fun t => Tryz.prog.readableRec t && decide (t < Tryz.prog.types.size)) = true := by kernel_rfl
set_option maxRecDepth 100000 in
theorem cellinTakes_lifted (os : Os) (started : os.Started) (H : Type) (enc : TypeId × Value → H) :
  ReturnsInHanded {} Tryz.checked os 3 .any (fun w args => (Rows.cellinTakesSpec.pre enc Tryz.prog Tryz.f3 Rows.cellinTakesRow.domain false w args ∧ laidMetH Tryz.prog Rows.cellinTakesRow.laid w) ∧ sizedMet enc Tryz.prog Tryz.f3 (OpenSpec.ofChange Rows.cellinTakesSpec) false w args)
   (Rows.cellinTakesSpec.post enc Tryz.prog Tryz.f3 false true false false) := by
 refine returnsInHanded_of_change_and (C := Tryz.checked) (X := fun w _ => laidMetH Tryz.prog Rows.cellinTakesRow.laid w) (fun _ _ _ hh h => h.of_heap hh) cellinTakes_own started (by kernel_rfl) Tryz.func3
  (ChangeSpec.witness_shaped (enc := enc) (C := Tryz.checked) (os := os) (X := fun w _ => laidMetH Tryz.prog Rows.cellinTakesRow.laid w) false (World.laidAll Tryz.prog os Rows.cellinTakesRow.laid) #[.string ⟨#[]⟩, .agg #[.int .i64 0, .bool false], .agg #[.int .i64 0, .int .i64 0]] 8 (World.laidAll_os _ _ _)
   (World.shaped_of_ZipB (by kernel_rfl) (by kernel_rfl)) (by kernel_rfl) (by kernel_rfl) (by kernel_rfl)
   (by rw [MakeChecks.laidMetH_plain _ _ _ (by kernel_rfl)]; exact laidMet_laidAll _ (by kernel_rfl) (by kernel_rfl))) ?_
 intro W base args ds gs before hval0 hW _ hsz0 hL _
 have hval : ∀ (j : Nat) t v, Tryz.f3.params[j]? = some t → args[j]? = some v → Value.okWide Tryz.prog W .any base t v := hval0
 have hW' := hW
 obtain ⟨p, q, hA0, hV, rfl, hfz, hnd⟩ := hW
 have hA : DataW.TrodAll enc Tryz.prog W 0 (fun _ => true) true Tryz.f3.params.toList args.toList ds p := hA0
 rw [Tryz.params3] at hA hval
 obtain ⟨v0, vs0, d0, ds0, p0, q0, hargs, rfl, rfl, h0, r0⟩ := trodAll_cons hA
 obtain ⟨v1, vs1, d1, ds1, p1, q1, rfl, rfl, rfl, h1, r1⟩ := trodAll_cons r0
 obtain ⟨v2, vs2, d2, ds2, p2, q2, rfl, rfl, rfl, h2, r2⟩ := trodAll_cons r1
 obtain ⟨rfl, rfl, rfl⟩ := trodAll_nil r2
 obtain rfl : args = #[v0, v1, v2] := by cases args; simp_all
 obtain ⟨rfl, rfl⟩ := trodVars_none hV
 obtain ⟨a0, rfl, rfl, rfl, w0⟩ := Go.ChangeMaps.open_string Tryz.underlying9 (hval 0 9 v0 rfl rfl) h0
 have z0 : a0.size ≤ 140737488355328 := Nat.le_trans (sized_string hsz0 (j := 0) rfl rfl) (Nat.le_of_lt reachBytes_lt)
 obtain ⟨a1, b1, rfl, w1⟩ := open_how Tryz.underlying23 Tryz.underlying3 Tryz.underlying4 rfl rfl rfl rfl (by kernel_rfl) (by kernel_rfl) (by kernel_rfl) (hval 1 23 v1 rfl rfl) h1
 obtain ⟨a2, b2, rfl, w2, x2⟩ := open_two Tryz.underlying24 Tryz.underlying3 (by kernel_rfl) (by kernel_rfl) (hval 2 24 v2 rfl rfl) h2
 clear hA0 hval0
 refine (cellinTakes_walk a0 a1 b1 a2 b2 W w0 z0 w1 w2 x2 (cel_laid hL ⟨by simp [Rows.cellinTakesRow], by kernel_rfl⟩)).mono fun e W' ⟨he, hb⟩ => ?_
 subst he
 exact ⟨_, rfl, law_end cellinTakes_laid cellinTakes_reads rfl Tryz.underlying4 rfl hW' rfl hb⟩
theorem cellinTakes_over : Rows.cellinTakesRow.holds Tryz.pinned (OpenSpec.ofChange Rows.cellinTakesSpec) :=
 OpenClaim.holds_of_wide 3 Tryz.f3 rfl rfl rfl rfl rfl rfl rfl ⟨rfl, rfl, rfl, rfl, rfl⟩ rfl rfl rfl rfl rfl (by kernel_rfl) Tryz.func3 (by kernel_rfl)
  (of_decide_eq_true (by kernel_rfl)) (by unfold Func.isWrapper; first | (rw [if_pos (by decide +kernel)]; kernel_rfl) | (rw [if_neg (by decide +kernel)]; exact ⟨rfl, rfl⟩))
  (fun os started H enc _ => cellinTakes_lifted os started H enc)
theorem cellinTakes_holds : Rows.CellinTakesCardSaid :=
 Claim7.holds_tied_plain_at .later [] [.data, .data, .data, .data, .data, .data, .data, .data, .data, .data, .data, .pinned] true Rows.cellinTakesCard.stood.harness false cellinTakes_over (fun _ h => by cases h) (by kernel_rfl) (fun _ h => by cases h) cellinTakes_row_tie rfl ⟨rfl, rfl⟩ (by kernel_rfl) rfl
  (fun f fn hf hfn => by
   obtain rfl : f = 3 := Option.some.inj ((show Tryz.prog.funcNamed "overspill/overspilllaw21.CellinTakes" = some 3 by kernel_rfl).symm.trans hf) |>.symm
   obtain rfl : fn = Tryz.f3 := (Option.some.inj (Tryz.func3.symm.trans hfn)).symm
   exact ⟨by kernel_rfl, fun j t ht => by
    rw [Tryz.params3] at ht
    have hm : t ∈ [9, 23, 24] := by simpa using Array.mem_of_getElem? ht
    have hall : ([9, 23, 24].all fun u => !Tryz.prog.wantsStandIn u) = true := by kernel_rfl
    exact (show Tryz.prog.wantsStandIn t = false by simpa using List.all_eq_true.1 hall t hm)⟩)
  (by kernel_rfl)
#print axioms cellinTakes_holds
end Go.Proofs.YtbgncbhkjndelaaGreatDoor
