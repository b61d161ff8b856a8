/- A cell that is read at any bit of any text may be, and is written as just these bits. Conditions: none but the law's own (texts of up to 500 bytes), and the card's: what the listed variables hold when the call begins. -/
import Derived.Test.YtekjgcchnmnplaaGreatDoorCelloutOnceMl
import Derived.Test.YtekjgcchnmnplaaGreatDoorCelloutOnceMq
import Derived.Test.YtekjgcchnmnplaaGreatDoorCelloutOnceMt
import Derived.Test.YtekjgcchnmnplaaGreatDoorCelloutOnceMbc
import Derived.Test.YtekjgcchnmnplaaGreatDoorCelloutOnceMbg
import Derived.Test.YtekjgcchnmnplaaGreatDoorCelloutOnceMbr
import Derived.Test.YtekjgcchnmnplaaGreatDoorCelloutOnceMbs
import Derived.Test.YtekjgcchnmnplaaGreatDoorCards
import Derived.Test.YtekjgcchnmnplaaGreatDoorTie
import Derived.RegionTactic
import Derived.ProofKit
import Derived.LaidMore
import Derived.OpenShut
import Derived.Lay
import Derived.SizedLaws
import Derived.SevenTiedAt
import Derived.Stop.Joined
namespace Go.Proofs.YtekjgcchnmnplaaGreatDoor
open Go.ChangeShapes Go.WideShapes Go.ChangeAt Go.RowKit
set_option linter.unusedVariables false
theorem cut_any (s : ByteArray) (a b : Nat) : (s.extract a b).data.toList = (s.data.toList.drop a).take (b - a) := by
 rw [ByteArray.data_extract, Array.toList_extract]
theorem ctk_bad {inter : Bool} {S : List UInt8} {x y : Int} {p q : Nat} {c : Cel} {f : Int} (h : ctk inter S x y p = (c, q, f)) (hf : f ≠ 0) : q = p := by
 unfold ctk at h
 split at h
 ·simp only [Prod.mk.injEq] at h
  exact absurd h.2.2.symm hf
 ·simp only [Prod.mk.injEq] at h
  exact h.2.1.symm
set_option maxRecDepth 100000 in
set_option maxHeartbeats 4000000 in
theorem celloutOnce_walk (s h : ByteArray) (inter : Bool) (x y : Int) (w : World) (hss : s.size ≤ maxLen) (hz : s.size ≤ 140737488355328) (hhs : h.size ≤ maxLen) (wx : (Lit.int .i64 x).wf = true) (wy : (Lit.int .i64 y).wf = true) (ht : TabsLo w.heap.size w) :
  Calls Tryz.prog 4 #[.string s, .agg #[.string h, .bool inter], .agg #[.int .i64 x, .int .i64 y]] w fun e w' => e = .returned (.bool true) ∧ Below w.heap.size w w' := by
 unfold maxLen at hss hhs
 obtain ⟨B, wA, wB, hB, hwA, hwB, hzA, hzB, hC0, hC1, hbB⟩ := laid2 w (.cells #[.string h, .bool inter] 29 (0, 0)) (.cells #[.int .i64 x, .int .i64 y] 22 (0, 0))
 rw [hB] at ht
 have CELLS := Lib.hid (fun (z : World) (hx : Below (B + 2) wB z) => (by
  have h0 := (hx.block B (by omega)).trans hC0
  have h1 := (hx.block (B + 1) (by omega)).trans hC1
  exact ⟨part_cells (cs := [.string h, .bool inter]) h0 rfl, part_cells (cs := [.string h, .bool inter]) h0 rfl, part_cells (cs := [.int .i64 x, .int .i64 y]) h1 rfl, part_cells (cs := [.int .i64 x, .int .i64 y]) h1 rfl⟩ : z.cell? ⟨B, 0, none⟩ = some (.string h) ∧ z.cell? ⟨B, 1, none⟩ = some (.bool inter) ∧ z.cell? ⟨B + 1, 0, none⟩ = some (.int .i64 x) ∧ z.cell? ⟨B + 1, 1, none⟩ = some (.int .i64 y)))
 have HT := Lib.hid (fun (z : World) (hx : Below (B + 2) wB z) => (ht.below (hbB.trans (hx.mono (by omega))) : TabsLo B z))
 have HTH := Lib.hid (fun (z : World) (hx : Below (B + 2) wB z) => (by
  have h := ht.below (hbB.trans (hx.mono (by omega)))
  exact TabsLo.here h.pats h.mvd h.steps h.tcoef : TabsLo z.heap.size z))
 have HBX := Lib.hid (fun (z : World) (hx : Below (B + 2) wB z) => (hbB.trans (hx.mono (by omega)) : Below B w z))
 have hb0 : Below (B + 2) wB wB := Below.refl _ _
 have HB := Lib.hid hB
 have HWA := Lib.hid hwA
 have HWB := Lib.hid hwB
 obtain ⟨x0, hx0⟩ : ∃ x0, wB.alloc (rdObj s 0) = x0 := ⟨_, rfl⟩
 have hr0 : IsRd x0 (B + 2) s 0 := by rw [← hx0]; exact IsRd.fresh hzB hz
 have hb1 : Below (B + 2) wB x0 := by rw [← hx0]; exact hb0.alloc (by omega) _
 have hz1 : B + 2 ≤ x0.heap.size := by rw [← hx0]; simp; omega
 have hz1' : B + 2 < x0.heap.size := by rw [← hx0]; simp; omega
 have HX0 := Lib.hid hx0
 obtain ⟨d0, d1, d2, d3⟩ := CELLS.out _ hb1
 clear hB hwA hwB hbB ht hC0 hC1 hx0 hb0
 by_cases h500 : 500 < s.size
 ·have t0 : decide (500 < (s.size : Int)) = true := by simp; omega
  clear h500
  go_enter Tryz.func4, Tryz.ntmps4
  go_wp2_with fail
  rw [HWA.out, HB.out, HWB.out]
  refine (rnew_code _ _).mono ?_
  rintro e w1 ⟨rfl, rfl⟩
  rw [HX0.out, hzB]
  go_wp2_with fail
  refine (lives22 _ (HTH.out _ hb1)).mono ?_
  rintro e w' ⟨rfl, hb⟩
  go_wp2
  go_ret
  exact ⟨rfl, by rw [HB.out]; exact HBX.out _ (hb1.trans (hb.mono hz1))⟩
 have t0 : decide (500 < (s.size : Int)) = false := by simp; omega
 by_cases hfr : h.size ≤ 8 * s.size
 ·go_enter Tryz.func4, Tryz.ntmps4
  go_wp2_with fail
  rw [HWA.out, HB.out, HWB.out]
  refine (rnew_code _ _).mono ?_
  rintro e w1 ⟨rfl, rfl⟩
  rw [HX0.out, hzB]
  go_wp2_with fail
  refine (seek_code _ _ _ _ (h.size : Int) hr0 (by omega) (by omega)).mono ?_
  rintro e x1 ⟨rfl, hr1, hg1⟩
  rw [Int.toNat_natCast] at hr1
  obtain ⟨hb2, hz2⟩ := below_ownP hb1 hz1 hg1 (Nat.le_refl _)
  obtain ⟨c0, c1, c2, c3⟩ := CELLS.out _ hb2
  have ct := ctake_code (N := B) inter x y (HT.out _ hb2) (by omega) hr1
  have hz2' : B + 2 < x1.heap.size := hr1.lt
  obtain ⟨Y, hY⟩ : ∃ Y : Array Value, (celL celZ nilS).toArray = Y := ⟨_, rfl⟩
  have hzv : ∀ w, (zeroValue 27).run Tryz.prog w = .ok (.agg Y) w := by rw [← hY]; exact cel_zero
  have HY := Lib.hid hY
  clear hr0 hg1 hb1 hz1 hz1' d0 d1 d2 d3 hY
  go_wp2_with fail
  refine ct.mono ?_
  rintro e x2 ⟨c, q, f, sl, hk, rfl, hs, hr3, hg3⟩
  obtain ⟨hb4, hz4⟩ := below_ownP hb2 hz2 hg3 (Nat.le_refl _)
  obtain ⟨p, n, cap, hcl, hci⟩ := slat_in hs (fun i _ => by have h := ctk_len inter (showL s.data.toList) x y h.size i; rw [hk] at h; exact h)
  rw [hcl]
  obtain ⟨Z, hZ⟩ : ∃ Z, (celL c fun i => .slice (p i) (n i) (cap i)).toArray = Z := ⟨_, rfl⟩
  rw [hZ]
  have siz : (Tryz.prog.info? 27).map (·.size) = some Z.size := hZ ▸ cel_size _ _
  have syz : Y.size = Z.size := by rw [← hZ, ← HY.out]; rfl
  have one : Z.all (·.oneCell') = true := hZ ▸ cel_one _ _ fun i hi => rfl
  obtain ⟨D, hD⟩ : ∃ D, x2.heap.size = D := ⟨_, rfl⟩
  obtain ⟨x3, hx3⟩ : ∃ u, x2.alloc (.cells Z 27 (0, 0)) = u := ⟨_, rfl⟩
  have hb23 : Below D x2 x3 := by rw [← hx3, ← hD]; exact (Below.refl _ x2).alloc (Nat.le_refl _) _
  have hb5 : Below (B + 2) wB x3 := hb4.trans (hb23.mono (by omega))
  have hz5 : x3.heap.size = D + 1 := by rw [← hx3, ← hD]; simp
  have hr5 : IsRd x3 (B + 2) s q := hr3.below (hD ▸ hb23)
  have hci5 : CelIn x3 c p n := hci.below (hD ▸ hb23)
  have hcel : x3.heap[D]? = some (.cells Z 27 (0, 0)) := by rw [← hx3, ← hD]; exact heap_alloc_new x2 _
  have hDB : B + 3 ≤ D := by have := hg3.size; omega
  obtain ⟨d0, d1, d2, d3⟩ := CELLS.out _ hb5
  have HZ := Lib.hid hZ
  have HD := Lib.hid hD
  have HX3 := Lib.hid hx3
  clear hZ hD hx3 hb23 hs hr3 hg3 hb4 hz4 hci ct hb2 hz2 hz2' hr1 hcl c0 c1 c2 c3
  by_cases hf : f = 0
  ·subst hf
   obtain ⟨hseg, hmay⟩ := ctk_once (showL_row _) (by rw [showL_length]; have : s.data.toList.length = s.size := rfl; omega) hk
   have hml := may_len hmay x y
   obtain ⟨sg1, sg2, sg3⟩ := hseg
   rw [showL_length] at sg2
   have hsd : s.data.toList.length = s.size := rfl
   obtain ⟨x4, hx4⟩ : ∃ x4, x3.alloc newWr = x4 := ⟨_, rfl⟩
   have hw4 : IsWr x4 (D + 2) (D + 1) [] := by rw [← hx4]; exact IsWr.fresh hz5 (Nat.lt_succ_self _)
   have hb34 : Below (D + 1) x3 x4 := by rw [← hx4, ← hz5]; exact (Below.refl _ x3).alloc (Nat.le_refl _) _
   have hz4 : x4.heap.size = D + 2 := by rw [← hx4]; simp; omega
   have hbig := fun z (hz : x4.grownBy z (some (D + 1))) => (hb34.trans (grown_low hz (Nat.le_refl _) (by omega)) : Below (D + 1) x3 z)
   have hput := cput_ok inter x y c p n cap (D + 2) (D + 1) [] x4 hw4 (by simp) (by omega) (fun z hz => ⟨HTH.out z (hb5.trans ((hbig z hz).mono (by omega))), hci5.below (hz5 ▸ hbig z hz)⟩) hmay
   rw [List.nil_append, HZ.out] at hput
   have HX4 := Lib.hid hx4
   have hrr := celRow_row inter x y c
   obtain ⟨r, hr⟩ : ∃ r, celRow inter x y c = r := ⟨_, rfl⟩
   rw [hr] at hput hml sg3 hrr
   obtain ⟨e0, e1, e2, e3⟩ := CELLS.out _ (hb5.trans (hb34.mono (by omega)))
   have hcel4 := (hb34.block D (by omega)).trans hcel
   clear hx4 hr
   go_wp2_with (with_reducible refine wp_store_fresh rfl 27 _ _ rfl Z Y 27 rfl rfl siz syz one ?_; rw [HX3.out, HD.out])
   refine (new_code _).mono ?_
   rintro e x4' ⟨rfl, rfl⟩
   rw [HX4.out, hz5]
   go_wp2_with (with_reducible refine wpList_load_row rfl 27 _ rfl D rfl 27 Z (0, 0) _ hcel4 Tryz.underlying27 rfl siz ?_)
   refine hput.mono ?_
   rintro e x5 ⟨rfl, hw5, hg5⟩
   have hb35 := hbig x5 hg5
   have hz5' : D + 2 ≤ x5.heap.size := by have := hg5.size; omega
   have hrd5 : IsRd x5 (B + 2) s q := hr5.under hb35 (by omega)
   have hci6 : CelIn x5 c p n := hci5.below (hz5 ▸ hb35)
   have hcel5 := (hb35.block D (by omega)).trans hcel
   have hbB5 := hb5.trans (hb35.mono (by omega))
   have hps : (⟨(packL r).toArray⟩ : ByteArray).size ≤ 1048576 := by rw [size_mk, packL_length]; omega
   have hsh1 := fun z => show_page (⟨(packL r).toArray⟩ : ByteArray) hps z
   rw [show_pack r hrr] at hsh1
   have hsh2 := fun z => show_page s (by omega) z
   have hpad : (padL r).take r.length = r := by unfold padL; exact List.take_left
   have hple : r.length ≤ (padL r).length := by rw [padL_length]; omega
   obtain ⟨X, hX⟩ : ∃ X : ByteArray, ⟨r.toArray⟩ = X := ⟨_, rfl⟩
   have hlq : r.length = q - h.size := by rw [← sg3, List.length_take, List.length_drop, showL_length]; omega
   have hcut1 : (⟨(padL r).toArray⟩ : ByteArray).extract 0 r.length = X := by
    rw [← hX]
    refine ba_eq.2 ?_
    rw [cut_any]
    simp only [List.drop_zero, Nat.sub_zero]
    exact hpad
   have hcut2 : (⟨(showL s.data.toList).toArray⟩ : ByteArray).extract h.size q = X := by
    rw [← hX]
    refine ba_eq.2 ?_
    rw [cut_any]
    exact sg3
   have hU : (⟨(padL r).toArray⟩ : ByteArray).size = (padL r).length := by rw [size_mk]
   have hV : (⟨(showL s.data.toList).toArray⟩ : ByteArray).size = 8 * s.size := by rw [size_mk, showL_length]; rfl
   have hlen := fun z (hz : Below x5.heap.size x5 z) => len_code z _ _ _ (hw5.below hz)
   have htxt := fun z (hz : Below x5.heap.size x5 z) => text_code z _ _ _ (hw5.below hz) (by omega)
   have hat := fun z (hz : Below x5.heap.size x5 z) => at_code z _ _ _ (hrd5.below hz)
   have hrig := fun z (hz : Below x5.heap.size x5 z) => cright_code inter c p n cap z (hci6.below hz) (HTH.out z (hbB5.trans (hz.mono (by omega)))).tcoef (HTH.out z (hbB5.trans (hz.mono (by omega)))).steps
   rw [hmay, HZ.out] at hrig
   generalize (⟨(packL r).toArray⟩ : ByteArray) = P at hsh1 htxt
   generalize (⟨(padL r).toArray⟩ : ByteArray) = U at hsh1 hcut1 hU
   generalize (⟨(showL s.data.toList).toArray⟩ : ByteArray) = V at hsh2 hcut2 hV
   have HHOW := Lib.hid (fun z (hz : Below x5.heap.size x5 z) => ((CELLS.out z (hbB5.trans (hz.mono (by omega)))).2.1 : z.cell? ⟨B, 1, none⟩ = some (.bool inter)))
   have HCZ := Lib.hid (fun z (hz : Below x5.heap.size x5 z) => ((hz.block D (by omega)).trans hcel5 : z.heap[D]? = some (.cells Z 27 (0, 0))))
   have RI := Lib.hid (fun z (hz : Below x5.heap.size x5 z) => ((hrig z hz).mono fun e y h => ⟨h.1, hz.trans (h.2.mono hz.size)⟩ : Calls Tryz.prog 11 #[.bool inter, .agg Z] z fun e y => e = .returned (.bool true) ∧ Below x5.heap.size x5 y))
   have LE := Lib.hid (fun z (hz : Below x5.heap.size x5 z) => ((hlen z hz).mono fun e y h => ⟨h.1, h.2 ▸ hz⟩ : Calls Tryz.prog 9 #[.pointer (some ⟨D + 1, 0, none⟩)] z fun e y => e = .returned (.int .i64 (r.length : Int)) ∧ Below x5.heap.size x5 y))
   have AT := Lib.hid (fun z (hz : Below x5.heap.size x5 z) => ((hat z hz).mono fun e y h => ⟨h.1, h.2 ▸ hz⟩ : Calls Tryz.prog 17 #[.pointer (some ⟨B + 2, 0, none⟩)] z fun e y => e = .returned (.int .i64 (q : Int)) ∧ Below x5.heap.size x5 y))
   have TX := Lib.hid (fun z (hz : Below x5.heap.size x5 z) => ((htxt z hz).mono fun e y h => ⟨h.1, hz.trans (h.2.mono hz.size)⟩ : Calls Tryz.prog 13 #[.pointer (some ⟨D + 1, 0, none⟩)] z fun e y => e = .returned (.string P) ∧ Below x5.heap.size x5 y))
   have SU := Lib.hid (fun z (hz : Below x5.heap.size x5 z) => ((hsh1 z).mono fun e y h => ⟨h.1, hz.trans (h.2.mono hz.size)⟩ : Calls Tryz.prog 18 #[.string P] z fun e y => e = .returned (.string U) ∧ Below x5.heap.size x5 y))
   have SV := Lib.hid (fun z (hz : Below x5.heap.size x5 z) => ((hsh2 z).mono fun e y h => ⟨h.1, hz.trans (h.2.mono hz.size)⟩ : Calls Tryz.prog 18 #[.string s] z fun e y => e = .returned (.string V) ∧ Below x5.heap.size x5 y))
   have LI := Lib.hid (fun z (hz : Below x5.heap.size x5 z) => ((lives22 z (HTH.out z (hbB5.trans (hz.mono (by omega))))).mono fun e y h => ⟨h.1, hz.trans (h.2.mono hz.size)⟩ : Calls Tryz.prog 6 #[] z fun e y => e = .returned (.bool true) ∧ Below x5.heap.size x5 y))
   have ws : IntKind.i64.wrap ((q : Int) - (h.size : Int)) = (q : Int) - (h.size : Int) := wrapN (by omega)
   have eqn : ((r.length : Int) == (q : Int) - (h.size : Int)) = true := by rw [beq_iff_eq]; omega
   have CUT1 := Lib.hid hcut1
   have CUT2 := Lib.hid hcut2
   have b1 : r.length ≤ U.size := by rw [hU]; exact hple
   have b2 : h.size ≤ q ∧ q ≤ V.size := by rw [hV]; omega
   have WS := Lib.hid ws
   have EQN := Lib.hid eqn
   have B1 := Lib.hid b1
   have B2 := Lib.hid b2
   have HEND := Lib.hid (fun z (hz : Below x5.heap.size x5 z) => (HBX.out z (hbB5.trans (hz.mono (by omega)))))
   have hbd := (Below.refl x5.heap.size x5).drew
   clear hrig hlen htxt hat hsh1 hsh2 hcut1 hcut2 hU hV hpad hple hX hlq ws eqn b1 b2 hw5 hg5 hb35 hrd5 hci6 hcel5 hbB5 hbig hput hw4 hb34 hcel4 hk hmay sg1 sg2 sg3 hml hrr hps hci5 hcel hr5 e0 e1 e2 e3 d0 d1 d2 d3 hsd
   go_wp2
   refine wp_region_calm (S := fun z => Below x5.heap.size x5 z) 35 (by kernel_rfl) (by kernel_rfl) hbd ?_
   simp only [List.take_succ_cons, List.take_zero, List.drop_succ_cons, List.drop_zero]
   iterate 4 (refine calm_value (by kernel_rfl) (fun x _ => by go_simp; try with_reducible rfl) ?_; simp only [Act.put, List.setIfInBounds_toArray, List.set_cons_zero, List.set_cons_succ])
   refine calm_cell 4 _ ⟨B, 1, none⟩ (.bool inter) (by kernel_rfl) rfl rfl (fun x hx => by have c0 := HHOW.out x hx; go_simp) ?_; simp only [Act.put, List.setIfInBounds_toArray, List.set_cons_zero, List.set_cons_succ]
   refine calm_load 27 _ D 27 Z (0, 0) _ (by kernel_rfl) rfl rfl (fun x hx => HCZ.out x hx) Tryz.underlying27 rfl siz ?_; simp only [Act.put, List.setIfInBounds_toArray, List.set_cons_zero, List.set_cons_succ]
   refine calm_call (by kernel_rfl) RI.out (fun _ => by kernel_rfl) ?_; simp only [Act.put, List.setIfInBounds_toArray, List.set_cons_zero, List.set_cons_succ]
   iterate 3 (refine calm_value (by kernel_rfl) (fun x _ => by go_simp; try with_reducible rfl) ?_; simp only [Act.put, List.setIfInBounds_toArray, List.set_cons_zero, List.set_cons_succ])
   refine calm_call (by kernel_rfl) LE.out (fun _ => by kernel_rfl) ?_; simp only [Act.put, List.setIfInBounds_toArray, List.set_cons_zero, List.set_cons_succ]
   refine calm_value (by kernel_rfl) (fun x _ => by go_simp; try with_reducible rfl) ?_; simp only [Act.put, List.setIfInBounds_toArray, List.set_cons_zero, List.set_cons_succ]
   refine calm_call (by kernel_rfl) AT.out (fun _ => by kernel_rfl) ?_; simp only [Act.put, List.setIfInBounds_toArray, List.set_cons_zero, List.set_cons_succ]
   refine calm_value (by kernel_rfl) (fun x _ => by go_simp; try with_reducible rfl) ?_; simp only [Act.put, List.setIfInBounds_toArray, List.set_cons_zero, List.set_cons_succ]
   refine calm_value (v := .int .i64 ((q : Int) - (h.size : Int))) (by kernel_rfl) (fun x _ => by have ws := WS.out; go_simp) ?_; simp only [Act.put, List.setIfInBounds_toArray, List.set_cons_zero, List.set_cons_succ]
   refine calm_value (v := .bool true) (by kernel_rfl) (fun x _ => by have e0 := EQN.out; go_simp) ?_; simp only [Act.put, List.setIfInBounds_toArray, List.set_cons_zero, List.set_cons_succ]
   iterate 3 (refine calm_value (by kernel_rfl) (fun x _ => by go_simp; try with_reducible rfl) ?_; simp only [Act.put, List.setIfInBounds_toArray, List.set_cons_zero, List.set_cons_succ])
   refine calm_call (by kernel_rfl) TX.out (fun _ => by kernel_rfl) ?_; simp only [Act.put, List.setIfInBounds_toArray, List.set_cons_zero, List.set_cons_succ]
   refine calm_call (by kernel_rfl) SU.out (fun _ => by kernel_rfl) ?_; simp only [Act.put, List.setIfInBounds_toArray, List.set_cons_zero, List.set_cons_succ]
   refine calm_value (by kernel_rfl) (fun x _ => by go_simp; try with_reducible rfl) ?_; simp only [Act.put, List.setIfInBounds_toArray, List.set_cons_zero, List.set_cons_succ]
   refine calm_call (by kernel_rfl) LE.out (fun _ => by kernel_rfl) ?_; simp only [Act.put, List.setIfInBounds_toArray, List.set_cons_zero, List.set_cons_succ]
   refine calm_value (v := .string X) (by kernel_rfl) (fun x _ => by have e1 := CUT1.out; have e2 := B1.out; go_simp) ?_; simp only [Act.put, List.setIfInBounds_toArray, List.set_cons_zero, List.set_cons_succ]
   refine calm_value (by kernel_rfl) (fun x _ => by go_simp; try with_reducible rfl) ?_; simp only [Act.put, List.setIfInBounds_toArray, List.set_cons_zero, List.set_cons_succ]
   refine calm_call (by kernel_rfl) SV.out (fun _ => by kernel_rfl) ?_; simp only [Act.put, List.setIfInBounds_toArray, List.set_cons_zero, List.set_cons_succ]
   iterate 2 (refine calm_value (by kernel_rfl) (fun x _ => by go_simp; try with_reducible rfl) ?_; simp only [Act.put, List.setIfInBounds_toArray, List.set_cons_zero, List.set_cons_succ])
   refine calm_call (by kernel_rfl) AT.out (fun _ => by kernel_rfl) ?_; simp only [Act.put, List.setIfInBounds_toArray, List.set_cons_zero, List.set_cons_succ]
   refine calm_value (v := .string X) (by kernel_rfl) (fun x _ => by have e1 := CUT2.out; have e2 := B2.out; go_simp) ?_; simp only [Act.put, List.setIfInBounds_toArray, List.set_cons_zero, List.set_cons_succ]
   refine calm_value (v := .bool true) (by kernel_rfl) (fun x _ => by go_simp; try simp) ?_; simp only [Act.put, List.setIfInBounds_toArray, List.set_cons_zero, List.set_cons_succ]
   iterate 2 (refine calm_value (by kernel_rfl) (fun x _ => by go_simp; try with_reducible rfl) ?_; simp only [Act.put, List.setIfInBounds_toArray, List.set_cons_zero, List.set_cons_succ])
   refine calm_call (by kernel_rfl) LI.out (fun _ => by kernel_rfl) ?_; simp only [Act.put, List.setIfInBounds_toArray, List.set_cons_zero, List.set_cons_succ]
   refine calm_value (by kernel_rfl) (fun x _ => by go_simp; try with_reducible rfl) ?_; simp only [Act.put, List.setIfInBounds_toArray, List.set_cons_zero, List.set_cons_succ]
   refine calm_nil fun z hz => ?_
   go_wp2
   go_ret
   exact ⟨rfl, by rw [HB.out]; exact HEND.out _ hz⟩
  ·have hq := ctk_bad hk hf
   subst hq
   have hfn : (f != 0) = true := by simpa using hf
   clear hk hf
   go_wp2_with (with_reducible refine wp_store_fresh rfl 27 _ _ rfl Z Y 27 rfl rfl siz syz one ?_; rw [HX3.out, HD.out])
   refine (at_code _ _ _ _ hr5).mono ?_
   rintro e x4 ⟨rfl, rfl⟩
   go_wp2_with fail
   refine (lives22 _ (HTH.out _ hb5)).mono ?_
   rintro e w' ⟨rfl, hb⟩
   go_wp2
   go_ret
   exact ⟨rfl, by rw [HB.out]; exact HBX.out _ (hb5.trans (hb.mono (by omega)))⟩
 ·go_enter Tryz.func4, Tryz.ntmps4
  go_wp2_with fail
  rw [HWA.out, HB.out, HWB.out]
  refine (rnew_code _ _).mono ?_
  rintro e w1 ⟨rfl, rfl⟩
  rw [HX0.out, hzB]
  go_wp2_with fail
  refine (seek_not _ _ _ _ (h.size : Int) hr0 (.inr (by omega))).mono ?_
  rintro e x1 ⟨rfl, rfl⟩
  go_wp2_with fail
  refine (lives22 _ (HTH.out _ hb1)).mono ?_
  rintro e w' ⟨rfl, hb⟩
  go_wp2
  go_ret
  exact ⟨rfl, by rw [HB.out]; exact HBX.out _ (hb1.trans (hb.mono hz1))⟩
theorem celloutOnce_own : ownKnob Tryz.prog.godebug = none := by kernel_rfl
theorem celloutOnce_laid : laidOutB Tryz.prog = true := by kernel_rfl
theorem celloutOnce_reads : Tryz.f4.params.toList.all (fun t => Tryz.prog.readableRec t && decide (t < Tryz.prog.types.size)) = true := by kernel_rfl
set_option maxRecDepth 100000 in
theorem celloutOnce_lifted (os : Os) (started : os.Started) (H : Type) (enc : TypeId × Value → H) :
  ReturnsInHanded {} Tryz.checked os 4 .any (fun w args => (Rows.celloutOnceSpec.pre enc Tryz.prog Tryz.f4 Rows.celloutOnceRow.domain false w args ∧ laidMetH Tryz.prog Rows.celloutOnceRow.laid w) ∧ sizedMet enc Tryz.prog Tryz.f4 (OpenSpec.ofChange Rows.celloutOnceSpec) false w args)
   (Rows.celloutOnceSpec.post enc Tryz.prog Tryz.f4 false true false false) := by
 refine returnsInHanded_of_change_and (C := Tryz.checked) (X := fun w _ => laidMetH Tryz.prog Rows.celloutOnceRow.laid w) (fun _ _ _ hh h => h.of_heap hh) celloutOnce_own started (by kernel_rfl) Tryz.func4
  (ChangeSpec.witness_shaped (enc := enc) (C := Tryz.checked) (os := os) (X := fun w _ => laidMetH Tryz.prog Rows.celloutOnceRow.laid w) false (World.laidAll Tryz.prog os Rows.celloutOnceRow.laid) #[.string ⟨#[]⟩, .agg #[.string ⟨#[]⟩, .bool false], .agg #[.int .i64 0, .int .i64 0]] 8 (World.laidAll_os _ _ _)
   (World.shaped_of_ZipB (by kernel_rfl) (by kernel_rfl)) (by kernel_rfl) (by kernel_rfl) (by kernel_rfl)
   (by rw [MakeChecks.laidMetH_plain _ _ _ (by kernel_rfl)]; exact laidMet_laidAll _ (by kernel_rfl) (by kernel_rfl))) ?_
 intro W base args ds gs before hval0 hW _ hsz0 hL _
 have hval : ∀ (j : Nat) t v, Tryz.f4.params[j]? = some t → args[j]? = some v → Value.okWide Tryz.prog W .any base t v := hval0
 have hW' := hW
 obtain ⟨p, q, hA0, hV, rfl, hfz, hnd⟩ := hW
 have hA : DataW.TrodAll enc Tryz.prog W 0 (fun _ => true) true Tryz.f4.params.toList args.toList ds p := hA0
 rw [Tryz.params4] at hA hval
 obtain ⟨v0, vs0, d0, ds0, p0, q0, hargs, rfl, rfl, h0, r0⟩ := trodAll_cons hA
 obtain ⟨v1, vs1, d1, ds1, p1, q1, rfl, rfl, rfl, h1, r1⟩ := trodAll_cons r0
 obtain ⟨v2, vs2, d2, ds2, p2, q2, rfl, rfl, rfl, h2, r2⟩ := trodAll_cons r1
 obtain ⟨rfl, rfl, rfl⟩ := trodAll_nil r2
 obtain rfl : args = #[v0, v1, v2] := by cases args; simp_all
 obtain ⟨rfl, rfl⟩ := trodVars_none hV
 obtain ⟨a0, rfl, rfl, rfl, w0⟩ := Go.ChangeMaps.open_string Tryz.underlying9 (hval 0 9 v0 rfl rfl) h0
 have z0 : a0.size ≤ 140737488355328 := Nat.le_trans (sized_string hsz0 (j := 0) rfl rfl) (Nat.le_of_lt reachBytes_lt)
 obtain ⟨a1, b1, rfl, w1⟩ := open_hows Tryz.underlying29 Tryz.underlying9 Tryz.underlying4 rfl rfl rfl rfl (by kernel_rfl) (by kernel_rfl) (by kernel_rfl) (hval 1 29 v1 rfl rfl) h1
 obtain ⟨a2, b2, rfl, w2, x2⟩ := open_two Tryz.underlying22 Tryz.underlying3 (by kernel_rfl) (by kernel_rfl) (hval 2 22 v2 rfl rfl) h2
 clear hA0 hval0
 refine (celloutOnce_walk a0 a1 b1 a2 b2 W w0 z0 w1 w2 x2 (cel_laid hL ⟨by simp [Rows.celloutOnceRow], by kernel_rfl⟩)).mono fun e W' ⟨he, hb⟩ => ?_
 subst he
 exact ⟨_, rfl, law_end celloutOnce_laid celloutOnce_reads rfl Tryz.underlying4 rfl hW' rfl hb⟩
theorem celloutOnce_over : Rows.celloutOnceRow.holds Tryz.pinned (OpenSpec.ofChange Rows.celloutOnceSpec) :=
 OpenClaim.holds_of_wide 4 Tryz.f4 rfl rfl rfl rfl rfl rfl rfl ⟨rfl, rfl, rfl, rfl, rfl⟩ rfl rfl rfl rfl rfl (by kernel_rfl) Tryz.func4 (by kernel_rfl)
  (of_decide_eq_true (by kernel_rfl)) (by unfold Func.isWrapper; first | (rw [if_pos (by decide +kernel)]; kernel_rfl) | (rw [if_neg (by decide +kernel)]; exact ⟨rfl, rfl⟩))
  (fun os started H enc _ => celloutOnce_lifted os started H enc)
theorem celloutOnce_holds : Rows.CelloutOnceCardSaid :=
 Claim7.holds_tied_plain_at .later [] [.data, .data, .data, .data, .data, .data, .data, .data, .data, .data, .data, .pinned] true Rows.celloutOnceCard.stood.harness false celloutOnce_over (fun _ h => by cases h) (by kernel_rfl) (fun _ h => by cases h) celloutOnce_row_tie rfl ⟨rfl, rfl⟩ (by kernel_rfl) rfl
  (fun f fn hf hfn => by
   obtain rfl : f = 4 := Option.some.inj ((show Tryz.prog.funcNamed "overspill/overspilllaw22.CelloutOnce" = some 4 by kernel_rfl).symm.trans hf) |>.symm
   obtain rfl : fn = Tryz.f4 := (Option.some.inj (Tryz.func4.symm.trans hfn)).symm
   exact ⟨by kernel_rfl, fun j t ht => by
    rw [Tryz.params4] at ht
    have hm : t ∈ [9, 29, 22] := by simpa using Array.mem_of_getElem? ht
    have hall : ([9, 29, 22].all fun u => !Tryz.prog.wantsStandIn u) = true := by kernel_rfl
    exact (show Tryz.prog.wantsStandIn t = false by simpa using List.all_eq_true.1 hall t hm)⟩)
  (by kernel_rfl)
#print axioms celloutOnce_holds
end Go.Proofs.YtekjgcchnmnplaaGreatDoor
