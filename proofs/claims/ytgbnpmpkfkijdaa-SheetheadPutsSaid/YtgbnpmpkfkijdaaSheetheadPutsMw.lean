/- Texts that SheetheadPuts's proof stands on, part 23 of 23. No condition of its own. -/
import Derived.Test.YtgbnpmpkfkijdaaSheetheadPutsMr
import Derived.Test.YtgbnpmpkfkijdaaSheetheadPutsMu
import Derived.Test.YtgbnpmpkfkijdaaSheetheadPutsMv
import Derived.RegionTactic
import Derived.Deep.RegionWith
import Derived.Deep.CutRange
import Derived.Deep.DeepCutAuto
namespace Go.Proofs.Ytgbnpmpkfkijdaa
open Go.RowKit Go.Lib
def headS (a : Nat) (h : Shd) : List UInt8 := List.replicate (gap a) 48 ++ markRow 0 ++ shdRow h
theorem headS_length (a : Nat) (h : Shd) : (headS a h).length = gap a + 50 + 9 * h.supp.length := by
 unfold headS
 rw [List.length_append, List.length_append, List.length_replicate, markRow_length, shdRow_length]; omega
theorem headS_row (a : Nat) (h : Shd) : isRow (headS a h) = true := by
 unfold headS
 rw [isRow_append, isRow_append, isRow_noughts, markRow_row, shdRow_row]; rfl
theorem behind_headS (r : List UInt8) (h : Shd) : behind r 0 ++ shdRow h = r ++ headS r.length h := by
 unfold behind headS
 simp only [List.append_assoc]
set_option maxRecDepth 100000 in
set_option maxHeartbeats 4000000 in
theorem shrow_page (h : Shd) (a : Nat) (p : Option Addr) (cap : Nat) (rw_ : Value) (z : Int) (ha : a ≤ 1099511627776) (hm : shdMay h = true) (w : World) (hs : IntsL w p h.supp) :
  Calls Try.prog 12 #[.int .i64 (a : Int), .agg (sheetL h (.slice p h.supp.length cap) rw_ z).toArray] w fun e w' => e = .returned (.string (strH (headS a h))) ∧ Below w.heap.size w w' := by
 obtain ⟨⟨r1, r2, f1, f2, q1, q2⟩, ⟨m1, m2⟩, hl8, hby⟩ := shdMay_iff.1 hm
 have hrow : shdRow h = shdFix h ++ (suppO h.supp ++ rowOf 0 1) := by rw [suppO_all]; rfl
 unfold shdFix at hrow
 have hhs : headS a h = List.replicate (gap a) 48 ++ markRow 0 ++ shdRow h := rfl
 rw [hrow] at hhs
 obtain ⟨FR, hFR⟩ : ∃ R, headS a h = R := ⟨_, rfl⟩
 rw [hFR] at hhs ⊢
 obtain ⟨ref, flags, fmt, inter, quant, supp⟩ := h
 unfold sheetL
 dsimp only at *
 have c0 := fun w => mrow_page 0 (by decide) w
 have c1 := fun w => row_page ref 8 (by omega) (by omega) (by decide) (by decide) w
 have c2 := fun w => row_page flags 3 (by omega) (by omega) (by decide) (by decide) w
 have c3 := fun w => row_page fmt 3 (by omega) (by omega) (by decide) (by decide) w
 have c4 := fun w => row_page quant 5 (by omega) (by omega) (by decide) (by decide) w
 have c8 : ∀ j, j < supp.length → ∀ w, Calls Try.prog 30 #[.int .i64 (supp.getD j 0), .int .i64 8] w fun e w' => e = .returned (.string (strH (rowOf (supp.getD j 0).toNat 8))) ∧ w = w' := fun j hj w => by
  have hb := hby (supp.getD j 0) (by rw [show supp.getD j 0 = supp[j] by simp [List.getD, hj]]; exact List.getElem_mem hj)
  exact row_page (supp.getD j 0) 8 (by omega) (by omega) (by decide) (by decide) w
 simp only [show (8 : Int).toNat = 8 from rfl, show (3 : Int).toNat = 3 from rfl, show (5 : Int).toNat = 5 from rfl] at c1 c2 c3 c4
 rw [show (⟨(rowOf ref.toNat 8).toArray⟩ : ByteArray) = strH (rowOf ref.toNat 8) from rfl] at c1
 rw [show (⟨(rowOf flags.toNat 3).toArray⟩ : ByteArray) = strH (rowOf flags.toNat 3) from rfl] at c2
 rw [show (⟨(rowOf fmt.toNat 3).toArray⟩ : ByteArray) = strH (rowOf fmt.toNat 3) from rfl] at c3
 rw [show (⟨(rowOf quant.toNat 5).toArray⟩ : ByteArray) = strH (rowOf quant.toNat 5) from rfl] at c4
 obtain ⟨PF, hPF⟩ : ∃ R, List.replicate (gap a) 48 ++ markRow 0 ++ (rowOf ref.toNat 8 ++ (rowOf 2 2 ++ (rowOf flags.toNat 3 ++ (rowOf fmt.toNat 3 ++ (bitL inter ++ (rowOf 0 4 ++ (rowOf quant.toNat 5 ++ rowOf 0 1))))))) = R := ⟨_, rfl⟩
 have hFR2 : PF ++ (suppO supp ++ rowOf 0 1) = FR := by rw [hhs, ← hPF]; simp only [List.append_assoc]
 have hPFl : PF.length = gap a + 49 := by
  rw [← hPF]
  unfold bitL
  simp only [List.length_append, List.length_replicate, markRow_length, rowOf_length]
 have EP : strH (List.replicate (gap a) 48) ++ strH (markRow 0) ++ strH (rowOf ref.toNat 8) ++ strH (rowOf 2 2) ++ strH (rowOf flags.toNat 3) ++ strH (rowOf fmt.toNat 3) ++ strH (bitL inter) ++ strH (rowOf 0 4) ++ strH (rowOf quant.toNat 5) ++ strH (rowOf 0 1) = strH PF := by
  rw [← hPF]
  simp only [strH_cat, List.append_assoc]
 rw [show strH (rowOf 2 2) = (⟨#[49, 48]⟩ : ByteArray) from rfl, show strH (rowOf 0 4) = (⟨#[48, 48, 48, 48]⟩ : ByteArray) from rfl, show strH (rowOf 0 1) = (⟨#[48]⟩ : ByteArray) from rfl] at EP
 have EI : strH (bitL inter) = if inter = true then (⟨#[49]⟩ : ByteArray) else ⟨#[48]⟩ := by cases inter <;> rfl
 have z0 : (strH (markRow 0)).size = 22 := by rw [strH_size, markRow_length]
 have z1 : (strH (rowOf ref.toNat 8)).size = 8 := by rw [strH_size, rowOf_length]
 have z2 : (strH (rowOf flags.toNat 3)).size = 3 := by rw [strH_size, rowOf_length]
 have z3 : (strH (rowOf fmt.toNat 3)).size = 3 := by rw [strH_size, rowOf_length]
 have z4 : (strH (rowOf quant.toNat 5)).size = 5 := by rw [strH_size, rowOf_length]
 have zi : (strH (bitL inter)).size = 1 := by rw [strH_size]; exact rowOf_length _ _
 generalize strH (markRow 0) = S0 at c0 EP z0
 generalize strH (rowOf ref.toNat 8) = S1 at c1 EP z1
 generalize strH (rowOf flags.toNat 3) = S2 at c2 EP z2
 generalize strH (rowOf fmt.toNat 3) = S3 at c3 EP z3
 generalize strH (rowOf quant.toNat 5) = S4 at c4 EP z4
 obtain ⟨I, hI⟩ : ∃ I, strH (bitL inter) = I := ⟨_, rfl⟩
 rw [hI] at EP EI zi
 have hg := gap_lt a
 have GD := Lib.hid (fun j (hj : j ≤ gap a) => (by
  unfold gap at hj ⊢
  rw [Bool.eq_iff_iff, bne_iff_ne, decide_eq_true_iff]
  omega : (((a : Int) + (j : Nat)) % 8 != 0) = decide (j < gap a)))
 have NX := Lib.hid (fun j => (by rw [show (⟨#[48]⟩ : ByteArray) = strH [48] from rfl, strH_cat, List.replicate_succ'] : strH (List.replicate j 48) ++ (⟨#[48]⟩ : ByteArray) = strH (List.replicate (j + 1) 48)))
 have SZ := Lib.hid (fun j => (by rw [strH_size, List.length_replicate] : (strH (List.replicate j 48)).size = j))
 have R0 : Hid ((⟨#[]⟩ : ByteArray) = strH (List.replicate 0 48)) := Lib.hid rfl
 obtain ⟨R, hR⟩ : ∃ R : Nat → ByteArray, (fun j => strH (List.replicate j 48)) = R := ⟨_, rfl⟩
 have eR : ∀ j, strH (List.replicate j 48) = R j := fun j => by rw [← hR]
 simp only [eR] at EP NX SZ R0
 clear eR hR hI
 have SF : Hid (∀ j, j < supp.length → strH (PF ++ suppO (supp.take j)) ++ (⟨#[49]⟩ : ByteArray) ++ strH (rowOf (supp.getD j 0).toNat 8) = strH (PF ++ suppO (supp.take (j + 1)))) := Lib.hid fun j hj => by
  rw [show (⟨#[49]⟩ : ByteArray) = strH (rowOf 1 1) from rfl, strH_cat, strH_cat, ← suppO_take hj]
  simp only [List.append_assoc]
 have SS : Hid (∀ j, j ≤ supp.length → (strH (PF ++ suppO (supp.take j))).size = gap a + 49 + 9 * j) := Lib.hid fun j hj => by
  rw [strH_size, List.length_append, suppO_length, List.length_take, hPFl]; omega
 have S8 : Hid (∀ j, (strH (rowOf (supp.getD j 0).toNat 8)).size = 8) := Lib.hid fun j => by rw [strH_size, rowOf_length]
 have SA : Hid (strH PF = strH (PF ++ suppO (supp.take 0))) := Lib.hid (by rw [List.take_zero]; show _ = strH (PF ++ []); rw [List.append_nil])
 have SE : Hid (strH (PF ++ suppO (supp.take supp.length)) ++ (⟨#[48]⟩ : ByteArray) = strH FR) := Lib.hid (by
  rw [List.take_length, show (⟨#[48]⟩ : ByteArray) = strH (rowOf 0 1) from rfl, strH_cat, ← hFR2, List.append_assoc])
 have C8 := Lib.hid c8
 obtain ⟨V, hV⟩ : ∃ V : Nat → ByteArray, (fun j => strH (PF ++ suppO (supp.take j))) = V := ⟨_, rfl⟩
 have eV : ∀ j, strH (PF ++ suppO (supp.take j)) = V j := fun j => by rw [← hV]
 simp only [eV] at SF SS SA SE
 rw [SA.out] at EP
 have EPH := Lib.hid EP
 have EIH := Lib.hid EI
 clear eV hV hPF hFR2 hPFl EP hFR hhs hrow hby hm c8 EI SA r1 r2 f1 f2 q1 q2 m1 m2
 generalize gap a = g at *
 obtain ⟨A, hA⟩ : ∃ A, w.heap.size = A := ⟨_, rfl⟩
 obtain ⟨wA, hwA⟩ : ∃ wA, w.alloc (.cells #[.int .i64 ref, .int .i64 flags, .int .i64 fmt, .bool inter, .int .i64 quant, .slice p supp.length cap, rw_, .int .i64 z] 25 (0, 0)) = wA := ⟨_, rfl⟩
 have hb0 : Below w.heap.size w wA := by rw [← hwA]; exact (Below.refl _ w).alloc (Nat.le_refl _) _
 have hh : wA.heap[A]? = some (.cells [.int .i64 ref, .int .i64 flags, .int .i64 fmt, .bool inter, .int .i64 quant, .slice p supp.length cap, rw_, .int .i64 z].toArray 25 (0, 0)) := by rw [← hwA, ← hA]; exact heap_alloc_new w _
 have hlA : A < wA.heap.size := by rw [← hwA, ← hA]; simp
 have K0 : Hid (∀ x, Below wA.heap.size wA x → x.cell? ⟨A, 0, none⟩ = some (.int .i64 ref)) := Lib.hid fun x hx => part_cells ((hx.block A hlA).trans hh) rfl
 have K1 : Hid (∀ x, Below wA.heap.size wA x → x.cell? ⟨A, 1, none⟩ = some (.int .i64 flags)) := Lib.hid fun x hx => part_cells ((hx.block A hlA).trans hh) rfl
 have K2 : Hid (∀ x, Below wA.heap.size wA x → x.cell? ⟨A, 2, none⟩ = some (.int .i64 fmt)) := Lib.hid fun x hx => part_cells ((hx.block A hlA).trans hh) rfl
 have K4 : Hid (∀ x, Below wA.heap.size wA x → x.cell? ⟨A, 4, none⟩ = some (.int .i64 quant)) := Lib.hid fun x hx => part_cells ((hx.block A hlA).trans hh) rfl
 have K5 : Hid (∀ x, Below wA.heap.size wA x → x.cell? ⟨A, 5, none⟩ = some (.slice p supp.length cap) ∧ IntsL x p supp ∧ Below w.heap.size w x) := Lib.hid fun x hx => ⟨part_cells ((hx.block A hlA).trans hh) rfl, (hs.below hb0).below hx, hb0.trans (hx.mono hb0.size)⟩
 have k3 : wA.cell? ⟨A, 3, none⟩ = some (.bool inter) := part_cells hh rfl
 have C1 := Lib.hid (fun x (hx : Below wA.heap.size wA x) => ((c1 x).mono fun e y h => ⟨h.1, h.2 ▸ hx⟩ : Calls Try.prog 30 #[.int .i64 ref, .int .i64 8] x fun e y => e = .returned (.string S1) ∧ Below wA.heap.size wA y))
 have C2 := Lib.hid (fun x (hx : Below wA.heap.size wA x) => ((c2 x).mono fun e y h => ⟨h.1, h.2 ▸ hx⟩ : Calls Try.prog 30 #[.int .i64 flags, .int .i64 3] x fun e y => e = .returned (.string S2) ∧ Below wA.heap.size wA y))
 have C3 := Lib.hid (fun x (hx : Below wA.heap.size wA x) => ((c3 x).mono fun e y h => ⟨h.1, h.2 ▸ hx⟩ : Calls Try.prog 30 #[.int .i64 fmt, .int .i64 3] x fun e y => e = .returned (.string S3) ∧ Below wA.heap.size wA y))
 have C4 := Lib.hid (fun x (hx : Below wA.heap.size wA x) => ((c4 x).mono fun e y h => ⟨h.1, h.2 ▸ hx⟩ : Calls Try.prog 30 #[.int .i64 quant, .int .i64 5] x fun e y => e = .returned (.string S4) ∧ Below wA.heap.size wA y))
 have C0 := Lib.hid (fun x (hx : Below wA.heap.size wA x) => ((c0 x).mono fun e y h => ⟨h.1, h.2 ▸ hx⟩ : Calls Try.prog 29 #[.int .i64 0] x fun e y => e = .returned (.string S0) ∧ Below wA.heap.size wA y))
 have HWA := Lib.hid hwA
 have HA := Lib.hid hA
 clear hwA hA hs hh hb0 hlA c0 c1 c2 c3 c4
 go_enter Try.func12, Try.ntmps12
 go_wp2
 rw [HWA.out, HA.out]
 go_loop [5] (fun v => ∃ j : Nat, j ≤ g ∧ v = .string (R j)) (fun v => g - (match v with | .string x => x.size | _ => 0))
 case atStart => exact ⟨0, Nat.zero_le _, by rw [R0.out]⟩
 case round =>
  obtain ⟨j, hj, rfl⟩ := hrel
  have hd := GD.out j hj
  have hs := SZ.out j
  have hn := NX.out j
  have hs2 := SZ.out (j + 1)
  by_cases hlt : j < g
  ·obtain ⟨Y, hY⟩ : ∃ Y, R (j + 1) = Y := ⟨_, rfl⟩
   rw [hY] at hn hs2
   have NY := Lib.hid hn
   have NJ := Lib.hid hY
   clear hn hY
   obtain ⟨X, hX⟩ : ∃ X, R j = X := ⟨_, rfl⟩
   rw [hX] at hs NY ⊢
   have d0 : (((a : Int) + (X.size : Int)) % 8 != 0) = true := by rw [hs, hd]; simpa using hlt
   have hx8 : X.size ≤ 8 := by omega
   have HY := Lib.hid hX
   have SY := Lib.hid hs2
   clear hd hX hs2
   go_wp2
   go_round
   case rel => exact ⟨j + 1, by omega, by rw [NY.out, NJ.out]⟩
   case measure => rw [NY.out]; have := SY.out; simp only; omega
  ·obtain rfl : j = g := by omega
   obtain ⟨X, hX⟩ : ∃ X, R j = X := ⟨_, rfl⟩
   rw [hX] at hs ⊢
   have d0 : (((a : Int) + (X.size : Int)) % 8 != 0) = false := by rw [hs, hd]; simp
   have hx8 : X.size ≤ 8 := by omega
   have HX := Lib.hid hX
   clear hd hs hX hs2 hn
   go_upto_if 17 with fail
   go_cut [6] (fun v wz => v = .string I ∧ wz = wA)
   case first =>
    have ei := EIH.out
    clear EIH
    cases inter with
    | true =>
     rw [if_pos rfl] at ei
     subst ei
     go_wp2
     go_meet
     case rel => exact ⟨rfl, by trivial⟩
    | false =>
     rw [if_neg (by decide)] at ei
     subst ei
     go_wp2
     go_meet
     case rel => exact ⟨rfl, by trivial⟩
   case rest =>
    obtain ⟨rfl, hwc⟩ := hcut
    rw [hwc]
    clear hwc k3
    have si : I.size ≤ 1 := by omega
    have s0 : S0.size ≤ 22 := by omega
    have s1 : S1.size ≤ 8 := by omega
    have s2 : S2.size ≤ 3 := by omega
    have s3 : S3.size ≤ 3 := by omega
    have s4 : S4.size ≤ 5 := by omega
    clear z0 z1 z2 z3 z4 zi
    go_wp2
    refine wp_region_calm (S := fun x => Below wA.heap.size wA x) 25 (by kernel_rfl) (by kernel_rfl) (Below.refl _ _).drew ?_
    simp only [List.take_succ_cons, List.take_zero, List.drop_succ_cons, List.drop_zero]
    refine calm_value (by kernel_rfl) (fun x _ => by go_simp; try with_reducible rfl) ?_; simp only [Act.put, List.setIfInBounds_toArray, List.set_cons_zero, List.set_cons_succ]
    refine calm_call (by kernel_rfl) C0.out (fun _ => by kernel_rfl) ?_; simp only [Act.put, List.setIfInBounds_toArray, List.set_cons_zero, List.set_cons_succ]
    refine calm_value (v := .string (X ++ S0)) (by kernel_rfl) (fun x _ => by go_simp; first | omega | trivial) ?_; simp only [Act.put, List.setIfInBounds_toArray, List.set_cons_zero, List.set_cons_succ]
    refine calm_value (by kernel_rfl) (fun x _ => by go_simp; try with_reducible rfl) ?_; simp only [Act.put, List.setIfInBounds_toArray, List.set_cons_zero, List.set_cons_succ]
    refine calm_cell 3 _ ⟨A, 0, none⟩ (.int .i64 ref) (by kernel_rfl) rfl rfl (fun x hx => by have c0 := K0.out x hx; go_simp) ?_; simp only [Act.put, List.setIfInBounds_toArray, List.set_cons_zero, List.set_cons_succ]
    refine calm_call (by kernel_rfl) C1.out (fun _ => by kernel_rfl) ?_; simp only [Act.put, List.setIfInBounds_toArray, List.set_cons_zero, List.set_cons_succ]
    refine calm_value (v := .string ((X ++ S0) ++ S1)) (by kernel_rfl) (fun x _ => by go_simp; first | omega | trivial) ?_; simp only [Act.put, List.setIfInBounds_toArray, List.set_cons_zero, List.set_cons_succ]
    refine calm_value (v := .string (((X ++ S0) ++ S1) ++ ⟨#[49, 48]⟩)) (by kernel_rfl) (fun x _ => by go_simp; first | omega | trivial) ?_; simp only [Act.put, List.setIfInBounds_toArray, List.set_cons_zero, List.set_cons_succ]
    refine calm_value (by kernel_rfl) (fun x _ => by go_simp; try with_reducible rfl) ?_; simp only [Act.put, List.setIfInBounds_toArray, List.set_cons_zero, List.set_cons_succ]
    refine calm_cell 3 _ ⟨A, 1, none⟩ (.int .i64 flags) (by kernel_rfl) rfl rfl (fun x hx => by have c0 := K1.out x hx; go_simp) ?_; simp only [Act.put, List.setIfInBounds_toArray, List.set_cons_zero, List.set_cons_succ]
    refine calm_call (by kernel_rfl) C2.out (fun _ => by kernel_rfl) ?_; simp only [Act.put, List.setIfInBounds_toArray, List.set_cons_zero, List.set_cons_succ]
    refine calm_value (v := .string ((((X ++ S0) ++ S1) ++ ⟨#[49, 48]⟩) ++ S2)) (by kernel_rfl) (fun x _ => by go_simp; first | omega | trivial) ?_; simp only [Act.put, List.setIfInBounds_toArray, List.set_cons_zero, List.set_cons_succ]
    refine calm_value (by kernel_rfl) (fun x _ => by go_simp; try with_reducible rfl) ?_; simp only [Act.put, List.setIfInBounds_toArray, List.set_cons_zero, List.set_cons_succ]
    refine calm_cell 3 _ ⟨A, 2, none⟩ (.int .i64 fmt) (by kernel_rfl) rfl rfl (fun x hx => by have c0 := K2.out x hx; go_simp) ?_; simp only [Act.put, List.setIfInBounds_toArray, List.set_cons_zero, List.set_cons_succ]
    refine calm_call (by kernel_rfl) C3.out (fun _ => by kernel_rfl) ?_; simp only [Act.put, List.setIfInBounds_toArray, List.set_cons_zero, List.set_cons_succ]
    refine calm_value (v := .string (((((X ++ S0) ++ S1) ++ ⟨#[49, 48]⟩) ++ S2) ++ S3)) (by kernel_rfl) (fun x _ => by go_simp; first | omega | trivial) ?_; simp only [Act.put, List.setIfInBounds_toArray, List.set_cons_zero, List.set_cons_succ]
    refine calm_value (by kernel_rfl) (fun x _ => by go_simp; try with_reducible rfl) ?_; simp only [Act.put, List.setIfInBounds_toArray, List.set_cons_zero, List.set_cons_succ]
    refine calm_value (v := .string ((((((X ++ S0) ++ S1) ++ ⟨#[49, 48]⟩) ++ S2) ++ S3) ++ I)) (by kernel_rfl) (fun x _ => by go_simp; first | omega | trivial) ?_; simp only [Act.put, List.setIfInBounds_toArray, List.set_cons_zero, List.set_cons_succ]
    refine calm_value (v := .string (((((((X ++ S0) ++ S1) ++ ⟨#[49, 48]⟩) ++ S2) ++ S3) ++ I) ++ ⟨#[48, 48, 48, 48]⟩)) (by kernel_rfl) (fun x _ => by go_simp; first | omega | trivial) ?_; simp only [Act.put, List.setIfInBounds_toArray, List.set_cons_zero, List.set_cons_succ]
    refine calm_value (by kernel_rfl) (fun x _ => by go_simp; try with_reducible rfl) ?_; simp only [Act.put, List.setIfInBounds_toArray, List.set_cons_zero, List.set_cons_succ]
    refine calm_cell 3 _ ⟨A, 4, none⟩ (.int .i64 quant) (by kernel_rfl) rfl rfl (fun x hx => by have c0 := K4.out x hx; go_simp) ?_; simp only [Act.put, List.setIfInBounds_toArray, List.set_cons_zero, List.set_cons_succ]
    refine calm_call (by kernel_rfl) C4.out (fun _ => by kernel_rfl) ?_; simp only [Act.put, List.setIfInBounds_toArray, List.set_cons_zero, List.set_cons_succ]
    refine calm_value (v := .string ((((((((X ++ S0) ++ S1) ++ ⟨#[49, 48]⟩) ++ S2) ++ S3) ++ I) ++ ⟨#[48, 48, 48, 48]⟩) ++ S4)) (by kernel_rfl) (fun x _ => by go_simp; first | omega | trivial) ?_; simp only [Act.put, List.setIfInBounds_toArray, List.set_cons_zero, List.set_cons_succ]
    refine calm_value (v := .string (((((((((X ++ S0) ++ S1) ++ ⟨#[49, 48]⟩) ++ S2) ++ S3) ++ I) ++ ⟨#[48, 48, 48, 48]⟩) ++ S4) ++ ⟨#[48]⟩)) (by kernel_rfl) (fun x _ => by go_simp; first | omega | trivial) ?_; simp only [Act.put, List.setIfInBounds_toArray, List.set_cons_zero, List.set_cons_succ]
    refine calm_value (by kernel_rfl) (fun x _ => by go_simp; try with_reducible rfl) ?_; simp only [Act.put, List.setIfInBounds_toArray, List.set_cons_zero, List.set_cons_succ]
    refine calm_nil fun x1 hx1 => ?_
    have EQ := EPH.out
    rw [HX.out] at EQ
    rw [show (((((((((X ++ S0) ++ S1) ++ ⟨#[49, 48]⟩) ++ S2) ++ S3) ++ I) ++ ⟨#[48, 48, 48, 48]⟩) ++ S4) ++ ⟨#[48]⟩) = V 0 from EQ]
    clear EQ EPH HX C0 C1 C2 C3 C4 K0 K1 K2 K4 si s0 s1 s2 s3 s4 hx8 d0 EIH
    obtain ⟨k5, hil, hbl⟩ := K5.out _ hx1
    go_wp2
    go_loop [5, 7] (fun v i => ∃ j : Nat, j ≤ supp.length ∧ v = .string (V j) ∧ i = .int .i64 j) (fun _ i => supp.length - (intOf i).toNat)
    case atStart => exact ⟨0, Nat.zero_le _, rfl, rfl⟩
    case round =>
     obtain ⟨i, hi, rfl, rfl⟩ := hrel
     have hsz := SS.out i hi
     by_cases hli : i < supp.length
     ·have t1 : decide ((i : Int) < (supp.length : Int)) = true := by simp; omega
      obtain ⟨b1, o1, rfl, hb1, hc1⟩ := hil.hold (by omega)
      have k0 := hc1 _ (Below.refl _ _) i hli
      have cc := C8.out i hli
      have sf := SF.out i hli
      have s8 := S8.out i
      clear hc1 C8 SF S8 SS SE hil
      generalize strH (rowOf (supp.getD i 0).toNat 8) = T at cc sf s8
      generalize supp.getD i 0 = x at cc k0
      obtain ⟨VN, hVN⟩ : ∃ N, V (i + 1) = N := ⟨_, rfl⟩
      rw [hVN] at sf
      have HSF := Lib.hid sf
      have HVN := Lib.hid hVN
      clear sf hVN
      generalize V i = VI at *
      have u1 : VI.size ≤ 200 := by omega
      have u2 : T.size ≤ 8 := by omega
      go_wp2_with fail
      refine (cc _).mono ?_
      rintro e y1 ⟨rfl, rfl⟩
      go_wp2
      go_round
      case rel => exact ⟨i + 1, by omega, by rw [HSF.out, HVN.out], by go_num⟩
      case measure => simp [intOf]; omega
     ·obtain rfl : supp.length = i := by omega
      have t1 : decide ((supp.length : Int) < (supp.length : Int)) = false := by simp
      have HSE := Lib.hid SE.out
      clear C8 SF S8 SS SE hil
      generalize V supp.length = VI at *
      have u1 : VI.size ≤ 200 := by omega
      go_wp2
      go_ret
      rw [HSE.out]
      exact ⟨rfl, hbl⟩
end Go.Proofs.Ytgbnpmpkfkijdaa

namespace Go.Proofs.Ytgbnpmpkfkijdaa
open Go.RowKit Go.Lib Go.ChangeShapes Go.WideShapes Go.ChangeAt
theorem shk_back (r : List UInt8) (h : Shd) (hr : isRow r = true) (hm : shdMay h = true) : shk (packL (r ++ headS r.length h)) (r.length + gap r.length) = (h, (r ++ headS r.length h).length, 0) := by
 have hrow : isRow (r ++ headS r.length h) = true := by rw [isRow_append, hr, headS_row]; rfl
 obtain ⟨C, hC⟩ : ∃ C, showL (packL (r ++ headS r.length h)) = (r ++ headS r.length h) ++ C := by
  rw [show_pack _ hrow]
  exact ⟨_, rfl⟩
 have e : (r ++ headS r.length h) ++ C = (r ++ List.replicate (gap r.length) 48) ++ (markRow 0 ++ shdRow h) ++ C := by unfold headS; simp only [List.append_assoc]
 have hS := Seg.all (r ++ List.replicate (gap r.length) 48) (markRow 0 ++ shdRow h) C
 rw [← e, ← hC] at hS
 have hl : (r ++ List.replicate (gap r.length) 48).length = r.length + gap r.length := by rw [List.length_append, List.length_replicate]
 have hq : (r ++ List.replicate (gap r.length) 48).length + (markRow 0 ++ shdRow h).length = (r ++ headS r.length h).length := by
  unfold headS
  simp only [List.length_append]; omega
 rw [hl] at hS hq
 rw [hq] at hS
 exact shk_there (by unfold gap; omega) hm hS
section
variable {H : Type} {enc : TypeId × Value → H} {P : Program}
theorem open_sheet {w : World} {r : Reach} {b0 base : Nat} {sp : Nat → Bool} {held : Bool} {t ti tb ts tr : TypeId} {f0 f1 f2 f3 f4 f5 f6 f7 : Field} {v : Value} {d : DataW H} {ps : List MemPlace}
  (ht : P.underlying t = some (.struct #[f0, f1, f2, f3, f4, f5, f6, f7])) (hi : P.underlying ti = some (.int .i64)) (hb : P.underlying tb = some .bool) (hs : P.underlying ts = some (.slice ti))
  (e : f0.type = ti ∧ f1.type = ti ∧ f2.type = ti ∧ f3.type = tb ∧ f4.type = ti ∧ f5.type = ts ∧ f6.type = tr ∧ f7.type = ti) (o : f0.offset = 0 ∧ f1.offset = 1 ∧ f2.offset = 2 ∧ f3.offset = 3 ∧ f4.offset = 4 ∧ f5.offset = 5 ∧ f6.offset = 6 ∧ f7.offset = 7)
  (ci : P.cellsOf ti = 1) (cb : P.cellsOf tb = 1) (cs : P.cellsOf ts = 1) (hc : P.cellsOf t = 8)
  (hval : Value.okWide P w r b0 t v) (hd : DataW.Trod enc P w base sp held t v d ps) :
  ∃ (h : Shd) (a : Option Addr) (cap : Nat) (rw_ : Value) (z : Int), v = .agg (sheetL h (.slice a h.supp.length cap) rw_ z).toArray ∧ h.supp.length ≤ maxLen ∧ IntsL w a h.supp := by
 obtain ⟨cs', rfl, hsz, _⟩ : ∃ cs, v = .agg cs ∧ cs.size = P.cellsOf t ∧ Row.okWide P w r b0 t cs := by
  simpa [Value.okWide, ht] using hval
 rw [hc] at hsz
 obtain ⟨fuel, hf⟩ := hd
 obtain ⟨xs, k, hk, hxy, _, hxl, hfs⟩ := DataW.trod_struct ht hf
 obtain ⟨l⟩ := cs'
 match l, hsz, xs, hxl with
 | [u0, u1, u2, u3, u4, u5, u6, u7], _, [y0, y1, y2, y3, y4, y5, y6, y7], _ =>
  have g0 := hfs 0 f0 rfl
  have g1 := hfs 1 f1 rfl
  have g2 := hfs 2 f2 rfl
  have g3 := hfs 3 f3 rfl
  have g4 := hfs 4 f4 rfl
  have g5 := hfs 5 f5 rfl
  have g7 := hfs 7 f7 rfl
  rw [e.1, o.1, ci] at g0
  rw [e.2.1, o.2.1, ci] at g1
  rw [e.2.2.1, o.2.2.1, ci] at g2
  rw [e.2.2.2.1, o.2.2.2.1, cb] at g3
  rw [e.2.2.2.2.1, o.2.2.2.2.1, ci] at g4
  rw [e.2.2.2.2.2.1, o.2.2.2.2.2.1, cs] at g5
  rw [e.2.2.2.2.2.2.2, o.2.2.2.2.2.2.2, ci] at g7
  obtain ⟨x0, q0, _⟩ := DataW.trod_int hi (show DataW.trod _ P w base sp held k ti [u0] = some y0 from g0)
  obtain ⟨x1, q1, _⟩ := DataW.trod_int hi (show DataW.trod _ P w base sp held k ti [u1] = some y1 from g1)
  obtain ⟨x2, q2, _⟩ := DataW.trod_int hi (show DataW.trod _ P w base sp held k ti [u2] = some y2 from g2)
  obtain ⟨x3, q3, _⟩ := DataW.trod_bool hb (show DataW.trod _ P w base sp held k tb [u3] = some y3 from g3)
  obtain ⟨x4, q4, _⟩ := DataW.trod_int hi (show DataW.trod _ P w base sp held k ti [u4] = some y4 from g4)
  obtain ⟨p, len, cap, f, rfl, hl, hin⟩ := ints_cell hs hi ci (show DataW.trod _ P w base sp held k ts [u5] = some y5 from g5)
  obtain ⟨x7, q7, _⟩ := DataW.trod_int hi (show DataW.trod _ P w base sp held k ti [u7] = some y7 from g7)
  injection q0 with q0
  injection q1 with q1
  injection q2 with q2
  injection q3 with q3
  injection q4 with q4
  injection q7 with q7
  subst q0 q1 q2 q3 q4 q7
  obtain ⟨L, rfl, hL⟩ := ints_list hin
  exact ⟨⟨x0, x1, x2, x3, x4, L⟩, p, cap, u6, x7, rfl, hl, hL⟩
end
end Go.Proofs.Ytgbnpmpkfkijdaa
