/- Any sheet's head is written as the document's own answer says, behind what is there, or refused, and then nothing is written; what was written is taken again; and the chapter's example comes out. Conditions: none but the law's own (texts of up to 100 digits ahead, up to 100 bytes beside). -/
import Derived.Test.YtgbnpmpkfkijdaaSheetheadPutsMe
import Derived.Test.YtgbnpmpkfkijdaaSheetheadPutsMr
import Derived.Test.YtgbnpmpkfkijdaaSheetheadPutsMt
import Derived.Test.YtgbnpmpkfkijdaaSheetheadPutsMw
import Derived.Test.YtgbnpmpkfkijdaaRows
import Derived.ChangeMaps5
import Derived.ProofKit
namespace Go.Proofs.Ytgbnpmpkfkijdaa
open Go.ChangeShapes Go.WideShapes Go.ChangeAt Go.RowKit
set_option linter.unusedVariables false
set_option maxRecDepth 100000 in
set_option maxHeartbeats 8000000 in
theorem sheetheadPuts_walk (h : Shd) (p : Option Addr) (cap : Nat) (rw_ : Value) (z : Int) (s : ByteArray) (w : World) (hlm : h.supp.length ≤ maxLen) (hin : IntsL w p h.supp) (hs : s.size ≤ maxLen) :
  Calls Try.prog 3 #[.agg (sheetL h (.slice p h.supp.length cap) rw_ z).toArray, .string s] w fun e w' => e = .returned (.bool true) ∧ Below w.heap.size w w' := by
 have hss := hs
 unfold maxLen at hs
 obtain ⟨ZS, hZS⟩ : ∃ Z, (sheetL h (.slice p h.supp.length cap) rw_ z).toArray = Z := ⟨_, rfl⟩
 obtain ⟨A, hA⟩ : ∃ A, w.heap.size = A := ⟨_, rfl⟩
 obtain ⟨wA, hwA⟩ : ∃ wA, w.alloc (.cells ZS 25 (0, 0)) = wA := ⟨_, rfl⟩
 have hzA : wA.heap.size = A + 1 := by rw [← hwA, ← hA]; simp
 have hbA : Below A w wA := by rw [← hwA, ← hA]; exact (Below.refl _ w).alloc (Nat.le_refl _) _
 have hcA : wA.heap[A]? = some (.cells ZS 25 (0, 0)) := by rw [← hwA, ← hA]; exact heap_alloc_new w _
 have HSZS : (Try.prog.info? 25).map (·.size) = some ZS.size := hZS ▸ sheet_sized _ _ _ _
 have KA : Hid (∀ x, Below (A + 1) wA x → x.heap[A]? = some (.cells ZS 25 (0, 0)) ∧ IntsL x p h.supp ∧ Below A w x) := Lib.hid fun x hx =>
  ⟨(hx.block A (by omega)).trans hcA, (hin.below (hA ▸ hbA)).below (hzA ▸ hx), hbA.trans (hx.mono (by omega))⟩
 have k5 : wA.cell? ⟨A, 5, none⟩ = some (.slice p h.supp.length cap) := part_cells (cs := sheetL h (.slice p h.supp.length cap) rw_ z) (by rw [hZS]; exact hcA) rfl
 have hB0 : Below (A + 1) wA wA := Below.refl _ _
 have cput := fun a (x : World) (hx : IntsL x p h.supp) (hm : shdMay h = false) => sput_not a h p cap rw_ z hlm x hx hm
 have cok := fun (x : World) hh hm (hx : IsWr x (A + 2) (A + 1) s.data.toList) hn hz => sput_ok x (A + 2) (A + 1) s.data.toList h p cap rw_ z hh hm hx hn hz
 have cnil := fun x => sput_nil h (.slice p h.supp.length cap) rw_ z x
 have cright := fun (x : World) (hx : IntsL x p h.supp) => sright_page h p cap rw_ z hlm x hx
 have crow := fun (x : World) ha hm (hx : IntsL x p h.supp) => shrow_page h s.size p cap rw_ z ha hm x hx
 have csame := fun (x : World) p' c' (hx : IntsL x p' h.supp) (hx' : IntsL x p h.supp) => ssame_page h p' p c' cap (.slice none 0 0) rw_ 0 z hlm x hx hx'
 rw [hZS] at cput cok cnil cright crow csame ⊢
 have HWA := Lib.hid hwA
 have HA := Lib.hid hA
 rw [hA]
 clear hwA hin hcA hbA hA hZS
 by_cases h100 : 100 < s.size
 ·have t0 : decide (100 < (s.size : Int)) = true := by simp; omega
  clear h100 cput cok cnil cright crow csame
  go_enter Try.func3, Try.ntmps3
  go_wp2_with fail
  rw [HWA.out]
  refine (lives24 _).mono ?_
  rintro e w' ⟨rfl, hb⟩
  go_wp2
  go_ret
  exact ⟨rfl, (KA.out _ (hzA ▸ hb)).2.2⟩
 have t0 : decide (100 < (s.size : Int)) = false := by simp; omega
 cases hrow : isRow s.data.toList with
 | false =>
  have F := Lib.hid hrow
  clear hrow cput cok cnil cright crow csame
  go_enter Try.func3, Try.ntmps3
  go_wp2_with fail
  rw [HWA.out, HA.out]
  refine (plain_page s hss _).mono ?_
  rintro e w1 ⟨rfl, rfl⟩
  rw [F.out]
  go_wp2_with (go_at_call 6; refine (lives24 _).mono ?_; rintro e w' ⟨rfl, hb⟩)
  go_ret
  exact ⟨rfl, (KA.out _ (hzA ▸ hb)).2.2⟩
 | true =>
 have hl : s.data.toList.length = s.size := rfl
 have F := Lib.hid hrow
 by_cases h101 : 100 < h.supp.length
 ·have t1 : decide (100 < (h.supp.length : Int)) = true := by simp; omega
  clear hrow cput cok cnil cright crow csame h101
  go_enter Try.func3, Try.ntmps3
  go_wp2_with fail
  rw [HWA.out, HA.out]
  refine (plain_page s hss _).mono ?_
  rintro e w1 ⟨rfl, rfl⟩
  rw [F.out]
  go_wp2_with (go_at_call 6; refine (lives24 _).mono ?_; rintro e w' ⟨rfl, hb⟩)
  go_ret
  exact ⟨rfl, (KA.out _ (hzA ▸ hb)).2.2⟩
 have t1 : decide (100 < (h.supp.length : Int)) = false := by simp; omega
 cases hmay : shdMay h with
 | false =>
  rw [hmay] at cright
  have cput := fun a x hx => cput a x hx hmay
  clear hrow hmay cok crow csame h101
  go_enter Try.func3, Try.ntmps3
  go_wp2_with fail
  rw [HWA.out, HA.out]
  refine (plain_page s hss _).mono ?_
  rintro e w1 ⟨rfl, rfl⟩
  rw [F.out]
  have hw0 : IsWr (wA.alloc newWr) (A + 2) (A + 1) [] := IsWr.fresh hzA (by omega)
  have hb0 : Below (A + 1) wA (wA.alloc newWr) := hB0.alloc (by omega) _
  have hz0 : (wA.alloc newWr).heap.size = A + 2 := by simp; omega
  go_wp2_with fail
  refine (new_code _).mono ?_
  rintro e w1 ⟨rfl, rfl⟩
  rw [hzA]
  generalize wA.alloc newWr = x0 at hw0 hb0 hz0 ⊢
  go_wp2_with fail
  refine (add_code _ (A + 2) (A + 1) [] s hw0 F.out (by simp; omega) (by omega)).mono ?_
  rintro e x1 ⟨rfl, hw1, hg1⟩
  rw [List.nil_append] at hw1
  have hb1 : Below (A + 1) wA x1 := hb0.grown hg1 (by omega) (by intro k hk; injection hk with hk; omega)
  have hz1 : A + 2 ≤ x1.heap.size := by have := hg1.size; omega
  obtain ⟨hc1, hi1, -⟩ := KA.out _ hb1
  clear hw0 hb0 hz0 hg1 hB0 k5
  go_wp2_with (with_reducible refine wpList_load_row rfl 25 _ rfl A rfl 25 ZS (0, 0) _ hc1 Try.underlying25 rfl HSZS ?_)
  refine (cput _ _ hi1).mono ?_
  rintro e x2 ⟨rfl, hb2'⟩
  have hw2 := hw1.below hb2'
  have hb2 : Below (A + 1) wA x2 := hb1.trans (hb2'.mono (by omega))
  have hz2 : A + 2 ≤ x2.heap.size := Nat.le_trans hz1 hb2'.size
  obtain ⟨hc2, hi2, -⟩ := KA.out _ hb2
  clear hw1 hb1 hz1 hc1 hi1 hb2' cput
  go_wp2_with (with_reducible refine wpList_load_row rfl 25 _ rfl A rfl 25 ZS (0, 0) _ hc2 Try.underlying25 rfl HSZS ?_)
  refine (cnil _).mono ?_
  rintro e x3 ⟨rfl, hb3'⟩
  have hw3 := hw2.below hb3'
  have hb3 : Below (A + 1) wA x3 := hb2.trans (hb3'.mono (by omega))
  have hz3 : A + 2 ≤ x3.heap.size := Nat.le_trans hz2 hb3'.size
  obtain ⟨hc3, hi3, -⟩ := KA.out _ hb3
  clear hw2 hb2 hz2 hc2 hi2 hb3' cnil
  go_wp2_with (with_reducible refine wpList_load_row rfl 25 _ rfl A rfl 25 ZS (0, 0) _ hc3 Try.underlying25 rfl HSZS ?_)
  refine (cright _ hi3).mono ?_
  rintro e x4 ⟨rfl, hb4'⟩
  have hw4 := hw3.below hb4'
  have hb4 : Below (A + 1) wA x4 := hb3.trans (hb4'.mono (by omega))
  have hz4 : A + 2 ≤ x4.heap.size := Nat.le_trans hz3 hb4'.size
  obtain ⟨-, -, hbw⟩ := KA.out _ hb4
  clear hw3 hb3 hz3 hc3 hi3 hb4' cright
  go_wp2_with (first
   | (go_at_call 11; refine (len_code _ _ _ _ hw4).mono ?_; rintro e w' ⟨rfl, rfl⟩; rw [hl])
   | (go_at_call 6; refine (lives24 _).mono ?_; rintro e w' ⟨rfl, hb⟩))
  go_ret
  exact ⟨rfl, hbw.trans (hb.mono (by omega))⟩
 | true =>
  rw [hmay] at cright
  have h8 : h.supp.length ≤ 8 := (shdMay_iff.1 hmay).2.2.1
  have cok := fun x hh hx hz => cok x hh hmay hx (by rw [hl]; omega) hz
  have crow := fun x hx => crow x (by omega) hmay hx
  have ct := shk_back s.data.toList h hrow hmay
  rw [behind_headS] at cok
  rw [hl] at ct cok
  have hAr := headS_row s.size h
  have hAl := headS_length s.size h
  have hg := gap_lt s.size
  have hsk : ((s.size : Int) + 7).tdiv 8 = (((s.size + 7) / 8 : Nat) : Int) := by rw [Int.tdiv_eq_ediv_of_nonneg (by omega)]; omega
  have hsg : (s.size + 7) / 8 * 8 = s.size + gap s.size := by unfold gap; omega
  obtain ⟨L, hL⟩ : ∃ L, headS s.size h = L := ⟨_, rfl⟩
  rw [hL] at cok crow ct hAr hAl
  clear hL
  have hDr : isRow (s.data.toList ++ L) = true := by rw [isRow_append, hrow, hAr]; rfl
  have hDl : (s.data.toList ++ L).length ≤ 300 := by rw [List.length_append, hl, hAl]; omega
  have hZl : (s ++ strH L).data.toList = s.data.toList ++ L := by simp [strH]
  have hHs : (strH L).size ≤ 180 := by rw [strH_size, hAl]; omega
  have hDg : s.size + gap s.size ≤ (s.data.toList ++ L).length := by rw [List.length_append, hl, hAl]; omega
  obtain ⟨D, hD⟩ : ∃ D, s.data.toList ++ L = D := ⟨_, rfl⟩
  obtain ⟨H, hH⟩ : ∃ H, strH L = H := ⟨_, rfl⟩
  obtain ⟨Z, hZ⟩ : ∃ Z, s ++ H = Z := ⟨_, rfl⟩
  rw [hH] at crow hZl hHs
  rw [hD] at cok ct hDr hDl hZl hDg
  rw [hZ] at hZl
  have hZs : Z.size = D.length := by rw [← hZl]; rfl
  clear hD hH hAr hAl L
  obtain ⟨m, hmq⟩ : ∃ m, (s.size + 7) / 8 = m := ⟨_, rfl⟩
  rw [hmq] at hsk hsg
  obtain ⟨g, hgg⟩ : ∃ g, s.size + gap s.size = g := ⟨_, rfl⟩
  rw [hgg] at hsg hDg ct
  have HSG := Lib.hid (show ((m : Int) * 8) = (g : Int) by omega)
  have hm8 : m ≤ 14 := by omega
  clear hmq hgg hg hsg
  have HZ := Lib.hid hZ
  have CT := Lib.hid ct
  have DR := Lib.hid hDr
  have ZL := Lib.hid hZl
  have hZ300 : Z.size ≤ 300 := by omega
  have HZS := Lib.hid hZs
  clear hmay hrow ct hDr hZl hZ cput h101 hZs
  go_enter Try.func3, Try.ntmps3
  go_wp2_with fail
  rw [HWA.out, HA.out]
  refine (plain_page s hss _).mono ?_
  rintro e w1 ⟨rfl, rfl⟩
  rw [F.out]
  have hw0 : IsWr (wA.alloc newWr) (A + 2) (A + 1) [] := IsWr.fresh hzA (by omega)
  have hb0 : Below (A + 1) wA (wA.alloc newWr) := hB0.alloc (by omega) _
  have hz0 : (wA.alloc newWr).heap.size = A + 2 := by simp; omega
  go_wp2_with fail
  refine (new_code _).mono ?_
  rintro e w1 ⟨rfl, rfl⟩
  rw [hzA]
  generalize wA.alloc newWr = x0 at hw0 hb0 hz0 ⊢
  go_wp2_with fail
  refine (add_code _ (A + 2) (A + 1) [] s hw0 F.out (by simp; omega) (by omega)).mono ?_
  rintro e x1 ⟨rfl, hw1, hg1⟩
  rw [List.nil_append] at hw1
  have hb1 : Below (A + 1) wA x1 := hb0.grown hg1 (by omega) (by intro k hk; injection hk with hk; omega)
  have hz1 : A + 2 ≤ x1.heap.size := by have := hg1.size; omega
  obtain ⟨hc1, hi1, -⟩ := KA.out _ hb1
  have hgr : ∀ y, x1.grownBy y (some (A + 1)) → IntsL y p h.supp := fun y hy => (KA.out _ (hb1.grown hy (by omega) (by intro k hk; injection hk with hk; omega))).2.1
  clear hw0 hb0 hz0 hg1 hB0 k5
  go_wp2_with (with_reducible refine wpList_load_row rfl 25 _ rfl A rfl 25 ZS (0, 0) _ hc1 Try.underlying25 rfl HSZS ?_)
  refine (cok _ hgr hw1 hz1).mono ?_
  rintro e x2 ⟨rfl, hw2, hg2⟩
  have hb2 : Below (A + 1) wA x2 := hb1.grown hg2 (by omega) (by intro k hk; injection hk with hk; omega)
  have hz2 : A + 2 ≤ x2.heap.size := Nat.le_trans hz1 hg2.size
  obtain ⟨hc2, hi2, -⟩ := KA.out _ hb2
  clear hw1 hb1 hz1 hc1 hi1 hg2 cok hgr
  go_wp2_with (with_reducible refine wpList_load_row rfl 25 _ rfl A rfl 25 ZS (0, 0) _ hc2 Try.underlying25 rfl HSZS ?_)
  refine (cnil _).mono ?_
  rintro e x3 ⟨rfl, hb3'⟩
  have hw3 := hw2.below hb3'
  have hb3 : Below (A + 1) wA x3 := hb2.trans (hb3'.mono (by omega))
  have hz3 : A + 2 ≤ x3.heap.size := Nat.le_trans hz2 hb3'.size
  obtain ⟨hc3, hi3, -⟩ := KA.out _ hb3
  clear hw2 hb2 hz2 hc2 hi2 hb3' cnil
  go_wp2_with (with_reducible refine wpList_load_row rfl 25 _ rfl A rfl 25 ZS (0, 0) _ hc3 Try.underlying25 rfl HSZS ?_)
  refine (cright _ hi3).mono ?_
  rintro e x4 ⟨rfl, hb4'⟩
  have hw4 := hw3.below hb4'
  have hb4 : Below (A + 1) wA x4 := hb3.trans (hb4'.mono (by omega))
  have hz4 : A + 2 ≤ x4.heap.size := Nat.le_trans hz3 hb4'.size
  obtain ⟨hc4, hi4, -⟩ := KA.out _ hb4
  clear hw3 hb3 hz3 hc3 hi3 hb4' cright
  go_wp2_with (with_reducible refine wpList_load_row rfl 25 _ rfl A rfl 25 ZS (0, 0) _ hc4 Try.underlying25 rfl HSZS ?_)
  refine (crow _ hi4).mono ?_
  rintro e x5 ⟨rfl, hb5'⟩
  have hw5 := hw4.below hb5'
  have hb5 : Below (A + 1) wA x5 := hb4.trans (hb5'.mono (by omega))
  have hz5 : A + 2 ≤ x5.heap.size := Nat.le_trans hz4 hb5'.size
  clear hw4 hb4 hz4 hc4 hi4 hb5' crow
  go_wp2_with fail
  refine (text_code _ _ _ _ hw5 (by omega)).mono ?_
  rintro e x6 ⟨rfl, hb6'⟩
  rw [HZ.out]
  have hw6 := hw5.below hb6'
  have hb6 : Below (A + 1) wA x6 := hb5.trans (hb6'.mono (by omega))
  have hz6 : A + 2 ≤ x6.heap.size := Nat.le_trans hz5 hb6'.size
  obtain ⟨TT, hT⟩ : ∃ TT : ByteArray, ⟨(packL D).toArray⟩ = TT := ⟨_, rfl⟩
  have hTl : TT.data.toList = packL D := by rw [← hT]
  have hTs : TT.size = (packL D).length := by rw [← hT, size_mk]
  have hTl0 : (packL D).length ≤ 100 := by rw [packL_length]; omega
  have hTm := packL_most D
  rw [hT]
  have CT2 : shk TT.data.toList g = (h, D.length, 0) := by rw [hTl]; exact CT.out
  have HT := Lib.hid hT
  clear hw5 hb5 hz5 hb6' CT hT hTl
  have hr0 : IsRd (x6.alloc (rdObj TT 0)) x6.heap.size TT 0 := IsRd.fresh rfl (by omega)
  have hb7 : Below x6.heap.size x6 (x6.alloc (rdObj TT 0)) := (Below.refl _ x6).alloc (Nat.le_refl _) _
  have hz7 : x6.heap.size < (x6.alloc (rdObj TT 0)).heap.size := by simp
  have KH := Lib.hid (fun x (hx : Below x6.heap.size x6 x) => (⟨hw6.below hx, KA.out _ (hb6.trans (hx.mono (by omega)))⟩ : IsWr x (A + 2) (A + 1) D ∧ x.heap[A]? = some (.cells ZS 25 (0, 0)) ∧ IntsL x p h.supp ∧ Below A w x))
  clear hw6 hb6 KA
  go_wp2_with fail
  refine (rnew_code _ _).mono ?_
  rintro e w4 ⟨rfl, rfl⟩
  generalize x6.alloc (rdObj TT 0) = x7 at hr0 hb7 hz7 ⊢
  obtain ⟨R, hR⟩ : ∃ R, x6.heap.size = R := ⟨_, rfl⟩
  rw [hR] at hr0 hb7 hz7 hz6 KH ⊢
  clear hR
  go_wp2_with fail
  rw [HSG.out]
  refine (seek_code _ _ _ _ (g : Int) hr0 (by omega) (by omega)).mono ?_
  rintro e x8 ⟨rfl, hr8, hg8⟩
  rw [Int.toNat_natCast] at hr8
  have hb8 : Below R x6 x8 := hb7.grown hg8 (by omega) (by intro k hk; injection hk with hk; omega)
  have hz8 : R < x8.heap.size := Nat.lt_of_lt_of_le hz7 hg8.size
  clear hr0 hb7 hz7 hg8
  have ct := stk_code x8 R TT g hr8 (by omega)
  unfold ShTake at ct
  rw [CT2] at ct
  dsimp only at ct
  clear CT2
  go_wp2_with fail
  refine ct.mono ?_
  rintro e x9 ⟨a1, cap1, rfl, hil1, -, hr9, hg9⟩
  have hb9 : Below R x6 x9 := hb8.grown hg9 (by omega) (by intro k hk; injection hk with hk; omega)
  have hz9 : R < x9.heap.size := Nat.lt_of_lt_of_le hz8 hg9.size
  clear hr8 hb8 hz8 hg9 ct
  have hsh := ShAt.fresh (cap := cap1) (z := 0) hil1
  have HSZ1 := sheet_sized h (.slice a1 h.supp.length cap1) (.slice none 0 0) 0
  have HONE1 := sheet_one h a1 none h.supp.length 0 cap1 0 0
  have HYZ1 := zero_sized h a1 cap1 0
  obtain ⟨y0, hy0⟩ : ∃ x, x9.alloc (.cells (sheetL h (.slice a1 h.supp.length cap1) (.slice none 0 0) 0).toArray 25 (0, 0)) = x := ⟨_, rfl⟩
  have hbx : Below x9.heap.size x9 y0 := by rw [← hy0]; exact (Below.refl _ x9).alloc (Nat.le_refl _) _
  have hr10 := hr9.below hbx
  have hb10 : Below R x6 y0 := hb9.trans (hbx.mono (by omega))
  have hz10 : R < y0.heap.size := Nat.lt_of_lt_of_le hz9 hbx.size
  rw [hy0] at hsh
  have csame := fun x hx hx' => csame x a1 cap1 hx hx'
  have hcx := hsh.cells
  obtain ⟨C1, hC1⟩ : ∃ C, x9.heap.size = C := ⟨_, rfl⟩
  rw [hC1] at hsh hcx
  have KS := Lib.hid (fun x (hx : Below y0.heap.size y0 x) => (⟨(hsh.below hx).cells, (hsh.below hx).ints, (hsh.below hx).at (i := 6) (v := .slice none 0 0) rfl, (hsh.below hx).at (i := 7) (v := .int .i64 0) rfl⟩ : x.heap[C1]? = some (.cells (sheetL h (.slice a1 h.supp.length cap1) (.slice none 0 0) 0).toArray 25 (0, 0)) ∧ IntsL x a1 h.supp ∧ x.cell? ⟨C1, 6, none⟩ = some (.slice none 0 0) ∧ x.cell? ⟨C1, 7, none⟩ = some (.int .i64 0)))
  obtain ⟨Z1, hZ1⟩ : ∃ Z, (sheetL h (.slice a1 h.supp.length cap1) (.slice none 0 0) 0).toArray = Z := ⟨_, rfl⟩
  rw [hZ1] at HSZ1 HONE1 HYZ1 hy0 csame KS ⊢
  have HX1 := Lib.hid hy0
  have HC1 := Lib.hid hC1
  obtain ⟨hw10, -⟩ := KH.out _ hb10
  clear hy0 hC1 hr9 hb9 hz9 hsh hbx hil1 hcx hZ1
  go_wp2_with (with_reducible refine wp_store_fresh rfl 25 _ _ rfl Z1 _ 25 rfl rfl HSZ1 HYZ1 HONE1 ?_; rw [HX1.out, HC1.out])
  refine (len_code _ _ _ _ hw10).mono ?_
  rintro e w' ⟨rfl, rfl⟩
  have hl1 : ((D.length : Int) == (Z.size : Int)) = true := by rw [HZS.out]; exact beq_self_eq_true _
  go_wp2_with fail
  refine (text_code _ _ _ _ hw10 (by omega)).mono ?_
  rintro e y1 ⟨rfl, hb11'⟩
  rw [HT.out]
  have hr11 := hr10.below hb11'
  have hb11 : Below R x6 y1 := hb10.trans (hb11'.mono (by omega))
  have hz11 : R < y1.heap.size := Nat.lt_of_lt_of_le hz10 hb11'.size
  have hby1 := hb11'
  clear hw10 hr10 hb10 hz10 hb11'
  go_wp2_with fail
  refine (pack_page Z (by omega) (by rw [ZL.out]; exact DR.out) _).mono ?_
  rintro e y2 ⟨rfl, hb12'⟩
  rw [ZL.out, HT.out]
  have hr12 := hr11.below hb12'
  have hb12 : Below R x6 y2 := hb11.trans (hb12'.mono (by omega))
  have hz12 : R < y2.heap.size := Nat.lt_of_lt_of_le hz11 hb12'.size
  have hby2 := hby1.trans (hb12'.mono hby1.size)
  obtain ⟨-, hcS, hiS, -⟩ := KH.out _ hb12
  obtain ⟨hcX, hiX, -⟩ := KS.out _ hby2
  have cs := csame y2 hiX hiS
  clear hr11 hb11 hz11 hb12' hby1 csame hiS hiX
  go_wp2_with (first | (with_reducible refine wpList_wanted_load (by kernel_rfl) 25 _ rfl C1 rfl 25 Z1 (0, 0) _ hcX Try.underlying25 rfl HSZ1 ?_) | (with_reducible refine wpList_wanted_load (by kernel_rfl) 25 _ rfl A rfl 25 ZS (0, 0) _ hcS Try.underlying25 rfl HSZS ?_))
  refine cs.mono ?_
  rintro e y3 ⟨rfl, hb13'⟩
  have hr13 := hr12.below hb13'
  have hb13 : Below R x6 y3 := hb12.trans (hb13'.mono (by omega))
  have hz13 : R < y3.heap.size := Nat.lt_of_lt_of_le hz12 hb13'.size
  obtain ⟨hw13, -, -, hbW⟩ := KH.out _ hb13
  obtain ⟨-, -, k6, k7⟩ := KS.out _ (hby2.trans (hb13'.mono hby2.size))
  clear hr12 hb12 hz12 hb13' hby2 hcS hcX cs KH KS
  go_wp2_with fail
  refine (at_code _ _ _ _ hr13).mono ?_
  rintro e w' ⟨rfl, rfl⟩
  go_wp2_with fail
  refine (len_code _ _ _ _ hw13).mono ?_
  rintro e w' ⟨rfl, rfl⟩
  have g2 : ((D.length : Int) == (D.length : Int)) = true := beq_self_eq_true _
  go_wp2_with fail
  refine (lives24 _).mono ?_
  rintro e w' ⟨rfl, hb⟩
  go_wp2
  go_ret
  exact ⟨rfl, hbW.trans (hb.mono (by omega))⟩
theorem sheetheadPuts_own : ownKnob Try.prog.godebug = none := by kernel_rfl
theorem sheetheadPuts_laid : laidOutB Try.prog = true := by kernel_rfl
theorem sheetheadPuts_reads : Try.f3.params.toList.all (fun t => Try.prog.readableRec t && decide (t < Try.prog.types.size)) = true := by kernel_rfl
set_option maxRecDepth 100000 in
theorem sheetheadPuts_lifted (os : Os) (started : os.Started) (H : Type) (enc : TypeId × Value → H) :
  ReturnsInHanded {} Try.checked os 3 .any (Rows.sheetheadPutsSpec.pre6 enc Try.prog Try.f3 Rows.sheetheadPutsRow.domain false) (Rows.sheetheadPutsSpec.post enc Try.prog Try.f3 false true false false) := by
 refine returnsInHanded_of_change (C := Try.checked) sheetheadPuts_own started (by kernel_rfl) Try.func3
  (ChangeSpec.witness6 (enc := enc) (C := Try.checked) false ⟨#[], #[.agg (sheetL shdZ (.slice none 0 0) (.slice none 0 0) 0).toArray, .string ⟨#[]⟩], []⟩ 8 (by kernel_rfl) (by kernel_rfl) (by kernel_rfl) (by kernel_rfl)) ?_
 intro W base args ds gs before hval0 hW hcnd _
 have hval : ∀ (j : Nat) t v, Try.f3.params[j]? = some t → args[j]? = some v → Value.okWide Try.prog W .any base t v := hval0
 have hW' := hW
 obtain ⟨p, q, hA0, hV, rfl, hfz, hnd⟩ := hW
 have hA : DataW.TrodAll enc Try.prog W 0 (fun _ => true) true Try.f3.params.toList args.toList ds p := hA0
 rw [Try.params3] at hA hval
 obtain ⟨v0, vs0, d0, ds0, p0, q0, hargs, rfl, rfl, h0, r0⟩ := trodAll_cons hA
 obtain ⟨v1, vs1, d1, ds1, p1, q1, rfl, rfl, rfl, h1, r1⟩ := trodAll_cons r0
 obtain ⟨rfl, rfl, rfl⟩ := trodAll_nil r1
 obtain rfl : args = #[v0, v1] := by cases args; simp_all
 obtain ⟨rfl, rfl⟩ := trodVars_none hV
 obtain ⟨s0, a0, c0, b0, z0, rfl, w0, x0⟩ := open_sheet Try.underlying25 Try.underlying3 Try.underlying4 Try.underlying22 (tr := 23) ⟨rfl, rfl, rfl, rfl, rfl, rfl, rfl, rfl⟩ ⟨rfl, rfl, rfl, rfl, rfl, rfl, rfl, rfl⟩ (by kernel_rfl) (by kernel_rfl) (by kernel_rfl) (by kernel_rfl) (hval 0 25 v0 rfl rfl) h0
 obtain ⟨a1, rfl, rfl, rfl, w1⟩ := Go.ChangeMaps.open_string Try.underlying9 (hval 1 9 v1 rfl rfl) h1
 clear hA0 hval0
 refine (sheetheadPuts_walk s0 a0 c0 b0 z0 a1 W w0 x0 w1).mono fun e W' ⟨he, hb⟩ => ?_
 subst he
 exact ⟨_, rfl, law_end sheetheadPuts_laid sheetheadPuts_reads rfl Try.underlying4 rfl hW' rfl hb⟩
theorem sheetheadPuts_over : Rows.sheetheadPutsRow.holds Try.pinned (OpenSpec.ofChange Rows.sheetheadPutsSpec) :=
 OpenClaim.holds_of_wide 3 Try.f3 rfl rfl rfl rfl rfl rfl rfl ⟨rfl, rfl, rfl, rfl, rfl⟩ rfl rfl rfl rfl rfl (by kernel_rfl) Try.func3 (by kernel_rfl)
  (of_decide_eq_true (by kernel_rfl)) (by unfold Func.isWrapper; first | (rw [if_pos (by decide +kernel)]; kernel_rfl) | (rw [if_neg (by decide +kernel)]; exact ⟨rfl, rfl⟩))
  (fun os started H enc _ => sheetheadPuts_lifted os started H enc)
theorem sheetheadPuts_holds : Rows.SheetheadPutsSaid :=
 sheetheadPuts_over
#print axioms sheetheadPuts_holds
end Go.Proofs.Ytgbnpmpkfkijdaa
