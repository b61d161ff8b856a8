/- Any head of a row is written as the document's own answer says, behind what is there, or refused, and then nothing is written; what was written is taken again; and the chapter's example comes out. Conditions: none but the law's own (texts of up to 100 digits ahead). -/
import Derived.Test.YtpboidkoodjcjaaRowheadPutsMe
import Derived.Test.YtpboidkoodjcjaaRowheadPutsMi
import Derived.Test.YtpboidkoodjcjaaRows
import Derived.ChangeMaps5
import Derived.ProofKit
namespace Go.Proofs.Ytpboidkoodjcjaa
open Go.ChangeShapes Go.WideShapes Go.ChangeAt Go.RowKit
set_option linter.unusedVariables false
set_option maxRecDepth 100000 in
set_option maxHeartbeats 2000000 in
theorem rowheadPuts_walk (s : ByteArray) (n id q : Int) (hs : s.size ≤ maxLen) (_ : (Lit.int .i64 n).wf = true) (_ : (Lit.int .i64 id).wf = true) (_ : (Lit.int .i64 q).wf = true) (w : World) :
  Calls Try.prog 3 #[.string s, .int .i64 n, .agg #[.int .i64 id, .int .i64 q]] w fun e w' => e = .returned (.bool true) ∧ Below w.heap.size w w' := by
 have hss := hs
 unfold maxLen at hs
 obtain ⟨A, hA⟩ : ∃ A, w.heap.size = A := ⟨_, rfl⟩
 have hzA : (w.alloc (.cells #[.int .i64 id, .int .i64 q] 22)).heap.size = A + 1 := by simp; exact hA
 have hlow : ∀ x, Below (A + 1) (w.alloc (.cells #[.int .i64 id, .int .i64 q] 22)) x → Below A w x := fun x hx => hA ▸ ((Below.refl _ w).alloc (Nat.le_refl _) _).trans (hx.mono (by omega))
 have hcel : ∀ x, Below (A + 1) (w.alloc (.cells #[.int .i64 id, .int .i64 q] 22)) x → x.cell? ⟨A, 0, none⟩ = some (.int .i64 id) ∧ x.cell? ⟨A, 1, none⟩ = some (.int .i64 q) := fun x hx => by
  have hh : x.heap[A]? = some (.cells [.int .i64 id, .int .i64 q].toArray 22 (0, 0)) := (hx.block A (by omega)).trans (hA ▸ heap_alloc_new w _)
  exact ⟨part_cells hh rfl, part_cells hh rfl⟩
 have LW := Lib.hid hlow
 have CL := Lib.hid hcel
 have HA := Lib.hid hA
 have hB0 : Below (A + 1) (w.alloc (.cells #[.int .i64 id, .int .i64 q] 22)) (w.alloc (.cells #[.int .i64 id, .int .i64 q] 22)) := Below.refl _ _
 rw [hA]
 clear hlow hcel hA
 by_cases h100 : 100 < s.size
 ·have t0 : decide (100 < (s.size : Int)) = true := by simp; omega
  clear h100
  go_enter Try.func3, Try.ntmps3
  go_wp2_with fail
  rw [HA.out]
  generalize w.alloc (.cells #[.int .i64 id, .int .i64 q] 22) = wA at hzA LW CL hB0 ⊢
  go_wp2_with (go_at_call 6; refine (lives23 _).mono ?_; rintro e w' ⟨rfl, hb⟩)
  go_ret
  exact ⟨rfl, LW.out _ (hzA ▸ hb)⟩
 have t0 : decide (100 < (s.size : Int)) = false := by simp; omega
 cases hrow : isRow s.data.toList with
 | false =>
  have F := Lib.hid hrow
  clear hrow
  go_enter Try.func3, Try.ntmps3
  go_wp2_with fail
  rw [HA.out]
  generalize w.alloc (.cells #[.int .i64 id, .int .i64 q] 22) = wA at hzA LW CL hB0 ⊢
  refine (plain_page s hss _).mono ?_
  rintro e w1 ⟨rfl, rfl⟩
  rw [F.out]
  go_wp2_with (go_at_call 6; refine (lives23 _).mono ?_; rintro e w' ⟨rfl, hb⟩)
  go_ret
  exact ⟨rfl, LW.out _ (hzA ▸ hb)⟩
 | true =>
  have hl : s.data.toList.length = s.size := rfl
  have F := Lib.hid hrow
  have cn := fun w => hput_nil n id q w
  by_cases hmay : 1 ≤ n ∧ n ≤ 17 ∧ 0 ≤ id ∧ id ≤ 3 ∧ 1 ≤ q ∧ q ≤ 31
  ·obtain ⟨N, hN⟩ : ∃ N : Nat, n = N := ⟨n.toNat, by omega⟩
   obtain ⟨I, hI⟩ : ∃ I : Nat, id = I := ⟨id.toNat, by omega⟩
   obtain ⟨Q, hQ⟩ : ∃ Q : Nat, q = Q := ⟨q.toNat, by omega⟩
   have h5 : 1 ≤ N ∧ N ≤ 17 ∧ I ≤ 3 ∧ 1 ≤ Q ∧ Q ≤ 31 := by omega
   have cp := fun (w : World) (B b : Nat) hw hn hB => hput_ok w B b s.data.toList N I Q h5 hw hn hB
   have cr := fun w => hrow_page s.size N I Q (by omega) (by omega) w
   have ct := hdk_there s.data.toList [] N I Q hrow rfl (by omega) (by omega) (by omega) (by omega)
   rw [List.append_nil, behind_all] at ct
   rw [behind_all] at cp
   rw [← hN, ← hI, ← hQ] at cp cr ct
   rw [hl] at ct cp
   have hAr := headAll_row s.size N I Q
   have hAl := headAll_length s.size N I Q
   have hg := gap_lt s.size
   obtain ⟨L, hL⟩ : ∃ L, headAll s.size N I Q = L := ⟨_, rfl⟩
   rw [hL] at cp cr ct hAr hAl
   clear hL hN hI hQ h5 N I Q
   have hDr : isRow (s.data.toList ++ L) = true := by rw [isRow_append, hrow, hAr]; rfl
   have hDl : (s.data.toList ++ L).length = s.size + gap s.size + 29 := by rw [List.length_append, hl, hAl]; omega
   have hZl : (s ++ strH L).data.toList = s.data.toList ++ L := by simp [strH]
   have hHs : (strH L).size = gap s.size + 29 := by rw [strH_size, hAl]
   obtain ⟨D, hD⟩ : ∃ D, s.data.toList ++ L = D := ⟨_, rfl⟩
   obtain ⟨H, hH⟩ : ∃ H, strH L = H := ⟨_, rfl⟩
   obtain ⟨Z, hZ⟩ : ∃ Z, s ++ H = Z := ⟨_, rfl⟩
   rw [hH] at cr hZl hHs
   rw [hD] at cp ct hDr hDl hZl
   rw [hZ] at hZl
   have hZs : Z.size = D.length := by rw [← hZl]; rfl
   clear hD hH hAr hAl L
   generalize gap s.size = g at *
   have HZ := Lib.hid hZ
   have CT := Lib.hid ct
   have DR := Lib.hid hDr
   have ZL := Lib.hid hZl
   have h1 : ¬ n < 1 := by omega
   have h2 : ¬ 17 < n := by omega
   have h3 : ¬ id < 0 := by omega
   have h4 : ¬ 3 < id := by omega
   have h5 : ¬ q < 1 := by omega
   have h6 : ¬ 31 < q := by omega
   clear hmay hrow ct hDr hZl hZ
   have hD200 : D.length ≤ 200 := by omega
   have hZ200 : Z.size ≤ 200 := by omega
   have hH40 : H.size ≤ 40 := by omega
   go_enter Try.func3, Try.ntmps3
   go_wp2_with fail
   rw [HA.out]
   generalize w.alloc (.cells #[.int .i64 id, .int .i64 q] 22) = wA at hzA LW CL hB0 ⊢
   refine (plain_page s hss _).mono ?_
   rintro e w1 ⟨rfl, rfl⟩
   rw [F.out]
   have hw0 : IsWr (wA.alloc newWr) (A + 2) (A + 1) [] := IsWr.fresh hzA (by omega)
   have hb0 : Below (A + 1) wA (wA.alloc newWr) := hB0.alloc (by omega) _
   have hz0 : (wA.alloc newWr).heap.size = A + 2 := by simp; omega
   go_wp2_with fail
   refine (new_code _).mono ?_
   rintro e w1 ⟨rfl, rfl⟩
   rw [hzA]
   generalize wA.alloc newWr = x0 at hw0 hb0 hz0 ⊢
   go_wp2_with fail
   refine (add_code _ (A + 2) (A + 1) [] s hw0 F.out (by simp; omega) (by omega)).mono ?_
   rintro e x1 ⟨rfl, hw1, hg1⟩
   rw [List.nil_append] at hw1
   have hb1 : Below (A + 1) wA x1 := hb0.grown hg1 (by omega) (by intro k hk; injection hk with hk; omega)
   have hz1 : A + 2 ≤ x1.heap.size := by have := hg1.size; omega
   obtain ⟨k0, k1⟩ := CL.out _ hb1
   clear hw0 hb0 hz0 hg1 hB0
   go_wp2_with fail
   refine (cp _ (A + 2) (A + 1) hw1 (by omega) (by omega)).mono ?_
   rintro e x2 ⟨rfl, hw2, hg2⟩
   have hb2 : Below (A + 1) wA x2 := hb1.grown hg2 (by omega) (by intro k hk; injection hk with hk; omega)
   have hz2 : A + 2 ≤ x2.heap.size := by have := hg2.size; omega
   clear k0 k1 hw1 hb1 hz1 hg2
   obtain ⟨k0, k1⟩ := CL.out _ hb2
   go_wp2_with fail
   refine (cn _).mono ?_
   rintro e w3 ⟨rfl, rfl⟩
   go_wp2_with fail
   refine (cr _).mono ?_
   rintro e x3 ⟨rfl, hb3'⟩
   have hw3 := hw2.below hb3'
   have hb3 : Below (A + 1) wA x3 := hb2.trans (hb3'.mono (by omega))
   have hz3 : A + 2 ≤ x3.heap.size := by have := hb3'.size; omega
   clear k0 k1 hw2 hb2 hz2 hb3'
   go_wp2_with fail
   refine (text_code _ _ _ _ hw3 (by omega)).mono ?_
   rintro e x4 ⟨rfl, hb4'⟩
   rw [HZ.out]
   have hw4 := hw3.below hb4'
   have hb4 : Below (A + 1) wA x4 := hb3.trans (hb4'.mono (by omega))
   have hz4 : A + 2 ≤ x4.heap.size := by have := hb4'.size; omega
   have hTl0 : (packL D).length ≤ 100 := by rw [packL_length]; omega
   have hTm := packL_most D
   obtain ⟨T, hT⟩ : ∃ T : ByteArray, ⟨(packL D).toArray⟩ = T := ⟨_, rfl⟩
   have hTl : T.data.toList = packL D := by rw [← hT]
   have hTs : T.size = (packL D).length := by rw [← hT, size_mk]
   rw [hT]
   have CT2 := Lib.hid (show hdk T.data.toList s.size n = (id, q, s.size + g + 29, 0) by rw [hTl]; exact CT.out)
   have HT := Lib.hid hT
   clear hw3 hb3 hz3 hb4' CT hT hTl
   have hr0 : IsRd (x4.alloc (rdObj T 0)) x4.heap.size T 0 := IsRd.fresh rfl (by omega)
   have hb5 : Below x4.heap.size x4 (x4.alloc (rdObj T 0)) := (Below.refl _ x4).alloc (Nat.le_refl _) _
   have hz5 : x4.heap.size ≤ (x4.alloc (rdObj T 0)).heap.size := by simp
   have KK := fun x (hx : Below x4.heap.size x4 x) => (⟨hw4.below hx, CL.out _ (hb4.trans (hx.mono (by omega))), LW.out _ (hb4.trans (hx.mono (by omega)))⟩ : IsWr x (A + 2) (A + 1) D ∧ (x.cell? ⟨A, 0, none⟩ = some (.int .i64 id) ∧ x.cell? ⟨A, 1, none⟩ = some (.int .i64 q)) ∧ Below A w x)
   clear hw4 hb4 CL LW hzA
   go_wp2_with fail
   refine (rnew_code _ _).mono ?_
   rintro e w4 ⟨rfl, rfl⟩
   generalize x4.alloc (rdObj T 0) = x5 at hr0 hb5 hz5 ⊢
   obtain ⟨R, hR⟩ : ∃ R, x4.heap.size = R := ⟨_, rfl⟩
   rw [hR] at hr0 hb5 hz5 hz4 KK ⊢
   have KH := Lib.hid KK
   clear hR KK
   go_wp2_with fail
   refine (seek_code _ _ _ _ (s.size : Int) hr0 (by omega) (by omega)).mono ?_
   rintro e x6 ⟨rfl, hr6, hg6⟩
   rw [Int.toNat_natCast] at hr6
   have hb6 : Below R x4 x6 := hb5.grown hg6 hz5 (by intro k hk; injection hk with hk; omega)
   have hz6 : R ≤ x6.heap.size := Nat.le_trans hz5 hg6.size
   clear hr0 hb5 hz5 hg6
   go_wp2_with fail
   refine (htake_code _ R T s.size n hr6 (by omega)).mono ?_
   rintro e x7 ⟨rfl, hr7, hg7⟩
   rw [CT2.out] at hr7 ⊢
   have hb7 : Below R x4 x7 := hb6.grown hg7 hz6 (by intro k hk; injection hk with hk; omega)
   have hz7 : R ≤ x7.heap.size := Nat.le_trans hz6 hg7.size
   clear hr6 hb6 hz6 hg7
   obtain ⟨hw7, -, -⟩ := KH.out _ hb7
   go_wp2_with fail
   refine (len_code _ _ _ _ hw7).mono ?_
   rintro e w' ⟨rfl, rfl⟩
   have hl1 : ((D.length : Int) == (Z.size : Int)) = true := by rw [hZs]; exact beq_self_eq_true _
   go_wp2_with fail
   refine (text_code _ _ _ _ hw7 (by omega)).mono ?_
   rintro e x8 ⟨rfl, hb8'⟩
   rw [HT.out]
   have hr8 := hr7.below hb8'
   have hb8 : Below R x4 x8 := hb7.trans (hb8'.mono hz7)
   have hz8 : R ≤ x8.heap.size := Nat.le_trans hz7 hb8'.size
   clear hw7 hr7 hb7 hz7 hb8'
   go_wp2_with fail
   refine (pack_page Z (by omega) (by rw [ZL.out]; exact DR.out) _).mono ?_
   rintro e x9 ⟨rfl, hb9'⟩
   rw [ZL.out, HT.out]
   have hr9 := hr8.below hb9'
   have hb9 : Below R x4 x9 := hb8.trans (hb9'.mono hz8)
   have hz9 : R ≤ x9.heap.size := Nat.le_trans hz8 hb9'.size
   clear hr8 hb8 hz8 hb9'
   obtain ⟨hw9, ⟨k0, k1⟩, hbA⟩ := KH.out _ hb9
   have g0 : (id == id) = true := beq_self_eq_true _
   have g1 : (q == q) = true := beq_self_eq_true _
   have g2 : (((s.size + g + 29 : Nat) : Int) == (D.length : Int)) = true := by rw [hDl]; exact beq_self_eq_true _
   go_wp2_with fail
   refine (at_code _ _ _ _ hr9).mono ?_
   rintro e w' ⟨rfl, rfl⟩
   go_wp2_with fail
   refine (len_code _ _ _ _ hw9).mono ?_
   rintro e w' ⟨rfl, rfl⟩
   go_wp2_with fail
   refine (lives23 _).mono ?_
   rintro e w' ⟨rfl, hb⟩
   go_wp2
   go_ret
   exact ⟨rfl, hbA.trans (hb.mono (by omega))⟩
  ·have cp := fun a w => hput_not a n id q w hmay
   have hor : n < 1 ∨ (¬ n < 1 ∧ 17 < n) ∨ (¬ n < 1 ∧ ¬ 17 < n ∧ id < 0) ∨ (¬ n < 1 ∧ ¬ 17 < n ∧ ¬ id < 0 ∧ 3 < id) ∨ (¬ n < 1 ∧ ¬ 17 < n ∧ ¬ id < 0 ∧ ¬ 3 < id ∧ q < 1) ∨ (¬ n < 1 ∧ ¬ 17 < n ∧ ¬ id < 0 ∧ ¬ 3 < id ∧ ¬ q < 1 ∧ 31 < q) := by omega
   clear hmay hrow
   go_enter Try.func3, Try.ntmps3
   go_wp2_with fail
   rw [HA.out]
   generalize w.alloc (.cells #[.int .i64 id, .int .i64 q] 22) = wA at hzA LW CL hB0 ⊢
   refine (plain_page s hss _).mono ?_
   rintro e w1 ⟨rfl, rfl⟩
   rw [F.out]
   have hw0 : IsWr (wA.alloc newWr) (A + 2) (A + 1) [] := IsWr.fresh hzA (by omega)
   have hb0 : Below (A + 1) wA (wA.alloc newWr) := hB0.alloc (by omega) _
   have hz0 : (wA.alloc newWr).heap.size = A + 2 := by simp; omega
   go_wp2_with fail
   refine (new_code _).mono ?_
   rintro e w1 ⟨rfl, rfl⟩
   rw [hzA]
   generalize wA.alloc newWr = x0 at hw0 hb0 hz0 ⊢
   go_wp2_with fail
   refine (add_code _ (A + 2) (A + 1) [] s hw0 F.out (by simp; omega) (by omega)).mono ?_
   rintro e x1 ⟨rfl, hw1, hg1⟩
   rw [List.nil_append] at hw1
   have hb1 : Below (A + 1) wA x1 := hb0.grown hg1 (by omega) (by intro k hk; injection hk with hk; omega)
   have hz1 : A + 2 ≤ x1.heap.size := by have := hg1.size; omega
   obtain ⟨k0, k1⟩ := CL.out _ hb1
   clear hw0 hb0 hz0 hg1 hB0
   go_wp2_with fail
   refine (cp _ _).mono ?_
   rintro e w3 ⟨rfl, rfl⟩
   go_wp2_with fail
   refine (cn _).mono ?_
   rintro e w3 ⟨rfl, rfl⟩
   have hb2 : Below A w x1 := LW.out _ hb1
   clear cp cn hzA LW CL hb1
   rcases hor with h | ⟨h1, h⟩ | ⟨h1, h2, h⟩ | ⟨h1, h2, h3, h⟩ | ⟨h1, h2, h3, h4, h⟩ | ⟨h1, h2, h3, h4, h5, h⟩
   all_goals
    go_wp2_with (first
     | (go_at_call 10; refine (len_code _ _ _ _ hw1).mono ?_; rintro e w' ⟨rfl, rfl⟩; rw [hl])
     | (go_at_call 6; refine (lives23 _).mono ?_; rintro e w' ⟨rfl, hb⟩))
    go_ret
    exact ⟨rfl, hb2.trans (hb.mono (by omega))⟩
theorem rowheadPuts_own : ownKnob Try.prog.godebug = none := by kernel_rfl
theorem rowheadPuts_laid : laidOutB Try.prog = true := by kernel_rfl
theorem rowheadPuts_reads : Try.f3.params.toList.all (fun t => Try.prog.readableRec t && decide (t < Try.prog.types.size)) = true := by kernel_rfl
set_option maxRecDepth 100000 in
theorem rowheadPuts_lifted (os : Os) (started : os.Started) (H : Type) (enc : TypeId × Value → H) :
  ReturnsInHanded {} Try.checked os 3 .any (Rows.rowheadPutsSpec.pre6 enc Try.prog Try.f3 Rows.rowheadPutsRow.domain false) (Rows.rowheadPutsSpec.post enc Try.prog Try.f3 false true false false) := by
 refine returnsInHanded_of_change (C := Try.checked) rowheadPuts_own started (by kernel_rfl) Try.func3
  (ChangeSpec.witness6 (enc := enc) (C := Try.checked) false ⟨#[], #[.string ⟨#[]⟩, .int .i64 0, .agg #[.int .i64 0, .int .i64 0]], []⟩ 8 (by kernel_rfl) (by kernel_rfl) (by kernel_rfl) (by kernel_rfl)) ?_
 intro W base args ds gs before hval0 hW hcnd _
 have hval : ∀ (j : Nat) t v, Try.f3.params[j]? = some t → args[j]? = some v → Value.okWide Try.prog W .any base t v := hval0
 have hW' := hW
 obtain ⟨p, q, hA0, hV, rfl, hfz, hnd⟩ := hW
 have hA : DataW.TrodAll enc Try.prog W 0 (fun _ => true) true Try.f3.params.toList args.toList ds p := hA0
 rw [Try.params3] at hA hval
 obtain ⟨v0, vs0, d0, ds0, p0, q0, hargs, rfl, rfl, h0, r0⟩ := trodAll_cons hA
 obtain ⟨v1, vs1, d1, ds1, p1, q1, rfl, rfl, rfl, h1, r1⟩ := trodAll_cons r0
 obtain ⟨v2, vs2, d2, ds2, p2, q2, rfl, rfl, rfl, h2, r2⟩ := trodAll_cons r1
 obtain ⟨rfl, rfl, rfl⟩ := trodAll_nil r2
 obtain rfl : args = #[v0, v1, v2] := by cases args; simp_all
 obtain ⟨rfl, rfl⟩ := trodVars_none hV
 obtain ⟨a0, rfl, rfl, rfl, w0⟩ := Go.ChangeMaps.open_string Try.underlying9 (hval 0 9 v0 rfl rfl) h0
 obtain ⟨a1, rfl, rfl, rfl, w1⟩ := open_int Try.underlying3 (hval 1 3 v1 rfl rfl) h1
 obtain ⟨a2, b2, rfl, w2, x2⟩ := open_two Try.underlying22 Try.underlying3 (by kernel_rfl) (by kernel_rfl) (hval 2 22 v2 rfl rfl) h2
 clear hA0 hval0
 refine (rowheadPuts_walk a0 a1 a2 b2 w0 w1 w2 x2 W).mono fun e W' ⟨he, hb⟩ => ?_
 subst he
 exact ⟨_, rfl, law_end rowheadPuts_laid rowheadPuts_reads rfl Try.underlying4 rfl hW' rfl hb⟩
theorem rowheadPuts_over : Rows.rowheadPutsRow.holds Try.pinned (OpenSpec.ofChange Rows.rowheadPutsSpec) :=
 OpenClaim.holds_of_wide 3 Try.f3 rfl rfl rfl rfl rfl rfl rfl ⟨rfl, rfl, rfl, rfl, rfl⟩ rfl rfl rfl rfl rfl (by kernel_rfl) Try.func3 (by kernel_rfl)
  (of_decide_eq_true (by kernel_rfl)) (by unfold Func.isWrapper; first | (rw [if_pos (by decide +kernel)]; kernel_rfl) | (rw [if_neg (by decide +kernel)]; exact ⟨rfl, rfl⟩))
  (fun os started H enc _ => rowheadPuts_lifted os started H enc)
theorem rowheadPuts_holds : Rows.RowheadPutsSaid :=
 rowheadPuts_over
#print axioms rowheadPuts_holds
end Go.Proofs.Ytpboidkoodjcjaa
