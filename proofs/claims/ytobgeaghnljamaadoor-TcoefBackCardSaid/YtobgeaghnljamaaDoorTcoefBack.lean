/- What an event's row tells is taken again, whatever stands behind it, and it has at most 22 digits; and the chapter's examples come out. Conditions: none but the law's own (up to 60 digits behind), and the card's: what the listed variables hold when the call begins, tied to the program's text. -/
import Derived.Test.YtobgeaghnljamaaDoorCards
import Derived.Test.YtobgeaghnljamaaDoorTie
import Derived.Test.YtobgeaghnljamaaDoorLives9
import Derived.Test.YtobgeaghnljamaaDoorLaws
import Derived.Test.YtobgeaghnljamaaDoorBack
import Derived.RegionTactic
import Derived.Deep.RegionWith
import Derived.Deep.CutRange
import Derived.Deep.DeepCutAuto
import Derived.ProofKit
import Derived.LaidMore
import Derived.OpenShut
import Derived.Lay
import Derived.SizedLaws
import Derived.SevenTiedAt
import Derived.Stop.Joined
namespace Go.Proofs.YtobgeaghnljamaaDoor
open Go.ChangeShapes Go.WideShapes Go.ChangeAt Go.RowKit
set_option linter.unusedVariables false

theorem rowOf_catB (c d n m : Nat) (hc : c < 2 ^ n) (hd : d < 2 ^ m) : rowOf c n ++ rowOf d m = rowOf (c * 2 ^ m + d) (n + m) := by
  have h := row_num (rowOf c n ++ rowOf d m) (by rw [isRow_append, rowOf_row, rowOf_row]; rfl)
  rw [List.length_append, rowOf_length, rowOf_length, num_append, rowOf_length, num_rowOf, num_rowOf, Nat.mod_eq_of_lt hc, Nat.mod_eq_of_lt hd] at h
  exact h.symm
theorem back_tkE {l : Bool} {run : Nat} {level : Int} (hr : rightT run level = true) (r : ByteArray) (he : eventAt l run level = r) (m : List UInt8) (hm : isRow m = true) :
    isRow (r.data.toList ++ m) = true ∧ 3 ≤ r.size ∧ r.size ≤ 22 ∧ etk (padL (r.data.toList ++ m)) = ((l, run, level), 0, r.size) := by
  obtain ⟨r0, r1, l0, l1, l2⟩ := rightT_iff.1 hr
  obtain ⟨f1, f2, f3⟩ := num_fits l run level (by omega)
  have hrd : r.data.toList = rowOf (numT l run level) (digT l run level) := by
    rw [← he]
    unfold eventAt
    rw [if_pos hr, Int.toNat_natCast]
  have hrs : r.size = digT l run level := by
    have e1 : r.data.toList.length = r.size := rfl
    rw [← e1, hrd, rowOf_length]
  have hrow : isRow r.data.toList = true := by rw [hrd]; exact rowOf_row _ _
  obtain ⟨tl, htl⟩ : ∃ tl, padL (r.data.toList ++ m) = r.data.toList ++ tl := ⟨m ++ List.replicate ((8 - (r.data.toList ++ m).length % 8) % 8) 48, by unfold padL; rw [List.append_assoc]⟩
  have hlen : r.data.toList.length = digT l run level := by rw [hrd, rowOf_length]
  have htake : (padL (r.data.toList ++ m)).take (digT l run level) = r.data.toList := by rw [htl, ← hlen, List.take_left]
  have hbl : digT l run level ≤ (padL (r.data.toList ++ m)).length := by rw [htl, List.length_append]; omega
  have hnum : num r.data.toList = numT l run level := by rw [hrd, num_rowOf, Nat.mod_eq_of_lt f3]
  refine ⟨by rw [isRow_append, hrow, hm]; rfl, by omega, by omega, ?_⟩
  generalize hb : padL (r.data.toList ++ m) = b at htake hbl htl
  rw [hrs]
  cases hin : inT l run level.natAbs with
  | true =>
    have hp := plT_lt (by omega) hin
    have hev := plT_ev (by omega) hin
    have hn1 : numT l run level = 2 * codeT (plT l run level.natAbs) + (if level < 0 then 1 else 0) := by unfold numT; rw [hin, if_pos rfl]
    have hd1 : digT l run level = lenT (plT l run level.natAbs) + 1 := by unfold digT; rw [hin, if_pos rfl]
    generalize plT l run level.natAbs = p at hp hev hn1 hd1
    obtain ⟨b0, b1, b2, _⟩ := code_fits p (by omega)
    have hs : (if level < 0 then 1 else 0 : Nat) < 2 := by split <;> decide
    have hpre : (rowC (cellT p)).isPrefixOf b = true := by
      rw [htl, hrd, hn1, hd1, rowC_T, Nat.mul_comm, ← rowOf_catB _ _ _ 1 b2 hs, List.append_assoc, List.isPrefixOf_iff_prefix]
      exact List.prefix_append _ _
    have hg := gtk_row allT_free (cellT_all (show p < 103 by omega)) (by rw [rowC_len]; exact b0) (by rw [rowC_len]; omega) hpre
    rw [rowC_len] at hg
    have ht := etk_table (i := p) (n := lenT p) hg (by omega) (by rw [← hd1]; exact hbl)
    rw [← hd1, htake, hnum, hev, hn1] at ht
    rw [ht]
    unfold signT
    by_cases hneg : level < 0
    · rw [if_pos hneg, show (2 * codeT p + 1) % 2 = 1 by omega]
      simp only [beq_self_eq_true, if_true]
      rw [show -((level.natAbs : Nat) : Int) = level by omega]
    · rw [if_neg hneg, show (2 * codeT p + 0) % 2 = 0 by omega]
      simp only [show ((0 : Nat) == 1) = false from rfl, Bool.false_eq_true, if_false]
      rw [show ((level.natAbs : Nat) : Int) = level by omega]
  | false =>
    have hn1 : numT l run level = ((6 + l.toNat) * 64 + run) * 256 + (level % 256).toNat := by unfold numT; rw [hin, if_neg (by decide)]
    have hd1 : digT l run level = 22 := by unfold digT; rw [hin, if_neg (by decide)]
    have hl1 : l.toNat ≤ 1 := by cases l <;> decide
    have hpre : (rowC (cellT 102)).isPrefixOf b = true := by
      have h7 : (rowOf (numT l run level) 22).take 7 = rowC (cellT 102) := by
        rw [rowOf_head _ _ _ (by decide), show numT l run level / 2 ^ (22 - 7) = 3 by rw [hn1]; omega]
        decide +kernel
      rw [htl, hrd, hd1, ← h7, List.isPrefixOf_iff_prefix]
      exact (List.take_prefix 7 _).trans (List.prefix_append _ _)
    have hg := gtk_row allT_free (cellT_all (show 102 < 103 by decide)) (by decide +kernel) (by decide +kernel) hpre
    have ht := etk_escape (n := (rowC (cellT 102)).length) hg (by omega)
    rw [← hd1, htake, hnum] at ht
    have hesc : escT (numT l run level) = (l, run, level) := by
      rw [hn1]
      unfold escT
      rw [show (((6 + l.toNat) * 64 + run) * 256 + (level % 256).toNat) / 16384 % 2 = l.toNat by omega, show (((6 + l.toNat) * 64 + run) * 256 + (level % 256).toNat) / 256 % 64 = run by omega, show (((6 + l.toNat) * 64 + run) * 256 + (level % 256).toNat) % 256 = (level % 256).toNat by omega]
      rw [show (l.toNat == 1) = l by cases l <;> rfl]
      congr 2
      split <;> omega
    rw [hesc] at ht
    simp only [hr, hin, Bool.not_false, Bool.and_true, if_true] at ht
    rw [ht]
set_option maxRecDepth 100000 in
set_option maxHeartbeats 2000000 in
theorem tcoefBack_walk (l : Bool) (a b : Int) (s : ByteArray) (w : World) (_ : (Lit.int .i64 a).wf = true) (_ : (Lit.int .i64 b).wf = true) (hss : s.size ≤ maxLen) (_ : s.size ≤ 140737488355328) (hp : HasT w) :
    Calls Tryd.prog 5 #[.agg #[.bool l, .int .i64 a, .int .i64 b], .string s] w fun e w' => e = .returned (.bool true) ∧ Below w.heap.size w w' := by
  have hss' := hss
  unfold maxLen at hss
  obtain ⟨B, hB⟩ : ∃ B, w.heap.size = B := ⟨_, rfl⟩
  obtain ⟨wA, hwA⟩ : ∃ wA, w.alloc (.cells #[.bool l, .int .i64 a, .int .i64 b] 23 (0, 0)) = wA := ⟨_, rfl⟩
  have hzA : wA.heap.size = B + 1 := by rw [← hwA, ← hB]; simp
  have hbA : Below B w wA := by rw [← hwA, ← hB]; exact (Below.refl _ w).alloc (Nat.le_refl _) _
  have hhA : wA.heap[B]? = some (evObj l a b) := by rw [← hwA, ← hB]; exact heap_alloc_new w _
  have HX := Lib.hid (fun (x : World) (hx : Below (B + 1) wA x) => ((hx.block B (by omega)).trans hhA : x.heap[B]? = some (evObj l a b)))
  have HP := Lib.hid (fun (x : World) (hx : Below (B + 1) wA x) => (hp.below (by rw [hB]; exact hbA.trans (hx.mono (by omega))) : HasT x))
  have HBX := Lib.hid (fun (x : World) (hx : Below (B + 1) wA x) => (hbA.trans (hx.mono (by omega)) : Below B w x))
  have hb0 : Below (B + 1) wA wA := Below.refl _ _
  have hz0 : B + 1 ≤ wA.heap.size := by omega
  have HB := Lib.hid hB
  have HWA := Lib.hid hwA
  have HZA := Lib.hid hzA
  clear hB hwA hbA hzA hp
  obtain ⟨c0, c1, c2, _, _, _⟩ := ev_cells hhA
  by_cases h60 : 60 < s.size
  · have t0 : decide (60 < (s.size : Int)) = true := by simp; omega
    clear h60
    go_enter Tryd.func5, Tryd.ntmps5
    go_wp2_with (go_at_call 10; rw [HWA.out]; refine (lives9 _ (HP.out _ hb0)).mono ?_; rintro e w' ⟨rfl, hb⟩)
    go_ret
    exact ⟨rfl, by rw [HB.out]; exact (HBX.out _ hb0).trans (hb.mono (by omega))⟩
  have t0 : decide (60 < (s.size : Int)) = false := by simp; omega
  cases hrow : isRow s.data.toList with
  | false =>
    have F := Lib.hid hrow
    clear hrow
    go_enter Tryd.func5, Tryd.ntmps5
    go_wp2_with fail
    rw [HWA.out]
    refine (plain_page s hss' _).mono ?_
    rintro e w1 ⟨rfl, rfl⟩
    rw [F.out]
    go_wp2_with (go_at_call 10; refine (lives9 _ (HP.out _ hb0)).mono ?_; rintro e w' ⟨rfl, hb⟩)
    go_ret
    exact ⟨rfl, by rw [HB.out]; exact (HBX.out _ hb0).trans (hb.mono (by omega))⟩
  | true =>
    obtain ⟨r, hr⟩ : ∃ r, eventAt l a b = r := ⟨_, rfl⟩
    have RR := Lib.hid hr
    have E := Lib.toList_data r
    cases hrt : rightT a b with
    | false =>
      have hr0 : r = ⟨#[]⟩ := by rw [← hr]; unfold eventAt; rw [hrt, if_neg (by decide)]
      subst hr0
      have F := Lib.hid hrow
      have hri := fun x => right_code l a b x
      rw [hrt] at hri
      clear hrow hr E hrt
      go_enter Tryd.func5, Tryd.ntmps5
      go_wp2_with fail
      rw [HWA.out, HB.out]
      refine (plain_page s hss' _).mono ?_
      rintro e w1 ⟨rfl, rfl⟩
      rw [F.out]
      go_wp2_with fail
      refine (erow_code l a b _ (HP.out _ hb0)).mono ?_
      rintro e w2 ⟨rfl, hb2⟩
      rw [RR.out]
      have hb3 := hb0.trans (hb2.mono hz0)
      have hz3 := hb3.size
      clear c0 c1 c2
      obtain ⟨c0, c1, c2, _, _, _⟩ := ev_cells (HX.out _ hb3)
      clear hb2
      go_wp2_with (first
        | (go_at_call 8; refine (hri _).mono ?_; rintro e w3 ⟨rfl, hb4⟩; have hb5 := hb3.trans (hb4.mono (Nat.le_trans hz0 hz3)))
        | (go_at_call 10; refine (lives9 _ (HP.out _ hb5)).mono ?_; rintro e w' ⟨rfl, hb⟩))
      go_ret
      exact ⟨rfl, by rw [HB.out]; exact (HBX.out _ hb5).trans (hb.mono (by have := hb5.size; omega))⟩
    | true =>
      obtain ⟨r0, r1, _⟩ := rightT_iff.1 hrt
      obtain ⟨run, rfl⟩ : ∃ run : Nat, a = run := ⟨a.toNat, by omega⟩
      obtain ⟨p1, p0, p2, p3⟩ := back_tkE hrt r hr s.data.toList hrow
      have hne : r.data.toList.isEmpty = false := by
        cases hd : r.data.toList with
        | nil =>
          have e1 : r.data.toList.length = r.size := rfl
          rw [hd, List.length_nil] at e1
          omega
        | cons x y => rfl
      have hap : (r ++ s).data.toList = r.data.toList ++ s.data.toList := by simp
      have has : (r ++ s).size = r.size + s.size := by simp
      obtain ⟨z, hz⟩ : ∃ z, r ++ s = z := ⟨_, rfl⟩
      rw [hz] at hap has
      have HZ := Lib.hid hz
      have F := Lib.hid hrow
      have HE := Lib.hid hne
      have P1 := Lib.hid (show isRow z.data.toList = true by rw [hap]; exact p1)
      have P3 := Lib.hid (show etk ((showL (packL z.data.toList)).drop 0) = ((l, run, b), 0, r.size) by rw [List.drop_zero, show_pack _ (by rw [hap]; exact p1), hap]; exact p3)
      have hzl : (packL z.data.toList).length ≤ 100 := by rw [packL_length, hap, List.length_append]; have : r.data.toList.length = r.size := rfl; have : s.data.toList.length = s.size := rfl; omega
      clear hrow E p1 p3 hap hz hne hr hrt r0 r1
      go_enter Tryd.func5, Tryd.ntmps5
      go_wp2_with fail
      rw [HWA.out, HB.out]
      refine (plain_page s hss' _).mono ?_
      rintro e w1 ⟨rfl, rfl⟩
      rw [F.out]
      go_wp2_with fail
      refine (erow_code l run b _ (HP.out _ hb0)).mono ?_
      rintro e w2 ⟨rfl, hb2⟩
      rw [RR.out, HE.out]
      have hb3 := hb0.trans (hb2.mono hz0)
      have hz3 := Nat.le_trans hz0 hb3.size
      clear c0 c1 c2 hb2
      go_wp2_with fail
      rw [HZ.out]
      refine (pack_page z (by omega) P1.out _).mono ?_
      rintro e w3 ⟨rfl, hb4⟩
      have hb5 := hb3.trans (hb4.mono hz3)
      have hz5 := Nat.le_trans hz3 hb4.size
      clear hb3 hz3 hb4
      obtain ⟨t, ht⟩ : ∃ t : ByteArray, (⟨(packL z.data.toList).toArray⟩ : ByteArray) = t := ⟨_, rfl⟩
      have htd : t.data.toList = packL z.data.toList := by rw [← ht]
      have hts : t.size ≤ 100 := by rw [← ht, size_mk]; exact hzl
      have HTD := Lib.hid htd
      rw [ht]
      clear ht htd hzl
      go_wp2_with fail
      refine (rnew_code _ _).mono ?_
      rintro e w5 ⟨rfl, rfl⟩
      obtain ⟨R, hR⟩ : ∃ R, w3.heap.size = R := ⟨_, rfl⟩
      have hr5 : IsRd (w3.alloc (rdObj t 0)) R t 0 := IsRd.fresh hR (by omega)
      have hb6 := hb5.alloc hz5 (rdObj t 0)
      have hz6 := Nat.le_trans hz0 hb6.size
      rw [hR] at hz5 ⊢
      generalize w3.alloc (rdObj t 0) = x1 at hr5 hb6 hz6 ⊢
      clear hb5 hR
      go_wp2_with fail
      refine (eget_code _ R t 0 (HP.out _ hb6) hr5).mono ?_
      rintro e x2 ⟨rfl, hr7, hg7⟩
      obtain ⟨hb7, hz7⟩ := below_ownP hb6 hz6 hg7 hz5
      rw [HTD.out, P3.out] at hr7 ⊢
      simp only [evVal]
      clear hr5 hb6 hz6 hg7 hz5
      rw [Nat.zero_add] at hr7
      have hb8 := hb7.alloc hz7 (.cells #[.bool l, .int .i64 (run : Int), .int .i64 b] 23 (0, 0))
      have hr8 : IsRd (x2.alloc (.cells #[.bool l, .int .i64 (run : Int), .int .i64 b] 23 (0, 0))) R t r.size := hr7.below ((Below.refl _ x2).alloc (Nat.le_refl _) _)
      have hx8 : (x2.alloc (.cells #[.bool l, .int .i64 (run : Int), .int .i64 b] 23 (0, 0))).heap[x2.heap.size]? = some (evObj l run b) := heap_alloc_new x2 _
      obtain ⟨c0, c1, c2, _, _, _⟩ := ev_cells (HX.out _ hb8)
      obtain ⟨d0, d1, d2, _, _, _⟩ := ev_cells hx8
      have g1 : decide (3 ≤ (r.size : Int)) = true := by simp; omega
      have g2 : decide ((r.size : Int) ≤ 22) = true := by simp; omega
      have g3 : decide (3 ≤ r.size) = true := by simpa using p0
      have g4 : decide (r.size ≤ 22) = true := by simpa using p2
      have hz8 := hb8.size
      go_wp2_with (first
        | (go_at_call 16; refine (at_code _ _ _ _ hr8).mono ?_; rintro e w' ⟨rfl, rfl⟩)
        | (go_at_call 10; refine (lives9 _ (HP.out _ hb8)).mono ?_; rintro e w' ⟨rfl, hb⟩))
      go_ret
      exact ⟨rfl, by rw [HB.out]; exact (HBX.out _ hb8).trans (hb.mono (by have := HZA.out; omega))⟩
theorem tcoefBack_own : ownKnob Tryd.prog.godebug = none := by kernel_rfl
theorem tcoefBack_laid : laidOutB Tryd.prog = true := by kernel_rfl
theorem tcoefBack_reads : Tryd.f5.params.toList.all (fun t => Tryd.prog.readableRec t && decide (t < Tryd.prog.types.size)) = true := by kernel_rfl

set_option maxRecDepth 100000 in
theorem tcoefBack_lifted (os : Os) (started : os.Started) (H : Type) (enc : TypeId × Value → H) :
    ReturnsInHanded {} Tryd.checked os 5 .any (fun w args => (Rows.tcoefBackSpec.pre enc Tryd.prog Tryd.f5 Rows.tcoefBackRow.domain false w args ∧ laidMetH Tryd.prog Rows.tcoefBackRow.laid w) ∧ sizedMet enc Tryd.prog Tryd.f5 (OpenSpec.ofChange Rows.tcoefBackSpec) false w args)
      (Rows.tcoefBackSpec.post enc Tryd.prog Tryd.f5 false true false false) := by
  refine returnsInHanded_of_change_and (C := Tryd.checked) (X := fun w _ => laidMetH Tryd.prog Rows.tcoefBackRow.laid w) (fun _ _ _ hh h => h.of_heap hh) tcoefBack_own started (by kernel_rfl) Tryd.func5
    (ChangeSpec.witness_shaped (enc := enc) (C := Tryd.checked) (os := os) (X := fun w _ => laidMetH Tryd.prog Rows.tcoefBackRow.laid w) false (World.laidAll Tryd.prog os Rows.tcoefBackRow.laid) #[.agg #[.bool false, .int .i64 0, .int .i64 0], .string ⟨#[]⟩] 8 (World.laidAll_os _ _ _)
      (World.shaped_of_ZipB (by kernel_rfl) (by kernel_rfl)) (by kernel_rfl) (by kernel_rfl) (by kernel_rfl)
      (by rw [MakeChecks.laidMetH_plain _ _ _ (by kernel_rfl)]; exact laidMet_laidAll _ (by kernel_rfl) (by kernel_rfl))) ?_
  intro W base args ds gs before hval0 hW _ hsz0 hL _
  have hval : ∀ (j : Nat) t v, Tryd.f5.params[j]? = some t → args[j]? = some v → Value.okWide Tryd.prog W .any base t v := hval0
  have hW' := hW
  obtain ⟨p, q, hA0, hV, rfl, hfz, hnd⟩ := hW
  have hA : DataW.TrodAll enc Tryd.prog W 0 (fun _ => true) true Tryd.f5.params.toList args.toList ds p := hA0
  rw [Tryd.params5] at hA hval
  obtain ⟨v0, vs0, d0, ds0, p0, q0, hargs, rfl, rfl, h0, r0⟩ := trodAll_cons hA
  obtain ⟨v1, vs1, d1, ds1, p1, q1, rfl, rfl, rfl, h1, r1⟩ := trodAll_cons r0
  obtain ⟨rfl, rfl, rfl⟩ := trodAll_nil r1
  obtain rfl : args = #[v0, v1] := by cases args; simp_all
  obtain ⟨rfl, rfl⟩ := trodVars_none hV
  obtain ⟨l0, a0, b0, rfl, w0, x0⟩ := open_ev Tryd.underlying23 Tryd.underlying4 Tryd.underlying3 rfl rfl rfl rfl rfl rfl (by kernel_rfl) (by kernel_rfl) (by kernel_rfl) (hval 0 23 v0 rfl rfl) h0
  obtain ⟨a1, rfl, rfl, rfl, w1⟩ := Go.ChangeMaps.open_string Tryd.underlying9 (hval 1 9 v1 rfl rfl) h1
  have z1 : a1.size ≤ 140737488355328 := Nat.le_trans (sized_string hsz0 (j := 1) rfl rfl) (Nat.le_of_lt reachBytes_lt)
  clear hA0 hval0
  refine (tcoefBack_walk l0 a0 b0 a1 W w0 x0 w1 z1 (tcoef_laid hL ⟨by simp [Rows.tcoefBackRow], by kernel_rfl⟩)).mono fun e W' ⟨he, hb⟩ => ?_
  subst he
  exact ⟨_, rfl, law_end tcoefBack_laid tcoefBack_reads rfl Tryd.underlying4 rfl hW' rfl hb⟩

theorem tcoefBack_over : Rows.tcoefBackRow.holds Tryd.pinned (OpenSpec.ofChange Rows.tcoefBackSpec) :=
  OpenClaim.holds_of_wide 5 Tryd.f5 rfl rfl rfl rfl rfl rfl rfl ⟨rfl, rfl, rfl, rfl, rfl⟩ rfl rfl rfl rfl rfl (by kernel_rfl) Tryd.func5 (by kernel_rfl)
    (of_decide_eq_true (by kernel_rfl)) (by unfold Func.isWrapper; first | (rw [if_pos (by decide +kernel)]; kernel_rfl) | (rw [if_neg (by decide +kernel)]; exact ⟨rfl, rfl⟩))
    (fun os started H enc _ => tcoefBack_lifted os started H enc)

theorem tcoefBack_holds : Rows.TcoefBackCardSaid :=
  Claim7.holds_tied_plain_at .later [] [.data, .data, .data] true Rows.tcoefBackCard.stood.harness false tcoefBack_over (fun _ h => by cases h) (by kernel_rfl) (fun _ h => by cases h) tcoefBack_row_tie rfl ⟨rfl, rfl⟩ (by kernel_rfl) rfl
    (fun f fn hf hfn => by
      obtain rfl : f = 5 := Option.some.inj ((show Tryd.prog.funcNamed "overspill/overspilllaw09.TcoefBack" = some 5 by kernel_rfl).symm.trans hf) |>.symm
      obtain rfl : fn = Tryd.f5 := (Option.some.inj (Tryd.func5.symm.trans hfn)).symm
      exact ⟨by kernel_rfl, fun j t ht => by
        rw [Tryd.params5] at ht
        have hm : t ∈ [23, 9] := by simpa using Array.mem_of_getElem? ht
        have hall : ([23, 9].all fun u => !Tryd.prog.wantsStandIn u) = true := by kernel_rfl
        exact (show Tryd.prog.wantsStandIn t = false by simpa using List.all_eq_true.1 hall t hm)⟩)
    (by kernel_rfl)
#print axioms tcoefBack_holds
end Go.Proofs.YtobgeaghnljamaaDoor
