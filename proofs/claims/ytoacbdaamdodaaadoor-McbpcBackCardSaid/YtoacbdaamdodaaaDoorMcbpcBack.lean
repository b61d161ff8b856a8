/- What a row of a kind and a chroma tells is taken again, whatever stands behind it, and a row of kind Four is refused; and the chapter's example comes out. Conditions: none but the law's own (up to 60 digits behind), and the card's: what the listed variables hold when the call begins, tied to the program's text. -/
import Derived.Test.YtoacbdaamdodaaaDoorCards
import Derived.Test.YtoacbdaamdodaaaDoorTie
import Derived.Test.YtoacbdaamdodaaaDoorLives6
import Derived.Test.YtoacbdaamdodaaaDoorLaws
import Derived.Test.YtoacbdaamdodaaaDoorMref
import Derived.Test.YtoacbdaamdodaaaDoorBack
import Derived.ProofKit
import Derived.LaidMore
import Derived.OpenShut
import Derived.Lay
import Derived.SizedLaws
import Derived.SevenTiedAt
import Derived.Stop.Joined
namespace Go.Proofs.YtoacbdaamdodaaaDoor
open Go.ChangeShapes Go.WideShapes Go.ChangeAt Go.RowKit
set_option linter.unusedVariables false

theorem back_tk (inter : Bool) (a b : Int) (r : ByteArray) (hr : rowAt inter a b = r) (hne : r.data.toList.isEmpty = false) (m : List UInt8) (hm : isRow m = true) :
    isRow (r.data.toList ++ m) = true ∧ r.size ≤ 24 ∧ mtk inter (padL (r.data.toList ++ m)) = if a = 2 then (0, 0, 6, 0) else (a, b, 0, r.size) := by
  by_cases hn : a < 0 ∨ 5 < a ∨ b < 0 ∨ 3 < b ∨ (a = 5 ∧ 0 < b)
  · rw [rowAt_not hn] at hr
    rw [← hr] at hne
    cases hne
  obtain ⟨k, rfl⟩ : ∃ k : Nat, a = k := ⟨a.toNat, by omega⟩
  obtain ⟨c, rfl⟩ : ∃ c : Nat, b = c := ⟨b.toNat, by omega⟩
  obtain ⟨e1, e2, e3⟩ := cellC_at inter k c (by omega) (by omega)
  rw [hr] at e1
  have hrow : rowCY (cellC inter (4 * k + c)) = r.data.toList := by unfold rowCY; rw [e1]
  have hx : cellC inter (4 * k + c) ∈ allC inter := cellC_all (by omega) (by rw [hrow, hne]; rfl)
  obtain ⟨h1, h2, h3⟩ := okRow_inv (all_ok inter _ hx)
  rw [hrow] at h1 h2 h3
  have hlen : r.data.toList.length = r.size := rfl
  have h0 := List.length_pos_iff.2 h1
  have hp : r.data.toList.isPrefixOf (padL (r.data.toList ++ m)) = true := by
    unfold padL
    rw [List.isPrefixOf_iff_prefix, List.append_assoc]
    exact List.prefix_append _ _
  have ht := tk_row (all_free inter) (b := padL (r.data.toList ++ m)) (r := r.data.toList) (by rw [← hrow]; exact List.mem_map_of_mem hx) hp (k := 25) (n := 1) (by omega) (by omega)
  have hy := mtk_yes inter ht hx (by rw [hrow]; exact (pre_take.1 hp).symm)
  rw [e2, e3] at hy
  exact ⟨by rw [isRow_append, h3, hm]; rfl, by omega, hy⟩
set_option maxRecDepth 100000 in
set_option maxHeartbeats 4000000 in
theorem mcbpcBack_walk (inter : Bool) (a b : Int) (s : ByteArray) (w : World) (_ : (Lit.int .i64 a).wf = true) (_ : (Lit.int .i64 b).wf = true) (hss : s.size ≤ maxLen) (_ : s.size ≤ 140737488355328) :
    Calls Tryd.prog 5 #[.bool inter, .agg #[.int .i64 a, .int .i64 b], .string s] w fun e w' => e = .returned (.bool true) ∧ Below w.heap.size w w' := by
  have hss' := hss
  unfold maxLen at hss
  have hlow : ∀ x, Below (w.alloc (.cells #[.int .i64 a, .int .i64 b] 38)).heap.size (w.alloc (.cells #[.int .i64 a, .int .i64 b] 38)) x → Below w.heap.size w x := fun x hx => ((Below.refl _ w).alloc (Nat.le_refl _) _).trans (hx.mono (by simp))
  have hcel : ∀ x, Below (w.alloc (.cells #[.int .i64 a, .int .i64 b] 38)).heap.size (w.alloc (.cells #[.int .i64 a, .int .i64 b] 38)) x → x.cell? ⟨w.heap.size, 0, none⟩ = some (.int .i64 a) ∧ x.cell? ⟨w.heap.size, 1, none⟩ = some (.int .i64 b) := fun x hx => by
    have hh : x.heap[w.heap.size]? = some (.cells [.int .i64 a, .int .i64 b].toArray 38 (0, 0)) := (hx.block w.heap.size (by simp)).trans (heap_alloc_new w _)
    exact ⟨part_cells hh rfl, part_cells hh rfl⟩
  have LW := Lib.hid hlow
  have CL := Lib.hid hcel
  clear hlow hcel
  by_cases h60 : 60 < s.size
  · have t0 : decide (60 < (s.size : Int)) = true := by simp; omega
    clear h60
    go_enter Tryd.func5, Tryd.ntmps5
    go_wp2_with (go_at_call 8; refine (lives6 _).mono ?_; rintro e w' ⟨rfl, hb⟩)
    go_ret
    exact ⟨rfl, LW.out _ hb⟩
  have t0 : decide (60 < (s.size : Int)) = false := by simp; omega
  cases hrow : isRow s.data.toList with
  | false =>
    have F := Lib.hid hrow
    clear hrow
    go_enter Tryd.func5, Tryd.ntmps5
    go_wp2_with fail
    refine (plain_page s hss' _).mono ?_
    rintro e w1 ⟨rfl, rfl⟩
    rw [F.out]
    go_wp2_with (go_at_call 8; refine (lives6 _).mono ?_; rintro e w' ⟨rfl, hb⟩)
    go_ret
    exact ⟨rfl, LW.out _ hb⟩
  | true =>
    obtain ⟨r, hr⟩ : ∃ r, rowAt inter a b = r := ⟨_, rfl⟩
    have RR := Lib.hid hr
    have E := Lib.toList_data r
    cases he : r.data.toList.isEmpty with
    | true =>
      have e1 : r.toList = [] := by rw [E]; simpa using he
      have F := Lib.hid hrow
      have HE := Lib.hid he
      clear hrow hr E he
      go_enter Tryd.func5, Tryd.ntmps5
      go_wp2_with fail
      refine (plain_page s hss' _).mono ?_
      rintro e w1 ⟨rfl, rfl⟩
      rw [F.out]
      go_wp2_with fail
      refine (mrow_code inter a b _).mono ?_
      rintro e w2 ⟨rfl, hb2⟩
      rw [RR.out, HE.out]
      go_wp2_with (go_at_call 8; refine (lives6 _).mono ?_; rintro e w' ⟨rfl, hb⟩)
      go_ret
      exact ⟨rfl, LW.out _ (hb2.trans (hb.mono hb2.size))⟩
    | false =>
      obtain ⟨p1, p2, p3⟩ := back_tk inter a b r hr he s.data.toList hrow
      have hap : (r ++ s).data.toList = r.data.toList ++ s.data.toList := by simp
      have has : (r ++ s).size = r.size + s.size := by simp
      obtain ⟨z, hz⟩ : ∃ z, r ++ s = z := ⟨_, rfl⟩
      rw [hz] at hap has
      have HZ := Lib.hid hz
      have F := Lib.hid hrow
      have HE := Lib.hid he
      have P1 := Lib.hid (show isRow z.data.toList = true by rw [hap]; exact p1)
      have P3 := Lib.hid (show mtk inter ((showL (packL z.data.toList)).drop 0) = if a = 2 then (0, 0, 6, 0) else (a, b, 0, r.size) by rw [List.drop_zero, show_pack _ (by rw [hap]; exact p1), hap]; exact p3)
      have hzl : (packL z.data.toList).length ≤ 100 := by rw [packL_length, hap, List.length_append]; have : r.data.toList.length = r.size := rfl; have : s.data.toList.length = s.size := rfl; omega
      clear hrow hr E he p1 p3 hap hz
      go_enter Tryd.func5, Tryd.ntmps5
      go_wp2_with fail
      refine (plain_page s hss' _).mono ?_
      rintro e w1 ⟨rfl, rfl⟩
      rw [F.out]
      go_wp2_with fail
      refine (mrow_code inter a b _).mono ?_
      rintro e w2 ⟨rfl, hb2⟩
      rw [RR.out, HE.out]
      have hz2 := hb2.size
      go_wp2_with fail
      rw [HZ.out]
      refine (pack_page z (by omega) P1.out _).mono ?_
      rintro e w3 ⟨rfl, hb3⟩
      have hb4 := hb2.trans (hb3.mono hz2)
      have hz4 := hb4.size
      clear hb2 hz2 hb3
      obtain ⟨t, ht⟩ : ∃ t : ByteArray, (⟨(packL z.data.toList).toArray⟩ : ByteArray) = t := ⟨_, rfl⟩
      have htd : t.data.toList = packL z.data.toList := by rw [← ht]
      have hts : t.size ≤ 100 := by rw [← ht, size_mk]; exact hzl
      rw [ht]
      go_wp2_with fail
      refine (rnew_code _ _).mono ?_
      rintro e w5 ⟨rfl, rfl⟩
      obtain ⟨R, hR⟩ : ∃ R, w3.heap.size = R := ⟨_, rfl⟩
      have hr5 : IsRd (w3.alloc (rdObj t 0)) R t 0 := IsRd.fresh hR (by omega)
      have hb5 := hb4.alloc hz4 (rdObj t 0)
      have hz5 := hb5.size
      rw [hR] at hz4 ⊢
      generalize w3.alloc (rdObj t 0) = x1 at hr5 hb5 hz5 ⊢
      clear hb4 hR ht hts hzl
      go_wp2_with fail
      refine (mtake_code inter _ R t 0 hr5).mono ?_
      rintro e x2 ⟨rfl, hr6, hg6⟩
      obtain ⟨hb6, hz6⟩ := below_own hb5 hz5 hg6 hz4
      rw [htd, P3.out] at hr6 ⊢
      obtain ⟨q0, q1⟩ := CL.out _ hb6
      clear hr5 hb5 hz5 hg6 hz4 htd
      by_cases h2 : a = 2
      · rw [if_pos h2] at hr6 ⊢
        have g2 : (a == 2) = true := by rw [h2]; rfl
        clear h2
        go_wp2_with (first
          | (go_at_call 14; refine (at_code _ _ _ _ hr6).mono ?_; rintro e w' ⟨rfl, rfl⟩)
          | (go_at_call 8; refine (lives6 _).mono ?_; rintro e w' ⟨rfl, hb⟩))
        go_ret
        exact ⟨rfl, LW.out _ (hb6.trans (hb.mono hz6))⟩
      · rw [if_neg h2] at hr6 ⊢
        have g2 : (a == 2) = false := by rw [beq_eq_false_iff_ne]; exact h2
        have g3 : (a == a) = true := beq_self_eq_true a
        have g4 : (b == b) = true := beq_self_eq_true b
        clear h2
        go_wp2_with (first
          | (go_at_call 14; refine (at_code _ _ _ _ hr6).mono ?_; rintro e w' ⟨rfl, rfl⟩)
          | (go_at_call 8; refine (lives6 _).mono ?_; rintro e w' ⟨rfl, hb⟩))
        go_ret
        exact ⟨rfl, LW.out _ (hb6.trans (hb.mono hz6))⟩
theorem mcbpcBack_own : ownKnob Tryd.prog.godebug = none := by kernel_rfl
theorem mcbpcBack_laid : laidOutB Tryd.prog = true := by kernel_rfl
theorem mcbpcBack_reads : Tryd.f5.params.toList.all (fun t => Tryd.prog.readableRec t && decide (t < Tryd.prog.types.size)) = true := by kernel_rfl

set_option maxRecDepth 100000 in
theorem mcbpcBack_lifted (os : Os) (started : os.Started) (H : Type) (enc : TypeId × Value → H) :
    ReturnsInHanded {} Tryd.checked os 5 .any (fun w args => (Rows.mcbpcBackSpec.pre enc Tryd.prog Tryd.f5 Rows.mcbpcBackRow.domain false w args ∧ laidMetH Tryd.prog Rows.mcbpcBackRow.laid w) ∧ sizedMet enc Tryd.prog Tryd.f5 (OpenSpec.ofChange Rows.mcbpcBackSpec) false w args)
      (Rows.mcbpcBackSpec.post enc Tryd.prog Tryd.f5 false true false false) := by
  refine returnsInHanded_of_change_and (C := Tryd.checked) (X := fun w _ => laidMetH Tryd.prog Rows.mcbpcBackRow.laid w) (fun _ _ _ hh h => h.of_heap hh) mcbpcBack_own started (by kernel_rfl) Tryd.func5
    (ChangeSpec.witness_shaped (enc := enc) (C := Tryd.checked) (os := os) (X := fun w _ => laidMetH Tryd.prog Rows.mcbpcBackRow.laid w) false (World.laidAll Tryd.prog os Rows.mcbpcBackRow.laid) #[.bool false, .agg #[.int .i64 0, .int .i64 0], .string ⟨#[]⟩] 8 (World.laidAll_os _ _ _)
      (World.shaped_of_ZipB (by kernel_rfl) (by kernel_rfl)) (by kernel_rfl) (by kernel_rfl) (by kernel_rfl)
      (by rw [MakeChecks.laidMetH_plain _ _ _ (by kernel_rfl)]; exact laidMet_laidAll _ (by kernel_rfl) (by kernel_rfl))) ?_
  intro W base args ds gs before hval0 hW _ hsz0 _ _
  have hval : ∀ (j : Nat) t v, Tryd.f5.params[j]? = some t → args[j]? = some v → Value.okWide Tryd.prog W .any base t v := hval0
  have hW' := hW
  obtain ⟨p, q, hA0, hV, rfl, hfz, hnd⟩ := hW
  have hA : DataW.TrodAll enc Tryd.prog W 0 (fun _ => true) true Tryd.f5.params.toList args.toList ds p := hA0
  rw [Tryd.params5] at hA hval
  obtain ⟨v0, vs0, d0, ds0, p0, q0, hargs, rfl, rfl, h0, r0⟩ := trodAll_cons hA
  obtain ⟨v1, vs1, d1, ds1, p1, q1, rfl, rfl, rfl, h1, r1⟩ := trodAll_cons r0
  obtain ⟨v2, vs2, d2, ds2, p2, q2, rfl, rfl, rfl, h2, r2⟩ := trodAll_cons r1
  obtain ⟨rfl, rfl, rfl⟩ := trodAll_nil r2
  obtain rfl : args = #[v0, v1, v2] := by cases args; simp_all
  obtain ⟨rfl, rfl⟩ := trodVars_none hV
  obtain ⟨a0, rfl, rfl, rfl⟩ := open_bool Tryd.underlying4 (hval 0 4 v0 rfl rfl) h0
  obtain ⟨a1, b1, rfl, w1, x1⟩ := open_two Tryd.underlying38 Tryd.underlying3 (by kernel_rfl) (by kernel_rfl) (hval 1 38 v1 rfl rfl) h1
  obtain ⟨a2, rfl, rfl, rfl, w2⟩ := Go.ChangeMaps.open_string Tryd.underlying9 (hval 2 9 v2 rfl rfl) h2
  have z2 : a2.size ≤ 140737488355328 := Nat.le_trans (sized_string hsz0 (j := 2) rfl rfl) (Nat.le_of_lt reachBytes_lt)
  clear hA0 hval0
  refine (mcbpcBack_walk a0 a1 b1 a2 W  w1 x1 w2 z2).mono fun e W' ⟨he, hb⟩ => ?_
  subst he
  exact ⟨_, rfl, law_end mcbpcBack_laid mcbpcBack_reads rfl Tryd.underlying4 rfl hW' rfl hb⟩

theorem mcbpcBack_over : Rows.mcbpcBackRow.holds Tryd.pinned (OpenSpec.ofChange Rows.mcbpcBackSpec) :=
  OpenClaim.holds_of_wide 5 Tryd.f5 rfl rfl rfl rfl rfl rfl rfl ⟨rfl, rfl, rfl, rfl, rfl⟩ rfl rfl rfl rfl rfl (by kernel_rfl) Tryd.func5 (by kernel_rfl)
    (of_decide_eq_true (by kernel_rfl)) (by unfold Func.isWrapper; first | (rw [if_pos (by decide +kernel)]; kernel_rfl) | (rw [if_neg (by decide +kernel)]; exact ⟨rfl, rfl⟩))
    (fun os started H enc _ => mcbpcBack_lifted os started H enc)

theorem mcbpcBack_holds : Rows.McbpcBackCardSaid :=
  Claim7.holds_tied_plain_at .later [] [.data, .data, .data, .data, .pinned] true Rows.mcbpcBackCard.stood.harness false mcbpcBack_over (fun _ h => by cases h) (by kernel_rfl) (fun _ h => by cases h) mcbpcBack_row_tie rfl ⟨rfl, rfl⟩ (by kernel_rfl) rfl
    (fun f fn hf hfn => by
      obtain rfl : f = 5 := Option.some.inj ((show Tryd.prog.funcNamed "overspill/overspilllaw06.McbpcBack" = some 5 by kernel_rfl).symm.trans hf) |>.symm
      obtain rfl : fn = Tryd.f5 := (Option.some.inj (Tryd.func5.symm.trans hfn)).symm
      exact ⟨by kernel_rfl, fun j t ht => by
        rw [Tryd.params5] at ht
        have hm : t ∈ [4, 38, 9] := by simpa using Array.mem_of_getElem? ht
        have hall : ([4, 38, 9].all fun u => !Tryd.prog.wantsStandIn u) = true := by kernel_rfl
        exact (show Tryd.prog.wantsStandIn t = false by simpa using List.all_eq_true.1 hall t hm)⟩)
    (by kernel_rfl)
#print axioms mcbpcBack_holds
end Go.Proofs.YtoacbdaamdodaaaDoor
