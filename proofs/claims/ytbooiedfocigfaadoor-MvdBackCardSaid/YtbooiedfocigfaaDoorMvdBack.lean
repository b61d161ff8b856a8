/- What a row of a difference tells is taken again, whatever stands behind it, and the opposite has the same row but for its last digit; and the chapter's example comes out. Conditions: none but the law's own (up to 60 digits behind), and the card's: what the listed variables hold when the call begins, tied to the program's text. -/
import Derived.Test.YtbooiedfocigfaaDoorCards
import Derived.Test.YtbooiedfocigfaaDoorTie
import Derived.Test.YtbooiedfocigfaaDoorLives8
import Derived.Test.YtbooiedfocigfaaDoorLaws
import Derived.Test.YtbooiedfocigfaaDoorBack
import Derived.ProofKit
import Derived.StillTailTactics
import Derived.LaidMore
import Derived.OpenShut
import Derived.Lay
import Derived.SizedLaws
import Derived.SevenTiedAt
import Derived.Stop.Joined
namespace Go.Proofs.YtbooiedfocigfaaDoor
open Go.ChangeShapes Go.WideShapes Go.ChangeAt Go.RowKit
set_option linter.unusedVariables false

theorem back_tkD {d : Int} (hd : -32 ≤ d ∧ d ≤ 31) (r : ByteArray) (hr : diffAt d = r) (m : List UInt8) (hm : isRow m = true) :
    isRow (r.data.toList ++ m) = true ∧ 1 ≤ r.size ∧ r.size ≤ 24 ∧ dtk (padL (r.data.toList ++ m)) = (d, 0, r.size) := by
  obtain ⟨j, hj⟩ : ∃ j : Nat, d = (j : Int) - 32 := ⟨(d + 32).toNat, by omega⟩
  have hj64 : j < 64 := by omega
  have hrow : rowC (cellD j) = r.data.toList := by
    show (diffAt ((j : Int) - 32)).data.toList = _
    rw [← hj, hr]
  obtain ⟨h1, h2, h3⟩ := okRow_inv (allD_ok _ (cellD_all hj64))
  have hp : (rowC (cellD j)).isPrefixOf (padL (r.data.toList ++ m)) = true := by
    unfold padL
    rw [hrow, List.isPrefixOf_iff_prefix, List.append_assoc]
    exact List.prefix_append _ _
  have ht := dtk_row hj64 hp
  rw [hrow] at h1 h2 h3 ht
  have hlen : r.data.toList.length = r.size := rfl
  have h0 := List.length_pos_iff.2 h1
  rw [hlen, ← hj] at ht
  exact ⟨by rw [isRow_append, h3, hm]; rfl, by omega, by omega, ht⟩
theorem diffAt_range {d : Int} (h : (diffAt d).data.toList.isEmpty = false) : -32 ≤ d ∧ d ≤ 31 := by
  by_cases hn : d < -32 ∨ 31 < d
  · rw [diffAt_out hn] at h
    cases h
  · omega
/-- A difference's row and its opposite's: alike but for the last digit. -/
theorem diff_pair {d : Int} (h : -31 ≤ d ∧ d ≤ 31) (h0 : d ≠ 0) : ∃ (l : List UInt8) (x y : UInt8), x ≠ y ∧ diffAt d = ⟨(l ++ [x]).toArray⟩ ∧ diffAt (-d) = ⟨(l ++ [y]).toArray⟩ ∧ l.length ≤ 12 := by
  by_cases hp : 0 < d
  · obtain ⟨i, rfl⟩ : ∃ i : Nat, d = i := ⟨d.toNat, by omega⟩
    refine ⟨ampL i, 48, 49, by decide, ?_, ?_, by rw [ampL_length]; exact (amount_fits i (by omega)).2.1⟩
    · rw [diff_up (by omega) (by omega), show (⟨#[48]⟩ : ByteArray) = ⟨[48].toArray⟩ from rfl, bytes_append]
    · rw [diff_down (by omega) (by omega), show (⟨#[49]⟩ : ByteArray) = ⟨[49].toArray⟩ from rfl, bytes_append]
  · obtain ⟨i, rfl⟩ : ∃ i : Nat, d = -(i : Int) := ⟨(-d).toNat, by omega⟩
    refine ⟨ampL i, 49, 48, by decide, ?_, ?_, by rw [ampL_length]; exact (amount_fits i (by omega)).2.1⟩
    · rw [diff_down (by omega) (by omega), show (⟨#[49]⟩ : ByteArray) = ⟨[49].toArray⟩ from rfl, bytes_append]
    · rw [Int.neg_neg, diff_up (by omega) (by omega), show (⟨#[48]⟩ : ByteArray) = ⟨[48].toArray⟩ from rfl, bytes_append]
set_option maxRecDepth 100000 in
set_option maxHeartbeats 1000000 in
theorem mvdBack_walk (a : Int) (s : ByteArray) (w : World) (_ : (Lit.int .i64 a).wf = true) (hss : s.size ≤ maxLen) (_ : s.size ≤ 140737488355328) (hp : HasMvd w) :
    Calls Tryd.prog 5 #[.int .i64 a, .string s] w fun e w' => e = .returned (.bool true) ∧ Below w.heap.size w w' := by
  have hss' := hss
  unfold maxLen at hss
  have HP := Lib.hid (fun (x : World) (hx : Below w.heap.size w x) => (hp.below hx : HasMvd x))
  by_cases h60 : 60 < s.size
  · have t0 : decide (60 < (s.size : Int)) = true := by simp; omega
    clear h60
    go_enter Tryd.func5, Tryd.ntmps5
    go_wp2_with (go_at_call 8; refine (lives8 _ hp).mono ?_; rintro e w' ⟨rfl, hb⟩)
    go_ret
    exact ⟨rfl, hb⟩
  have t0 : decide (60 < (s.size : Int)) = false := by simp; omega
  cases hrow : isRow s.data.toList with
  | false =>
    have F := Lib.hid hrow
    clear hrow
    go_enter Tryd.func5, Tryd.ntmps5
    go_wp2_with fail
    refine (plain_page s hss' _).mono ?_
    rintro e w1 ⟨rfl, rfl⟩
    rw [F.out]
    go_wp2_with (go_at_call 8; refine (lives8 _ hp).mono ?_; rintro e w' ⟨rfl, hb⟩)
    go_ret
    exact ⟨rfl, hb⟩
  | true =>
    obtain ⟨r, hr⟩ : ∃ r, diffAt a = r := ⟨_, rfl⟩
    have RR := Lib.hid hr
    have E := Lib.toList_data r
    cases he : r.data.toList.isEmpty with
    | true =>
      have e1 : r.toList = [] := by rw [E]; simpa using he
      have F := Lib.hid hrow
      have HE := Lib.hid he
      clear hrow hr E he
      go_enter Tryd.func5, Tryd.ntmps5
      go_wp2_with fail
      refine (plain_page s hss' _).mono ?_
      rintro e w1 ⟨rfl, rfl⟩
      rw [F.out]
      go_wp2_with fail
      refine (drow_code a _ hp).mono ?_
      rintro e w2 ⟨rfl, hb2⟩
      rw [RR.out, HE.out]
      go_wp2_with (go_at_call 8; refine (lives8 _ (HP.out _ hb2)).mono ?_; rintro e w' ⟨rfl, hb⟩)
      go_ret
      exact ⟨rfl, hb2.trans (hb.mono hb2.size)⟩
    | false =>
      have hrange := diffAt_range (d := a) (by rw [hr]; exact he)
      obtain ⟨p1, p0, p2, p3⟩ := back_tkD hrange r hr s.data.toList hrow
      have hap : (r ++ s).data.toList = r.data.toList ++ s.data.toList := by simp
      have has : (r ++ s).size = r.size + s.size := by simp
      obtain ⟨z, hz⟩ : ∃ z, r ++ s = z := ⟨_, rfl⟩
      rw [hz] at hap has
      have HZ := Lib.hid hz
      have F := Lib.hid hrow
      have HE := Lib.hid he
      have P1 := Lib.hid (show isRow z.data.toList = true by rw [hap]; exact p1)
      have P3 := Lib.hid (show dtk ((showL (packL z.data.toList)).drop 0) = (a, 0, r.size) by rw [List.drop_zero, show_pack _ (by rw [hap]; exact p1), hap]; exact p3)
      have hzl : (packL z.data.toList).length ≤ 100 := by rw [packL_length, hap, List.length_append]; have : r.data.toList.length = r.size := rfl; have : s.data.toList.length = s.size := rfl; omega
      have qw : IntKind.i64.wrap (-a) = -a := IntWalk.i64_in _ (by omega)
      have g3 : (a == a) = true := beq_self_eq_true a
      clear hrow E he p1 p3 hap hz
      obtain ⟨u, hu⟩ : ∃ u, diffAt (-a) = u := ⟨_, rfl⟩
      have UU := Lib.hid hu
      clear hr hu
      go_enter Tryd.func5, Tryd.ntmps5
      go_wp2_with fail
      refine (plain_page s hss' _).mono ?_
      rintro e w1 ⟨rfl, rfl⟩
      rw [F.out]
      go_wp2_with fail
      refine (drow_code a _ hp).mono ?_
      rintro e w2 ⟨rfl, hb2⟩
      rw [RR.out, HE.out]
      have hz2 := hb2.size
      go_wp2_with fail
      rw [HZ.out]
      refine (pack_page z (by omega) P1.out _).mono ?_
      rintro e w3 ⟨rfl, hb3⟩
      have hb4 := hb2.trans (hb3.mono hz2)
      have hz4 := hb4.size
      clear hb2 hz2 hb3
      obtain ⟨t, ht⟩ : ∃ t : ByteArray, (⟨(packL z.data.toList).toArray⟩ : ByteArray) = t := ⟨_, rfl⟩
      have htd : t.data.toList = packL z.data.toList := by rw [← ht]
      have hts : t.size ≤ 100 := by rw [← ht, size_mk]; exact hzl
      have HTD := Lib.hid htd
      rw [ht]
      clear ht htd hzl
      go_wp2_with fail
      refine (rnew_code _ _).mono ?_
      rintro e w5 ⟨rfl, rfl⟩
      obtain ⟨R, hR⟩ : ∃ R, w3.heap.size = R := ⟨_, rfl⟩
      have hr5 : IsRd (w3.alloc (rdObj t 0)) R t 0 := IsRd.fresh hR (by omega)
      have hb5 := hb4.alloc hz4 (rdObj t 0)
      have hz5 := hb5.size
      rw [hR] at hz4 ⊢
      generalize w3.alloc (rdObj t 0) = x1 at hr5 hb5 hz5 ⊢
      clear hb4 hR
      go_wp2_with fail
      refine (dget_code _ R t 0 (HP.out _ hb5) hr5).mono ?_
      rintro e x2 ⟨rfl, hr6, hg6⟩
      obtain ⟨hb6, hz6⟩ := below_ownP hb5 hz5 hg6 hz4
      rw [HTD.out, P3.out] at hr6 ⊢
      clear hr5 hb5 hz5 hg6 hz4
      go_wp2_with (go_at_call 14; refine (at_code _ _ _ _ hr6).mono ?_; rintro e w' ⟨rfl, rfl⟩)
      refine (drow_code (-a) _ (HP.out _ hb6)).mono ?_
      rintro e x3 ⟨rfl, hb7⟩
      rw [UU.out]
      have hb8 := hb6.trans (hb7.mono hz6)
      have hz8 := hb8.size
      have hp8 := HP.out _ hb8
      clear hb6 hz6 hb7 hr6
      by_cases ha0 : a = 0
      · subst ha0
        go_wp2_with (go_at_call 8; refine (lives8 _ hp8).mono ?_; rintro e w' ⟨rfl, hb⟩)
        go_ret
        exact ⟨rfl, hb8.trans (hb.mono hz8)⟩
      · by_cases ha32 : a = -32
        · subst ha32
          have hue : u.data.toList.isEmpty = true := by rw [← UU.out]; decide +kernel
          rw [hue]
          go_wp2_with (go_at_call 8; refine (lives8 _ hp8).mono ?_; rintro e w' ⟨rfl, hb⟩)
          go_ret
          exact ⟨rfl, hb8.trans (hb.mono hz8)⟩
        · obtain ⟨l, x, y, hxy, hd1, hd2, hl⟩ := diff_pair (d := a) (by omega) ha0
          rw [RR.out] at hd1
          rw [UU.out] at hd2
          have hus : u.size = r.size := by rw [hd1, hd2, size_mk, size_mk]; simp
          obtain ⟨k, hk⟩ : ∃ k, r.size = k + 1 := ⟨r.size - 1, by omega⟩
          have hlk : l.length = k := by rw [hd1, size_mk] at hk; simpa using hk
          have g4 : ((u.extract 0 k).toList == (r.extract 0 k).toList) = true := by
            rw [Lib.toList_data, Lib.toList_data, beq_iff_eq, Lib.extract_data, Lib.extract_data, hd1, hd2]
            simp [hlk]
          have g5 : ((u.extract k (k + 1)).toList == (r.extract k (k + 1)).toList) = false := by
            rw [Lib.toList_data, Lib.toList_data, beq_eq_false_iff_ne, Lib.extract_data, Lib.extract_data, hd1, hd2]
            simp [← hlk]
            exact fun h => hxy h.symm
          have hue : u.data.toList.isEmpty = false := by rw [hd2]; simp
          have UE := Lib.hid hue
          have g6 : (a == 0) = false := by rw [beq_eq_false_iff_ne]; exact ha0
          clear hd1 hd2 hxy hl hlk hue
          rw [UE.out]
          have hp9 : HasMvd x3.drew := hp8
          have hb9 : Below w.heap.size w x3.drew := hb8.drew
          have hz9 : w.heap.size ≤ x3.drew.heap.size := hz8
          have g7 : ((u.size : Int) == (r.size : Int)) = true := by rw [hus]; exact beq_self_eq_true _
          have g8 : ((u.extract k u.size).toList == (r.extract k r.size).toList) = false := by rw [hus, hk]; exact g5
          have k1 : k ≤ u.size := by omega
          have k2 : k ≤ r.size := by omega
          have e12 : (r.size : Int) - 1 = (k : Int) := by omega
          clear hk hus g5
          go_wp2_with fail
          clear e12
          go_still_tail 24, (by kernel_rfl)
          change wpList _ _ _ _ _ x3.drew
          generalize x3.drew = x4 at hp9 hb9 hz9 ⊢
          go_wp2_with (go_at_call 8; refine (lives8 _ hp9).mono ?_; rintro e w' ⟨rfl, hb⟩)
          go_ret
          exact ⟨rfl, hb9.trans (hb.mono hz9)⟩
theorem mvdBack_own : ownKnob Tryd.prog.godebug = none := by kernel_rfl
theorem mvdBack_laid : laidOutB Tryd.prog = true := by kernel_rfl
theorem mvdBack_reads : Tryd.f5.params.toList.all (fun t => Tryd.prog.readableRec t && decide (t < Tryd.prog.types.size)) = true := by kernel_rfl

set_option maxRecDepth 100000 in
theorem mvdBack_lifted (os : Os) (started : os.Started) (H : Type) (enc : TypeId × Value → H) :
    ReturnsInHanded {} Tryd.checked os 5 .any (fun w args => (Rows.mvdBackSpec.pre enc Tryd.prog Tryd.f5 Rows.mvdBackRow.domain false w args ∧ laidMetH Tryd.prog Rows.mvdBackRow.laid w) ∧ sizedMet enc Tryd.prog Tryd.f5 (OpenSpec.ofChange Rows.mvdBackSpec) false w args)
      (Rows.mvdBackSpec.post enc Tryd.prog Tryd.f5 false true false false) := by
  refine returnsInHanded_of_change_and (C := Tryd.checked) (X := fun w _ => laidMetH Tryd.prog Rows.mvdBackRow.laid w) (fun _ _ _ hh h => h.of_heap hh) mvdBack_own started (by kernel_rfl) Tryd.func5
    (ChangeSpec.witness_shaped (enc := enc) (C := Tryd.checked) (os := os) (X := fun w _ => laidMetH Tryd.prog Rows.mvdBackRow.laid w) false (World.laidAll Tryd.prog os Rows.mvdBackRow.laid) #[.int .i64 0, .string ⟨#[]⟩] 8 (World.laidAll_os _ _ _)
      (World.shaped_of_ZipB (by kernel_rfl) (by kernel_rfl)) (by kernel_rfl) (by kernel_rfl) (by kernel_rfl)
      (by rw [MakeChecks.laidMetH_plain _ _ _ (by kernel_rfl)]; exact laidMet_laidAll _ (by kernel_rfl) (by kernel_rfl))) ?_
  intro W base args ds gs before hval0 hW _ hsz0 hL _
  have hval : ∀ (j : Nat) t v, Tryd.f5.params[j]? = some t → args[j]? = some v → Value.okWide Tryd.prog W .any base t v := hval0
  have hW' := hW
  obtain ⟨p, q, hA0, hV, rfl, hfz, hnd⟩ := hW
  have hA : DataW.TrodAll enc Tryd.prog W 0 (fun _ => true) true Tryd.f5.params.toList args.toList ds p := hA0
  rw [Tryd.params5] at hA hval
  obtain ⟨v0, vs0, d0, ds0, p0, q0, hargs, rfl, rfl, h0, r0⟩ := trodAll_cons hA
  obtain ⟨v1, vs1, d1, ds1, p1, q1, rfl, rfl, rfl, h1, r1⟩ := trodAll_cons r0
  obtain ⟨rfl, rfl, rfl⟩ := trodAll_nil r1
  obtain rfl : args = #[v0, v1] := by cases args; simp_all
  obtain ⟨rfl, rfl⟩ := trodVars_none hV
  obtain ⟨a0, rfl, rfl, rfl, w0⟩ := open_int Tryd.underlying3 (hval 0 3 v0 rfl rfl) h0
  obtain ⟨a1, rfl, rfl, rfl, w1⟩ := Go.ChangeMaps.open_string Tryd.underlying9 (hval 1 9 v1 rfl rfl) h1
  have z1 : a1.size ≤ 140737488355328 := Nat.le_trans (sized_string hsz0 (j := 1) rfl rfl) (Nat.le_of_lt reachBytes_lt)
  clear hA0 hval0
  refine (mvdBack_walk a0 a1 W w0 w1 z1 (mvd_laid hL ⟨by simp [Rows.mvdBackRow], by kernel_rfl⟩)).mono fun e W' ⟨he, hb⟩ => ?_
  subst he
  exact ⟨_, rfl, law_end mvdBack_laid mvdBack_reads rfl Tryd.underlying4 rfl hW' rfl hb⟩

theorem mvdBack_over : Rows.mvdBackRow.holds Tryd.pinned (OpenSpec.ofChange Rows.mvdBackSpec) :=
  OpenClaim.holds_of_wide 5 Tryd.f5 rfl rfl rfl rfl rfl rfl rfl ⟨rfl, rfl, rfl, rfl, rfl⟩ rfl rfl rfl rfl rfl (by kernel_rfl) Tryd.func5 (by kernel_rfl)
    (of_decide_eq_true (by kernel_rfl)) (by unfold Func.isWrapper; first | (rw [if_pos (by decide +kernel)]; kernel_rfl) | (rw [if_neg (by decide +kernel)]; exact ⟨rfl, rfl⟩))
    (fun os started H enc _ => mvdBack_lifted os started H enc)

theorem mvdBack_holds : Rows.MvdBackCardSaid :=
  Claim7.holds_tied_plain_at .later [] [.data, .data] true Rows.mvdBackCard.stood.harness false mvdBack_over (fun _ h => by cases h) (by kernel_rfl) (fun _ h => by cases h) mvdBack_row_tie rfl ⟨rfl, rfl⟩ (by kernel_rfl) rfl
    (fun f fn hf hfn => by
      obtain rfl : f = 5 := Option.some.inj ((show Tryd.prog.funcNamed "overspill/overspilllaw08.MvdBack" = some 5 by kernel_rfl).symm.trans hf) |>.symm
      obtain rfl : fn = Tryd.f5 := (Option.some.inj (Tryd.func5.symm.trans hfn)).symm
      exact ⟨by kernel_rfl, fun j t ht => by
        rw [Tryd.params5] at ht
        have hm : t ∈ [3, 9] := by simpa using Array.mem_of_getElem? ht
        have hall : ([3, 9].all fun u => !Tryd.prog.wantsStandIn u) = true := by kernel_rfl
        exact (show Tryd.prog.wantsStandIn t = false by simpa using List.all_eq_true.1 hall t hm)⟩)
    (by kernel_rfl)
#print axioms mvdBack_holds
end Go.Proofs.YtbooiedfocigfaaDoor
