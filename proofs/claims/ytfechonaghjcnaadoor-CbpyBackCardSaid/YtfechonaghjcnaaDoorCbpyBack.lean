/- What a row of a pattern tells is taken again, whatever stands behind it, and turned round in the other kind of cells; and the chapter's example comes out. Conditions: none but the law's own (up to 60 digits behind), and the card's: what the listed variables hold when the call begins, tied to the program's text. -/
import Derived.Test.YtfechonaghjcnaaDoorCards
import Derived.Test.YtfechonaghjcnaaDoorTie
import Derived.Test.YtfechonaghjcnaaDoorLives7
import Derived.Test.YtfechonaghjcnaaDoorLaws
import Derived.Test.YtfechonaghjcnaaDoorBack
import Derived.ProofKit
import Derived.LaidMore
import Derived.OpenShut
import Derived.Lay
import Derived.SizedLaws
import Derived.SevenTiedAt
import Derived.Stop.Joined
namespace Go.Proofs.YtfechonaghjcnaaDoor
open Go.ChangeShapes Go.WideShapes Go.ChangeAt Go.RowKit
set_option linter.unusedVariables false

theorem back_cell (intra kind : Bool) (k : Nat) (hk : k < 16) (r : ByteArray) (hr : patAt intra k = r) : cellP kind (sameN intra k) = (r, ((sameN kind (sameN intra k) : Nat) : Int)) := by
  rw [cellP_row kind _ (sameN_lt hk), ← patAt_in hk rfl, hr]
theorem back_tkP (intra : Bool) (k : Nat) (hk : k < 16) (r : ByteArray) (hr : patAt intra k = r) (m : List UInt8) (hm : isRow m = true) :
    isRow (r.data.toList ++ m) = true ∧ r.size ≤ 24 ∧ ptk intra (padL (r.data.toList ++ m)) = ((k : Int), 0, r.size) ∧ ptk (!intra) (padL (r.data.toList ++ m)) = (15 - (k : Int), 0, r.size) := by
  have hall : ∀ kind : Bool, ptk kind (padL (r.data.toList ++ m)) = (((sameN kind (sameN intra k) : Nat) : Int), 0, r.size) ∧ r.size ≤ 24 ∧ isRow r.data.toList = true := by
    intro kind
    have e := back_cell intra kind k hk r hr
    have hx : cellP kind (sameN intra k) ∈ allP kind := cellP_all kind (sameN_lt hk)
    have hrow : rowC (cellP kind (sameN intra k)) = r.data.toList := by rw [e]; rfl
    obtain ⟨h1, h2, h3⟩ := okRow_inv (allP_ok kind _ hx)
    rw [hrow] at h1 h2 h3
    have hlen : r.data.toList.length = r.size := rfl
    have h0 := List.length_pos_iff.2 h1
    have hp : r.data.toList.isPrefixOf (padL (r.data.toList ++ m)) = true := by
      unfold padL
      rw [List.isPrefixOf_iff_prefix, List.append_assoc]
      exact List.prefix_append _ _
    have ht := tk_row (allP_free kind) (b := padL (r.data.toList ++ m)) (r := r.data.toList) (by rw [← hrow]; exact List.mem_map_of_mem hx) hp (k := 25) (n := 1) (by omega) (by omega)
    have hy := ptk_yes kind ht hx (by rw [hrow]; exact (pre_take.1 hp).symm)
    rw [e] at hy
    exact ⟨hy, by omega, h3⟩
  obtain ⟨h1, h2, h3⟩ := hall intra
  obtain ⟨g1, _, _⟩ := hall (!intra)
  refine ⟨by rw [isRow_append, h3, hm]; rfl, h2, ?_, ?_⟩
  · rw [h1, sameN_back hk]
  · have e : ((sameN (!intra) (sameN intra k) : Nat) : Int) = 15 - (k : Int) := by
      unfold sameN
      cases intra <;> simp <;> omega
    rw [g1, e]
theorem patAt_none {intra : Bool} {a : Int} (h : (patAt intra a).data.toList.isEmpty = false) : 0 ≤ a ∧ a < 16 := by
  by_cases hn : a < 0 ∨ 16 ≤ a
  · rw [patAt_out hn] at h
    cases h
  · omega
set_option maxRecDepth 100000 in
set_option maxHeartbeats 4000000 in
theorem cbpyBack_walk (intra : Bool) (a : Int) (s : ByteArray) (w : World) (_ : (Lit.int .i64 a).wf = true) (hss : s.size ≤ maxLen) (_ : s.size ≤ 140737488355328) (hp : HasPats w) :
    Calls Tryd.prog 5 #[.bool intra, .int .i64 a, .string s] w fun e w' => e = .returned (.bool true) ∧ Below w.heap.size w w' := by
  have hss' := hss
  unfold maxLen at hss
  have HP := Lib.hid (fun (x : World) (hx : Below w.heap.size w x) => (hp.below hx : HasPats x))
  by_cases h60 : 60 < s.size
  · have t0 : decide (60 < (s.size : Int)) = true := by simp; omega
    clear h60
    go_enter Tryd.func5, Tryd.ntmps5
    go_wp2_with (go_at_call 8; refine (lives7 _ hp).mono ?_; rintro e w' ⟨rfl, hb⟩)
    go_ret
    exact ⟨rfl, hb⟩
  have t0 : decide (60 < (s.size : Int)) = false := by simp; omega
  cases hrow : isRow s.data.toList with
  | false =>
    have F := Lib.hid hrow
    clear hrow
    go_enter Tryd.func5, Tryd.ntmps5
    go_wp2_with fail
    refine (plain_page s hss' _).mono ?_
    rintro e w1 ⟨rfl, rfl⟩
    rw [F.out]
    go_wp2_with (go_at_call 8; refine (lives7 _ hp).mono ?_; rintro e w' ⟨rfl, hb⟩)
    go_ret
    exact ⟨rfl, hb⟩
  | true =>
    obtain ⟨r, hr⟩ : ∃ r, patAt intra a = r := ⟨_, rfl⟩
    have RR := Lib.hid hr
    have E := Lib.toList_data r
    cases he : r.data.toList.isEmpty with
    | true =>
      have e1 : r.toList = [] := by rw [E]; simpa using he
      have F := Lib.hid hrow
      have HE := Lib.hid he
      clear hrow hr E he
      go_enter Tryd.func5, Tryd.ntmps5
      go_wp2_with fail
      refine (plain_page s hss' _).mono ?_
      rintro e w1 ⟨rfl, rfl⟩
      rw [F.out]
      go_wp2_with fail
      refine (prow_code intra a _ hp).mono ?_
      rintro e w2 ⟨rfl, hb2⟩
      rw [RR.out, HE.out]
      go_wp2_with (go_at_call 8; refine (lives7 _ (HP.out _ hb2)).mono ?_; rintro e w' ⟨rfl, hb⟩)
      go_ret
      exact ⟨rfl, hb2.trans (hb.mono hb2.size)⟩
    | false =>
      obtain ⟨a0, a1⟩ := patAt_none (intra := intra) (a := a) (by rw [hr]; exact he)
      obtain ⟨k, hk⟩ : ∃ k : Nat, a = k := ⟨a.toNat, by omega⟩
      have hk16 : k < 16 := by omega
      obtain ⟨p1, p2, p3, p4⟩ := back_tkP intra k hk16 r (by rw [← hk]; exact hr) s.data.toList hrow
      rw [← hk] at p3 p4
      have hap : (r ++ s).data.toList = r.data.toList ++ s.data.toList := by simp
      have has : (r ++ s).size = r.size + s.size := by simp
      obtain ⟨z, hz⟩ : ∃ z, r ++ s = z := ⟨_, rfl⟩
      rw [hz] at hap has
      have HZ := Lib.hid hz
      have F := Lib.hid hrow
      have HE := Lib.hid he
      have P1 := Lib.hid (show isRow z.data.toList = true by rw [hap]; exact p1)
      have P3 := Lib.hid (show ptk intra ((showL (packL z.data.toList)).drop 0) = (a, 0, r.size) by rw [List.drop_zero, show_pack _ (by rw [hap]; exact p1), hap]; exact p3)
      have P4 := Lib.hid (show ptk (!intra) ((showL (packL z.data.toList)).drop 0) = (15 - a, 0, r.size) by rw [List.drop_zero, show_pack _ (by rw [hap]; exact p1), hap]; exact p4)
      have hzl : (packL z.data.toList).length ≤ 100 := by rw [packL_length, hap, List.length_append]; have : r.data.toList.length = r.size := rfl; have : s.data.toList.length = s.size := rfl; omega
      have qw : IntKind.i64.wrap (15 - a) = 15 - a := IntWalk.i64_in _ (by omega)
      have g3 : (a == a) = true := beq_self_eq_true a
      have g4 : (15 - a == 15 - a) = true := beq_self_eq_true _
      clear hrow hr E he p1 p3 p4 hap hz hk hk16
      go_enter Tryd.func5, Tryd.ntmps5
      go_wp2_with fail
      refine (plain_page s hss' _).mono ?_
      rintro e w1 ⟨rfl, rfl⟩
      rw [F.out]
      go_wp2_with fail
      refine (prow_code intra a _ hp).mono ?_
      rintro e w2 ⟨rfl, hb2⟩
      rw [RR.out, HE.out]
      have hz2 := hb2.size
      go_wp2_with fail
      rw [HZ.out]
      refine (pack_page z (by omega) P1.out _).mono ?_
      rintro e w3 ⟨rfl, hb3⟩
      have hb4 := hb2.trans (hb3.mono hz2)
      have hz4 := hb4.size
      clear hb2 hz2 hb3
      obtain ⟨t, ht⟩ : ∃ t : ByteArray, (⟨(packL z.data.toList).toArray⟩ : ByteArray) = t := ⟨_, rfl⟩
      have htd : t.data.toList = packL z.data.toList := by rw [← ht]
      have hts : t.size ≤ 100 := by rw [← ht, size_mk]; exact hzl
      have HT := Lib.hid ht
      have HTD := Lib.hid htd
      rw [ht]
      clear ht htd hzl
      go_wp2_with fail
      refine (rnew_code _ _).mono ?_
      rintro e w5 ⟨rfl, rfl⟩
      obtain ⟨R, hR⟩ : ∃ R, w3.heap.size = R := ⟨_, rfl⟩
      have hr5 : IsRd (w3.alloc (rdObj t 0)) R t 0 := IsRd.fresh hR (by omega)
      have hb5 := hb4.alloc hz4 (rdObj t 0)
      have hz5 := hb5.size
      rw [hR] at hz4 ⊢
      generalize w3.alloc (rdObj t 0) = x1 at hr5 hb5 hz5 ⊢
      clear hb4 hR
      go_wp2_with fail
      refine (ptake_code intra _ R t 0 (HP.out _ hb5) hr5).mono ?_
      rintro e x2 ⟨rfl, hr6, hg6⟩
      obtain ⟨hb6, hz6⟩ := below_ownP hb5 hz5 hg6 hz4
      rw [HTD.out, P3.out] at hr6 ⊢
      clear hr5 hb5 hz5 hg6 hz4
      go_wp2_with fail
      rw [HZ.out]
      refine (pack_page z (by omega) P1.out _).mono ?_
      rintro e x3 ⟨rfl, hb7⟩
      rw [HT.out]
      have hr8 := hr6.below hb7
      have hb8 := hb6.trans (hb7.mono hz6)
      have hz8 := hb8.size
      clear hr6 hb6 hb7 hz6
      go_wp2_with fail
      refine (rnew_code _ _).mono ?_
      rintro e w5 ⟨rfl, rfl⟩
      obtain ⟨R2, hR2⟩ : ∃ R2, x3.heap.size = R2 := ⟨_, rfl⟩
      have hr9 : IsRd (x3.alloc (rdObj t 0)) R2 t 0 := IsRd.fresh hR2 (by omega)
      have hra : IsRd (x3.alloc (rdObj t 0)) R t (0 + r.size) := hr8.below ((Below.refl _ x3).alloc (Nat.le_refl _) _)
      have hne : R ≠ R2 := by have := hr8.lt; omega
      have hb9 := hb8.alloc hz8 (rdObj t 0)
      have hz9 := hb9.size
      rw [hR2] at hz8 ⊢
      generalize x3.alloc (rdObj t 0) = x4 at hr9 hra hb9 hz9 ⊢
      clear hb8 hR2 hr8
      go_wp2_with fail
      refine (ptake_code (!intra) _ R2 t 0 (HP.out _ hb9) hr9).mono ?_
      rintro e x5 ⟨rfl, _, hga⟩
      obtain ⟨hbb, hzb⟩ := below_ownP hb9 hz9 hga hz8
      rw [HTD.out, P4.out]
      have hrb := hra.grown hga hne
      have hpb := HP.out _ hbb
      clear hr9 hra hb9 hz9 hga hz8
      go_wp2_with (first
        | (go_at_call 14; refine (at_code _ _ _ _ hrb).mono ?_; rintro e w' ⟨rfl, rfl⟩)
        | (go_at_call 8; refine (lives7 _ hpb).mono ?_; rintro e w' ⟨rfl, hb⟩))
      go_ret
      exact ⟨rfl, hbb.trans (hb.mono hzb)⟩
theorem cbpyBack_own : ownKnob Tryd.prog.godebug = none := by kernel_rfl
theorem cbpyBack_laid : laidOutB Tryd.prog = true := by kernel_rfl
theorem cbpyBack_reads : Tryd.f5.params.toList.all (fun t => Tryd.prog.readableRec t && decide (t < Tryd.prog.types.size)) = true := by kernel_rfl

set_option maxRecDepth 100000 in
theorem cbpyBack_lifted (os : Os) (started : os.Started) (H : Type) (enc : TypeId × Value → H) :
    ReturnsInHanded {} Tryd.checked os 5 .any (fun w args => (Rows.cbpyBackSpec.pre enc Tryd.prog Tryd.f5 Rows.cbpyBackRow.domain false w args ∧ laidMetH Tryd.prog Rows.cbpyBackRow.laid w) ∧ sizedMet enc Tryd.prog Tryd.f5 (OpenSpec.ofChange Rows.cbpyBackSpec) false w args)
      (Rows.cbpyBackSpec.post enc Tryd.prog Tryd.f5 false true false false) := by
  refine returnsInHanded_of_change_and (C := Tryd.checked) (X := fun w _ => laidMetH Tryd.prog Rows.cbpyBackRow.laid w) (fun _ _ _ hh h => h.of_heap hh) cbpyBack_own started (by kernel_rfl) Tryd.func5
    (ChangeSpec.witness_shaped (enc := enc) (C := Tryd.checked) (os := os) (X := fun w _ => laidMetH Tryd.prog Rows.cbpyBackRow.laid w) false (World.laidAll Tryd.prog os Rows.cbpyBackRow.laid) #[.bool false, .int .i64 0, .string ⟨#[]⟩] 8 (World.laidAll_os _ _ _)
      (World.shaped_of_ZipB (by kernel_rfl) (by kernel_rfl)) (by kernel_rfl) (by kernel_rfl) (by kernel_rfl)
      (by rw [MakeChecks.laidMetH_plain _ _ _ (by kernel_rfl)]; exact laidMet_laidAll _ (by kernel_rfl) (by kernel_rfl))) ?_
  intro W base args ds gs before hval0 hW _ hsz0 hL _
  have hval : ∀ (j : Nat) t v, Tryd.f5.params[j]? = some t → args[j]? = some v → Value.okWide Tryd.prog W .any base t v := hval0
  have hW' := hW
  obtain ⟨p, q, hA0, hV, rfl, hfz, hnd⟩ := hW
  have hA : DataW.TrodAll enc Tryd.prog W 0 (fun _ => true) true Tryd.f5.params.toList args.toList ds p := hA0
  rw [Tryd.params5] at hA hval
  obtain ⟨v0, vs0, d0, ds0, p0, q0, hargs, rfl, rfl, h0, r0⟩ := trodAll_cons hA
  obtain ⟨v1, vs1, d1, ds1, p1, q1, rfl, rfl, rfl, h1, r1⟩ := trodAll_cons r0
  obtain ⟨v2, vs2, d2, ds2, p2, q2, rfl, rfl, rfl, h2, r2⟩ := trodAll_cons r1
  obtain ⟨rfl, rfl, rfl⟩ := trodAll_nil r2
  obtain rfl : args = #[v0, v1, v2] := by cases args; simp_all
  obtain ⟨rfl, rfl⟩ := trodVars_none hV
  obtain ⟨a0, rfl, rfl, rfl⟩ := open_bool Tryd.underlying4 (hval 0 4 v0 rfl rfl) h0
  obtain ⟨a1, rfl, rfl, rfl, w1⟩ := open_int Tryd.underlying3 (hval 1 3 v1 rfl rfl) h1
  obtain ⟨a2, rfl, rfl, rfl, w2⟩ := Go.ChangeMaps.open_string Tryd.underlying9 (hval 2 9 v2 rfl rfl) h2
  have z2 : a2.size ≤ 140737488355328 := Nat.le_trans (sized_string hsz0 (j := 2) rfl rfl) (Nat.le_of_lt reachBytes_lt)
  clear hA0 hval0
  refine (cbpyBack_walk a0 a1 a2 W  w1 w2 z2 (pats_laid hL ⟨by simp [Rows.cbpyBackRow], by kernel_rfl⟩)).mono fun e W' ⟨he, hb⟩ => ?_
  subst he
  exact ⟨_, rfl, law_end cbpyBack_laid cbpyBack_reads rfl Tryd.underlying4 rfl hW' rfl hb⟩

theorem cbpyBack_over : Rows.cbpyBackRow.holds Tryd.pinned (OpenSpec.ofChange Rows.cbpyBackSpec) :=
  OpenClaim.holds_of_wide 5 Tryd.f5 rfl rfl rfl rfl rfl rfl rfl ⟨rfl, rfl, rfl, rfl, rfl⟩ rfl rfl rfl rfl rfl (by kernel_rfl) Tryd.func5 (by kernel_rfl)
    (of_decide_eq_true (by kernel_rfl)) (by unfold Func.isWrapper; first | (rw [if_pos (by decide +kernel)]; kernel_rfl) | (rw [if_neg (by decide +kernel)]; exact ⟨rfl, rfl⟩))
    (fun os started H enc _ => cbpyBack_lifted os started H enc)

theorem cbpyBack_holds : Rows.CbpyBackCardSaid :=
  Claim7.holds_tied_plain_at .later [] [.data, .data, .pinned] true Rows.cbpyBackCard.stood.harness false cbpyBack_over (fun _ h => by cases h) (by kernel_rfl) (fun _ h => by cases h) cbpyBack_row_tie rfl ⟨rfl, rfl⟩ (by kernel_rfl) rfl
    (fun f fn hf hfn => by
      obtain rfl : f = 5 := Option.some.inj ((show Tryd.prog.funcNamed "overspill/overspilllaw07.CbpyBack" = some 5 by kernel_rfl).symm.trans hf) |>.symm
      obtain rfl : fn = Tryd.f5 := (Option.some.inj (Tryd.func5.symm.trans hfn)).symm
      exact ⟨by kernel_rfl, fun j t ht => by
        rw [Tryd.params5] at ht
        have hm : t ∈ [4, 3, 9] := by simpa using Array.mem_of_getElem? ht
        have hall : ([4, 3, 9].all fun u => !Tryd.prog.wantsStandIn u) = true := by kernel_rfl
        exact (show Tryd.prog.wantsStandIn t = false by simpa using List.all_eq_true.1 hall t hm)⟩)
    (by kernel_rfl)
#print axioms cbpyBack_holds
end Go.Proofs.YtfechonaghjcnaaDoor
