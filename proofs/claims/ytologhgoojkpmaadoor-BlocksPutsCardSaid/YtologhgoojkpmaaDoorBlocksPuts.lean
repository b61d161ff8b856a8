/- Any block is written as the document's own answer says, behind what is there, or refused, and then nothing is written; and the chapter's example comes out. Conditions: none but the law's own (up to 100 events, 100 digits ahead), and the card's: what the listed variables hold when the call begins, tied to the program's text. -/
import Derived.Test.YtologhgoojkpmaaDoorCards
import Derived.Test.YtologhgoojkpmaaDoorTie
import Derived.Test.YtologhgoojkpmaaDoorLives9
import Derived.Test.YtologhgoojkpmaaDoorBopen
import Derived.Test.YtologhgoojkpmaaDoorBlive
import Derived.Test.YtologhgoojkpmaaDoorBref
import Derived.Test.YtologhgoojkpmaaDoorLaws
import Derived.Test.YtologhgoojkpmaaDoorBack
import Derived.RegionTactic
import Derived.Deep.RegionWith
import Derived.Deep.CutRange
import Derived.Deep.DeepCutAuto
import Derived.ProofKit
import Derived.LaidMore
import Derived.OpenShut
import Derived.Lay
import Derived.SizedLaws
import Derived.SevenTiedAt
import Derived.Stop.Joined
namespace Go.Proofs.YtologhgoojkpmaaDoor
open Go.ChangeShapes Go.WideShapes Go.ChangeAt Go.RowKit
set_option linter.unusedVariables false

set_option maxRecDepth 100000 in
set_option maxHeartbeats 1000000 in
theorem blocksPuts_walk (i : Bool) (d : Int) (p : Option Addr) (n0 c : Nat) (s : ByteArray) (w : World) (_ : (Lit.int .i64 d).wf = true) (hx : RowsAt w EvCells 3 p n0) (hn0 : n0 ≤ maxLen) (hss : s.size ≤ maxLen) (hsz : s.size ≤ 140737488355328) (hp : HasT w) :
    Calls Tryd.prog 3 #[.agg #[.bool i, .int .i64 d, .slice p n0 c], .string s] w fun e w' => e = .returned (.bool true) ∧ Below w.heap.size w w' := by
  have hss' := hss
  unfold maxLen at hss hn0
  obtain ⟨l, rfl, hv, _⟩ := rows_evs hx
  obtain ⟨B, hB⟩ : ∃ B, w.heap.size = B := ⟨_, rfl⟩
  obtain ⟨n, hn⟩ : ∃ n, l.length = n := ⟨_, rfl⟩
  rw [hn] at hn0 ⊢
  obtain ⟨wA, hwA⟩ : ∃ wA, w.alloc (.cells #[.bool i, .int .i64 d, .slice p n c] 24 (0, 0)) = wA := ⟨_, rfl⟩
  have hzA : wA.heap.size = B + 1 := by rw [← hwA, ← hB]; simp
  have hbA : Below B w wA := by rw [← hwA, ← hB]; exact (Below.refl _ w).alloc (Nat.le_refl _) _
  have hhA : wA.heap[B]? = some (.cells [.bool i, .int .i64 d, .slice p n c].toArray 24 (0, 0)) := by rw [← hwA, ← hB]; exact heap_alloc_new w _
  have CELLS := Lib.hid (fun (x : World) (hx : Below (B + 1) wA x) => (by
    have h : x.heap[B]? = some (.cells [.bool i, .int .i64 d, .slice p n c].toArray 24 (0, 0)) := (hx.block B (by omega)).trans hhA
    exact ⟨part_cells h rfl, part_cells h rfl, part_cells h rfl⟩ : x.cell? ⟨B, 0, none⟩ = some (.bool i) ∧ x.cell? ⟨B, 1, none⟩ = some (.int .i64 d) ∧ x.cell? ⟨B, 2, none⟩ = some (.slice p n c)))
  have HP := Lib.hid (fun (x : World) (hx : Below (B + 1) wA x) => (hp.below (by rw [hB]; exact hbA.trans (hx.mono (by omega))) : HasT x))
  have HV := Lib.hid (fun (x : World) (hx : Below (B + 1) wA x) => (hv.below (by rw [hB]; exact hbA.trans (hx.mono (by omega))) : EvsIn x p l))
  have HBX := Lib.hid (fun (x : World) (hx : Below (B + 1) wA x) => (hbA.trans (hx.mono (by omega)) : Below B w x))
  have hb0 : Below (B + 1) wA wA := Below.refl _ _
  have hz0 : B + 1 ≤ wA.heap.size := by omega
  have HB := Lib.hid hB
  have HWA := Lib.hid hwA
  have HN := Lib.hid hn
  obtain ⟨c0, c1, c2⟩ := CELLS.out _ hb0
  clear hB hwA hbA hp hx hv hhA hn
  by_cases h100 : n ≤ 100 ∧ s.size ≤ 100
  · obtain ⟨ha, hb⟩ := h100
    have t0 : decide (100 < (n : Int)) = false := by simp; omega
    have t1 : decide (100 < (s.size : Int)) = false := by simp; omega
    cases hrow : isRow s.data.toList with
    | false =>
      have F := Lib.hid hrow
      clear hrow
      go_enter Tryd.func3, Tryd.ntmps3
      go_wp2_with fail
      rw [HWA.out]
      refine (plain_page s hss' _).mono ?_
      rintro e w1 ⟨rfl, rfl⟩
      rw [F.out]
      go_wp2_with (go_at_call 7; refine (lives15 _ (HP.out _ hb0)).mono ?_; rintro e w' ⟨rfl, hb⟩)
      go_ret
      exact ⟨rfl, by rw [HB.out]; exact (HBX.out _ hb0).trans (hb.mono (by omega))⟩
    | true =>
      have F := Lib.hid hrow
      have hsl : s.data.toList.length = s.size := rfl
      obtain ⟨a, hsa⟩ : ∃ a, s.data.toList = a := ⟨_, rfl⟩
      have HSA := Lib.hid hsa
      have HAL := Lib.hid (show a.length = s.size by rw [← hsa]; rfl)
      obtain ⟨x0, hx0⟩ : ∃ x0, wA.alloc newWr = x0 := ⟨_, rfl⟩
      have hw0 : IsWr x0 (B + 2) (B + 1) [] := by rw [← hx0]; exact IsWr.fresh hzA (Nat.lt_succ_self _)
      have hb1 : Below (B + 1) wA x0 := by rw [← hx0]; exact hb0.alloc hz0 _
      have hz1 : x0.heap.size = B + 2 := by rw [← hx0]; simp; omega
      have HX0 := Lib.hid hx0
      have hadd := add_code x0 (B + 2) (B + 1) [] s hw0 hrow (by rw [List.length_nil]; omega) (by omega)
      rw [hsa, List.nil_append] at hadd
      clear hrow hsl hsa hx0 hw0
      go_enter Tryd.func3, Tryd.ntmps3
      go_wp2_with fail
      rw [HWA.out, HB.out]
      refine (plain_page s hss' _).mono ?_
      rintro e w1 ⟨rfl, rfl⟩
      rw [F.out]
      go_wp2_with fail
      refine (new_code _).mono ?_
      rintro e w1 ⟨rfl, rfl⟩
      rw [HX0.out, hzA]
      go_wp2_with fail
      refine hadd.mono ?_
      rintro e x1 ⟨rfl, hw1, hg1⟩
      obtain ⟨hb2, hz2⟩ := below_ownP hb1 (by omega) hg1 (Nat.le_refl _)
      have hz2' : B + 2 ≤ x1.heap.size := by have := hg1.size; omega
      obtain ⟨d0, d1, d2⟩ := CELLS.out _ hb2
      clear c0 c1 c2 hb1 hg1 hadd hz1 hb0
      cases hm : mayB i d l with
      | false =>
        have hput := bput_not i d p l c (B + 1) x1 (HV.out _ hb2) (by rw [HN.out]; omega) hm
        have hmay := fun (x : World) (hx : Below (B + 1) wA x) => bmay_page i d p l c x (HV.out _ hx) (by rw [HN.out]; omega)
        rw [hm, HN.out] at hmay
        rw [HN.out] at hput
        clear hm
        go_wp2_with fail
        refine hput.mono ?_
        rintro e x2 ⟨rfl, hb3⟩
        have hw3 := hw1.below hb3
        have hb4 := hb2.trans (hb3.mono hz2)
        have hz4 := Nat.le_trans hz2 hb3.size
        obtain ⟨c0, c1, c2⟩ := CELLS.out _ hb4
        clear d0 d1 d2 hw1 hb2 hb3 hput
        go_wp2_with fail
        refine (bput_nil i d p n c _).mono ?_
        rintro e x3 ⟨rfl, rfl⟩
        go_wp2_with fail
        refine (hmay _ hb4).mono ?_
        rintro e x3 ⟨rfl, hb5⟩
        have hw5 := hw3.below hb5
        have hb6 := hb4.trans (hb5.mono hz4)
        have hz6 := Nat.le_trans hz4 hb5.size
        have hlen := len_code _ _ _ _ hw5
        rw [HAL.out] at hlen
        clear c0 c1 c2 hw3 hb4 hb5 hmay
        go_wp2_with fail
        refine hlen.mono ?_
        rintro e x4 ⟨rfl, rfl⟩
        go_wp2_with fail
        refine (lives15 _ (HP.out _ hb6)).mono ?_
        rintro e x5 ⟨rfl, hb7⟩
        have hb8 := hb6.trans (hb7.mono hz6)
        go_wp2
        go_ret
        exact ⟨rfl, by rw [HB.out]; exact HBX.out _ hb8⟩
      | true =>
        have hl64 := badV_len (mayB_parts hm).2
        rw [HN.out] at hl64
        have hput := bput_ok i d p l c (B + 2) (B + 1) a x1 hw1 (by rw [HAL.out]; omega) hz2' (HV.out _ hb2) (HP.out _ hb2) hm
        have hmay := fun (x : World) (hx : Below (B + 1) wA x) => bmay_page i d p l c x (HV.out _ hx) (by rw [HN.out]; omega)
        have hbr := fun (x : World) (hx : Below (B + 1) wA x) => brow_page i d p l c x (HV.out _ hx) hm
        rw [hm, HN.out] at hmay
        rw [HN.out] at hput hbr
        obtain ⟨RB, hRB⟩ : ∃ RB : ByteArray, ⟨(rowB i d l).toArray⟩ = RB := ⟨_, rfl⟩
        have hRl : RB.data.toList = rowB i d l := by rw [← hRB]
        have hRs : RB.size ≤ 1500 := by
          have h := rowB_len i d l
          rw [HN.out, ← hRl] at h
          have e : RB.data.toList.length = RB.size := rfl
          omega
        have hrr : isRow (a ++ rowB i d l) = true := by rw [isRow_append, rowB_row, ← HSA.out, F.out]; rfl
        obtain ⟨V, hV⟩ : ∃ V, s ++ RB = V := ⟨_, rfl⟩
        have hVl : V.data.toList = a ++ rowB i d l := by rw [← hV, ← HSA.out, ← hRl]; simp
        have hVs : V.size ≤ 1600 := by rw [← hV, ByteArray.size_append]; omega
        rw [hRB] at hbr
        generalize a ++ rowB i d l = r at hput hrr hVl
        have HRS := Lib.hid (show (r.length : Int) = (V.size : Int) by rw [← hVl]; rfl)
        have hpk := fun x => pack_page V (by omega) (by rw [hVl]; exact hrr) x
        rw [hVl] at hpk
        have HV2 := Lib.hid hV
        have HRL := Lib.hid (show r.length ≤ 1099511627776 by rw [← hVl]; have e : V.data.toList.length = V.size := rfl; omega)
        obtain ⟨P, hP⟩ : ∃ P : ByteArray, ⟨(packL r).toArray⟩ = P := ⟨_, rfl⟩
        have htx := fun (x : World) (hx : IsWr x (B + 2) (B + 1) r) => text_code x (B + 2) (B + 1) r hx HRL.out
        rw [hP] at hpk htx
        have g9 : (P.toList == P.toList) = true := by simp
        clear hm hl64 hRB hRl hV hVl hP hw1
        go_wp2_with fail
        refine hput.mono ?_
        rintro e x2 ⟨rfl, hw3, hg3⟩
        obtain ⟨hb4, hz4⟩ := below_ownP hb2 hz2 hg3 (Nat.le_refl _)
        obtain ⟨c0, c1, c2⟩ := CELLS.out _ hb4
        clear d0 d1 d2 hb2 hg3 hput hz2 hz2'
        go_wp2_with fail
        refine (bput_nil i d p n c _).mono ?_
        rintro e x3 ⟨rfl, rfl⟩
        go_wp2_with fail
        refine (hmay _ hb4).mono ?_
        rintro e x3 ⟨rfl, hb5⟩
        have hw5 := hw3.below hb5
        have hb6 := hb4.trans (hb5.mono hz4)
        have hz6 := Nat.le_trans hz4 hb5.size
        obtain ⟨d0, d1, d2⟩ := CELLS.out _ hb6
        clear c0 c1 c2 hw3 hb4 hb5 hmay hz4
        go_wp2_with fail
        refine (hbr _ hb6).mono ?_
        rintro e x4 ⟨rfl, hb7⟩
        have hw7 := hw5.below hb7
        have hb8 := hb6.trans (hb7.mono hz6)
        have hz8 := Nat.le_trans hz6 hb7.size
        have hlen := len_code _ _ _ _ hw7
        rw [HRS.out] at hlen
        clear d0 d1 d2 hw5 hb6 hb7 hbr hz6
        go_wp2_with fail
        rw [HV2.out]
        refine hlen.mono ?_
        rintro e x5 ⟨rfl, rfl⟩
        go_wp2_with fail
        refine (htx _ hw7).mono ?_
        rintro e x6 ⟨rfl, hb9⟩
        have hb10 := hb8.trans (hb9.mono hz8)
        have hz10 := Nat.le_trans hz8 hb9.size
        clear hb8 hb9 hz8 hw7 hlen htx
        go_wp2_with fail
        refine (hpk _).mono ?_
        rintro e x7 ⟨rfl, hb11⟩
        have hb12 := hb10.trans (hb11.mono hz10)
        have hz12 := Nat.le_trans hz10 hb11.size
        clear hb10 hb11 hz10 hpk
        go_wp2_with fail
        refine (lives15 _ (HP.out _ hb12)).mono ?_
        rintro e x8 ⟨rfl, hb13⟩
        have hb14 := hb12.trans (hb13.mono hz12)
        go_wp2
        go_ret
        exact ⟨rfl, by rw [HB.out]; exact HBX.out _ hb14⟩
  · have hor : (decide (100 < (n : Int)) = true) ∨ (decide (100 < (n : Int)) = false ∧ decide (100 < (s.size : Int)) = true) := by
      by_cases hn : n ≤ 100
      · exact .inr ⟨by simp; omega, by simp; omega⟩
      · exact .inl (by simp; omega)
    clear h100
    rcases hor with t0 | ⟨t0, t1⟩
    all_goals
      go_enter Tryd.func3, Tryd.ntmps3
      go_wp2_with fail
      rw [HWA.out]
      refine (lives15 _ (HP.out _ hb0)).mono ?_
      rintro e w' ⟨rfl, hb⟩
      go_wp2
      go_ret
      exact ⟨rfl, by rw [HB.out]; exact (HBX.out _ hb0).trans (hb.mono (by omega))⟩

theorem blocksPuts_own : ownKnob Tryd.prog.godebug = none := by kernel_rfl
theorem blocksPuts_laid : laidOutB Tryd.prog = true := by kernel_rfl
theorem blocksPuts_reads : Tryd.f3.params.toList.all (fun t => Tryd.prog.readableRec t && decide (t < Tryd.prog.types.size)) = true := by kernel_rfl

set_option maxRecDepth 100000 in
theorem blocksPuts_lifted (os : Os) (started : os.Started) (H : Type) (enc : TypeId × Value → H) :
    ReturnsInHanded {} Tryd.checked os 3 .any (fun w args => (Rows.blocksPutsSpec.pre enc Tryd.prog Tryd.f3 Rows.blocksPutsRow.domain false w args ∧ laidMetH Tryd.prog Rows.blocksPutsRow.laid w) ∧ sizedMet enc Tryd.prog Tryd.f3 (OpenSpec.ofChange Rows.blocksPutsSpec) false w args)
      (Rows.blocksPutsSpec.post enc Tryd.prog Tryd.f3 false true false false) := by
  refine returnsInHanded_of_change_and (C := Tryd.checked) (X := fun w _ => laidMetH Tryd.prog Rows.blocksPutsRow.laid w) (fun _ _ _ hh h => h.of_heap hh) blocksPuts_own started (by kernel_rfl) Tryd.func3
    (ChangeSpec.witness_shaped (enc := enc) (C := Tryd.checked) (os := os) (X := fun w _ => laidMetH Tryd.prog Rows.blocksPutsRow.laid w) false (World.laidAll Tryd.prog os Rows.blocksPutsRow.laid) #[.agg #[.bool false, .int .i64 0, .slice none 0 0], .string ⟨#[]⟩] 8 (World.laidAll_os _ _ _)
      (World.shaped_of_ZipB (by kernel_rfl) (by kernel_rfl)) (by kernel_rfl) (by kernel_rfl) (by kernel_rfl)
      (by rw [MakeChecks.laidMetH_plain _ _ _ (by kernel_rfl)]; exact laidMet_laidAll _ (by kernel_rfl) (by kernel_rfl))) ?_
  intro W base args ds gs before hval0 hW _ hsz0 hL _
  have hval : ∀ (j : Nat) t v, Tryd.f3.params[j]? = some t → args[j]? = some v → Value.okWide Tryd.prog W .any base t v := hval0
  have hW' := hW
  obtain ⟨p, q, hA0, hV, rfl, hfz, hnd⟩ := hW
  have hA : DataW.TrodAll enc Tryd.prog W 0 (fun _ => true) true Tryd.f3.params.toList args.toList ds p := hA0
  rw [Tryd.params3] at hA hval
  obtain ⟨v0, vs0, d0, ds0, p0, q0, hargs, rfl, rfl, h0, r0⟩ := trodAll_cons hA
  obtain ⟨v1, vs1, d1, ds1, p1, q1, rfl, rfl, rfl, h1, r1⟩ := trodAll_cons r0
  obtain ⟨rfl, rfl, rfl⟩ := trodAll_nil r1
  obtain rfl : args = #[v0, v1] := by cases args; simp_all
  obtain ⟨rfl, rfl⟩ := trodVars_none hV
  obtain ⟨a0, d0', p0', l0, c0, rfl, y0, w0, x0⟩ := open_block 3 _ Tryd.underlying24 Tryd.underlying4 Tryd.underlying3 Tryd.underlying22 rfl rfl rfl rfl rfl rfl (by kernel_rfl) (by kernel_rfl) (by kernel_rfl) (by kernel_rfl) (by kernel_rfl) (by decide) (ev_struct Tryd.underlying50 Tryd.underlying4 Tryd.underlying3 rfl rfl rfl rfl rfl rfl (by kernel_rfl) (by kernel_rfl)) (hval 0 24 v0 rfl rfl) h0
  obtain ⟨a1, rfl, rfl, rfl, w1⟩ := Go.ChangeMaps.open_string Tryd.underlying9 (hval 1 9 v1 rfl rfl) h1
  have z1 : a1.size ≤ 140737488355328 := Nat.le_trans (sized_string hsz0 (j := 1) rfl rfl) (Nat.le_of_lt reachBytes_lt)
  clear hA0 hval0
  refine (blocksPuts_walk a0 d0' p0' l0 c0 a1 W y0 x0 w0 w1 z1 (tcoef_laid hL ⟨by simp [Rows.blocksPutsRow], by kernel_rfl⟩)).mono fun e W' ⟨he, hb⟩ => ?_
  subst he
  exact ⟨_, rfl, law_end blocksPuts_laid blocksPuts_reads rfl Tryd.underlying4 rfl hW' rfl hb⟩

theorem blocksPuts_over : Rows.blocksPutsRow.holds Tryd.pinned (OpenSpec.ofChange Rows.blocksPutsSpec) :=
  OpenClaim.holds_of_wide 3 Tryd.f3 rfl rfl rfl rfl rfl rfl rfl ⟨rfl, rfl, rfl, rfl, rfl⟩ rfl rfl rfl rfl rfl (by kernel_rfl) Tryd.func3 (by kernel_rfl)
    (of_decide_eq_true (by kernel_rfl)) (by unfold Func.isWrapper; first | (rw [if_pos (by decide +kernel)]; kernel_rfl) | (rw [if_neg (by decide +kernel)]; exact ⟨rfl, rfl⟩))
    (fun os started H enc _ => blocksPuts_lifted os started H enc)

theorem blocksPuts_holds : Rows.BlocksPutsCardSaid :=
  Claim7.holds_tied_plain_at .later [] [.data, .data, .data] true Rows.blocksPutsCard.stood.harness false blocksPuts_over (fun _ h => by cases h) (by kernel_rfl) (fun _ h => by cases h) blocksPuts_row_tie rfl ⟨rfl, rfl⟩ (by kernel_rfl) rfl
    (fun f fn hf hfn => by
      obtain rfl : f = 3 := Option.some.inj ((show Tryd.prog.funcNamed "overspill/overspilllaw15.BlocksPuts" = some 3 by kernel_rfl).symm.trans hf) |>.symm
      obtain rfl : fn = Tryd.f3 := (Option.some.inj (Tryd.func3.symm.trans hfn)).symm
      exact ⟨by kernel_rfl, fun j t ht => by
        rw [Tryd.params3] at ht
        have hm : t ∈ [24, 9] := by simpa using Array.mem_of_getElem? ht
        have hall : ([24, 9].all fun u => !Tryd.prog.wantsStandIn u) = true := by kernel_rfl
        exact (show Tryd.prog.wantsStandIn t = false by simpa using List.all_eq_true.1 hall t hm)⟩)
    (by kernel_rfl)
#print axioms blocksPuts_holds
end Go.Proofs.YtologhgoojkpmaaDoor
