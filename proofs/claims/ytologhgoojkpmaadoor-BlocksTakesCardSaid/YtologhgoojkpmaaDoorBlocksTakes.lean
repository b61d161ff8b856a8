/- What is taken at any bit of any text, or what is wrong, and where the reader stands then, is what the document's own answers say; and the chapter's example comes out. Conditions: none but the law's own (texts of up to 300 bytes), and the card's: what the listed variables hold when the call begins, tied to the program's text. -/
import Derived.Test.YtologhgoojkpmaaDoorCards
import Derived.Test.YtologhgoojkpmaaDoorTie
import Derived.Test.YtologhgoojkpmaaDoorLives9
import Derived.Test.YtologhgoojkpmaaDoorBopen
import Derived.Test.YtologhgoojkpmaaDoorBlive
import Derived.Test.YtologhgoojkpmaaDoorBref
import Derived.Test.YtologhgoojkpmaaDoorLaws
import Derived.Test.YtologhgoojkpmaaDoorBack
import Derived.RegionTactic
import Derived.Deep.RegionWith
import Derived.Deep.CutRange
import Derived.Deep.DeepCutAuto
import Derived.ProofKit
import Derived.LaidMore
import Derived.OpenShut
import Derived.Lay
import Derived.SizedLaws
import Derived.SevenTiedAt
import Derived.Stop.Joined
namespace Go.Proofs.YtologhgoojkpmaaDoor
open Go.ChangeShapes Go.WideShapes Go.ChangeAt Go.RowKit
set_option linter.unusedVariables false

set_option maxRecDepth 100000 in
set_option maxHeartbeats 2000000 in
theorem blocksTakes_walk (s : ByteArray) (from_ : Int) (i k : Bool) (w : World) (hss : s.size ≤ maxLen) (hz : s.size ≤ 140737488355328) (wf : (Lit.int .i64 from_).wf = true) (hp : HasT w) :
    Calls Tryd.prog 4 #[.string s, .int .i64 from_, .agg #[.bool i, .bool k]] w fun e w' => e = .returned (.bool true) ∧ Below w.heap.size w w' := by
  unfold maxLen at hss
  obtain ⟨B, hB⟩ : ∃ B, w.heap.size = B := ⟨_, rfl⟩
  obtain ⟨wA, hwA⟩ : ∃ wA, w.alloc (.cells #[.bool i, .bool k] 38 (0, 0)) = wA := ⟨_, rfl⟩
  have hzA : wA.heap.size = B + 1 := by rw [← hwA, ← hB]; simp
  have hbA : Below B w wA := by rw [← hwA, ← hB]; exact (Below.refl _ w).alloc (Nat.le_refl _) _
  have hhA : wA.heap[B]? = some (.cells [.bool i, .bool k].toArray 38 (0, 0)) := by rw [← hwA, ← hB]; exact heap_alloc_new w _
  have CELLS := Lib.hid (fun (x : World) (hx : Below (B + 1) wA x) => (by
    have h : x.heap[B]? = some (.cells [.bool i, .bool k].toArray 38 (0, 0)) := (hx.block B (by omega)).trans hhA
    exact ⟨part_cells h rfl, part_cells h rfl⟩ : x.cell? ⟨B, 0, none⟩ = some (.bool i) ∧ x.cell? ⟨B, 1, none⟩ = some (.bool k)))
  have HP := Lib.hid (fun (x : World) (hx : Below (B + 1) wA x) => (hp.below (by rw [hB]; exact hbA.trans (hx.mono (by omega))) : HasT x))
  have HBX := Lib.hid (fun (x : World) (hx : Below (B + 1) wA x) => (hbA.trans (hx.mono (by omega)) : Below B w x))
  have hb0 : Below (B + 1) wA wA := Below.refl _ _
  have HB := Lib.hid hB
  have HWA := Lib.hid hwA
  obtain ⟨x0, hx0⟩ : ∃ x0, wA.alloc (rdObj s 0) = x0 := ⟨_, rfl⟩
  have hr0 : IsRd x0 (B + 1) s 0 := by rw [← hx0]; exact IsRd.fresh hzA hz
  have hb1 : Below (B + 1) wA x0 := by rw [← hx0]; exact hb0.alloc (by omega) _
  have hz1 : B + 1 ≤ x0.heap.size := by rw [← hx0]; simp; omega
  have HX0 := Lib.hid hx0
  clear hB hwA hbA hp hhA hx0
  by_cases h300 : 300 < s.size
  · have t0 : decide (300 < (s.size : Int)) = true := by simp; omega
    clear h300
    go_enter Tryd.func4, Tryd.ntmps4
    go_wp2_with fail
    rw [HWA.out, HB.out]
    refine (rnew_code _ _).mono ?_
    rintro e w1 ⟨rfl, rfl⟩
    rw [HX0.out, hzA]
    go_wp2_with fail
    refine (lives15 _ (HP.out _ hb1)).mono ?_
    rintro e w' ⟨rfl, hb⟩
    go_wp2
    go_ret
    exact ⟨rfl, by rw [HB.out]; exact HBX.out _ (hb1.trans (hb.mono hz1))⟩
  have t0 : decide (300 < (s.size : Int)) = false := by simp; omega
  by_cases hfr : 0 ≤ from_ ∧ from_ ≤ 8 * (s.size : Int)
  · obtain ⟨f0, f1⟩ := hfr
    go_enter Tryd.func4, Tryd.ntmps4
    go_wp2_with fail
    rw [HWA.out, HB.out]
    refine (rnew_code _ _).mono ?_
    rintro e w1 ⟨rfl, rfl⟩
    rw [HX0.out, hzA]
    go_wp2_with fail
    refine (seek_code _ _ _ _ from_ hr0 f0 f1).mono ?_
    rintro e x1 ⟨rfl, hr1, hg1⟩
    obtain ⟨a, ha⟩ : ∃ a : Nat, from_ = a := ⟨from_.toNat, by omega⟩
    subst ha
    rw [Int.toNat_natCast] at hr1
    obtain ⟨hb2, hz2⟩ := below_ownP hb1 hz1 hg1 (Nat.le_refl _)
    obtain ⟨c0, c1⟩ := CELLS.out _ hb2
    clear hr0 hg1 hb1 hz1 hb0
    obtain ⟨⟨d, L, tq, f⟩, hK⟩ : ∃ x, btk (showL s.data.toList) a i k = x := ⟨_, rfl⟩
    have hLl : L.length ≤ 65 := by have := btk_len (showL s.data.toList) a i k; rw [hK] at this; exact this
    have htk := btake_code x1 (B + 1) s a i k (HP.out _ hb2) hr1
    unfold BTake at htk
    rw [hK] at htk
    have hsl : (⟨(showL s.data.toList).toArray⟩ : ByteArray).size = 8 * s.size := by rw [size_mk, showL_length]; rfl
    have hshow := fun x => show_page s (by omega) x
    have hpg := fun x => brtake_page (⟨(showL s.data.toList).toArray⟩ : ByteArray) a i k x (by rw [hsl]; omega) (by rw [hsl]; omega) (showL_row _)
    unfold BRTake at hpg
    rw [show (⟨(showL s.data.toList).toArray⟩ : ByteArray).data.toList = showL s.data.toList from rfl, hK] at hpg
    generalize (⟨(showL s.data.toList).toArray⟩ : ByteArray) = y at hshow hpg hsl
    have HPG := Lib.hid hpg
    have HSHOW := Lib.hid hshow
    clear hK hsl hpg hshow
    go_wp2_with fail
    refine htk.mono ?_
    rintro e x2 ⟨d1, L1, f1, t1, m, q, cap, heq, rfl, hm, hev, hr3, hg3⟩
    simp only [Prod.mk.injEq] at heq
    obtain ⟨rfl, rfl, rfl, rfl⟩ := heq
    obtain ⟨hb4, hz4⟩ := below_ownP hb2 hz2 hg3 (Nat.le_refl _)
    obtain ⟨d0, d1⟩ := CELLS.out _ hb4
    clear c0 c1 hb2 hz2 hr1 hg3 htk
    have dd0 : x2.drew.cell? ⟨B, 0, none⟩ = some (.bool i) := d0
    have dd1 : x2.drew.cell? ⟨B, 1, none⟩ = some (.bool k) := d1
    have hevd : EvsIn x2.drew q L := hev
    have hr3d : IsRd x2.drew (B + 1) s tq := hr3
    have hb4d : Below (B + 1) wA x2.drew := ⟨hb4.os, hb4.tape, hb4.output, hb4.size, hb4.block⟩
    have hz4d : B + 1 ≤ x2.drew.heap.size := hz4
    have HSH2 := Lib.hid (fun (e : Ending) (x : World) (h : e = .returned (.string y) ∧ Below x2.drew.heap.size x2.drew x) => (by
      obtain ⟨h1, hb⟩ := h
      have hb5 := hb4d.trans (hb.mono hz4d)
      exact ⟨h1, (CELLS.out _ hb5).1, (CELLS.out _ hb5).2, hevd.below hb, hr3d.below hb, hb5, Nat.le_trans hz4d hb.size⟩ : e = .returned (.string y) ∧ x.cell? ⟨B, 0, none⟩ = some (.bool i) ∧ x.cell? ⟨B, 1, none⟩ = some (.bool k) ∧ EvsIn x q L ∧ IsRd x (B + 1) s tq ∧ Below (B + 1) wA x ∧ B + 1 ≤ x.heap.size))
    clear d0 d1 hev hr3 hb4 hz4 hevd hr3d hb4d hz4d
    go_wp2_with fail
    go_region_with (first
      | (go_at_call 20; refine (HSHOW.out _).mono ?_; rintro e x3 hsh; obtain ⟨rfl, d0, d1, hev5, hr5, hb5, hz5⟩ := HSH2.out _ _ hsh)
      | (go_at_call 19; refine (HPG.out _).mono ?_; rintro e x4 ⟨dx, Lx, fx, tx, mx, qx, capx, heqx, rfl, hmx, hevx, hbx⟩))
    all_goals
      simp only [Prod.mk.injEq] at heqx
      obtain ⟨rfl, rfl, rfl, rfl⟩ := heqx
      obtain rfl : m = mx := by rw [← hm]; exact hmx
      have hev7 := hev5.below hbx
      have hr7 := hr5.below hbx
      have hb7 := hb5.trans (hbx.mono hz5)
      have hz7 := Nat.le_trans hz5 hbx.size
      obtain ⟨c0, c1⟩ := CELLS.out _ hb7
      have hsame := same_page q qx L L cap capx x4 hev7 hevx (by omega)
      rw [hm, decide_eq_true (rfl : L = L)] at hsame
      have g1 : (d == d) = true := by simp
      have g2 : (f == f) = true := by simp
      have g3 : ((tq : Int) == (tq : Int)) = true := by simp
      clear dd0 dd1 d0 d1 hev5 hr5 hb5 hz5 hevx hbx hev7 hmx hsh
      go_wp2_with fail
      refine (btake_nil i k _).mono ?_
      rintro e x5 ⟨rfl, rfl⟩
      go_wp2_with fail
      refine hsame.mono ?_
      rintro e x5 ⟨rfl, hb8⟩
      have hr9 := hr7.below hb8
      have hb9 := hb7.trans (hb8.mono hz7)
      have hz9 := Nat.le_trans hz7 hb8.size
      clear hsame hr7 hb7 hb8 hz7 c0 c1
      go_wp2_with fail
      refine (at_code _ _ _ _ hr9).mono ?_
      rintro e x6 ⟨rfl, rfl⟩
      go_wp2_with fail
      refine (lives15 _ (HP.out _ hb9)).mono ?_
      rintro e x6 ⟨rfl, hb10⟩
      have hb11 := hb9.trans (hb10.mono hz9)
      go_wp2
      go_ret
      exact ⟨rfl, by rw [HB.out]; exact HBX.out _ hb11⟩
  · have hn : from_ < 0 ∨ 8 * (s.size : Int) < from_ := by omega
    go_enter Tryd.func4, Tryd.ntmps4
    go_wp2_with fail
    rw [HWA.out, HB.out]
    refine (rnew_code _ _).mono ?_
    rintro e w1 ⟨rfl, rfl⟩
    rw [HX0.out, hzA]
    go_wp2_with fail
    refine (seek_not _ _ _ _ from_ hr0 hn).mono ?_
    rintro e x1 ⟨rfl, rfl⟩
    go_wp2_with fail
    refine (lives15 _ (HP.out _ hb1)).mono ?_
    rintro e w' ⟨rfl, hb⟩
    go_wp2
    go_ret
    exact ⟨rfl, by rw [HB.out]; exact HBX.out _ (hb1.trans (hb.mono hz1))⟩

theorem blocksTakes_own : ownKnob Tryd.prog.godebug = none := by kernel_rfl
theorem blocksTakes_laid : laidOutB Tryd.prog = true := by kernel_rfl
theorem blocksTakes_reads : Tryd.f4.params.toList.all (fun t => Tryd.prog.readableRec t && decide (t < Tryd.prog.types.size)) = true := by kernel_rfl

set_option maxRecDepth 100000 in
theorem blocksTakes_lifted (os : Os) (started : os.Started) (H : Type) (enc : TypeId × Value → H) :
    ReturnsInHanded {} Tryd.checked os 4 .any (fun w args => (Rows.blocksTakesSpec.pre enc Tryd.prog Tryd.f4 Rows.blocksTakesRow.domain false w args ∧ laidMetH Tryd.prog Rows.blocksTakesRow.laid w) ∧ sizedMet enc Tryd.prog Tryd.f4 (OpenSpec.ofChange Rows.blocksTakesSpec) false w args)
      (Rows.blocksTakesSpec.post enc Tryd.prog Tryd.f4 false true false false) := by
  refine returnsInHanded_of_change_and (C := Tryd.checked) (X := fun w _ => laidMetH Tryd.prog Rows.blocksTakesRow.laid w) (fun _ _ _ hh h => h.of_heap hh) blocksTakes_own started (by kernel_rfl) Tryd.func4
    (ChangeSpec.witness_shaped (enc := enc) (C := Tryd.checked) (os := os) (X := fun w _ => laidMetH Tryd.prog Rows.blocksTakesRow.laid w) false (World.laidAll Tryd.prog os Rows.blocksTakesRow.laid) #[.string ⟨#[]⟩, .int .i64 0, .agg #[.bool false, .bool false]] 8 (World.laidAll_os _ _ _)
      (World.shaped_of_ZipB (by kernel_rfl) (by kernel_rfl)) (by kernel_rfl) (by kernel_rfl) (by kernel_rfl)
      (by rw [MakeChecks.laidMetH_plain _ _ _ (by kernel_rfl)]; exact laidMet_laidAll _ (by kernel_rfl) (by kernel_rfl))) ?_
  intro W base args ds gs before hval0 hW _ hsz0 hL _
  have hval : ∀ (j : Nat) t v, Tryd.f4.params[j]? = some t → args[j]? = some v → Value.okWide Tryd.prog W .any base t v := hval0
  have hW' := hW
  obtain ⟨p, q, hA0, hV, rfl, hfz, hnd⟩ := hW
  have hA : DataW.TrodAll enc Tryd.prog W 0 (fun _ => true) true Tryd.f4.params.toList args.toList ds p := hA0
  rw [Tryd.params4] at hA hval
  obtain ⟨v0, vs0, d0, ds0, p0, q0, hargs, rfl, rfl, h0, r0⟩ := trodAll_cons hA
  obtain ⟨v1, vs1, d1, ds1, p1, q1, rfl, rfl, rfl, h1, r1⟩ := trodAll_cons r0
  obtain ⟨v2, vs2, d2, ds2, p2, q2, rfl, rfl, rfl, h2, r2⟩ := trodAll_cons r1
  obtain ⟨rfl, rfl, rfl⟩ := trodAll_nil r2
  obtain rfl : args = #[v0, v1, v2] := by cases args; simp_all
  obtain ⟨rfl, rfl⟩ := trodVars_none hV
  obtain ⟨a0, rfl, rfl, rfl, w0⟩ := Go.ChangeMaps.open_string Tryd.underlying9 (hval 0 9 v0 rfl rfl) h0
  have z0 : a0.size ≤ 140737488355328 := Nat.le_trans (sized_string hsz0 (j := 0) rfl rfl) (Nat.le_of_lt reachBytes_lt)
  obtain ⟨a1, rfl, rfl, rfl, w1⟩ := open_int Tryd.underlying3 (hval 1 3 v1 rfl rfl) h1
  obtain ⟨a2, b2, rfl⟩ := open_bools Tryd.underlying38 Tryd.underlying4 (by kernel_rfl) (by kernel_rfl) (hval 2 38 v2 rfl rfl) h2
  clear hA0 hval0
  refine (blocksTakes_walk a0 a1 a2 b2 W w0 z0 w1  (tcoef_laid hL ⟨by simp [Rows.blocksTakesRow], by kernel_rfl⟩)).mono fun e W' ⟨he, hb⟩ => ?_
  subst he
  exact ⟨_, rfl, law_end blocksTakes_laid blocksTakes_reads rfl Tryd.underlying4 rfl hW' rfl hb⟩

theorem blocksTakes_over : Rows.blocksTakesRow.holds Tryd.pinned (OpenSpec.ofChange Rows.blocksTakesSpec) :=
  OpenClaim.holds_of_wide 4 Tryd.f4 rfl rfl rfl rfl rfl rfl rfl ⟨rfl, rfl, rfl, rfl, rfl⟩ rfl rfl rfl rfl rfl (by kernel_rfl) Tryd.func4 (by kernel_rfl)
    (of_decide_eq_true (by kernel_rfl)) (by unfold Func.isWrapper; first | (rw [if_pos (by decide +kernel)]; kernel_rfl) | (rw [if_neg (by decide +kernel)]; exact ⟨rfl, rfl⟩))
    (fun os started H enc _ => blocksTakes_lifted os started H enc)

theorem blocksTakes_holds : Rows.BlocksTakesCardSaid :=
  Claim7.holds_tied_plain_at .later [] [.data, .data, .data] true Rows.blocksTakesCard.stood.harness false blocksTakes_over (fun _ h => by cases h) (by kernel_rfl) (fun _ h => by cases h) blocksTakes_row_tie rfl ⟨rfl, rfl⟩ (by kernel_rfl) rfl
    (fun f fn hf hfn => by
      obtain rfl : f = 4 := Option.some.inj ((show Tryd.prog.funcNamed "overspill/overspilllaw15.BlocksTakes" = some 4 by kernel_rfl).symm.trans hf) |>.symm
      obtain rfl : fn = Tryd.f4 := (Option.some.inj (Tryd.func4.symm.trans hfn)).symm
      exact ⟨by kernel_rfl, fun j t ht => by
        rw [Tryd.params4] at ht
        have hm : t ∈ [9, 3, 38] := by simpa using Array.mem_of_getElem? ht
        have hall : ([9, 3, 38].all fun u => !Tryd.prog.wantsStandIn u) = true := by kernel_rfl
        exact (show Tryd.prog.wantsStandIn t = false by simpa using List.all_eq_true.1 hall t hm)⟩)
    (by kernel_rfl)
#print axioms blocksTakes_holds
end Go.Proofs.YtologhgoojkpmaaDoor
