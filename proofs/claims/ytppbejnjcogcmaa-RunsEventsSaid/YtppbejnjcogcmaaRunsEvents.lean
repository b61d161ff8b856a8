/- The events of any levels, and what is wrong with them, are what the document's own answer says; and the chapter's examples come out. No condition. -/
import Derived.Test.YtppbejnjcogcmaaRows
import Derived.Test.YtppbejnjcogcmaaRlive
import Derived.Test.YtppbejnjcogcmaaLaws
import Derived.ProofKit
namespace Go.Proofs.Ytppbejnjcogcmaa
open Go.ChangeShapes Go.WideShapes Go.ChangeAt Go.RowKit

theorem evG_len (f : Nat → Int) (a : Int) : (evG f a).1.length ≤ 64 := by
  unfold evG
  split
  · split
    · exact Nat.zero_le _
    · rw [mark_len]
      have := evs_most f a.toNat 64
      omega
  · exact Nat.zero_le _
set_option maxRecDepth 100000 in
set_option maxHeartbeats 2000000 in
theorem runsEvents_walk (f : Nat → Int) (a : Int) (_ : ∀ i, i < 64 → (Lit.int .i64 (f i)).wf = true) (_ : (Lit.int .i64 a).wf = true) (w : World) : Calls Try.prog 3 #[.agg (arrA f), .int .i64 a] w fun e w' => e = .returned (.bool true) ∧ Below w.heap.size w w' := by
  have hev := fun x => events_code f a x
  have hpg := fun x => events_page f a x
  have hln := evG_len f a
  unfold EvGives at hev hpg
  generalize (evG f a).1 = L at hev hpg hln
  generalize (evG f a).2 = z at hev hpg
  obtain ⟨B, hB⟩ : ∃ B, w.heap.size = B := ⟨_, rfl⟩
  obtain ⟨Z, hZ⟩ : ∃ Z, arrA f = Z := ⟨_, rfl⟩
  have HSZ : (Try.prog.info? 22).map (·.size) = some Z.size := by rw [← hZ]; exact arr_sized _
  rw [hZ] at hev hpg ⊢
  obtain ⟨wA, hwA⟩ : ∃ wA, w.alloc (.cells Z 22 (0, 0)) = wA := ⟨_, rfl⟩
  have hzA : wA.heap.size = B + 1 := by rw [← hwA, ← hB]; simp
  have hhA : wA.heap[B]? = some (.cells Z 22 (0, 0)) := by rw [← hwA, ← hB]; exact heap_alloc_new w _
  have hbA : Below B w wA := by rw [← hwA, ← hB]; exact (Below.refl _ w).alloc (Nat.le_refl _) _
  have HWA := Lib.hid hwA
  have HB := Lib.hid hB
  have hzz : (z == z) = true := beq_self_eq_true z
  clear hZ hwA hB
  go_enter Try.func3, Try.ntmps3
  go_wp2_with (rw [HWA.out, HB.out]; with_reducible refine wpList_load_row rfl 22 _ rfl B rfl 22 Z (0, 0) _ hhA Try.underlying22 rfl HSZ ?_)
  refine (hev _).mono ?_
  rintro e w1 ⟨v, rfl, ho1, hb1⟩
  have hb2 := hbA.trans (hb1.mono (by omega))
  have hh1 : w1.heap[B]? = some (.cells Z 22 (0, 0)) := (hb1.block B (by omega)).trans hhA
  have hz1 := hb1.size
  clear hhA
  go_wp2_with (with_reducible refine wpList_load_row rfl 22 _ rfl B rfl 22 Z (0, 0) _ hh1 Try.underlying22 rfl HSZ ?_)
  refine (hpg _).mono ?_
  rintro e w2 ⟨v2, rfl, ho2, hb3⟩
  have hb4 := hb2.trans (hb3.mono (by omega))
  have hz3 := hb3.size
  obtain ⟨q1, c1, rfl, hq1⟩ := owns_evs ho1
  obtain ⟨q2, c2, rfl, hq2⟩ := owns_evs ho2
  have hq3 := hq1.below hb3
  have hsm := same_page q1 q2 L L c1 c2 w2 hq3 hq2 (by omega)
  rw [show decide (L = L) = true from decide_eq_true rfl] at hsm
  clear hq1 hq2 hq3 ho1 ho2 hb1 hb3 hh1 hpg hev hbA
  go_wp2_with fail
  refine hsm.mono ?_
  rintro e w3 ⟨rfl, hb5⟩
  have hb6 := hb4.trans (hb5.mono (by omega))
  have hz5 := hb5.size
  go_wp2_with fail
  refine (lives10 _).mono ?_
  rintro e w4 ⟨rfl, hb7⟩
  have hb8 := hb6.trans (hb7.mono (by omega))
  go_wp2
  go_ret
  exact ⟨rfl, by rw [HB.out]; exact hb8⟩

theorem runsEvents_own : ownKnob Try.prog.godebug = none := by kernel_rfl
theorem runsEvents_laid : laidOutB Try.prog = true := by kernel_rfl
theorem runsEvents_reads : Try.f3.params.toList.all (fun t => Try.prog.readableRec t && decide (t < Try.prog.types.size)) = true := by kernel_rfl

set_option maxRecDepth 100000 in
theorem runsEvents_lifted (os : Os) (started : os.Started) (H : Type) (enc : TypeId × Value → H) :
    ReturnsInHanded {} Try.checked os 3 .any (Rows.runsEventsSpec.pre6 enc Try.prog Try.f3 Rows.runsEventsRow.domain false) (Rows.runsEventsSpec.post enc Try.prog Try.f3 false true false false) := by
  refine returnsInHanded_of_change (C := Try.checked) runsEvents_own started (by kernel_rfl) Try.func3
    (ChangeSpec.witness6 (enc := enc) (C := Try.checked) false ⟨#[], #[.agg (arrA fun _ => 0), .int .i64 0], []⟩ 8 (by kernel_rfl) (by kernel_rfl) (by kernel_rfl) (by kernel_rfl)) ?_
  intro W base args ds gs before hval0 hW hcnd _
  have hval : ∀ (j : Nat) t v, Try.f3.params[j]? = some t → args[j]? = some v → Value.okWide Try.prog W .any base t v := hval0
  have hW' := hW
  obtain ⟨p, q, hA0, hV, rfl, hfz, hnd⟩ := hW
  have hA : DataW.TrodAll enc Try.prog W 0 (fun _ => true) true Try.f3.params.toList args.toList ds p := hA0
  rw [Try.params3] at hA hval
  obtain ⟨v0, vs0, d0, ds0, p0, q0, hargs, rfl, rfl, h0, r0⟩ := trodAll_cons hA
  obtain ⟨v1, vs1, d1, ds1, p1, q1, rfl, rfl, rfl, h1, r1⟩ := trodAll_cons r0
  obtain ⟨rfl, rfl, rfl⟩ := trodAll_nil r1
  obtain rfl : args = #[v0, v1] := by cases args; simp_all
  obtain ⟨rfl, rfl⟩ := trodVars_none hV
  obtain ⟨f0, rfl, w0⟩ := open_arr Try.underlying22 Try.underlying3 (by kernel_rfl) (by kernel_rfl) (hval 0 22 v0 rfl rfl) h0
  obtain ⟨a1, rfl, rfl, rfl, w1⟩ := open_int Try.underlying3 (hval 1 3 v1 rfl rfl) h1
  clear hA0 hval0
  refine (runsEvents_walk f0 a1 w0 w1 W).mono fun e W' ⟨he, hb⟩ => ?_
  subst he
  exact ⟨_, rfl, law_end runsEvents_laid runsEvents_reads rfl Try.underlying4 rfl hW' rfl hb⟩

theorem runsEvents_over : Rows.runsEventsRow.holds Try.pinned (OpenSpec.ofChange Rows.runsEventsSpec) :=
  OpenClaim.holds_of_wide 3 Try.f3 rfl rfl rfl rfl rfl rfl rfl ⟨rfl, rfl, rfl, rfl, rfl⟩ rfl rfl rfl rfl rfl (by kernel_rfl) Try.func3 (by kernel_rfl)
    (of_decide_eq_true (by kernel_rfl)) (by unfold Func.isWrapper; first | (rw [if_pos (by decide +kernel)]; kernel_rfl) | (rw [if_neg (by decide +kernel)]; exact ⟨rfl, rfl⟩))
    (fun os started H enc _ => runsEvents_lifted os started H enc)

theorem runsEvents_holds : Rows.RunsEventsSaid :=
  runsEvents_over
#print axioms runsEvents_holds
end Go.Proofs.Ytppbejnjcogcmaa
