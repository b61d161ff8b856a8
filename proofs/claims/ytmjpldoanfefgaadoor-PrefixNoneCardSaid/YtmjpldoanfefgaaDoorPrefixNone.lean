/- A Table of package prefix that is nil, or zero, and a Reader that is nil, tell nothing; and the chapter's example comes out. No condition but the card's own: what the listed variables hold when the call begins, tied to the program's text. -/
import Derived.Test.YtmjpldoanfefgaaDoorCards
import Derived.Test.YtmjpldoanfefgaaDoorTie
import Derived.Test.YtmjpldoanfefgaaDoorLives5
import Derived.Test.YtmjpldoanfefgaaDoorLaws
import Derived.ProofKit
import Derived.Deep.DeepCutAuto
import Derived.Deep.CutRange
import Derived.Deep.CutBlock
import Derived.LaidMore
import Derived.OpenShut
import Derived.Lay
import Derived.SizedLaws
import Derived.SevenTiedAt
import Derived.Stop.Joined
namespace Go.Proofs.YtmjpldoanfefgaaDoor
open Go.ChangeShapes Go.WideShapes Go.ChangeAt Go.RowKit
set_option linter.unusedVariables false

theorem ttake_nil (w : World) (r : Option Addr) : Calls Tryd.prog 19 #[.pointer none, .pointer r] w fun e w' => e = .returned (.tuple #[.int .i64 0, .int .i64 1]) ∧ w = w' := by
  go_enter Tryd.func19, Tryd.ntmps19
  go_wp2
  go_ret2
  exact ⟨rfl, rfl⟩
theorem ttake_none (w : World) (a : Addr) : Calls Tryd.prog 19 #[.pointer (some a), .pointer none] w fun e w' => e = .returned (.tuple #[.int .i64 0, .int .i64 1]) ∧ w = w' := by
  go_enter Tryd.func19, Tryd.ntmps19
  go_wp2
  go_ret2
  exact ⟨rfl, rfl⟩
theorem zero_tb {w : World} {z : Nat} (hz : w.heap[z]? = some (tbObj none none 0 0 0)) : IsTb w 0 z [] 0 :=
  ⟨none, none, 0, hz, Nat.le_refl _, by decide, .inl rfl, .inl ⟨rfl, rfl⟩, fun a h => by cases h⟩
def SlotIs (f : Int) (t : Value) (w x : World) : Prop := t = .int .i64 f ∧ w = x
theorem tk_nil (b : List UInt8) : tk [] b 25 1 = (if b.length < 1 then 2 else 3, 0) := by
  rw [tk]
  split
  · rfl
  · simp
theorem none_code (s : ByteArray) : ∃ f : Int, (tk (([] : List (ByteArray × Int)).map rowC) ((showL s.data.toList).drop 0) 25 1) = (f, 0) ∧ f ≠ 0 ∧ ((s.toList.isEmpty = true ∧ f = 2) ∨ (s.toList.isEmpty = false ∧ f = 3)) := by
  rw [List.map_nil, tk_nil, List.drop_zero, showL_length]
  have e : s.data.toList.length = s.size := rfl
  rw [e, Lib.toList_data]
  by_cases h : s.data.toList = []
  · have h0 : s.size = 0 := by rw [← e, h]; rfl
    exact ⟨2, by rw [if_pos (by omega)], by decide, .inl ⟨by rw [h]; rfl, rfl⟩⟩
  · have h0 : s.size ≠ 0 := fun h' => h (List.eq_nil_of_length_eq_zero (by rw [e]; exact h'))
    exact ⟨3, by rw [if_neg (by omega)], by decide, .inr ⟨by simpa using h, rfl⟩⟩
set_option maxRecDepth 100000 in
set_option maxHeartbeats 8000000 in
theorem prefixNone_walk (s : ByteArray) (n : Int) (w : World) (hs : s.size ≤ maxLen) (hz : s.size ≤ 140737488355328) (wn : (Lit.int .i64 n).wf = true) :
    Calls Tryd.prog 6 #[.string s, .int .i64 n] w fun e w' => e = .returned (.bool true) ∧ Below w.heap.size w w' := by
  unfold maxLen at hs
  obtain ⟨f, hc, hf, hE⟩ := none_code s
  obtain ⟨Z, hZ⟩ : ∃ Z, w.heap.size = Z := ⟨_, rfl⟩
  have ht : (w.alloc (tbObj none none 0 0 0)).heap[Z]? = some (tbObj none none 0 0 0) := by rw [← hZ]; exact heap_alloc_new w _
  have hb0 : Below Z w (w.alloc (tbObj none none 0 0 0)) := by rw [← hZ]; exact (Below.refl _ w).alloc (Nat.le_refl _) _
  have hz0 : Z + 1 = (w.alloc (tbObj none none 0 0 0)).heap.size := by simp; omega
  have HC := Lib.hid hc
  have EE := Lib.hid hE
  clear hE
  have HZ := Lib.hid hZ
  rw [hZ]
  clear hc hZ
  go_enter Tryd.func6, Tryd.ntmps6
  go_wp2_with fail
  rw [HZ.out]
  change Calls _ _ _ (w.alloc (tbObj none none 0 0 0)) _
  generalize w.alloc (tbObj none none 0 0 0) = x0 at ht hb0 hz0 ⊢
  refine (rnew_code _ _).mono ?_
  rintro e w1 ⟨rfl, rfl⟩
  have hb1 : Below Z w (x0.alloc (rdObj s 0)) := hb0.alloc (by omega) _
  have ht1 : (x0.alloc (rdObj s 0)).heap[Z]? = some (tbObj none none 0 0 0) := (Below.heap_alloc x0 _ Z (by omega)).trans ht
  have hz1 : (x0.alloc (rdObj s 0)).heap.size = Z + 2 := by simp; omega
  generalize x0.alloc (rdObj s 0) = x1 at hb1 ht1 hz1 ⊢
  clear ht hb0 hz0
  go_wp2_with fail
  refine (ttake_nil _ _).mono ?_
  rintro e w' ⟨rfl, rfl⟩
  go_wp2_with fail
  refine (ttake_none _ _).mono ?_
  rintro e w' ⟨rfl, rfl⟩
  go_wp2_with fail
  refine (rnew_code _ _).mono ?_
  rintro e w2 ⟨rfl, rfl⟩
  obtain ⟨R, hR⟩ : ∃ R, x1.heap.size = R := ⟨_, rfl⟩
  have hr : IsRd (x1.alloc (rdObj s 0)) R s 0 := IsRd.fresh hR hz
  have hb2 : Below Z w (x1.alloc (rdObj s 0)) := hb1.alloc (by omega) _
  have ht2 : (x1.alloc (rdObj s 0)).heap[Z]? = some (tbObj none none 0 0 0) := (Below.heap_alloc x1 _ Z (by omega)).trans ht1
  have hz2 : (x1.alloc (rdObj s 0)).heap.size = R + 1 := by simp; omega
  have hRZ : Z + 2 = R := by omega
  have HR := Lib.hid hR
  rw [hR]
  generalize x1.alloc (rdObj s 0) = x2 at hr hb2 ht2 hz2 ⊢
  clear hb1 ht1 hz1 hR
  go_wp2_with fail
  refine (ttake_code _ 0 Z R [] 0 s 0 (zero_tb ht2) hr (Nat.zero_le _) List.Pairwise.nil List.Pairwise.nil (fun x hx => by cases hx)).mono ?_
  rintro e x3 ⟨v, rfl, _, hv, hr3, hg⟩
  rw [HC.out] at hv hr3 ⊢
  obtain rfl := hv hf
  have hb3 : Below Z w x3 := hb2.grown hg (by omega) (by intro k hk; injection hk with hk; omega)
  have ht3 : IsTb x3 0 Z [] 0 := zero_tb ((hg.block Z (by omega) (by intro e; injection e with e; omega)).trans ht2)
  clear hv hg hb2 ht2 hz2 hr
  go_wp2_with fail
  refine (trow_nil _ _).mono ?_
  rintro e w' ⟨rfl, rfl⟩
  go_wp2_with fail
  refine (trow_code _ 0 Z [] 0 n ht3 wn).mono ?_
  rintro e w' ⟨v, ok, rfl, rfl, hv, _⟩
  obtain ⟨rfl, rfl⟩ := hv (fun x hx => by cases hx)
  have hz3 := hb3.size
  rw [HZ.out] at hz3
  go_upto_if 54 with (fail)
  go_cut [18] (fun t18 x => SlotIs f t18 x3 x)
  case first =>
    rcases EE.out with ⟨e0, rfl⟩ | ⟨e0, rfl⟩
    · rw [e0]
      go_wp2
      go_meet
      case rel => exact ⟨rfl, rfl⟩
    · rw [e0]
      go_wp2
      go_meet
      case rel => exact ⟨rfl, rfl⟩
  case rest =>
    obtain ⟨rfl, rfl⟩ := hcut
    go_wp2_with (first
      | (go_at_call 20; refine (at_code _ _ _ _ hr3).mono ?_; rintro e w' ⟨rfl, rfl⟩)
      | (go_at_call 13; refine (tlen_nil _).mono ?_; rintro e w' ⟨rfl, rfl⟩)
      | (go_at_call 13; refine (tlen_code _ 0 Z [] 0 ht3).mono ?_; rintro e w' ⟨rfl, rfl⟩)
      | (go_at_call 14; refine (longest_nil _).mono ?_; rintro e w' ⟨rfl, rfl⟩)
      | (go_at_call 14; refine (longest_code _ 0 Z [] 0 ht3).mono ?_; rintro e w' ⟨rfl, rfl⟩)
      | (go_at_call 8; refine (lives5 _).mono ?_; rintro e w' ⟨rfl, hb4⟩))
    go_ret
    exact ⟨rfl, hb3.trans (hb4.mono hz3)⟩
theorem prefixNone_own : ownKnob Tryd.prog.godebug = none := by kernel_rfl
theorem prefixNone_laid : laidOutB Tryd.prog = true := by kernel_rfl
theorem prefixNone_reads : Tryd.f6.params.toList.all (fun t => Tryd.prog.readableRec t && decide (t < Tryd.prog.types.size)) = true := by kernel_rfl

set_option maxRecDepth 100000 in
theorem prefixNone_lifted (os : Os) (started : os.Started) (H : Type) (enc : TypeId × Value → H) :
    ReturnsInHanded {} Tryd.checked os 6 .any (fun w args => (Rows.prefixNoneSpec.pre enc Tryd.prog Tryd.f6 Rows.prefixNoneRow.domain false w args ∧ laidMetH Tryd.prog Rows.prefixNoneRow.laid w) ∧ sizedMet enc Tryd.prog Tryd.f6 (OpenSpec.ofChange Rows.prefixNoneSpec) false w args)
      (Rows.prefixNoneSpec.post enc Tryd.prog Tryd.f6 false true false false) := by
  refine returnsInHanded_of_change_and (C := Tryd.checked) (X := fun w _ => laidMetH Tryd.prog Rows.prefixNoneRow.laid w) (fun _ _ _ hh h => h.of_heap hh) prefixNone_own started (by kernel_rfl) Tryd.func6
    (ChangeSpec.witness_shaped (enc := enc) (C := Tryd.checked) (os := os) (X := fun w _ => laidMetH Tryd.prog Rows.prefixNoneRow.laid w) false (World.laidAll Tryd.prog os Rows.prefixNoneRow.laid) #[.string ⟨#[]⟩, .int .i64 0] 8 (World.laidAll_os _ _ _)
      (World.shaped_of_ZipB (by kernel_rfl) (by kernel_rfl)) (by kernel_rfl) (by kernel_rfl) (by kernel_rfl)
      (by rw [MakeChecks.laidMetH_plain _ _ _ (by kernel_rfl)]; exact laidMet_laidAll _ (by kernel_rfl) (by kernel_rfl))) ?_
  intro W base args ds gs before hval0 hW _ hsz0 _ _
  have hval : ∀ (j : Nat) t v, Tryd.f6.params[j]? = some t → args[j]? = some v → Value.okWide Tryd.prog W .any base t v := hval0
  have hW' := hW
  obtain ⟨p, q, hA0, hV, rfl, hfz, hnd⟩ := hW
  have hA : DataW.TrodAll enc Tryd.prog W 0 (fun _ => true) true Tryd.f6.params.toList args.toList ds p := hA0
  rw [Tryd.params6] at hA hval
  obtain ⟨v0, vs0, d0, ds0, p0, q0, hargs, rfl, rfl, h0, r0⟩ := trodAll_cons hA
  obtain ⟨v1, vs1, d1, ds1, p1, q1, rfl, rfl, rfl, h1, r1⟩ := trodAll_cons r0
  obtain ⟨rfl, rfl, rfl⟩ := trodAll_nil r1
  obtain rfl : args = #[v0, v1] := by cases args; simp_all
  obtain ⟨rfl, rfl⟩ := trodVars_none hV
  obtain ⟨a0, rfl, rfl, rfl, w0⟩ := Go.ChangeMaps.open_string Tryd.underlying9 (hval 0 9 v0 rfl rfl) h0
  have z0 : a0.size ≤ 140737488355328 := Nat.le_trans (sized_string hsz0 (j := 0) rfl rfl) (Nat.le_of_lt reachBytes_lt)
  obtain ⟨a1, rfl, rfl, rfl, w1⟩ := open_int Tryd.underlying3 (hval 1 3 v1 rfl rfl) h1
  clear hA0 hval0
  refine (prefixNone_walk a0 a1 W w0 z0 w1).mono fun e W' ⟨he, hb⟩ => ?_
  subst he
  exact ⟨_, rfl, law_end prefixNone_laid prefixNone_reads rfl Tryd.underlying4 rfl hW' rfl hb⟩

theorem prefixNone_over : Rows.prefixNoneRow.holds Tryd.pinned (OpenSpec.ofChange Rows.prefixNoneSpec) :=
  OpenClaim.holds_of_wide 6 Tryd.f6 rfl rfl rfl rfl rfl rfl rfl ⟨rfl, rfl, rfl, rfl, rfl⟩ rfl rfl rfl rfl rfl (by kernel_rfl) Tryd.func6 (by kernel_rfl)
    (of_decide_eq_true (by kernel_rfl)) (by unfold Func.isWrapper; first | (rw [if_pos (by decide +kernel)]; kernel_rfl) | (rw [if_neg (by decide +kernel)]; exact ⟨rfl, rfl⟩))
    (fun os started H enc _ => prefixNone_lifted os started H enc)

theorem prefixNone_holds : Rows.PrefixNoneCardSaid :=
  Claim7.holds_tied_plain_at .later [] [.data, .pinned] true Rows.prefixNoneCard.stood.harness false prefixNone_over (fun _ h => by cases h) (by kernel_rfl) (fun _ h => by cases h) prefixNone_row_tie rfl ⟨rfl, rfl⟩ (by kernel_rfl) rfl
    (fun f fn hf hfn => by
      obtain rfl : f = 6 := Option.some.inj ((show Tryd.prog.funcNamed "overspill/overspilllaw05.PrefixNone" = some 6 by kernel_rfl).symm.trans hf) |>.symm
      obtain rfl : fn = Tryd.f6 := (Option.some.inj (Tryd.func6.symm.trans hfn)).symm
      exact ⟨by kernel_rfl, fun j t ht => by
        rw [Tryd.params6] at ht
        have hm : t ∈ [9, 3] := by simpa using Array.mem_of_getElem? ht
        have hall : ([9, 3].all fun u => !Tryd.prog.wantsStandIn u) = true := by kernel_rfl
        exact (show Tryd.prog.wantsStandIn t = false by simpa using List.all_eq_true.1 hall t hm)⟩)
    (by kernel_rfl)
#print axioms prefixNone_holds
end Go.Proofs.YtmjpldoanfefgaaDoor
