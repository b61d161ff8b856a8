/- Whether any sheet may be, or why not, is what the document's own answer says; and the chapter's examples come out. Conditions: none but the law's own (up to 200 cells, 30 rows, 100 events a block), and the card's: what the listed variables hold when the call begins. -/
import Derived.Test.YthmmpjecmapajaaDoorSoundChecksMe
import Derived.Test.YthmmpjecmapajaaDoorSoundChecksMbe
import Derived.Test.YthmmpjecmapajaaDoorSoundChecksMbm
import Derived.Test.YthmmpjecmapajaaDoorSoundChecksMbv
import Derived.Test.YthmmpjecmapajaaDoorCards
import Derived.Test.YthmmpjecmapajaaDoorTie
import Derived.Lay
namespace Go.Proofs.YthmmpjecmapajaaDoor
open Go.RowKit Go.Lib Go.ChangeShapes Go.WideShapes Go.ChangeAt
set_option maxRecDepth 100000 in
set_option maxHeartbeats 1000000 in
theorem soundChecks_walk (S : ShP) (vs : List Value) (w : World) (hS : ShV w S vs) (hL : HasT w ∧ HasSteps w) : Calls Tryd.prog 3 #[.agg vs.toArray] w fun e w' => e = .returned (.bool true) ∧ Below w.heap.size w w' := by
 obtain ⟨p, b, ca, cb, rfl, hl, hn, hs, hr⟩ := hS
 obtain ⟨ht, hst⟩ := hL
 obtain ⟨zs, hZ⟩ : ∃ zs, sheetL S.hd (.slice p S.hd.supp.length ca) (.slice b S.rows.length cb) S.zeros = zs := ⟨_, rfl⟩
 have HSZ : (Tryd.prog.info? 25).map (·.size) = some zs.toArray.size := by rw [show zs.toArray.size = 8 by rw [← hZ]; rfl]; kernel_rfl
 obtain ⟨B, hB⟩ : ∃ B, w.heap.size = B := ⟨_, rfl⟩
 obtain ⟨wA, hwA⟩ : ∃ wA, w.alloc (.cells zs.toArray 25 (0, 0)) = wA := ⟨_, rfl⟩
 have hhA : wA.heap[B]? = some (.cells zs.toArray 25 (0, 0)) := by rw [← hwA, ← hB]; exact heap_alloc_new w _
 have hbA : Below w.heap.size w wA := by rw [← hwA]; exact (Below.refl _ w).alloc (Nat.le_refl _) _
 have hsA : wA.heap.size = B + 1 := by rw [← hwA, ← hB]; simp
 have W0 : ∀ x, Below (B + 1) wA x → Below w.heap.size w x := fun x hx => hbA.trans (hx.mono (by omega))
 have K : ∀ (x y : World), Below (B + 1) wA x → Below x.heap.size x y → Below (B + 1) wA y := fun x y hx hy => hx.trans (hy.mono (by have := hx.size; omega))
 have HL := Lib.hid (fun (x : World) (hx : Below (B + 1) wA x) => (hx.block B (by omega)).trans hhA)
 have CLI := Lib.hid (fun (x : World) (hx : Below (B + 1) wA x) => (by
  rw [← hZ]
  exact (light_law S p b ca cb x hl hn (hr.below (W0 x hx))).mono fun e y h => ⟨h.1, K x y hx h.2⟩ : Calls Tryd.prog 5 #[.agg zs.toArray] x fun e y => (∃ y, e = .returned (.bool y) ∧ (y = true → LightP S)) ∧ Below (B + 1) wA y))
 have CLV := Lib.hid (fun (x : World) (hx : Below (B + 1) wA x) => ((lives25 x (ht.below (W0 x hx)) (hst.below (W0 x hx))).mono fun e y h => ⟨h.1, K x y hx h.2⟩ : Calls Tryd.prog 6 #[] x fun e y => e = .returned (.bool true) ∧ Below (B + 1) wA y))
 have CC := Lib.hid (fun (hP : LightP S) (x : World) (hx : Below (B + 1) wA x) => (by
  rw [← hZ]
  exact (sncheck_code S p b ca cb x hl (by have := hP.rows; omega) (hs.below (W0 x hx)) (hr.below (W0 x hx)) (fun c hc k hk => by have := hP.mem c hc k hk; omega) (fun c p n k y hy hc => cright_code S.hd.inter c p n k y hc (ht.below ((W0 x hx).trans (hy.mono (W0 x hx).size))) (hst.below ((W0 x hx).trans (hy.mono (W0 x hx).size))))).mono fun e y h => ⟨h.1, K x y hx h.2⟩ : Calls Tryd.prog 7 #[.agg zs.toArray] x fun e y => e = .returned (.int .i64 (shErr S)) ∧ Below (B + 1) wA y))
 have CR := Lib.hid (fun (hP : LightP S) (x : World) (hx : Below (B + 1) wA x) => (by
  rw [← hZ]
  exact (scheck_page S p b ca cb x hl hn (hs.below (W0 x hx)) (hr.below (W0 x hx)) (by have := hP.all; omega) (fun c hc k hk => by have := hP.mem c hc k hk; omega)).mono fun e y h => ⟨h.1, K x y hx h.2⟩ : Calls Tryd.prog 8 #[.agg zs.toArray] x fun e y => e = .returned (.int .i64 (shErr S)) ∧ Below (B + 1) wA y))
 have HE := Lib.hid (fun (x : World) (hx : Below (B + 1) wA x) => W0 x hx)
 have HWA := Lib.hid hwA
 have HB := Lib.hid hB
 have hS0 : Below (B + 1) wA wA := Below.refl _ _
 rw [hZ]
 clear hwA hbA hB hsA W0 K hZ hs hr hl hn ht hst
 generalize shErr S = E at *
 go_enter Tryd.func3, Tryd.ntmps3
 go_wp2_with (rw [HWA.out, HB.out]; with_reducible refine wpList_load_row rfl 25 _ rfl B rfl 25 zs.toArray (0, 0) _ hhA Tryd.underlying25 rfl HSZ ?_)
 refine (CLI.out _ hS0).mono ?_
 rintro e w1 ⟨⟨y, rfl, hy⟩, hx1⟩
 cases y with
 | false =>
  clear hy
  go_wp2_with fail
  refine (CLV.out _ hx1).mono ?_
  rintro e w2 ⟨rfl, hx2⟩
  have hE := HE.out _ hx2
  go_wp2
  go_ret
  exact ⟨rfl, hE⟩
 | true =>
  have C1 := Lib.hid (CC.out (hy rfl))
  have C2 := Lib.hid (CR.out (hy rfl))
  clear hy CC CR
  have tE : (E == E) = true := by simp
  go_wp2
  refine wp_region_calm (S := fun x => Below (B + 1) wA x) 9 (by kernel_rfl) (by kernel_rfl) hx1.drew ?_
  simp only [List.take_succ_cons, List.take_zero, List.drop_succ_cons, List.drop_zero]
  refine calm_load 25 _ B 25 zs.toArray (0, 0) _ (by kernel_rfl) rfl rfl (fun x hx => HL.out x hx) Tryd.underlying25 rfl HSZ ?_; simp only [Act.put, List.setIfInBounds_toArray, List.set_cons_zero, List.set_cons_succ]
  refine calm_call (by kernel_rfl) C1.out (fun _ => by kernel_rfl) ?_; simp only [Act.put, List.setIfInBounds_toArray, List.set_cons_zero, List.set_cons_succ]
  refine calm_load 25 _ B 25 zs.toArray (0, 0) _ (by kernel_rfl) rfl rfl (fun x hx => HL.out x hx) Tryd.underlying25 rfl HSZ ?_; simp only [Act.put, List.setIfInBounds_toArray, List.set_cons_zero, List.set_cons_succ]
  refine calm_call (by kernel_rfl) C2.out (fun _ => by kernel_rfl) ?_; simp only [Act.put, List.setIfInBounds_toArray, List.set_cons_zero, List.set_cons_succ]
  refine calm_value (v := .bool true) (by kernel_rfl) (fun x hx => by go_simp; try with_reducible rfl) ?_; simp only [Act.put, List.setIfInBounds_toArray, List.set_cons_zero, List.set_cons_succ]
  refine calm_value (by kernel_rfl) (fun x _ => by go_simp; try with_reducible rfl) ?_; simp only [Act.put, List.setIfInBounds_toArray, List.set_cons_zero, List.set_cons_succ]
  refine calm_call (by kernel_rfl) CLV.out (fun _ => by kernel_rfl) ?_; simp only [Act.put, List.setIfInBounds_toArray, List.set_cons_zero, List.set_cons_succ]
  iterate 2 (refine calm_value (by kernel_rfl) (fun x _ => by go_simp; try with_reducible rfl) ?_; simp only [Act.put, List.setIfInBounds_toArray, List.set_cons_zero, List.set_cons_succ])
  refine calm_nil fun x hx => ?_
  have hE := HE.out _ hx
  go_wp2
  go_ret
  exact ⟨rfl, hE⟩
theorem soundChecks_own : ownKnob Tryd.prog.godebug = none := by kernel_rfl
theorem soundChecks_laid : laidOutB Tryd.prog = true := by kernel_rfl
theorem soundChecks_reads : Tryd.f3.params.toList.all (fun t => Tryd.prog.readableRec t && decide (t < Tryd.prog.types.size)) = true := by kernel_rfl
set_option maxRecDepth 100000 in
theorem soundChecks_lifted (os : Os) (started : os.Started) (H : Type) (enc : TypeId × Value → H) :
  ReturnsInHanded {} Tryd.checked os 3 .any (fun w args => (Rows.soundChecksSpec.pre enc Tryd.prog Tryd.f3 Rows.soundChecksRow.domain false w args ∧ laidMetH Tryd.prog Rows.soundChecksRow.laid w) ∧ sizedMet enc Tryd.prog Tryd.f3 (OpenSpec.ofChange Rows.soundChecksSpec) false w args)
   (Rows.soundChecksSpec.post enc Tryd.prog Tryd.f3 false true false false) := by
 refine returnsInHanded_of_change_and (C := Tryd.checked) (X := fun w _ => laidMetH Tryd.prog Rows.soundChecksRow.laid w) (fun _ _ _ hh h => h.of_heap hh) soundChecks_own started (by kernel_rfl) Tryd.func3
  (ChangeSpec.witness_shaped (enc := enc) (C := Tryd.checked) (os := os) (X := fun w _ => laidMetH Tryd.prog Rows.soundChecksRow.laid w) false (World.laidAll Tryd.prog os Rows.soundChecksRow.laid) #[.agg (sheetL shdZ (.slice none 0 0) (.slice none 0 0) 0).toArray] 8 (World.laidAll_os _ _ _)
   (World.shaped_of_ZipB (by kernel_rfl) (by kernel_rfl)) (by kernel_rfl) (by kernel_rfl) (by kernel_rfl)
   (by rw [MakeChecks.laidMetH_plain _ _ _ (by kernel_rfl)]; exact laidMet_laidAll _ (by kernel_rfl) (by kernel_rfl))) ?_
 intro W base args ds gs before hval0 hW _ hsz0 hL _
 have hval : ∀ (j : Nat) t v, Tryd.f3.params[j]? = some t → args[j]? = some v → Value.okWide Tryd.prog W .any base t v := hval0
 have hW' := hW
 obtain ⟨p, q, hA0, hV, rfl, hfz, hnd⟩ := hW
 have hA : DataW.TrodAll enc Tryd.prog W 0 (fun _ => true) true Tryd.f3.params.toList args.toList ds p := hA0
 rw [Tryd.params3] at hA hval
 obtain ⟨v0, vs0, d0, ds0, p0, q0, hargs, rfl, rfl, h0, r0⟩ := trodAll_cons hA
 obtain ⟨rfl, rfl, rfl⟩ := trodAll_nil r0
 obtain rfl : args = #[v0] := by cases args; simp_all
 obtain ⟨rfl, rfl⟩ := trodVars_none hV
 obtain ⟨S0, vs0', rfl, x0⟩ := open_whole Tryd.underlying25 Tryd.underlying3 Tryd.underlying4 Tryd.underlying22 Tryd.underlying23 ⟨rfl, rfl, rfl, rfl, rfl, rfl, rfl, rfl⟩ ⟨rfl, rfl, rfl, rfl, rfl, rfl, rfl, rfl⟩ (by kernel_rfl) (by kernel_rfl) (by kernel_rfl) (by kernel_rfl) (by kernel_rfl) (by kernel_rfl) (row_row Tryd.underlying45 Tryd.underlying4 Tryd.underlying3 Tryd.underlying31 ⟨rfl, rfl, rfl, rfl⟩ ⟨rfl, rfl, rfl, rfl⟩ (by kernel_rfl) (by kernel_rfl) (by kernel_rfl) (by kernel_rfl) (cel_row Tryd.underlying42 Tryd.underlying4 Tryd.underlying3 Tryd.underlying37 Tryd.underlying38 Tryd.underlying40 Tryd.underlying39 ⟨rfl, rfl, rfl, rfl, rfl, rfl, rfl⟩ ⟨rfl, rfl, rfl, rfl, rfl, rfl, rfl⟩ (by kernel_rfl) (by kernel_rfl) (by kernel_rfl) (by kernel_rfl) (by kernel_rfl) (by kernel_rfl) (by kernel_rfl) (ev_struct Tryd.underlying55 Tryd.underlying4 Tryd.underlying3 rfl rfl rfl rfl rfl rfl (by kernel_rfl) (by kernel_rfl)))) (hval 0 25 v0 rfl rfl) h0
 clear hA0 hval0
 refine (soundChecks_walk S0 vs0' W x0 (snd_laid hL ⟨by simp [Rows.soundChecksRow], by kernel_rfl⟩)).mono fun e W' ⟨he, hb⟩ => ?_
 subst he
 exact ⟨_, rfl, law_end soundChecks_laid soundChecks_reads rfl Tryd.underlying4 rfl hW' rfl hb⟩
theorem soundChecks_over : Rows.soundChecksRow.holds Tryd.pinned (OpenSpec.ofChange Rows.soundChecksSpec) :=
 OpenClaim.holds_of_wide 3 Tryd.f3 rfl rfl rfl rfl rfl rfl rfl ⟨rfl, rfl, rfl, rfl, rfl⟩ rfl rfl rfl rfl rfl (by kernel_rfl) Tryd.func3 (by kernel_rfl)
  (of_decide_eq_true (by kernel_rfl)) (by unfold Func.isWrapper; first | (rw [if_pos (by decide +kernel)]; kernel_rfl) | (rw [if_neg (by decide +kernel)]; exact ⟨rfl, rfl⟩))
  (fun os started H enc _ => soundChecks_lifted os started H enc)
theorem soundChecks_holds : Rows.SoundChecksCardSaid :=
 Claim7.holds_tied_plain_at .later [] [.data, .data, .data, .data] true Rows.soundChecksCard.stood.harness false soundChecks_over (fun _ h => by cases h) (by kernel_rfl) (fun _ h => by cases h) soundChecks_row_tie rfl ⟨rfl, rfl⟩ (by kernel_rfl) rfl
  (fun f fn hf hfn => by
   obtain rfl : f = 3 := Option.some.inj ((show Tryd.prog.funcNamed "overspill/overspilllaw25.SoundChecks" = some 3 by kernel_rfl).symm.trans hf) |>.symm
   obtain rfl : fn = Tryd.f3 := (Option.some.inj (Tryd.func3.symm.trans hfn)).symm
   exact ⟨by kernel_rfl, fun j t ht => by
    rw [Tryd.params3] at ht
    have hm : t ∈ [25] := by simpa using Array.mem_of_getElem? ht
    have hall : ([25].all fun u => !Tryd.prog.wantsStandIn u) = true := by kernel_rfl
    exact (show Tryd.prog.wantsStandIn t = false by simpa using List.all_eq_true.1 hall t hm)⟩)
  (by kernel_rfl)
#print axioms soundChecks_holds
end Go.Proofs.YthmmpjecmapajaaDoor
