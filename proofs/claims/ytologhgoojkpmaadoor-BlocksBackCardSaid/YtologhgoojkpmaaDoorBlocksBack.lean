/- A block that is put behind any bits is taken again, whatever stands behind it; a block that is refused leaves the Writer as it was; and the chapter's example comes out. Conditions: none but the law's own (up to 100 events, 100 digits ahead and behind), and the card's: what the listed variables hold when the call begins, tied to the program's text. -/
import Derived.Test.YtologhgoojkpmaaDoorCards
import Derived.Test.YtologhgoojkpmaaDoorTie
import Derived.Test.YtologhgoojkpmaaDoorLives9
import Derived.Test.YtologhgoojkpmaaDoorBopen
import Derived.Test.YtologhgoojkpmaaDoorBlive
import Derived.Test.YtologhgoojkpmaaDoorLaws
import Derived.Test.YtologhgoojkpmaaDoorBack
import Derived.RegionTactic
import Derived.Deep.RegionWith
import Derived.Deep.CutRange
import Derived.Deep.DeepCutAuto
import Derived.ProofKit
import Derived.LaidMore
import Derived.OpenShut
import Derived.Lay
import Derived.SizedLaws
import Derived.SevenTiedAt
import Derived.Stop.Joined
namespace Go.Proofs.YtologhgoojkpmaaDoor
open Go.ChangeShapes Go.WideShapes Go.ChangeAt Go.RowKit
set_option linter.unusedVariables false

/-- What a text adds to a Writer. -/
def addB (s : ByteArray) : List UInt8 := if isRow s.data.toList then s.data.toList else []
theorem addB_row (s : ByteArray) : isRow (addB s) = true := by
  unfold addB
  split
  · assumption
  · rfl
theorem addB_len (s : ByteArray) : (addB s).length ≤ s.size := by
  unfold addB
  split
  · exact Nat.le_refl _
  · exact Nat.zero_le _
theorem add_all (w : World) (B b : Nat) (r : List UInt8) (s : ByteArray) (hw : IsWr w B b r) (hn : r.length + s.size ≤ 1099511627776) (hB : B ≤ w.heap.size) :
    Calls Tryd.prog 9 #[.pointer (some ⟨b, 0, none⟩), .string s] w fun e w' => ∃ c : Int, e = .returned (.int .i64 c) ∧ IsWr w' B b (r ++ addB s) ∧ w.grownBy w' (some b) := by
  unfold addB
  cases hr : isRow s.data.toList with
  | false =>
    refine (add_none w b s hr).mono ?_
    rintro e w1 ⟨rfl, hb⟩
    exact ⟨1, rfl, by rw [if_neg (by decide), List.append_nil]; exact hw.below hb, below_grownBy hb _⟩
  | true =>
    refine (add_code w B b r s hw hr hn hB).mono ?_
    rintro e w1 ⟨rfl, hw1, hg⟩
    exact ⟨0, rfl, by rw [if_pos rfl]; exact hw1, hg⟩

set_option maxRecDepth 100000 in
set_option maxHeartbeats 1000000 in
theorem blocksBack_walk (i : Bool) (d : Int) (p : Option Addr) (n0 c : Nat) (s s2 : ByteArray) (w : World) (_ : (Lit.int .i64 d).wf = true) (hx : RowsAt w EvCells 3 p n0) (hn0 : n0 ≤ maxLen) (hss : s.size ≤ maxLen) (_ : s.size ≤ 140737488355328) (hss2 : s2.size ≤ maxLen) (_ : s2.size ≤ 140737488355328) (hp : HasT w) :
    Calls Tryd.prog 5 #[.agg #[.bool i, .int .i64 d, .slice p n0 c], .string s, .string s2] w fun e w' => e = .returned (.bool true) ∧ Below w.heap.size w w' := by
  unfold maxLen at hss hn0 hss2
  obtain ⟨l, rfl, hv, _⟩ := rows_evs hx
  obtain ⟨B, hB⟩ : ∃ B, w.heap.size = B := ⟨_, rfl⟩
  obtain ⟨n, hn⟩ : ∃ n, l.length = n := ⟨_, rfl⟩
  rw [hn] at hn0 ⊢
  obtain ⟨wA, hwA⟩ : ∃ wA, w.alloc (.cells #[.bool i, .int .i64 d, .slice p n c] 24 (0, 0)) = wA := ⟨_, rfl⟩
  have hzA : wA.heap.size = B + 1 := by rw [← hwA, ← hB]; simp
  have hbA : Below B w wA := by rw [← hwA, ← hB]; exact (Below.refl _ w).alloc (Nat.le_refl _) _
  have hhA : wA.heap[B]? = some (.cells [.bool i, .int .i64 d, .slice p n c].toArray 24 (0, 0)) := by rw [← hwA, ← hB]; exact heap_alloc_new w _
  have CELLS := Lib.hid (fun (x : World) (hx : Below (B + 1) wA x) => (by
    have h : x.heap[B]? = some (.cells [.bool i, .int .i64 d, .slice p n c].toArray 24 (0, 0)) := (hx.block B (by omega)).trans hhA
    exact ⟨part_cells h rfl, part_cells h rfl, part_cells h rfl⟩ : x.cell? ⟨B, 0, none⟩ = some (.bool i) ∧ x.cell? ⟨B, 1, none⟩ = some (.int .i64 d) ∧ x.cell? ⟨B, 2, none⟩ = some (.slice p n c)))
  have HP := Lib.hid (fun (x : World) (hx : Below (B + 1) wA x) => (hp.below (by rw [hB]; exact hbA.trans (hx.mono (by omega))) : HasT x))
  have HV := Lib.hid (fun (x : World) (hx : Below (B + 1) wA x) => (hv.below (by rw [hB]; exact hbA.trans (hx.mono (by omega))) : EvsIn x p l))
  have HBX := Lib.hid (fun (x : World) (hx : Below (B + 1) wA x) => (hbA.trans (hx.mono (by omega)) : Below B w x))
  have hb0 : Below (B + 1) wA wA := Below.refl _ _
  have hz0 : B + 1 ≤ wA.heap.size := by omega
  have HB := Lib.hid hB
  have HWA := Lib.hid hwA
  have HN := Lib.hid hn
  obtain ⟨c0, c1, c2⟩ := CELLS.out _ hb0
  clear hB hwA hbA hp hx hv hhA hn
  by_cases h100 : n ≤ 100 ∧ s.size ≤ 100 ∧ s2.size ≤ 100
  · obtain ⟨ha, hb, hc⟩ := h100
    have t0 : decide (100 < (n : Int)) = false := by simp; omega
    have t1 : decide (100 < (s.size : Int)) = false := by simp; omega
    have t2 : decide (100 < (s2.size : Int)) = false := by simp; omega
    obtain ⟨x0, hx0⟩ : ∃ x0, wA.alloc newWr = x0 := ⟨_, rfl⟩
    have hw0 : IsWr x0 (B + 2) (B + 1) [] := by rw [← hx0]; exact IsWr.fresh hzA (Nat.lt_succ_self _)
    have hb1 : Below (B + 1) wA x0 := by rw [← hx0]; exact hb0.alloc hz0 _
    have hz1 : x0.heap.size = B + 2 := by rw [← hx0]; simp; omega
    have HX0 := Lib.hid hx0
    have hadd := add_all x0 (B + 2) (B + 1) [] s hw0 (by rw [List.length_nil]; omega) (by omega)
    rw [List.nil_append] at hadd
    have har := addB_row s
    have hal := addB_len s
    generalize addB s = a at hadd har hal
    have hcr := addB_row s2
    have hcl := addB_len s2
    have hadd2 := fun (x : World) (r : List UInt8) (hw : IsWr x (B + 2) (B + 1) r) (hn : r.length + s2.size ≤ 1099511627776) (hz : B + 2 ≤ x.heap.size) => add_all x (B + 2) (B + 1) r s2 hw hn hz
    generalize addB s2 = a2 at hadd2 hcr hcl
    have HAD2 := Lib.hid hadd2
    have HAR := Lib.hid har
    have HCR := Lib.hid hcr
    obtain ⟨al, hA⟩ : ∃ al, a.length = al := ⟨_, rfl⟩
    have HAL := Lib.hid hA
    have hal2 : al ≤ 100 := by omega
    clear hx0 hw0 hadd2 har hcr hal hA
    go_enter Tryd.func5, Tryd.ntmps5
    go_wp2_with fail
    rw [HWA.out, HB.out]
    refine (new_code _).mono ?_
    rintro e w1 ⟨rfl, rfl⟩
    rw [HX0.out, hzA]
    go_wp2_with fail
    refine hadd.mono ?_
    rintro e x1 ⟨z1, rfl, hw1, hg1⟩
    obtain ⟨hb2, hz2⟩ := below_ownP hb1 (by omega) hg1 (Nat.le_refl _)
    have hz2' : B + 2 ≤ x1.heap.size := by have := hg1.size; omega
    have hlen := len_code _ _ _ _ hw1
    rw [HAL.out] at hlen
    obtain ⟨d0, d1, d2⟩ := CELLS.out _ hb2
    clear c0 c1 c2 hb1 hg1 hadd hz1 hb0
    go_wp2_with fail
    refine hlen.mono ?_
    rintro e w1 ⟨rfl, rfl⟩
    clear hlen
    cases hm : mayB i d l with
    | false =>
      have hput := bput_not i d p l c (B + 1) x1 (HV.out _ hb2) (by rw [HN.out]; omega) hm
      rw [HN.out] at hput
      clear hm
      go_wp2_with fail
      refine hput.mono ?_
      rintro e x2 ⟨rfl, hb3⟩
      have hw3 := hw1.below hb3
      have hb4 := hb2.trans (hb3.mono hz2)
      have hz4 := Nat.le_trans hz2 hb3.size
      have hlen := len_code _ _ _ _ hw3
      rw [HAL.out] at hlen
      clear d0 d1 d2 hw1 hb2 hb3 hput
      go_wp2_with fail
      refine hlen.mono ?_
      rintro e x4 ⟨rfl, rfl⟩
      go_wp2_with fail
      refine (lives15 _ (HP.out _ hb4)).mono ?_
      rintro e x5 ⟨rfl, hb7⟩
      have hb8 := hb4.trans (hb7.mono hz4)
      go_wp2
      go_ret
      exact ⟨rfl, by rw [HB.out]; exact HBX.out _ hb8⟩
    | true =>
      have hl64 := badV_len (mayB_parts hm).2
      rw [HN.out] at hl64
      have hput := bput_ok i d p l c (B + 2) (B + 1) a x1 hw1 (by rw [HAL.out]; omega) hz2' (HV.out _ hb2) (HP.out _ hb2) hm
      rw [HN.out] at hput
      have hrl : (rowB i d l).length ≤ 1500 := by have := rowB_len i d l; rw [HN.out] at this; omega
      have hrr := rowB_row i d l
      obtain ⟨bl, hbl⟩ : ∃ bl, (a ++ rowB i d l).length = bl := ⟨_, rfl⟩
      have hbl2 : bl ≤ 1600 := by rw [← hbl, List.length_append, HAL.out]; omega
      have hbl3 : al ≤ bl := by rw [← hbl, List.length_append, HAL.out]; omega
      obtain ⟨r, hr⟩ : ∃ r, a ++ rowB i d l ++ a2 = r := ⟨_, rfl⟩
      have hrow : isRow r = true := by rw [← hr, isRow_append, isRow_append, HAR.out, HCR.out, hrr]; rfl
      have hrs : r.length ≤ 2000 := by rw [← hr, List.length_append, hbl]; omega
      have hrb : bl ≤ r.length := by rw [← hr, List.length_append, hbl]; omega
      have K := Lib.hid (show btk (padL r) al i (decide (0 < n)) = (d, l, bl, 0) by
        have h := back_btk hm a (a2 ++ List.replicate ((8 - r.length % 8) % 8) 48)
        rw [HN.out, HAL.out] at h
        have e : a ++ rowB i d l ++ (a2 ++ List.replicate ((8 - r.length % 8) % 8) 48) = padL r := by rw [← List.append_assoc, hr]; rfl
        rw [e] at h
        rw [h, ← hbl, List.length_append, HAL.out])
      have HR2 := Lib.hid (fun (x : World) (hx : IsWr x (B + 2) (B + 1) (a ++ rowB i d l)) (hz : B + 2 ≤ x.heap.size) => (by
        have h := HAD2.out x _ hx (by rw [hbl]; omega) hz
        rw [hr] at h
        exact h : Calls Tryd.prog 9 #[.pointer (some ⟨B + 1, 0, none⟩), .string s2] x fun e w' => ∃ c : Int, e = .returned (.int .i64 c) ∧ IsWr w' (B + 2) (B + 1) r ∧ x.grownBy w' (some (B + 1))))
      have HBL := Lib.hid hbl
      generalize a ++ rowB i d l = r1 at hput HR2 HBL
      have hps : (⟨(packL r).toArray⟩ : ByteArray).size ≤ 140737488355328 := by rw [size_mk, packL_length]; omega
      have hpz : r.length ≤ 8 * (⟨(packL r).toArray⟩ : ByteArray).size := by rw [size_mk]; exact packL_most r
      have S := Lib.hid (show showL (⟨(packL r).toArray⟩ : ByteArray).data.toList = padL r from show_pack r hrow)
      have htx := fun (x : World) (hx : IsWr x (B + 2) (B + 1) r) => text_code x (B + 2) (B + 1) r hx (by omega)
      generalize (⟨(packL r).toArray⟩ : ByteArray) = y at hps hpz S htx
      have HTX := Lib.hid htx
      clear hm hl64 hrl hrr hr hrow hbl htx hw1
      go_wp2_with fail
      refine hput.mono ?_
      rintro e x2 ⟨rfl, hw3, hg3⟩
      obtain ⟨hb4, hz4⟩ := below_ownP hb2 hz2 hg3 (Nat.le_refl _)
      have hz4' : B + 2 ≤ x2.heap.size := Nat.le_trans hz2' hg3.size
      have hlen := len_code _ _ _ _ hw3
      rw [HBL.out] at hlen
      clear d0 d1 d2 hb2 hg3 hput hz2 hz2'
      go_wp2_with fail
      refine hlen.mono ?_
      rintro e x3 ⟨rfl, rfl⟩
      go_wp2_with fail
      refine (HR2.out _ hw3 hz4').mono ?_
      rintro e x3 ⟨z2, rfl, hw5, hg5⟩
      obtain ⟨hb6, hz6⟩ := below_ownP hb4 hz4 hg5 (Nat.le_refl _)
      have hz6' : B + 2 ≤ x3.heap.size := Nat.le_trans hz4' hg5.size
      clear hw3 hb4 hg5 hlen hz4 hz4'
      go_wp2_with fail
      refine (HTX.out _ hw5).mono ?_
      rintro e x4 ⟨rfl, hb7⟩
      have hb8 := hb6.trans (hb7.mono hz6)
      have hz8 := Nat.le_trans hz6 hb7.size
      have hz8' : B + 2 ≤ x4.heap.size := Nat.le_trans hz6' hb7.size
      clear hb6 hb7 hz6 hz6' hw5
      go_wp2_with fail
      refine (rnew_code _ _).mono ?_
      rintro e x5 ⟨rfl, rfl⟩
      obtain ⟨Y, hY⟩ : ∃ Y, x4.heap.size = Y := ⟨_, rfl⟩
      have hr5 : IsRd (x4.alloc (rdObj y 0)) Y y 0 := IsRd.fresh hY hps
      have hb9 := hb8.alloc hz8 (rdObj y 0)
      have hz9 : B + 1 ≤ (x4.alloc (rdObj y 0)).heap.size := by simp; omega
      have hYB : B + 1 ≤ Y := by omega
      rw [hY]
      clear hb8 hz8 hz8' hY
      generalize x4.alloc (rdObj y 0) = x5 at hr5 hb9 hz9 ⊢
      go_wp2_with fail
      refine (seek_code _ _ _ _ (al : Int) hr5 (by omega) (by omega)).mono ?_
      rintro e x6 ⟨rfl, hr7, hg7⟩
      rw [Int.toNat_natCast] at hr7
      obtain ⟨hb11, hz11⟩ := below_ownP hb9 hz9 hg7 hYB
      obtain ⟨c0, c1, c2⟩ := CELLS.out _ hb11
      have htk := btake_code x6 Y y al i (decide (0 < n)) (HP.out _ hb11) hr7
      unfold BTake at htk
      rw [S.out, K.out] at htk
      clear hr5 hb9 hz9 hg7
      go_wp2_with fail
      refine htk.mono ?_
      rintro e x7 ⟨d1, L, f, t, m, q, cap, heq, rfl, hm, hev, hr8, hg8⟩
      simp only [Prod.mk.injEq] at heq
      obtain ⟨rfl, rfl, rfl, rfl⟩ := heq
      obtain rfl : n = m := by rw [← HN.out]; exact hm
      obtain ⟨hb12, hz12⟩ := below_ownP hb11 hz11 hg8 hYB
      obtain ⟨d0, d1, d2⟩ := CELLS.out _ hb12
      have hsame := same_page q p l l cap c x7 hev (HV.out _ hb12) (by rw [HN.out]; omega)
      rw [HN.out, decide_eq_true (rfl : l = l)] at hsame
      have g1 : (d == d) = true := by simp
      have g2 : ((bl : Int) == (bl : Int)) = true := by simp
      clear c0 c1 c2 hb11 hz11 hr7 hg8 htk hev hm
      go_wp2_with fail
      refine hsame.mono ?_
      rintro e x8 ⟨rfl, hb13⟩
      have hr14 := hr8.below hb13
      have hb14 := hb12.trans (hb13.mono hz12)
      have hz14 := Nat.le_trans hz12 hb13.size
      clear d0 d1 d2 hb12 hb13 hr8 hsame
      go_wp2_with fail
      refine (at_code _ _ _ _ hr14).mono ?_
      rintro e x9 ⟨rfl, rfl⟩
      go_wp2_with fail
      refine (lives15 _ (HP.out _ hb14)).mono ?_
      rintro e x9 ⟨rfl, hb15⟩
      have hb16 := hb14.trans (hb15.mono hz14)
      go_wp2
      go_ret
      exact ⟨rfl, by rw [HB.out]; exact HBX.out _ hb16⟩
  · have hor : (decide (100 < (n : Int)) = true) ∨ (decide (100 < (n : Int)) = false ∧ decide (100 < (s.size : Int)) = true) ∨ (decide (100 < (n : Int)) = false ∧ decide (100 < (s.size : Int)) = false ∧ decide (100 < (s2.size : Int)) = true) := by
      by_cases hn : n ≤ 100
      · by_cases hs : s.size ≤ 100
        · exact .inr (.inr ⟨by simp; omega, by simp; omega, by simp; omega⟩)
        · exact .inr (.inl ⟨by simp; omega, by simp; omega⟩)
      · exact .inl (by simp; omega)
    clear h100
    rcases hor with t0 | ⟨t0, t1⟩ | ⟨t0, t1, t2⟩
    all_goals
      go_enter Tryd.func5, Tryd.ntmps5
      go_wp2_with fail
      rw [HWA.out]
      refine (lives15 _ (HP.out _ hb0)).mono ?_
      rintro e w' ⟨rfl, hb⟩
      go_wp2
      go_ret
      exact ⟨rfl, by rw [HB.out]; exact (HBX.out _ hb0).trans (hb.mono (by omega))⟩

theorem blocksBack_own : ownKnob Tryd.prog.godebug = none := by kernel_rfl
theorem blocksBack_laid : laidOutB Tryd.prog = true := by kernel_rfl
theorem blocksBack_reads : Tryd.f5.params.toList.all (fun t => Tryd.prog.readableRec t && decide (t < Tryd.prog.types.size)) = true := by kernel_rfl

set_option maxRecDepth 100000 in
theorem blocksBack_lifted (os : Os) (started : os.Started) (H : Type) (enc : TypeId × Value → H) :
    ReturnsInHanded {} Tryd.checked os 5 .any (fun w args => (Rows.blocksBackSpec.pre enc Tryd.prog Tryd.f5 Rows.blocksBackRow.domain false w args ∧ laidMetH Tryd.prog Rows.blocksBackRow.laid w) ∧ sizedMet enc Tryd.prog Tryd.f5 (OpenSpec.ofChange Rows.blocksBackSpec) false w args)
      (Rows.blocksBackSpec.post enc Tryd.prog Tryd.f5 false true false false) := by
  refine returnsInHanded_of_change_and (C := Tryd.checked) (X := fun w _ => laidMetH Tryd.prog Rows.blocksBackRow.laid w) (fun _ _ _ hh h => h.of_heap hh) blocksBack_own started (by kernel_rfl) Tryd.func5
    (ChangeSpec.witness_shaped (enc := enc) (C := Tryd.checked) (os := os) (X := fun w _ => laidMetH Tryd.prog Rows.blocksBackRow.laid w) false (World.laidAll Tryd.prog os Rows.blocksBackRow.laid) #[.agg #[.bool false, .int .i64 0, .slice none 0 0], .string ⟨#[]⟩, .string ⟨#[]⟩] 8 (World.laidAll_os _ _ _)
      (World.shaped_of_ZipB (by kernel_rfl) (by kernel_rfl)) (by kernel_rfl) (by kernel_rfl) (by kernel_rfl)
      (by rw [MakeChecks.laidMetH_plain _ _ _ (by kernel_rfl)]; exact laidMet_laidAll _ (by kernel_rfl) (by kernel_rfl))) ?_
  intro W base args ds gs before hval0 hW _ hsz0 hL _
  have hval : ∀ (j : Nat) t v, Tryd.f5.params[j]? = some t → args[j]? = some v → Value.okWide Tryd.prog W .any base t v := hval0
  have hW' := hW
  obtain ⟨p, q, hA0, hV, rfl, hfz, hnd⟩ := hW
  have hA : DataW.TrodAll enc Tryd.prog W 0 (fun _ => true) true Tryd.f5.params.toList args.toList ds p := hA0
  rw [Tryd.params5] at hA hval
  obtain ⟨v0, vs0, d0, ds0, p0, q0, hargs, rfl, rfl, h0, r0⟩ := trodAll_cons hA
  obtain ⟨v1, vs1, d1, ds1, p1, q1, rfl, rfl, rfl, h1, r1⟩ := trodAll_cons r0
  obtain ⟨v2, vs2, d2, ds2, p2, q2, rfl, rfl, rfl, h2, r2⟩ := trodAll_cons r1
  obtain ⟨rfl, rfl, rfl⟩ := trodAll_nil r2
  obtain rfl : args = #[v0, v1, v2] := by cases args; simp_all
  obtain ⟨rfl, rfl⟩ := trodVars_none hV
  obtain ⟨a0, d0', p0', l0, c0, rfl, y0, w0, x0⟩ := open_block 3 _ Tryd.underlying24 Tryd.underlying4 Tryd.underlying3 Tryd.underlying22 rfl rfl rfl rfl rfl rfl (by kernel_rfl) (by kernel_rfl) (by kernel_rfl) (by kernel_rfl) (by kernel_rfl) (by decide) (ev_struct Tryd.underlying50 Tryd.underlying4 Tryd.underlying3 rfl rfl rfl rfl rfl rfl (by kernel_rfl) (by kernel_rfl)) (hval 0 24 v0 rfl rfl) h0
  obtain ⟨a1, rfl, rfl, rfl, w1⟩ := Go.ChangeMaps.open_string Tryd.underlying9 (hval 1 9 v1 rfl rfl) h1
  have z1 : a1.size ≤ 140737488355328 := Nat.le_trans (sized_string hsz0 (j := 1) rfl rfl) (Nat.le_of_lt reachBytes_lt)
  obtain ⟨a2, rfl, rfl, rfl, w2⟩ := Go.ChangeMaps.open_string Tryd.underlying9 (hval 2 9 v2 rfl rfl) h2
  have z2 : a2.size ≤ 140737488355328 := Nat.le_trans (sized_string hsz0 (j := 2) rfl rfl) (Nat.le_of_lt reachBytes_lt)
  clear hA0 hval0
  refine (blocksBack_walk a0 d0' p0' l0 c0 a1 a2 W y0 x0 w0 w1 z1 w2 z2 (tcoef_laid hL ⟨by simp [Rows.blocksBackRow], by kernel_rfl⟩)).mono fun e W' ⟨he, hb⟩ => ?_
  subst he
  exact ⟨_, rfl, law_end blocksBack_laid blocksBack_reads rfl Tryd.underlying4 rfl hW' rfl hb⟩

theorem blocksBack_over : Rows.blocksBackRow.holds Tryd.pinned (OpenSpec.ofChange Rows.blocksBackSpec) :=
  OpenClaim.holds_of_wide 5 Tryd.f5 rfl rfl rfl rfl rfl rfl rfl ⟨rfl, rfl, rfl, rfl, rfl⟩ rfl rfl rfl rfl rfl (by kernel_rfl) Tryd.func5 (by kernel_rfl)
    (of_decide_eq_true (by kernel_rfl)) (by unfold Func.isWrapper; first | (rw [if_pos (by decide +kernel)]; kernel_rfl) | (rw [if_neg (by decide +kernel)]; exact ⟨rfl, rfl⟩))
    (fun os started H enc _ => blocksBack_lifted os started H enc)

theorem blocksBack_holds : Rows.BlocksBackCardSaid :=
  Claim7.holds_tied_plain_at .later [] [.data, .data, .data] true Rows.blocksBackCard.stood.harness false blocksBack_over (fun _ h => by cases h) (by kernel_rfl) (fun _ h => by cases h) blocksBack_row_tie rfl ⟨rfl, rfl⟩ (by kernel_rfl) rfl
    (fun f fn hf hfn => by
      obtain rfl : f = 5 := Option.some.inj ((show Tryd.prog.funcNamed "overspill/overspilllaw15.BlocksBack" = some 5 by kernel_rfl).symm.trans hf) |>.symm
      obtain rfl : fn = Tryd.f5 := (Option.some.inj (Tryd.func5.symm.trans hfn)).symm
      exact ⟨by kernel_rfl, fun j t ht => by
        rw [Tryd.params5] at ht
        have hm : t ∈ [24, 9, 9] := by simpa using Array.mem_of_getElem? ht
        have hall : ([24, 9, 9].all fun u => !Tryd.prog.wantsStandIn u) = true := by kernel_rfl
        exact (show Tryd.prog.wantsStandIn t = false by simpa using List.all_eq_true.1 hall t hm)⟩)
    (by kernel_rfl)
#print axioms blocksBack_holds
end Go.Proofs.YtologhgoojkpmaaDoor
