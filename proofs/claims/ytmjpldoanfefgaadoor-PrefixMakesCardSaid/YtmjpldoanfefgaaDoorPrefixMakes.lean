/- Whether codes may be a table's, how many there are, how long the longest is, and the row of any symbol, is what the document's own answers say; and the chapter's example comes out. Conditions: none but the law's own (up to 300 codes, of up to 60 digits), and the card's: what the listed variables hold when the call begins, tied to the program's text. -/
import Derived.Test.YtmjpldoanfefgaaDoorCards
import Derived.Test.YtmjpldoanfefgaaDoorTie
import Derived.Test.YtmjpldoanfefgaaDoorLives5
import Derived.Test.YtmjpldoanfefgaaDoorRef5
import Derived.Test.YtmjpldoanfefgaaDoorLaws
import Derived.ProofKit
import Derived.Deep.DeepCutAuto
import Derived.Deep.CutRange
import Derived.Deep.CutBlock
import Derived.LaidMore
import Derived.OpenShut
import Derived.Lay
import Derived.SizedLaws
import Derived.SevenTiedAt
import Derived.Stop.Joined
namespace Go.Proofs.YtmjpldoanfefgaaDoor
open Go.ChangeShapes Go.WideShapes Go.ChangeAt Go.RowKit
set_option linter.unusedVariables false

theorem small_parts {l : List (ByteArray × Int)} (h : smallB l = true) : l.length ≤ 300 ∧ ∀ x ∈ l, x.1.size ≤ 60 := by
  unfold smallB at h
  rw [Bool.and_eq_true, decide_eq_true_iff] at h
  rw [List.take_of_length_le h.2, List.all_eq_true] at h
  exact ⟨h.2, fun x hx => by simpa using h.1 x hx⟩
theorem right_make (l : List (ByteArray × Int)) : (rightP (l.map (·.1)) ∧ (l.map (·.2)).Nodup) ↔ mkP l := by
  unfold rightP mkP
  rw [List.length_map, List.map_map]
  constructor
  · rintro ⟨⟨h1, h2, h3, h4⟩, h5⟩
    exact ⟨h1, h2, fun x hx => h3 x.1 (List.mem_map_of_mem hx), h4, h5⟩
  · rintro ⟨h1, h2, h3, h4, h5⟩
    refine ⟨⟨h1, h2, fun x hx => ?_, h4⟩, h5⟩
    obtain ⟨y, hy, rfl⟩ := List.mem_map.1 hx
    exact h3 y hy
theorem right_len (l : List ByteArray) (n : Nat) (hn : l.length = n) (p : Option Addr) (cap : Nat) (w : World) (r : Bool) (hr : r = true ↔ rightP l) (hc : Strs w p l) (hm : n ≤ 300) (hs : ∀ x ∈ l, x.size ≤ maxLen) :
    Calls Tryd.prog 10 #[.slice p n cap] w fun e w' => e = .returned (.bool r) ∧ Below w.heap.size w w' := by
  subst hn
  exact right_page l p cap w r hr hc hm hs
/-- What has been found of a symbol. -/
def Found (l : List (ByteArray × Int)) (s : Int) (row : ByteArray) (at_ : Int) : Prop :=
  (at_ < 0 ∧ row = ⟨#[]⟩ ∧ ∀ x ∈ l, x.2 ≠ s) ∨ (0 ≤ at_ ∧ at_ ≤ 300 ∧ ∃ x ∈ l, x.2 = s ∧ row = x.1)
theorem nodup_snoc (l : List (ByteArray × Int)) (j : Nat) (h : j < l.length) : ((l.take (j + 1)).map (·.2)).Nodup ↔ ((l.take j).map (·.2)).Nodup ∧ ∀ c, (hc : c < l.length) → c < j → l[c].2 ≠ l[j].2 := by
  rw [List.take_succ_eq_append_getElem h, List.map_append, List.map_singleton, List.nodup_append]
  constructor
  · rintro ⟨h1, _, h3⟩
    refine ⟨h1, fun c hc hcj => h3 _ ?_ _ (List.mem_singleton.2 rfl)⟩
    exact List.mem_map.2 ⟨l[c], List.mem_iff_getElem.2 ⟨c, by rw [List.length_take]; omega, List.getElem_take⟩, rfl⟩
  · rintro ⟨h1, h2⟩
    refine ⟨h1, by simp, fun a ha b hb => ?_⟩
    rw [List.mem_singleton] at hb
    subst hb
    obtain ⟨x, hx, rfl⟩ := List.mem_map.1 ha
    obtain ⟨c, hc, rfl⟩ := List.getElem_of_mem hx
    rw [List.length_take] at hc
    rw [List.getElem_take]
    exact h2 c (by omega) (by omega)
theorem found_snoc {l : List (ByteArray × Int)} {s : Int} {row : ByteArray} {at_ : Int} {j : Nat} (h : j < l.length) (hf : Found (l.take j) s row at_) (hne : l[j].2 ≠ s) : Found (l.take (j + 1)) s row at_ := by
  rw [List.take_succ_eq_append_getElem h]
  rcases hf with ⟨h1, h2, h3⟩ | ⟨h1, h2, x, hx, h3⟩
  · refine .inl ⟨h1, h2, fun x hx => ?_⟩
    rcases List.mem_append.1 hx with hx | hx
    · exact h3 x hx
    · rw [List.mem_singleton] at hx
      rw [hx]; exact hne
  · exact .inr ⟨h1, h2, x, List.mem_append_left _ hx, h3⟩
theorem found_here {l : List (ByteArray × Int)} {s : Int} {j : Nat} (h : j < l.length) (hj : j ≤ 300) (he : l[j].2 = s) : Found (l.take (j + 1)) s l[j].1 (j : Int) := by
  rw [List.take_succ_eq_append_getElem h]
  exact .inr ⟨by omega, by omega, l[j], List.mem_append_right _ (List.mem_singleton.2 rfl), he, rfl⟩

set_option maxRecDepth 100000 in
set_option maxHeartbeats 16000000 in
theorem prefixMakes_walk (p : Option Addr) (len cap : Nat) (s : Int) (w : World) (hx0 : RowsAt w CodeVals 2 p len) (hm : len ≤ maxLen) (ws : (Lit.int .i64 s).wf = true) :
    Calls Tryd.prog 3 #[.slice p len cap, .int .i64 s] w fun e w' => e = .returned (.bool true) ∧ Below w.heap.size w w' := by
  obtain ⟨l, rfl, hc, hl⟩ := rows_codes hx0
  have hm' := hm
  unfold maxLen at hm
  clear hx0
  cases hsm : smallB l with
  | false =>
    have SM := Lib.hid hsm
    clear hsm
    go_enter Tryd.func3, Tryd.ntmps3
    go_wp2_with fail
    refine (small_page l p cap _ hc hm').mono ?_
    rintro e w' ⟨rfl, rfl⟩
    rw [SM.out]
    go_wp2_with fail
    refine (lives5 _).mono ?_
    rintro e w' ⟨rfl, hb⟩
    go_wp2
    go_ret
    exact ⟨rfl, hb⟩
  | true =>
    obtain ⟨h300, h60⟩ := small_parts hsm
    obtain ⟨B, hB⟩ : ∃ B, w.heap.size = B := ⟨_, rfl⟩
    have hE : ∀ x, Below B w x → Cds x p l := fun x hx => hc.below (by rw [hB]; exact hx)
    obtain ⟨rb, hrb⟩ : ∃ rb : Bool, rb = true ↔ rightP (l.map (·.1)) := by
      by_cases h : rightP (l.map (·.1))
      · exact ⟨true, by simp [h]⟩
      · exact ⟨false, by simp [h]⟩
    have EE := Lib.hid hE
    have HC := Lib.hid hc
    have HL := Lib.hid hl
    have H60 := Lib.hid h60
    have SM := Lib.hid hsm
    have RB := Lib.hid hrb
    have HB := Lib.hid hB
    rw [hB]
    clear hE hc hl h60 hsm hrb hB
    go_enter Tryd.func3, Tryd.ntmps3
    go_wp2_with fail
    refine (small_page l p cap _ HC.out hm').mono ?_
    rintro e w' ⟨rfl, rfl⟩
    rw [SM.out]
    go_wp2_with fail
    refine (of_page l p cap _ HC.out h300).mono ?_
    rintro e w1 ⟨q, cq, r, cr, rfl, hq, hr, hb1⟩
    rw [HB.out] at hb1
    have hz1 : B ≤ w1.heap.size := by have := hb1.size; rw [HB.out] at this; exact this
    go_wp2_with fail
    refine (right_len (l.map (·.1)) l.length (by simp) r cr _ rb RB.out hr h300 (by
      intro x hx
      obtain ⟨y, hy, rfl⟩ := List.mem_map.1 hx
      exact (HL.out y hy).1)).mono ?_
    rintro e w2 ⟨rfl, hb2⟩
    have hq2 := hq.below hb2
    have hb3 : Below B w w2 := hb1.trans (hb2.mono hz1)
    have hz2 : B ≤ w2.heap.size := Nat.le_trans hz1 hb2.size
    have hq3 : ∀ x, Below w2.heap.size w2 x → Cds x q l := fun x hx => hq2.below hx
    have HQ := Lib.hid hq3
    clear hq hr hb1 hz1 hb2 hq2 hq3
    go_wp2_with fail
    obtain ⟨G, hG⟩ : ∃ G, w2.heap.size = G := ⟨_, rfl⟩
    rw [hG] at HQ hz2
    have hbG : Below G w2 w2 := by rw [← hG]; exact Below.refl _ _
    have HG := Lib.hid hG
    clear hG
    go_loopw [7, 8, 9, 10, 11] (fun a b c d i wr => ∃ (j : Nat) (ok : Bool) (row : ByteArray) (at_ : Int), j ≤ l.length ∧ i = .int .i64 j ∧ a = .bool ok ∧ b = .string row ∧ c = .int .i64 at_ ∧ d = .int .i64 ((longL (l.take j) : Nat) : Int) ∧ Below G w2 wr ∧
      Hid (ok = true ↔ rb = true ∧ ((l.take j).map (·.2)).Nodup) ∧ Hid (Found (l.take j) s row at_) ∧ longL (l.take j) ≤ 60) (fun _ _ _ _ i _ => l.length - (intOf i).toNat)
    case atStart => exact ⟨0, rb, ⟨#[]⟩, -1, Nat.zero_le _, rfl, rfl, rfl, rfl, rfl, hbG, Lib.hid (by simp), Lib.hid (.inl ⟨by decide, rfl, fun x hx => by simp at hx⟩), Nat.zero_le _⟩
    case round =>
      clear hbG
      obtain ⟨j, ok, row, at_, hj, rfl, rfl, rfl, rfl, rfl, hb, hok, hfd, hlg⟩ := hrel
      by_cases hlt : j < l.length
      · have ND := Lib.hid (nodup_snoc l j hlt)
        have LT := Lib.hid (longL_take l j hlt)
        have x60 := H60.out l[j] (List.getElem_mem hlt)
        have FH := Lib.hid (fun he => found_here (s := s) hlt (by omega) he)
        have FS := Lib.hid (fun hne => found_snoc (s := s) hlt hfd.out hne)
        go_wp2_with fail
        obtain ⟨wo, rfl⟩ : ∃ wo : World, wo = wr := ⟨_, rfl⟩
        go_loopw [7, 12] (fun a k wr => ∃ (c : Nat) (ok2 : Bool), c ≤ j ∧ k = .int .i64 c ∧ a = .bool ok2 ∧ Below G w2 wr ∧ Hid (ok2 = true ↔ ok = true ∧ ∀ d, (hd : d < l.length) → d < c → l[d].2 ≠ l[j].2)) (fun _ k _ => j - (intOf k).toNat)
        case atStart => exact ⟨0, ok, Nat.zero_le _, rfl, rfl, hb, Lib.hid ⟨fun h => ⟨h, fun d _ h => absurd h (Nat.not_lt_zero d)⟩, fun h => h.1⟩⟩
        case round =>
          clear hb
          obtain ⟨c, ok2, hcj, rfl, rfl, hb, hok2⟩ := hrel
          have hbB : Below B w wr := hb3.trans (hb.mono hz2)
          obtain ⟨b, o, rfl, hblt, hcells⟩ := (EE.out wr hbB).at (by omega)
          obtain ⟨c0, c1⟩ := hcells j hlt
          by_cases hlt2 : c < j
          · have k1 := (hcells c (by omega)).2
            obtain ⟨y, hy⟩ : ∃ y, l[c].2 = y := ⟨_, rfl⟩
            obtain ⟨z, hz⟩ : ∃ z, l[j].2 = z := ⟨_, rfl⟩
            have hsn : ∀ ok3 : Bool, (ok3 = true ↔ ok2 = true ∧ y ≠ z) → Hid (ok3 = true ↔ ok = true ∧ ∀ d, (hd : d < l.length) → d < c + 1 → l[d].2 ≠ l[j].2) := by
              intro ok3 h3
              refine Lib.hid ?_
              rw [h3, hok2.out, ← hy, ← hz]
              constructor
              · rintro ⟨⟨h1, h2⟩, h4⟩
                refine ⟨h1, fun d hd hdc => ?_⟩
                by_cases e : d = c
                · subst e; exact h4
                · exact h2 d hd (by omega)
              · rintro ⟨h1, h2⟩
                exact ⟨⟨h1, fun d hd hdc => h2 d hd (by omega)⟩, h2 c (by omega) (by omega)⟩
            have SN := Lib.hid hsn
            rw [hy] at k1
            rw [hz] at c1
            clear hsn hok2 hcells hy hz
            go_wp2_with fail
            cases ok2 with
            | false =>
              go_quiet (fail)
              go_wp2
              go_roundw
              case rel => exact ⟨c + 1, false, by omega, by go_num, rfl, below_drewN hb _, SN.out false (by simp)⟩
              case measure => simp [intOf]; omega
            | true =>
              go_quiet (fail)
              go_wp2
              go_roundw
              case rel => exact ⟨c + 1, y != z, by omega, by go_num, rfl, below_drewN hb _, SN.out _ (by simp)⟩
              case measure => simp [intOf]; omega
          · obtain rfl : c = j := by omega
            have OK3 : Hid (ok2 = true ↔ rb = true ∧ ((l.take (c + 1)).map (·.2)).Nodup) := Lib.hid (by
              rw [hok2.out, hok.out, ND.out]
              constructor
              · rintro ⟨⟨h1, h2⟩, h3⟩; exact ⟨h1, h2, fun d hd hdc => h3 d hd hdc⟩
              · rintro ⟨h1, h2, h3⟩; exact ⟨⟨h1, h2⟩, fun d hd hdc => h3 d hd hdc⟩)
            have LM : ((longL (l.take (c + 1)) : Nat) : Int) = max ((longL (l.take c) : Nat) : Int) (l[c].1.size : Int) ∧ longL (l.take (c + 1)) ≤ 60 := by rw [LT.out]; omega
            have LH := Lib.hid LM.1
            have LM2 := LM.2
            clear LM hok2 hcells
            obtain ⟨x, hx⟩ : ∃ x, l[c] = x := ⟨_, rfl⟩
            rw [hx] at c0 c1 x60 LH FH FS
            clear hx
            by_cases hs : x.2 = s
            · have g0 : (x.2 == s) = true := by rw [beq_iff_eq]; exact hs
              have FN := Lib.hid (FH.out hs)
              clear hs
              go_wp2_with fail
              go_roundw
              case rel => exact ⟨c + 1, ok2, x.1, (c : Int), by omega, by go_num, rfl, rfl, rfl, by rw [LH.out], hb, OK3, Lib.hid FN.out, LM2⟩
              case measure => simp [intOf]; omega
            · have g0 : (x.2 == s) = false := by rw [beq_eq_false_iff_ne]; exact hs
              have FN := Lib.hid (FS.out hs)
              clear hs
              go_wp2_with fail
              go_roundw
              case rel => exact ⟨c + 1, ok2, row, at_, by omega, by go_num, rfl, rfl, rfl, by rw [LH.out], hb, OK3, Lib.hid FN.out, LM2⟩
              case measure => simp [intOf]; omega
      · obtain rfl : j = l.length := by omega
        have hmk : ok = true ↔ mkP l := by
          have := hok.out
          rw [List.take_length] at this
          rw [this, RB.out]
          exact right_make l
        have hfd2 : Found l s row at_ := by
          have := hfd.out
          rwa [List.take_length] at this
        rw [List.take_length] at hlg ⊢
        have hqz := HQ.out wr hb
        have hbB : Below B w wr := hb3.trans (hb.mono hz2)
        have hzB : B ≤ wr.heap.size := by have := hbB.size; rw [HB.out] at this; exact this
        have MK := Lib.hid hmk
        have FD := Lib.hid hfd2
        clear hmk hfd2 hok hfd hb
        go_wp2_with fail
        refine (make_code l q cq _ hqz hm' HL.out).mono ?_
        rintro e w3 ⟨hy, hn, hb4⟩
        have hb5 := hbB.trans (hb4.mono hzB)
        have hz3 : B ≤ w3.heap.size := Nat.le_trans hzB hb4.size
        clear hqz hbB hb4 hzB
        cases ok with
        | false =>
          obtain rfl := hn (fun h => by have := MK.out.2 h; cases this)
          clear hy hn
          go_wp2_with (go_at_call 8; refine (lives5 _).mono ?_; rintro e w' ⟨rfl, hb6⟩)
          go_ret
          exact ⟨rfl, hb5.trans (hb6.mono hz3)⟩
        | true =>
          obtain ⟨tb, ds, rfl, htb, hp, _⟩ := hy (MK.out.1 rfl)
          have HP := Lib.hid hp
          have DL := Lib.hid (show ds.length = l.length from hp.length_eq)
          clear hy hn hp
          go_wp2_with fail
          refine (trow_code _ _ tb ds _ s htb ws).mono ?_
          rintro e w' ⟨v, is, rfl, rfl, hno, hyes⟩
          have hdec : v = row ∧ is = decide (at_ ≥ 0) := by
            rcases FD.out with ⟨h1, h2, h3⟩ | ⟨h1, _, x, hx, h2, h3⟩
            · obtain ⟨e1, e2⟩ := hno (fun x hx => h3 x (HP.out.mem_iff.1 hx))
              exact ⟨by rw [e1, h2], by rw [e2]; symm; rw [decide_eq_false_iff_not]; omega⟩
            · obtain ⟨e1, e2⟩ := hyes x (HP.out.mem_iff.2 hx) h2
              exact ⟨by rw [h3]; exact ba_eq.2 e1, by rw [e2]; symm; rw [decide_eq_true_iff]; omega⟩
          obtain ⟨rfl, rfl⟩ := hdec
          clear hno hyes
          go_wp2_with (first
            | (go_at_call 13; refine (tlen_code _ _ tb ds _ htb).mono ?_; rintro e w' ⟨rfl, rfl⟩; rw [DL.out])
            | (go_at_call 14; refine (longest_code _ _ tb ds _ htb).mono ?_; rintro e w' ⟨rfl, rfl⟩)
            | (go_at_call 8; refine (lives5 _).mono ?_; rintro e w' ⟨rfl, hb6⟩))
          go_ret
          exact ⟨rfl, hb5.trans (hb6.mono hz3)⟩
theorem prefixMakes_own : ownKnob Tryd.prog.godebug = none := by kernel_rfl
theorem prefixMakes_laid : laidOutB Tryd.prog = true := by kernel_rfl
theorem prefixMakes_reads : Tryd.f3.params.toList.all (fun t => Tryd.prog.readableRec t && decide (t < Tryd.prog.types.size)) = true := by kernel_rfl

set_option maxRecDepth 100000 in
theorem prefixMakes_lifted (os : Os) (started : os.Started) (H : Type) (enc : TypeId × Value → H) :
    ReturnsInHanded {} Tryd.checked os 3 .any (fun w args => (Rows.prefixMakesSpec.pre enc Tryd.prog Tryd.f3 Rows.prefixMakesRow.domain false w args ∧ laidMetH Tryd.prog Rows.prefixMakesRow.laid w) ∧ sizedMet enc Tryd.prog Tryd.f3 (OpenSpec.ofChange Rows.prefixMakesSpec) false w args)
      (Rows.prefixMakesSpec.post enc Tryd.prog Tryd.f3 false true false false) := by
  refine returnsInHanded_of_change_and (C := Tryd.checked) (X := fun w _ => laidMetH Tryd.prog Rows.prefixMakesRow.laid w) (fun _ _ _ hh h => h.of_heap hh) prefixMakes_own started (by kernel_rfl) Tryd.func3
    (ChangeSpec.witness_shaped (enc := enc) (C := Tryd.checked) (os := os) (X := fun w _ => laidMetH Tryd.prog Rows.prefixMakesRow.laid w) false (World.laidAll Tryd.prog os Rows.prefixMakesRow.laid) #[.slice none 0 0, .int .i64 0] 8 (World.laidAll_os _ _ _)
      (World.shaped_of_ZipB (by kernel_rfl) (by kernel_rfl)) (by kernel_rfl) (by kernel_rfl) (by kernel_rfl)
      (by rw [MakeChecks.laidMetH_plain _ _ _ (by kernel_rfl)]; exact laidMet_laidAll _ (by kernel_rfl) (by kernel_rfl))) ?_
  intro W base args ds gs before hval0 hW _ hsz0 _ _
  have hval : ∀ (j : Nat) t v, Tryd.f3.params[j]? = some t → args[j]? = some v → Value.okWide Tryd.prog W .any base t v := hval0
  have hW' := hW
  obtain ⟨p, q, hA0, hV, rfl, hfz, hnd⟩ := hW
  have hA : DataW.TrodAll enc Tryd.prog W 0 (fun _ => true) true Tryd.f3.params.toList args.toList ds p := hA0
  rw [Tryd.params3] at hA hval
  obtain ⟨v0, vs0, d0, ds0, p0, q0, hargs, rfl, rfl, h0, r0⟩ := trodAll_cons hA
  obtain ⟨v1, vs1, d1, ds1, p1, q1, rfl, rfl, rfl, h1, r1⟩ := trodAll_cons r0
  obtain ⟨rfl, rfl, rfl⟩ := trodAll_nil r1
  obtain rfl : args = #[v0, v1] := by cases args; simp_all
  obtain ⟨rfl, rfl⟩ := trodVars_none hV
  obtain ⟨p0, l0, c0, rfl, w0, x0⟩ := open_rows 2 _ Tryd.underlying22 (by kernel_rfl) (by decide) (code_struct Tryd.underlying31 Tryd.underlying9 Tryd.underlying3 rfl rfl rfl rfl (by kernel_rfl) (by kernel_rfl)) (hval 0 22 v0 rfl rfl) h0
  obtain ⟨a1, rfl, rfl, rfl, w1⟩ := open_int Tryd.underlying3 (hval 1 3 v1 rfl rfl) h1
  clear hA0 hval0
  refine (prefixMakes_walk p0 l0 c0 a1 W x0 w0 w1).mono fun e W' ⟨he, hb⟩ => ?_
  subst he
  exact ⟨_, rfl, law_end prefixMakes_laid prefixMakes_reads rfl Tryd.underlying4 rfl hW' rfl hb⟩

theorem prefixMakes_over : Rows.prefixMakesRow.holds Tryd.pinned (OpenSpec.ofChange Rows.prefixMakesSpec) :=
  OpenClaim.holds_of_wide 3 Tryd.f3 rfl rfl rfl rfl rfl rfl rfl ⟨rfl, rfl, rfl, rfl, rfl⟩ rfl rfl rfl rfl rfl (by kernel_rfl) Tryd.func3 (by kernel_rfl)
    (of_decide_eq_true (by kernel_rfl)) (by unfold Func.isWrapper; first | (rw [if_pos (by decide +kernel)]; kernel_rfl) | (rw [if_neg (by decide +kernel)]; exact ⟨rfl, rfl⟩))
    (fun os started H enc _ => prefixMakes_lifted os started H enc)

theorem prefixMakes_holds : Rows.PrefixMakesCardSaid :=
  Claim7.holds_tied_plain_at .later [] [.data, .pinned] true Rows.prefixMakesCard.stood.harness false prefixMakes_over (fun _ h => by cases h) (by kernel_rfl) (fun _ h => by cases h) prefixMakes_row_tie rfl ⟨rfl, rfl⟩ (by kernel_rfl) rfl
    (fun f fn hf hfn => by
      obtain rfl : f = 3 := Option.some.inj ((show Tryd.prog.funcNamed "overspill/overspilllaw05.PrefixMakes" = some 3 by kernel_rfl).symm.trans hf) |>.symm
      obtain rfl : fn = Tryd.f3 := (Option.some.inj (Tryd.func3.symm.trans hfn)).symm
      exact ⟨by kernel_rfl, fun j t ht => by
        rw [Tryd.params3] at ht
        have hm : t ∈ [22, 3] := by simpa using Array.mem_of_getElem? ht
        have hall : ([22, 3].all fun u => !Tryd.prog.wantsStandIn u) = true := by kernel_rfl
        exact (show Tryd.prog.wantsStandIn t = false by simpa using List.all_eq_true.1 hall t hm)⟩)
    (by kernel_rfl)
#print axioms prefixMakes_holds
end Go.Proofs.YtmjpldoanfefgaaDoor
