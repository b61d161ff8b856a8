/- Which symbol a table takes at any bit of any text, or what is wrong, and where the reader stands then, is what the document's own answers say; and the chapter's example comes out. Conditions: none but the law's own (up to 300 codes, of up to 60 digits; texts of up to 200 bytes), and the card's: what the listed variables hold when the call begins, tied to the program's text. -/
import Derived.Test.YtmjpldoanfefgaaDoorCards
import Derived.Test.YtmjpldoanfefgaaDoorTie
import Derived.Test.YtmjpldoanfefgaaDoorLaw5
import Derived.Test.YtmjpldoanfefgaaDoorLaws
import Derived.ProofKit
import Derived.Deep.DeepCutAuto
import Derived.Deep.CutRange
import Derived.Deep.CutBlock
import Derived.LaidMore
import Derived.OpenShut
import Derived.Lay
import Derived.SizedLaws
import Derived.SevenTiedAt
import Derived.Stop.Joined
namespace Go.Proofs.YtmjpldoanfefgaaDoor
open Go.ChangeShapes Go.WideShapes Go.ChangeAt Go.RowKit
set_option linter.unusedVariables false


theorem takes_one {l ds : List (ByteArray × Int)} (h : mkP l) (hp : ds.Perm l) {b : List UInt8} {i n : Nat} {v : Int} (hx : ∃ x ∈ ds, rowC x = b.take n ∧ x.2 = v) (hi : ∃ h : i < (l.map fun x : ByteArray × Int => x.1).length, ((l.map fun x : ByteArray × Int => x.1)[i]).data.toList = b.take n) : ∃ h : i < l.length, l[i].2 = v := by
  obtain ⟨x, hx, hr, rfl⟩ := hx
  obtain ⟨hi, he⟩ := hi
  have hi' : i < l.length := by simpa using hi
  rw [List.getElem_map] at he
  refine ⟨hi', ?_⟩
  rw [free_one (made_free h hp).1 (hp.mem_iff.2 (List.getElem_mem hi')) hx (he.trans hr.symm)]
theorem tref_len (l : List ByteArray) (n : Nat) (hn : l.length = n) (p : Option Addr) (cap : Nat) (s : ByteArray) (at_ : Nat) (w : World) (hc : Strs w p l) (hm : n ≤ 300) (hs : s.size ≤ 1048576) (ha : at_ ≤ s.size) :
    Calls Tryd.prog 17 #[.slice p n cap, .string s, .int .i64 (at_ : Int)] w (TakeGives l (s.data.toList.drop at_) at_ w) := by
  subst hn
  exact tref_page l p cap s at_ w hc hm hs ha

set_option maxRecDepth 100000 in
set_option maxHeartbeats 16000000 in
theorem prefixTakes_walk (p : Option Addr) (len cap : Nat) (s : ByteArray) (from_ : Int) (w : World) (hx0 : RowsAt w CodeVals 2 p len) (hm : len ≤ maxLen) (hss : s.size ≤ maxLen) (_ : s.size ≤ 140737488355328) (wf : (Lit.int .i64 from_).wf = true) :
    Calls Tryd.prog 4 #[.slice p len cap, .string s, .int .i64 from_] w fun e w' => e = .returned (.bool true) ∧ Below w.heap.size w w' := by
  obtain ⟨l, rfl, hc, hl⟩ := rows_codes hx0
  have hm' := hm
  unfold maxLen at hm hss
  clear hx0
  cases hsm : smallB l with
  | false =>
    have SM := Lib.hid hsm
    clear hsm
    go_enter Tryd.func4, Tryd.ntmps4
    go_wp2_with fail
    refine (small_page l p cap _ hc hm').mono ?_
    rintro e w' ⟨rfl, rfl⟩
    rw [SM.out]
    go_wp2_with (go_at_call 8; refine (lives5 _).mono ?_; rintro e w' ⟨rfl, hb⟩)
    go_ret
    exact ⟨rfl, hb⟩
  | true =>
    obtain ⟨h300, h60⟩ := small_parts hsm
    have SM := Lib.hid hsm
    clear hsm
    by_cases h200 : 200 < s.size
    · have t0 : decide (200 < (s.size : Int)) = true := by simp; omega
      clear h200
      go_enter Tryd.func4, Tryd.ntmps4
      go_wp2_with fail
      refine (small_page l p cap _ hc hm').mono ?_
      rintro e w' ⟨rfl, rfl⟩
      rw [SM.out]
      go_wp2_with (go_at_call 8; refine (lives5 _).mono ?_; rintro e w' ⟨rfl, hb⟩)
      go_ret
      exact ⟨rfl, hb⟩
    have t0 : decide (200 < (s.size : Int)) = false := by simp; omega
    obtain ⟨B, hB⟩ : ∃ B, w.heap.size = B := ⟨_, rfl⟩
    have hE : ∀ x, Below B w x → Cds x p l := fun x hx => hc.below (by rw [hB]; exact hx)
    have EE := Lib.hid hE
    have HC := Lib.hid hc
    have HL := Lib.hid hl
    have HB := Lib.hid hB
    rw [hB]
    clear hE hc hl h60 hB
    go_enter Tryd.func4, Tryd.ntmps4
    go_wp2_with fail
    refine (small_page l p cap _ HC.out hm').mono ?_
    rintro e w' ⟨rfl, rfl⟩
    rw [SM.out]
    go_wp2_with fail
    refine (of_page l p cap _ HC.out h300).mono ?_
    rintro e w1 ⟨q, cq, r, cr, rfl, hq, hr, hb1⟩
    rw [HB.out] at hb1
    have hz1 : B ≤ w1.heap.size := by have := hb1.size; rw [HB.out] at this; exact this
    go_wp2_with fail
    refine (make_code l q cq _ hq hm' HL.out).mono ?_
    rintro e w2 ⟨hy, hn, hb2⟩
    have hr2 := hr.below hb2
    have hb3 : Below B w w2 := hb1.trans (hb2.mono hz1)
    have hz2 : B ≤ w2.heap.size := Nat.le_trans hz1 hb2.size
    clear hq hr hb1 hz1 hb2
    by_cases hmk : mkP l
    · obtain ⟨tb, ds, rfl, htb, hp, hso⟩ := hy hmk
      obtain ⟨hf, ho⟩ := made_free hmk hp
      clear hy hn
      obtain ⟨R, hR⟩ : ∃ R, w2.heap.size = R := ⟨_, rfl⟩
      have hrd0 : IsRd (w2.alloc (rdObj s 0)) R s 0 := IsRd.fresh hR (by omega)
      rw [hR] at htb hz2
      have htR : ∀ x, Below R w2 x → IsTb x R tb ds (longL l : Nat) := fun x hx => htb.below (by rw [hR]; exact hx)
      have hrR : ∀ x, Below R w2 x → Strs x r (l.map (·.1)) := fun x hx => hr2.below (by rw [hR]; exact hx)
      have hbR : ∀ x, Below R w2 x → Below B w x := fun x hx => hb3.trans (hx.mono hz2)
      have hb4 : Below R w2 (w2.alloc (rdObj s 0)) := by rw [← hR]; exact (Below.refl _ w2).alloc (Nat.le_refl _) _
      have hz4 : R < (w2.alloc (rdObj s 0)).heap.size := by simp; omega
      have TR := Lib.hid htR
      have RR := Lib.hid hrR
      have BR := Lib.hid hbR
      have MK := Lib.hid hmk
      have HP := Lib.hid hp
      have HS := Lib.hid hso
      have HF := Lib.hid hf
      have HO := Lib.hid ho
      have HR := Lib.hid hR
      clear htR hrR hbR htb hr2 hb3 hmk hp hso hf ho hR
      go_wp2_with fail
      refine (rnew_code _ _).mono ?_
      rintro e w3 ⟨rfl, rfl⟩
      rw [HR.out]
      generalize w2.alloc (rdObj s 0) = x0 at hrd0 hb4 hz4 ⊢
      by_cases hfr : 0 ≤ from_ ∧ from_ ≤ 8 * (s.size : Int)
      · obtain ⟨f0, f1⟩ := hfr
        go_wp2_with fail
        refine (seek_code _ _ _ _ from_ hrd0 f0 f1).mono ?_
        rintro e x1 ⟨rfl, hrd1, hg1⟩
        obtain ⟨a, ha⟩ : ∃ a : Nat, from_ = a := ⟨from_.toNat, by omega⟩
        subst ha
        rw [Int.toNat_natCast] at hrd1
        have hb5 : Below R w2 x1 := hb4.grown hg1 (Nat.le_of_lt hz4) (by intro k hk; injection hk with hk; omega)
        have hz5 : R < x1.heap.size := Nat.lt_of_lt_of_le hz4 hg1.size
        clear hrd0 hg1 hb4 hz4
        go_wp2_with fail
        refine (show_page s (by omega) _).mono ?_
        rintro e x2 ⟨rfl, hb6⟩
        have hb7 : Below R w2 x2 := hb5.trans (hb6.mono (Nat.le_of_lt hz5))
        have hz7 : R < x2.heap.size := Nat.lt_of_lt_of_le hz5 hb6.size
        have hrd2 := hrd1.below hb6
        clear hb5 hz5 hb6 hrd1
        have hsl : (⟨(showL s.data.toList).toArray⟩ : ByteArray).size = 8 * s.size := by rw [size_mk, showL_length]; rfl
        go_wp2_with fail
        refine (tref_len (l.map (·.1)) l.length (by simp) r cr _ a _ (RR.out _ hb7) h300 (by rw [hsl]; omega) (by rw [hsl]; omega)).mono ?_
        rintro e x3 ⟨i, rfl, hi, hb8⟩
        rw [show ((l.map (·.1)).map fun x => x.data.toList) = l.map rowC by rw [List.map_map]; rfl, show (⟨(showL s.data.toList).toArray⟩ : ByteArray).data.toList = showL s.data.toList from rfl] at hi ⊢
        have hb9 : Below R w2 x3 := hb7.trans (hb8.mono (Nat.le_of_lt hz7))
        have hz9 : R < x3.heap.size := Nat.lt_of_lt_of_le hz7 hb8.size
        have hrd3 := hrd2.below hb8
        have hcd := tk_codes (l.map rowC) ((showL s.data.toList).drop a) 25 1
        have htp : tk (ds.map rowC) ((showL s.data.toList).drop a) 25 1 = tk (l.map rowC) ((showL s.data.toList).drop a) 25 1 := tk_perm (HP.out.map rowC) _ _ _
        obtain ⟨bs, hbs⟩ : ∃ bs, (showL s.data.toList).drop a = bs := ⟨_, rfl⟩
        rw [hbs] at hi hcd htp ⊢
        obtain ⟨f, n, hk⟩ : ∃ f n, tk (l.map rowC) bs 25 1 = (f, n) := ⟨_, _, rfl⟩
        rw [hk] at hi hcd htp ⊢
        have HI := Lib.hid hi
        have HCD := Lib.hid hcd
        have HTP := Lib.hid htp
        have HBS := Lib.hid hbs
        clear hb7 hz7 hb8 hrd2 hi hcd htp hbs hk hsl
        go_wp2_with fail
        refine (ttake_code _ R tb R ds _ s a (TR.out _ hb9) hrd3 (Nat.le_refl _) HS.out HF.out HO.out).mono ?_
        rintro e x4 ⟨v, rfl, hv0, hv1, hrd4, hg⟩
        rw [HBS.out, HTP.out] at hv0 hv1 hrd4 ⊢
        have hb10 : Below R w2 x4 := hb9.grown hg (Nat.le_of_lt hz9) (by intro k hk; injection hk with hk; omega)
        have hz10 : B ≤ x4.heap.size := Nat.le_trans hz2 (Nat.le_trans (Nat.le_of_lt hz9) hg.size)
        have hbB : Below B w x4 := BR.out _ hb10
        have V0 := Lib.hid hv0
        have V1 := Lib.hid hv1
        clear hv0 hv1 hg hb9 hz9 hrd3 hb10
        by_cases h0 : f = 0
        · subst h0
          obtain ⟨hil, hiv⟩ := takes_one MK.out HP.out (V0.out rfl) (HI.out rfl)
          obtain ⟨b, o, rfl, _, hcells⟩ := (EE.out _ hbB).at (by omega)
          have c1 := (hcells i hil).2
          rw [hiv] at c1
          clear hcells hiv
          go_wp2_with (first
            | (go_at_call 20; refine (at_code _ _ _ _ hrd4).mono ?_; rintro e w' ⟨rfl, rfl⟩)
            | (go_at_call 8; refine (lives5 _).mono ?_; rintro e w' ⟨rfl, hb11⟩))
          go_ret
          exact ⟨rfl, hbB.trans (hb11.mono hz10)⟩
        · obtain rfl := V1.out h0
          have g0 : (f == 0) = false := by rw [beq_eq_false_iff_ne]; exact h0
          have g1 : (f != 0) = true := by rw [bne_iff_ne]; exact h0
          clear h0
          go_wp2_with (first
            | (go_at_call 20; refine (at_code _ _ _ _ hrd4).mono ?_; rintro e w' ⟨rfl, rfl⟩)
            | (go_at_call 8; refine (lives5 _).mono ?_; rintro e w' ⟨rfl, hb11⟩))
          go_ret
          exact ⟨rfl, hbB.trans (hb11.mono hz10)⟩
      · have hbB : Below B w x0 := BR.out _ hb4
        have hzB : B ≤ x0.heap.size := Nat.le_trans hz2 (Nat.le_of_lt hz4)
        go_wp2_with fail
        refine (seek_not _ _ _ _ from_ hrd0 (by omega)).mono ?_
        rintro e x1 ⟨rfl, rfl⟩
        go_wp2_with (go_at_call 8; refine (lives5 _).mono ?_; rintro e w' ⟨rfl, hb⟩)
        go_ret
        exact ⟨rfl, hbB.trans (hb.mono hzB)⟩
    · obtain rfl := hn hmk
      clear hy hn hr2 hmk
      go_wp2_with fail
      refine (rnew_code _ _).mono ?_
      rintro e w3 ⟨rfl, rfl⟩
      have hb4 : Below B w (w2.alloc (rdObj s 0)) := hb3.alloc hz2 _
      have hz4 : B ≤ (w2.alloc (rdObj s 0)).heap.size := by simp; omega
      generalize w2.alloc (rdObj s 0) = x0 at hb4 hz4 ⊢
      go_wp2_with (go_at_call 8; refine (lives5 _).mono ?_; rintro e w' ⟨rfl, hb⟩)
      go_ret
      exact ⟨rfl, hb4.trans (hb.mono hz4)⟩
theorem prefixTakes_own : ownKnob Tryd.prog.godebug = none := by kernel_rfl
theorem prefixTakes_laid : laidOutB Tryd.prog = true := by kernel_rfl
theorem prefixTakes_reads : Tryd.f4.params.toList.all (fun t => Tryd.prog.readableRec t && decide (t < Tryd.prog.types.size)) = true := by kernel_rfl

set_option maxRecDepth 100000 in
theorem prefixTakes_lifted (os : Os) (started : os.Started) (H : Type) (enc : TypeId × Value → H) :
    ReturnsInHanded {} Tryd.checked os 4 .any (fun w args => (Rows.prefixTakesSpec.pre enc Tryd.prog Tryd.f4 Rows.prefixTakesRow.domain false w args ∧ laidMetH Tryd.prog Rows.prefixTakesRow.laid w) ∧ sizedMet enc Tryd.prog Tryd.f4 (OpenSpec.ofChange Rows.prefixTakesSpec) false w args)
      (Rows.prefixTakesSpec.post enc Tryd.prog Tryd.f4 false true false false) := by
  refine returnsInHanded_of_change_and (C := Tryd.checked) (X := fun w _ => laidMetH Tryd.prog Rows.prefixTakesRow.laid w) (fun _ _ _ hh h => h.of_heap hh) prefixTakes_own started (by kernel_rfl) Tryd.func4
    (ChangeSpec.witness_shaped (enc := enc) (C := Tryd.checked) (os := os) (X := fun w _ => laidMetH Tryd.prog Rows.prefixTakesRow.laid w) false (World.laidAll Tryd.prog os Rows.prefixTakesRow.laid) #[.slice none 0 0, .string ⟨#[]⟩, .int .i64 0] 8 (World.laidAll_os _ _ _)
      (World.shaped_of_ZipB (by kernel_rfl) (by kernel_rfl)) (by kernel_rfl) (by kernel_rfl) (by kernel_rfl)
      (by rw [MakeChecks.laidMetH_plain _ _ _ (by kernel_rfl)]; exact laidMet_laidAll _ (by kernel_rfl) (by kernel_rfl))) ?_
  intro W base args ds gs before hval0 hW _ hsz0 _ _
  have hval : ∀ (j : Nat) t v, Tryd.f4.params[j]? = some t → args[j]? = some v → Value.okWide Tryd.prog W .any base t v := hval0
  have hW' := hW
  obtain ⟨p, q, hA0, hV, rfl, hfz, hnd⟩ := hW
  have hA : DataW.TrodAll enc Tryd.prog W 0 (fun _ => true) true Tryd.f4.params.toList args.toList ds p := hA0
  rw [Tryd.params4] at hA hval
  obtain ⟨v0, vs0, d0, ds0, p0, q0, hargs, rfl, rfl, h0, r0⟩ := trodAll_cons hA
  obtain ⟨v1, vs1, d1, ds1, p1, q1, rfl, rfl, rfl, h1, r1⟩ := trodAll_cons r0
  obtain ⟨v2, vs2, d2, ds2, p2, q2, rfl, rfl, rfl, h2, r2⟩ := trodAll_cons r1
  obtain ⟨rfl, rfl, rfl⟩ := trodAll_nil r2
  obtain rfl : args = #[v0, v1, v2] := by cases args; simp_all
  obtain ⟨rfl, rfl⟩ := trodVars_none hV
  obtain ⟨p0, l0, c0, rfl, w0, x0⟩ := open_rows 2 _ Tryd.underlying22 (by kernel_rfl) (by decide) (code_struct Tryd.underlying31 Tryd.underlying9 Tryd.underlying3 rfl rfl rfl rfl (by kernel_rfl) (by kernel_rfl)) (hval 0 22 v0 rfl rfl) h0
  obtain ⟨a1, rfl, rfl, rfl, w1⟩ := Go.ChangeMaps.open_string Tryd.underlying9 (hval 1 9 v1 rfl rfl) h1
  have z1 : a1.size ≤ 140737488355328 := Nat.le_trans (sized_string hsz0 (j := 1) rfl rfl) (Nat.le_of_lt reachBytes_lt)
  obtain ⟨a2, rfl, rfl, rfl, w2⟩ := open_int Tryd.underlying3 (hval 2 3 v2 rfl rfl) h2
  clear hA0 hval0
  refine (prefixTakes_walk p0 l0 c0 a1 a2 W x0 w0 w1 z1 w2).mono fun e W' ⟨he, hb⟩ => ?_
  subst he
  exact ⟨_, rfl, law_end prefixTakes_laid prefixTakes_reads rfl Tryd.underlying4 rfl hW' rfl hb⟩

theorem prefixTakes_over : Rows.prefixTakesRow.holds Tryd.pinned (OpenSpec.ofChange Rows.prefixTakesSpec) :=
  OpenClaim.holds_of_wide 4 Tryd.f4 rfl rfl rfl rfl rfl rfl rfl ⟨rfl, rfl, rfl, rfl, rfl⟩ rfl rfl rfl rfl rfl (by kernel_rfl) Tryd.func4 (by kernel_rfl)
    (of_decide_eq_true (by kernel_rfl)) (by unfold Func.isWrapper; first | (rw [if_pos (by decide +kernel)]; kernel_rfl) | (rw [if_neg (by decide +kernel)]; exact ⟨rfl, rfl⟩))
    (fun os started H enc _ => prefixTakes_lifted os started H enc)

theorem prefixTakes_holds : Rows.PrefixTakesCardSaid :=
  Claim7.holds_tied_plain_at .later [] [.data, .pinned] true Rows.prefixTakesCard.stood.harness false prefixTakes_over (fun _ h => by cases h) (by kernel_rfl) (fun _ h => by cases h) prefixTakes_row_tie rfl ⟨rfl, rfl⟩ (by kernel_rfl) rfl
    (fun f fn hf hfn => by
      obtain rfl : f = 4 := Option.some.inj ((show Tryd.prog.funcNamed "overspill/overspilllaw05.PrefixTakes" = some 4 by kernel_rfl).symm.trans hf) |>.symm
      obtain rfl : fn = Tryd.f4 := (Option.some.inj (Tryd.func4.symm.trans hfn)).symm
      exact ⟨by kernel_rfl, fun j t ht => by
        rw [Tryd.params4] at ht
        have hm : t ∈ [22, 9, 3] := by simpa using Array.mem_of_getElem? ht
        have hall : ([22, 9, 3].all fun u => !Tryd.prog.wantsStandIn u) = true := by kernel_rfl
        exact (show Tryd.prog.wantsStandIn t = false by simpa using List.all_eq_true.1 hall t hm)⟩)
    (by kernel_rfl)
#print axioms prefixTakes_holds
end Go.Proofs.YtmjpldoanfefgaaDoor
