/- What the document's own answer of layer 6 (mcbpc) takes of a row of bits. Conditions: bits of at most 2^20 digits. -/
import Derived.Test.YtoacbdaamdodaaaDoorMref
import Derived.Deep.DeepCutAuto
namespace Go.Proofs.YtoacbdaamdodaaaDoor
open Go.RowKit Go.Lib

theorem results_tmp4 {fn : Func} {t u v x : Tmp} (h : fn.results = #[.tmp t, .tmp u, .tmp v, .tmp x]) (tmps : Array Value) (P : Program) (w : World) :
    (results fn tmps).run P w = .ok (.tuple #[tmps.getD t undef, tmps.getD u undef, tmps.getD v undef, tmps.getD x undef]) w := by
  simp [results, h]
/-- What the document's Take gives. -/
def RTake (inter : Bool) (b : List UInt8) (at_ : Nat) (w : World) (e : Ending) (w' : World) : Prop :=
  e = .returned (.tuple #[.int .i64 (mtk inter b).1, .int .i64 (mtk inter b).2.1, .int .i64 ((at_ + (mtk inter b).2.2.2 : Nat) : Int), .int .i64 (mtk inter b).2.2.1]) ∧ Below w.heap.size w w'
theorem rtake_at {inter : Bool} {bs : List UInt8} {at_ n z : Nat} {w w' : World} {a b f : Int} (h : mtk inter bs = (a, b, f, n)) (ht : at_ + n = z) (hb : Below w.heap.size w w') :
    RTake inter bs at_ w (.returned (.tuple #[.int .i64 a, .int .i64 b, .int .i64 (z : Int), .int .i64 f])) w' := by
  subst ht
  unfold RTake
  rw [h]
  exact ⟨rfl, hb⟩
theorem tref_len6 (l : List ByteArray) (n : Nat) (hn : l.length = n) (p : Option Addr) (cap : Nat) (s : ByteArray) (at_ : Nat) (w : World) (hc : Strs w p l) (hm : n ≤ 300) (hs : s.size ≤ 1048576) (ha : at_ ≤ s.size) :
    Calls Tryd.prog 25 #[.slice p n cap, .string s, .int .i64 (at_ : Int)] w (TakeGives l (s.data.toList.drop at_) at_ w) := by
  subst hn
  exact tref_page l p cap s at_ w hc hm hs ha
set_option maxRecDepth 100000 in
set_option maxHeartbeats 4000000 in
theorem mrtake_page (inter : Bool) (s : ByteArray) (at_ : Nat) (w : World) (hs : s.size ≤ 1048576) (ha : at_ ≤ s.size) :
    Calls Tryd.prog 12 #[.string s, .int .i64 (at_ : Int), .bool inter] w (RTake inter (s.data.toList.drop at_) at_ w) := by
  obtain ⟨i1, hj, jz0, jz1, jz2⟩ := info_parts info_str
  obtain ⟨bs, hbs⟩ : ∃ bs, s.data.toList.drop at_ = bs := ⟨_, rfl⟩
  rw [hbs]
  have HBS := Lib.hid hbs
  clear hbs
  go_enter Tryd.func12, Tryd.ntmps12
  go_wp2_with fail
  refine (rrows_page inter _).mono ?_
  rintro e w1 ⟨rfl, hst, hb1⟩
  obtain ⟨b, o, e, hblt, hcells⟩ := hst.at (by rw [refL_len]; omega)
  cases e
  have hE : ∀ x, Below w1.heap.size w1 x → ∀ i : Nat, i < 21 → x.cell? ⟨w.heap.size, i, none⟩ = some (.string (cellC inter i).1) := by
    intro x hx i hi
    have := hcells i (by rw [refL_len]; exact hi)
    rw [Nat.zero_add, refL_cell inter i hi] at this
    exact (World.cell?_of_block (a := ⟨w.heap.size, i, none⟩) (hx.block _ hblt)).trans this
  have EE := Lib.hid hE
  have hb0 : Below w1.heap.size w1 w1 := Below.refl _ _
  clear hE hcells hst
  go_wp2
  go_loopw [11, 12] (fun u v wr => ∃ i : Nat, i ≤ 21 ∧ v = .int .i64 i ∧ wr.ownsRow w1.heap.size 9 1 u (someL inter i).length (strCells (someL inter i)) ∧ Below w1.heap.size w1 wr) (fun _ v _ => 21 - (intOf v).toNat)
  case atStart => exact ⟨0, by omega, rfl, World.ownsRow_nil _ _ _ _, hb0⟩
  case round =>
    clear hb0
    obtain ⟨i, hi, rfl, hu, hb⟩ := hrel
    by_cases hlt : i < 21
    · have c0 := EE.out wr hb i hlt
      have hlen := someL_len inter i
      obtain ⟨y, hy⟩ : ∃ y, (cellC inter i).1 = y := ⟨_, rfl⟩
      rw [hy] at c0
      have E := Lib.toList_data y
      cases hye : y.data.toList.isEmpty with
      | true =>
        have SN := Lib.hid (someL_no hlt (by rw [hy]; exact hye))
        have e1 : y.toList.isEmpty = true := by rw [E]; exact hye
        have e2 : y.toList = [] := by rw [E]; simpa using hye
        clear hy E hye
        go_wp2
        go_roundw
        case rel => exact ⟨i + 1, by omega, by go_num, by rw [SN.out]; exact hu, hb⟩
        case measure => simp [intOf]; omega
      | false =>
        have SY := Lib.hid (someL_yes hlt (by rw [hy]; exact hye))
        have HY := Lib.hid hy
        have e1 : y.toList.isEmpty = false := by rw [E]; exact hye
        have e2 : y.toList ≠ [] := by rw [E]; intro h; rw [h] at hye; cases hye
        clear hy E hye
        go_wp2_with (at_builtin; refine wp_append_str (y0 := y) rfl rfl Tryd.underlying43 hj jz0 rfl jz1 jz2 rfl (hu.alloc _) rfl ?d1 ?d2 ?d3 ?_; (case d1 => go_cell); (case d2 => omega); (case d3 => (simp; exact Nat.le_succ_of_le hb.size)); intro v2 w2 hu4 hgrow; have hg4 : World.grownBy _ w2 (Value.ownBlock u11) := hgrow; have hb4 := (hb.alloc hb.size _).grown hg4 (by simp; exact Nat.le_succ_of_le hb.size) (owns_fresh hu); clear hgrow)
        go_roundw
        case rel => exact ⟨i + 1, by omega, by go_num, by rw [SY.out, HY.out, List.length_append, strCells_snoc]; exact hu4, hb4⟩
        case measure => simp [intOf]; omega
    · obtain rfl : i = 21 := by omega
      obtain ⟨q, cap, rfl, hq⟩ := owns_strs hu
      have hsl := someL_len inter 21
      go_wp2_with fail
      refine (tref_len6 (someL inter 21) _ rfl q cap s at_ _ hq (by omega) hs ha).mono ?_
      rintro e w3 ⟨j, rfl, hj0, hb3⟩
      rw [HBS.out, someL_all] at hj0 ⊢
      have hbw : Below w.heap.size w w3 := hb1.trans ((hb.trans (hb3.mono hb.size)).mono hb1.size)
      obtain ⟨f, n, hk⟩ : ∃ f n, tk ((allC inter).map rowCY) bs 25 1 = (f, n) := ⟨_, _, rfl⟩
      rw [hk] at hj0 ⊢
      have hcd := tk_codes ((allC inter).map rowCY) bs 25 1
      rw [hk] at hcd
      have HK := Lib.hid hk
      have J0 := Lib.hid hj0
      have BW := Lib.hid hbw
      clear hk hj0 hb3 hbw hb hu hq hb1 hblt EE hj
      by_cases h0 : f = 0
      · subst h0
        obtain ⟨hjl, hjr⟩ := J0.out rfl
        obtain ⟨g1, g2, g3⟩ := someL_get inter j hjl
        rw [g2] at hjr
        have F0 := mtk_yes inter HK.out g3 hjr
        have hsl2 : j ≤ 20 := by omega
        clear J0 hjl hjr g2 g3 hcd hsl
        cases inter with
        | true =>
          simp only [if_true, Nat.add_zero] at F0 g1
          obtain ⟨a, c, ha4, hc4, hac⟩ : ∃ a c : Nat, a < 6 ∧ c < 4 ∧ j = 4 * a + c := ⟨(j) / 4, (j) % 4, by omega, by omega, by omega⟩
          obtain ⟨_, s1, s2⟩ := cellC_at true a c ha4 hc4
          rw [hac, s1, s2] at F0
          have q1 : Int.tdiv ((j : Int)) 4 = (a : Int) := by rw [Int.tdiv_eq_ediv_of_nonneg (by omega)]; omega
          have q2 : Int.tmod ((j : Int)) 4 = (c : Int) := by rw [Int.tmod_eq_emod_of_nonneg (by omega)]; omega
          have qw : wrap64 (a : Int) = (a : Int) := by unfold wrap64; omega
          by_cases h2 : (a : Int) = 2
          · rw [if_pos h2] at F0
            have F := Lib.hid F0
            have g2 : ((a : Int) == 2) = true := by rw [beq_iff_eq]; exact h2
            clear F0 h2 hac s1 s2 ha4 hc4 g1
            go_wp2
            exact bodyPost_ret (results_tmp4 rfl _ _ _) rfl (rtake_at F.out (Nat.add_zero _) BW.out)
          · rw [if_neg h2] at F0
            have F := Lib.hid F0
            have g2 : ((a : Int) == 2) = false := by rw [beq_eq_false_iff_ne]; exact h2
            clear F0 h2 hac s1 s2 ha4 hc4 g1
            go_wp2
            rw [qw]
            exact bodyPost_ret (results_tmp4 rfl _ _ _) rfl (rtake_at F.out rfl BW.out)
        | false =>
          simp only [Bool.false_eq_true, if_false] at F0 g1
          obtain ⟨a, c, ha4, hc4, hac⟩ : ∃ a c : Nat, a < 6 ∧ c < 4 ∧ j + 12 = 4 * a + c := ⟨(j + 12) / 4, (j + 12) % 4, by omega, by omega, by omega⟩
          obtain ⟨_, s1, s2⟩ := cellC_at false a c ha4 hc4
          rw [hac, s1, s2] at F0
          have q1 : Int.tdiv ((j : Int) + 12) 4 = (a : Int) := by rw [Int.tdiv_eq_ediv_of_nonneg (by omega)]; omega
          have q2 : Int.tmod ((j : Int) + 12) 4 = (c : Int) := by rw [Int.tmod_eq_emod_of_nonneg (by omega)]; omega
          have qw : wrap64 (a : Int) = (a : Int) := by unfold wrap64; omega
          by_cases h2 : (a : Int) = 2
          · rw [if_pos h2] at F0
            have F := Lib.hid F0
            have g2 : ((a : Int) == 2) = true := by rw [beq_iff_eq]; exact h2
            clear F0 h2 hac s1 s2 ha4 hc4 g1
            go_wp2
            exact bodyPost_ret (results_tmp4 rfl _ _ _) rfl (rtake_at F.out (Nat.add_zero _) BW.out)
          · rw [if_neg h2] at F0
            have F := Lib.hid F0
            have g2 : ((a : Int) == 2) = false := by rw [beq_eq_false_iff_ne]; exact h2
            clear F0 h2 hac s1 s2 ha4 hc4 g1
            go_wp2
            rw [qw]
            exact bodyPost_ret (results_tmp4 rfl _ _ _) rfl (rtake_at F.out rfl BW.out)
      · have hn : n = 0 := by
          rcases hcd with h | h | h
          · exact absurd h h0
          · exact h.2
          · exact h.2
        subst hn
        have F := Lib.hid (mtk_not inter HK.out h0)
        have g0 : (f != 0) = true := by rw [bne_iff_ne]; exact h0
        clear h0 hcd
        go_wp2
        exact bodyPost_ret (results_tmp4 rfl _ _ _) rfl (rtake_at F.out (Nat.add_zero _) BW.out)
end Go.Proofs.YtoacbdaamdodaaaDoor
