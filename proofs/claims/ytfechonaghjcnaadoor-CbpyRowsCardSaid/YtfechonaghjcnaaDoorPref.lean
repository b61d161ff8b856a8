/- The document's own answers of layer 7 (cbpy): the row of a pattern, and what is taken of a row of bits. Conditions: bits of at most 2^20 digits. -/
import Derived.Test.YtfechonaghjcnaaDoorPtk
import Derived.Test.YtfechonaghjcnaaDoorRef5
import Derived.WalkMore
import Derived.IntWalk
namespace Go.Proofs.YtfechonaghjcnaaDoor
open Go.RowKit Go.Lib

/-- The rows of cells that are not intra, as the page has them. -/
def refP : List ByteArray := [⟨#[49, 49]⟩, ⟨#[48, 49, 49, 48]⟩, ⟨#[49, 48, 48, 48]⟩, ⟨#[48, 49, 48, 48]⟩, ⟨#[49, 48, 49, 48]⟩, ⟨#[48, 49, 48, 49]⟩, ⟨#[48, 48, 48, 48, 49, 49]⟩, ⟨#[48, 48, 48, 49, 48]⟩, ⟨#[49, 48, 49, 49]⟩, ⟨#[48, 48, 48, 48, 49, 48]⟩, ⟨#[48, 49, 49, 49]⟩, ⟨#[48, 48, 48, 49, 49]⟩, ⟨#[49, 48, 48, 49]⟩, ⟨#[48, 48, 49, 48, 48]⟩, ⟨#[48, 48, 49, 48, 49]⟩, ⟨#[48, 48, 49, 49]⟩]
theorem refP_len : refP.length = 16 := rfl
theorem refP_at : ∀ i, (h : i < 16) → refP[i]'(by rw [refP_len]; exact h) = patL[15 - i]'(by rw [patL_len]; omega) := by decide +kernel
theorem refP_rows : refP.map (fun x => x.data.toList) = ((allP true).map rowC).reverse := by decide +kernel
theorem allP_rows (intra : Bool) : (allP intra).map rowC = (allP true).map rowC := by
  cases intra
  · decide +kernel
  · rfl
/-- What stands at the head of some bits, by the page's rows. -/
theorem tk_refP (intra : Bool) (b : List UInt8) : tk (refP.map fun x => x.data.toList) b 25 1 = tk ((allP intra).map rowC) b 25 1 := by
  rw [refP_rows, tk_perm (List.reverse_perm _), allP_rows intra]
theorem strs_blockP {w : World} {b : Nat} {l : List ByteArray} {T : TypeId} (h : w.heap[b]? = some (.cells (l.map Value.string).toArray T (0, 0))) : Strs w (some ⟨b, 0, none⟩) l := by
  refine .inr ⟨b, 0, rfl, (Array.getElem?_eq_some_iff.1 h).1, fun i hi => ?_⟩
  rw [Nat.zero_add]
  exact part_cells h (by simp [hi])
set_option maxHeartbeats 1000000 in
theorem prows_page (w : World) : Calls Tryd.prog 18 #[] w fun e w' => e = .returned (.slice (some ⟨w.heap.size, 0, none⟩) 16 16) ∧ Strs w' (some ⟨w.heap.size, 0, none⟩) refP ∧ Below w.heap.size w w' := by
  go_enter Tryd.func18, Tryd.ntmps18
  go_wp2
  go_ret
  exact ⟨rfl, strs_blockP (T := 9) (l := refP) (heap_alloc_new w _), (Below.refl _ w).alloc (Nat.le_refl _) _⟩
set_option maxRecDepth 100000 in
set_option maxHeartbeats 2000000 in
theorem prow_page (intra : Bool) (k : Int) (w : World) : Calls Tryd.prog 7 #[.bool intra, .int .i64 k] w fun e w' => e = .returned (.string (patAt intra k)) ∧ Below w.heap.size w w' := by
  by_cases h0 : k < 0
  · have F := Lib.hid (patAt_out (intra := intra) (.inl h0))
    have t0 : decide (k < 0) = true := by simpa using h0
    clear h0
    rw [F.out]
    go_enter Tryd.func7, Tryd.ntmps7
    go_wp2
    go_ret
    exact ⟨rfl, Below.refl _ _⟩
  by_cases h4 : 15 < k
  · have F := Lib.hid (patAt_out (intra := intra) (k := k) (.inr (by omega)))
    have t0 : decide (k < 0) = false := by simpa using h0
    have t1 : decide (15 < k) = true := by simpa using h4
    clear h0 h4
    rw [F.out]
    go_enter Tryd.func7, Tryd.ntmps7
    go_wp2
    go_ret
    exact ⟨rfl, Below.refl _ _⟩
  obtain ⟨a, rfl⟩ : ∃ a : Nat, k = a := ⟨k.toNat, by omega⟩
  have t0 : decide ((a : Int) < 0) = false := by simp
  have t1 : decide (15 < (a : Int)) = false := by simp; omega
  have ha : a < 16 := by omega
  have F0 := patAt_in (intra := intra) ha rfl
  cases intra with
  | true =>
    have hj : 15 - a < refP.length := by rw [refP_len]; omega
    have F := Lib.hid (F0.trans (show patL[sameN true a]'_ = refP[15 - a]'hj by rw [refP_at (15 - a) (by omega)]; congr 1; show a = _; omega))
    have e15 : (15 : Int) - a = ((15 - a : Nat) : Int) := by omega
    clear F0 h0 h4
    rw [F.out]
    go_enter Tryd.func7, Tryd.ntmps7
    go_wp2_with fail
    refine (prows_page _).mono ?_
    rintro e w1 ⟨rfl, hst, hb⟩
    obtain ⟨b, o, e, _, hc⟩ := hst.at (by rw [refP_len]; omega)
    cases e
    have c0 := hc (15 - a) hj
    rw [Nat.zero_add] at c0
    clear hc
    obtain ⟨m, hm⟩ : ∃ m, 15 - a = m := ⟨_, rfl⟩
    rw [hm] at e15
    simp only [hm] at c0
    go_wp2
    go_ret
    subst hm
    exact ⟨rfl, hb⟩
  | false =>
    have hj : a < refP.length := by rw [refP_len]; omega
    have F := Lib.hid (F0.trans (show patL[sameN false a]'_ = refP[a]'hj by rw [refP_at a ha]; rfl))
    clear F0 h0 h4
    rw [F.out]
    go_enter Tryd.func7, Tryd.ntmps7
    go_wp2_with fail
    refine (prows_page _).mono ?_
    rintro e w1 ⟨rfl, hst, hb⟩
    obtain ⟨b, o, e, _, hc⟩ := hst.at (by rw [refP_len]; omega)
    cases e
    have c0 := hc a hj
    rw [Nat.zero_add] at c0
    clear hc
    go_wp2
    go_ret
    exact ⟨rfl, hb⟩
/-- What the document's Take gives. -/
def PRTake (intra : Bool) (b : List UInt8) (at_ : Nat) (w : World) (e : Ending) (w' : World) : Prop :=
  e = .returned (.tuple #[.int .i64 (ptk intra b).1, .int .i64 ((at_ + (ptk intra b).2.2 : Nat) : Int), .int .i64 (ptk intra b).2.1]) ∧ Below w.heap.size w w'
theorem prtake_at {intra : Bool} {bs : List UInt8} {at_ n z : Nat} {w w' : World} {a f : Int} (h : ptk intra bs = (a, f, n)) (ht : at_ + n = z) (hb : Below w.heap.size w w') :
    PRTake intra bs at_ w (.returned (.tuple #[.int .i64 a, .int .i64 (z : Int), .int .i64 f])) w' := by
  subst ht
  unfold PRTake
  rw [h]
  exact ⟨rfl, hb⟩
set_option maxRecDepth 100000 in
set_option maxHeartbeats 4000000 in
theorem prtake_page (intra : Bool) (s : ByteArray) (at_ : Nat) (w : World) (hs : s.size ≤ 1048576) (ha : at_ ≤ s.size) :
    Calls Tryd.prog 12 #[.string s, .int .i64 (at_ : Int), .bool intra] w (PRTake intra (s.data.toList.drop at_) at_ w) := by
  obtain ⟨bs, hbs⟩ : ∃ bs, s.data.toList.drop at_ = bs := ⟨_, rfl⟩
  have hcon := fun (q : Option Addr) (x : World) (hq : Strs x q refP) => tref0_page refP q 16 s at_ x hq (by decide) hs ha
  rw [refP_len] at hcon
  rw [hbs] at hcon ⊢
  clear hbs
  obtain ⟨f, n, hk⟩ : ∃ f n, tk ((allP intra).map rowC) bs 25 1 = (f, n) := ⟨_, _, rfl⟩
  have hcd := tk_codes ((allP intra).map rowC) bs 25 1
  have HK := Lib.hid hk
  have HR := Lib.hid ((tk_refP intra bs).trans hk)
  rw [hk] at hcd
  clear hk
  by_cases h0 : f = 0
  · subst h0
    clear hcd
    have hval : ∀ j : Nat, (∃ h : j < refP.length, refP[j].data.toList = bs.take n) → j < 16 ∧ ptk intra bs = (if intra then 15 - (j : Int) else (j : Int), 0, n) := by
      rintro j ⟨hj, hjr⟩
      have hj16 : j < 16 := hj
      refine ⟨hj16, ?_⟩
      have hrow : rowC (cellP intra (15 - j)) = bs.take n := by
        rw [cellP_row intra (15 - j) (by omega), ← hjr, refP_at j hj16]
        rfl
      rw [ptk_yes intra HK.out (cellP_all intra (i := 15 - j) (by omega)) hrow, cellP_row intra (15 - j) (by omega)]
      unfold sameN
      cases intra
      · simp; omega
      · simp; omega
    have HV := Lib.hid hval
    clear hval
    cases intra with
    | true =>
      go_enter Tryd.func12, Tryd.ntmps12
      go_wp2_with fail
      refine (prows_page _).mono ?_
      rintro e w1 ⟨rfl, hst, hb1⟩
      go_wp2_with fail
      refine (hcon _ _ hst).mono ?_
      rintro e w2 ⟨j, rfl, hj0, _, hb2⟩
      rw [HR.out] at hj0 ⊢
      obtain ⟨hj16, hv⟩ := HV.out j (hj0 rfl)
      have F := Lib.hid hv
      have hb := hb1.trans (hb2.mono hb1.size)
      clear hv hj0 hst hb1 hb2
      go_wp2
      go_ret3
      exact prtake_at F.out rfl hb
    | false =>
      go_enter Tryd.func12, Tryd.ntmps12
      go_wp2_with fail
      refine (prows_page _).mono ?_
      rintro e w1 ⟨rfl, hst, hb1⟩
      go_wp2_with fail
      refine (hcon _ _ hst).mono ?_
      rintro e w2 ⟨j, rfl, hj0, _, hb2⟩
      rw [HR.out] at hj0 ⊢
      obtain ⟨hj16, hv⟩ := HV.out j (hj0 rfl)
      have F := Lib.hid hv
      have hb := hb1.trans (hb2.mono hb1.size)
      clear hv hj0 hst hb1 hb2
      go_wp2
      go_ret3
      exact prtake_at F.out rfl hb
  · have hn : n = 0 := by
      rcases hcd with h | h | h
      · exact absurd h h0
      · exact h.2
      · exact h.2
    subst hn
    have F := Lib.hid (ptk_not intra HK.out h0)
    have H0 := Lib.hid h0
    have g0 : (f == 0) = false := by rw [beq_eq_false_iff_ne]; exact h0
    clear h0 hcd
    go_enter Tryd.func12, Tryd.ntmps12
    go_wp2_with fail
    refine (prows_page _).mono ?_
    rintro e w1 ⟨rfl, hst, hb1⟩
    go_wp2_with fail
    refine (hcon _ _ hst).mono ?_
    rintro e w2 ⟨j, rfl, _, hj0, hb2⟩
    rw [HR.out] at hj0 ⊢
    obtain rfl := hj0 H0.out
    have hb := hb1.trans (hb2.mono hb1.size)
    clear hj0 hst hb1 hb2
    go_wp2
    go_ret3
    exact prtake_at F.out (Nat.add_zero _) hb
end Go.Proofs.YtfechonaghjcnaaDoor
