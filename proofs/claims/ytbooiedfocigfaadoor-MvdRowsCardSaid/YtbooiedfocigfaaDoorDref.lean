/- The document's own answers of layer 8 (mvd): the row of a difference, and what is taken of a row of bits. Conditions: bits of at most 2^20 digits. -/
import Derived.Test.YtbooiedfocigfaaDoorDtk
import Derived.Test.YtbooiedfocigfaaDoorTref
import Derived.WalkMore
import Derived.IntWalk
namespace Go.Proofs.YtbooiedfocigfaaDoor
open Go.RowKit Go.Lib

/-- The amounts' rows, as the page has them. -/
def refA : List ByteArray := [⟨#[49]⟩, ⟨#[48, 49]⟩, ⟨#[48, 48, 49]⟩, ⟨#[48, 48, 48, 49]⟩, ⟨#[48, 48, 48, 48, 49, 49]⟩, ⟨#[48, 48, 48, 48, 49, 48, 49]⟩, ⟨#[48, 48, 48, 48, 49, 48, 48]⟩, ⟨#[48, 48, 48, 48, 48, 49, 49]⟩, ⟨#[48, 48, 48, 48, 48, 49, 48, 49, 49]⟩, ⟨#[48, 48, 48, 48, 48, 49, 48, 49, 48]⟩, ⟨#[48, 48, 48, 48, 48, 49, 48, 48, 49]⟩, ⟨#[48, 48, 48, 48, 48, 49, 48, 48, 48, 49]⟩, ⟨#[48, 48, 48, 48, 48, 49, 48, 48, 48, 48]⟩, ⟨#[48, 48, 48, 48, 48, 48, 49, 49, 49, 49]⟩, ⟨#[48, 48, 48, 48, 48, 48, 49, 49, 49, 48]⟩, ⟨#[48, 48, 48, 48, 48, 48, 49, 49, 48, 49]⟩, ⟨#[48, 48, 48, 48, 48, 48, 49, 49, 48, 48]⟩, ⟨#[48, 48, 48, 48, 48, 48, 49, 48, 49, 49]⟩, ⟨#[48, 48, 48, 48, 48, 48, 49, 48, 49, 48]⟩, ⟨#[48, 48, 48, 48, 48, 48, 49, 48, 48, 49]⟩, ⟨#[48, 48, 48, 48, 48, 48, 49, 48, 48, 48]⟩, ⟨#[48, 48, 48, 48, 48, 48, 48, 49, 49, 49]⟩, ⟨#[48, 48, 48, 48, 48, 48, 48, 49, 49, 48]⟩, ⟨#[48, 48, 48, 48, 48, 48, 48, 49, 48, 49]⟩, ⟨#[48, 48, 48, 48, 48, 48, 48, 49, 48, 48]⟩, ⟨#[48, 48, 48, 48, 48, 48, 48, 48, 49, 49, 49]⟩, ⟨#[48, 48, 48, 48, 48, 48, 48, 48, 49, 49, 48]⟩, ⟨#[48, 48, 48, 48, 48, 48, 48, 48, 49, 48, 49]⟩, ⟨#[48, 48, 48, 48, 48, 48, 48, 48, 49, 48, 48]⟩, ⟨#[48, 48, 48, 48, 48, 48, 48, 48, 48, 49, 49]⟩, ⟨#[48, 48, 48, 48, 48, 48, 48, 48, 48, 49, 48]⟩, ⟨#[48, 48, 48, 48, 48, 48, 48, 48, 48, 48, 49, 49]⟩, ⟨#[48, 48, 48, 48, 48, 48, 48, 48, 48, 48, 49, 48]⟩]
theorem refA_len : refA.length = 33 := rfl
theorem refA_rows : ∀ i, (h : i < 33) → (refA[i]'(by rw [refA_len]; exact h)).data.toList = ampL i := by decide +kernel
theorem refA_at {i : Nat} (h : i < 33) : refA[i]'(by rw [refA_len]; exact h) = ⟨(ampL i).toArray⟩ := ba_eq.2 (refA_rows i h)
theorem refA_size {i : Nat} (h : i < 33) : (refA[i]'(by rw [refA_len]; exact h)).size ≤ 12 := by
  rw [refA_at h, size_mk, ampL_length]
  exact (amount_fits i h).2.1
theorem diff_zero : diffAt 0 = ⟨(ampL 0).toArray⟩ := ba_eq.2 amp_zero.symm
theorem diff_up {i : Nat} (h : i < 32) (h0 : 0 < i) : diffAt (i : Int) = ⟨(ampL i).toArray⟩ ++ ⟨#[48]⟩ := by
  rw [show (⟨#[48]⟩ : ByteArray) = ⟨[48].toArray⟩ from rfl, bytes_append, amp_up i h h0]
  refine ba_eq.2 ?_
  show _ = (diffAt (((32 + i : Nat) : Int) - 32)).data.toList
  rw [show ((32 + i : Nat) : Int) - 32 = i by omega]
theorem diff_down {i : Nat} (h : i < 33) (h0 : 0 < i) : diffAt (-(i : Int)) = ⟨(ampL i).toArray⟩ ++ ⟨#[49]⟩ := by
  rw [show (⟨#[49]⟩ : ByteArray) = ⟨[49].toArray⟩ from rfl, bytes_append, amp_down i h h0]
  refine ba_eq.2 ?_
  show _ = (diffAt (((32 - i : Nat) : Int) - 32)).data.toList
  rw [show ((32 - i : Nat) : Int) - 32 = -(i : Int) by omega]
set_option maxRecDepth 100000 in
set_option maxHeartbeats 1000000 in
theorem amounts_page (w : World) : Calls Tryd.prog 19 #[] w fun e w' => e = .returned (.slice (some ⟨w.heap.size, 0, none⟩) 33 33) ∧ Strs w' (some ⟨w.heap.size, 0, none⟩) refA ∧ Below w.heap.size w w' := by
  go_enter Tryd.func19, Tryd.ntmps19
  go_wp2
  go_ret
  exact ⟨rfl, strs_blockP (T := 9) (l := refA) (heap_alloc_new w _), (Below.refl _ w).alloc (Nat.le_refl _) _⟩
set_option maxRecDepth 100000 in
set_option maxHeartbeats 2000000 in
theorem drow_page (d : Int) (w : World) : Calls Tryd.prog 7 #[.int .i64 d] w fun e w' => e = .returned (.string (diffAt d)) ∧ Below w.heap.size w w' := by
  by_cases h0 : d < -32
  · have F := Lib.hid (diffAt_out (d := d) (.inl h0))
    have t0 : decide (d < -32) = true := by simpa using h0
    clear h0
    rw [F.out]
    go_enter Tryd.func7, Tryd.ntmps7
    go_wp2
    go_ret
    exact ⟨rfl, Below.refl _ _⟩
  by_cases h1 : 31 < d
  · have F := Lib.hid (diffAt_out (d := d) (.inr h1))
    have t0 : decide (d < -32) = false := by simpa using h0
    have t1 : decide (31 < d) = true := by simpa using h1
    clear h0 h1
    rw [F.out]
    go_enter Tryd.func7, Tryd.ntmps7
    go_wp2
    go_ret
    exact ⟨rfl, Below.refl _ _⟩
  have t0 : decide (d < -32) = false := by simpa using h0
  have t1 : decide (31 < d) = false := by simpa using h1
  by_cases h2 : d < 0
  · obtain ⟨a, ha⟩ : ∃ a : Nat, (-d).toNat = a := ⟨_, rfl⟩
    have e2 : -d = (a : Int) := by omega
    have hj : a < 33 := by omega
    have F := Lib.hid (show diffAt d = refA[a]'(by rw [refA_len]; exact hj) ++ ⟨#[49]⟩ by rw [refA_at hj, ← diff_down hj (by omega)]; congr 1; omega)
    have t2 : decide (d < 0) = true := by simpa using h2
    obtain ⟨r, hr2⟩ : ∃ r, refA[a]'(by rw [refA_len]; exact hj) = r := ⟨_, rfl⟩
    have hsz := refA_size hj
    rw [hr2] at F hsz
    clear h0 h1 h2 ha
    rw [F.out]
    go_enter Tryd.func7, Tryd.ntmps7
    go_wp2_with fail
    refine (amounts_page _).mono ?_
    rintro e w1 ⟨rfl, hst, hb⟩
    obtain ⟨b, o, e, _, hc⟩ := hst.at (by rw [refA_len]; omega)
    cases e
    have c0 : w1.cell? ⟨w.heap.size, 0 + a, none⟩ = some (.string r) := (hc a hj).trans (congrArg (fun x => some (Value.string x)) hr2)
    rw [Nat.zero_add] at c0
    clear hc
    go_wp2
    go_ret
    exact ⟨rfl, hb⟩
  · have t2 : decide (d < 0) = false := by simpa using h2
    by_cases h3 : 0 < d
    · obtain ⟨a, ha⟩ : ∃ a : Nat, d.toNat = a := ⟨_, rfl⟩
      obtain rfl : d = (a : Int) := by omega
      have hj : a < 33 := by omega
      have ha0 : 0 < a := by omega
      have F := Lib.hid (show diffAt (a : Int) = refA[a]'(by rw [refA_len]; exact hj) ++ ⟨#[48]⟩ by rw [refA_at hj, ← diff_up (by omega) ha0])
      obtain ⟨r, hr2⟩ : ∃ r, refA[a]'(by rw [refA_len]; exact hj) = r := ⟨_, rfl⟩
      have hsz := refA_size hj
      rw [hr2] at F hsz
      clear h0 h1 h2 h3 ha
      rw [F.out]
      go_enter Tryd.func7, Tryd.ntmps7
      go_wp2_with fail
      refine (amounts_page _).mono ?_
      rintro e w1 ⟨rfl, hst, hb⟩
      obtain ⟨b, o, e, _, hc⟩ := hst.at (by rw [refA_len]; omega)
      cases e
      have c0 : w1.cell? ⟨w.heap.size, 0 + a, none⟩ = some (.string r) := (hc a hj).trans (congrArg (fun x => some (Value.string x)) hr2)
      rw [Nat.zero_add] at c0
      clear hc
      go_wp2
      go_ret
      exact ⟨rfl, hb⟩
    · obtain rfl : d = 0 := by omega
      have F := Lib.hid (show diffAt 0 = refA[0]'(by decide) by rw [refA_at (by decide), diff_zero])
      clear h0 h1 h2 h3 t0 t1 t2
      rw [F.out]
      go_enter Tryd.func7, Tryd.ntmps7
      go_wp2_with fail
      refine (amounts_page _).mono ?_
      rintro e w1 ⟨rfl, hst, hb⟩
      obtain ⟨b, o, e, _, hc⟩ := hst.at (by rw [refA_len]; omega)
      cases e
      have c0 := hc 0 (by decide)
      rw [Nat.zero_add] at c0
      clear hc
      go_wp2
      go_ret
      exact ⟨rfl, hb⟩

/-! ### What is taken -/
/-- The rows of the first i differences. -/
def strD (i : Nat) : List ByteArray := (List.range i).map fun j => (cellD j).1
theorem strD_len (i : Nat) : (strD i).length = i := by simp [strD]
theorem strD_more (i : Nat) : strD (i + 1) = strD i ++ [(cellD i).1] := by
  unfold strD
  rw [List.range_succ, List.map_append]
  rfl
theorem strD_rows : (strD 64).map (fun x => x.data.toList) = rowsD := by
  unfold strD rowsD allD
  rw [List.map_map, List.map_map]
  rfl
theorem strD_get {i : Nat} (h : i < (strD 64).length) : (strD 64)[i].data.toList = rowC (cellD i) := by
  have : (strD 64)[i] = (cellD i).1 := by simp [strD]
  rw [this]
  rfl
/-- What the document's Take gives. -/
def DRTake (b : List UInt8) (at_ : Nat) (w : World) (e : Ending) (w' : World) : Prop :=
  e = .returned (.tuple #[.int .i64 (dtk b).1, .int .i64 ((at_ + (dtk b).2.2 : Nat) : Int), .int .i64 (dtk b).2.1]) ∧ Below w.heap.size w w'
theorem drtake_at {bs : List UInt8} {at_ n z : Nat} {w w' : World} {a f : Int} (h : dtk bs = (a, f, n)) (ht : at_ + n = z) (hb : Below w.heap.size w w') :
    DRTake bs at_ w (.returned (.tuple #[.int .i64 a, .int .i64 (z : Int), .int .i64 f])) w' := by
  subst ht
  unfold DRTake
  rw [h]
  exact ⟨rfl, hb⟩
set_option maxRecDepth 100000 in
set_option maxHeartbeats 4000000 in
theorem drtake_page (s : ByteArray) (at_ : Nat) (w : World) (hs : s.size ≤ 1048576) (ha : at_ ≤ s.size) :
    Calls Tryd.prog 12 #[.string s, .int .i64 (at_ : Int)] w (DRTake (s.data.toList.drop at_) at_ w) := by
  obtain ⟨i0, hi, jz0, jz1, jz2⟩ := info_parts info_str
  obtain ⟨bs, hbs⟩ : ∃ bs, s.data.toList.drop at_ = bs := ⟨_, rfl⟩
  have hcon := fun (q : Option Addr) (cq : Nat) (x : World) (hq : Strs x q (strD 64)) => tref0_page (strD 64) q cq s at_ x hq (by rw [strD_len]; decide) hs ha
  rw [strD_len] at hcon
  rw [hbs] at hcon ⊢
  clear hbs
  obtain ⟨f, n, hk⟩ : ∃ f n, tk rowsD bs 25 1 = (f, n) := ⟨_, _, rfl⟩
  have hcd := tk_codes rowsD bs 25 1
  have HK := Lib.hid hk
  have HR : Hid (tk ((strD 64).map fun x => x.data.toList) bs 25 1 = (f, n)) := Lib.hid (by rw [strD_rows]; exact hk)
  rw [hk] at hcd
  have HCD := Lib.hid hcd
  have HCON := Lib.hid hcon
  clear hk hcd hcon
  obtain ⟨B, hB⟩ : ∃ B, w.heap.size = B := ⟨_, rfl⟩
  have HB := Lib.hid hB
  have hb0 : Below B w w := Below.refl _ _
  have hz0 : B ≤ w.heap.size := by omega
  have hown0 : w.ownsRow B 9 1 (.slice none 0 0) 0 (strCells (strD 0)) := World.ownsRow_nil _ _ _ _
  clear hB
  go_enter Tryd.func12, Tryd.ntmps12
  go_wp2
  go_loopw [7, 8] (fun u v wr => ∃ i : Nat, i ≤ 64 ∧ v = .int .i64 ((i : Int) - 32) ∧ wr.ownsRow B 9 1 u i (strCells (strD i)) ∧ Below B w wr ∧ B ≤ wr.heap.size) (fun _ v _ => (32 - intOf v).toNat)
  case atStart => exact ⟨0, by omega, rfl, hown0, hb0, hz0⟩
  case round =>
    clear hown0 hb0 hz0
    obtain ⟨i, hi64, rfl, hu, hb, hz⟩ := hrel
    by_cases hlt : i < 64
    · have hcon := fun (x : World) => drow_page ((i : Int) - 32) x
      obtain ⟨y, hy⟩ : ∃ y, diffAt ((i : Int) - 32) = y := ⟨_, rfl⟩
      have SM := Lib.hid (show strCells (strD (i + 1)) = strCells (strD i) ++ [.string y] by rw [strD_more, strCells_snoc, ← hy]; rfl)
      rw [hy] at hcon
      have t0 : decide ((i : Int) - 32 ≤ 31) = true := by simp; omega
      clear hy
      have hun : ∀ x, Below wr.heap.size wr x → x.ownsRow B 9 1 u7 i (strCells (strD i)) := fun x hx => hu.kept (below_grownBy hx none) (Classical.em _)
      have UN := Lib.hid hun
      have hw : IntKind.i64.wrap ((i : Int) - 32 + 1) = ((i + 1 : Nat) : Int) - 32 := (IntWalk.i64_in _ (by omega)).trans (by omega)
      clear hu hun
      go_wp2_with (first
        | (go_at_call 7; refine (hcon _).mono ?_; rintro e w1 ⟨rfl, hb1⟩; have hu1 := UN.out _ hb1; have hb2 := hb.trans (hb1.mono hz); have hz2 : B ≤ w1.heap.size := Nat.le_trans hz hb1.size)
        | (at_builtin; refine wp_append_str (y0 := y) rfl rfl Tryd.underlying44 hi jz0 rfl jz1 jz2 rfl (hu1.alloc _) rfl ?d1 ?d2 ?d3 ?_; (case d1 => go_cell); (case d2 => omega); (case d3 => (simp; omega)); intro v2 w2 hu4 hgrow; have hg4 : World.grownBy _ w2 (Value.ownBlock u7) := hgrow; have hb4 := (hb2.alloc hz2 _).grown hg4 (by simp; omega) (owns_fresh hu1); have hz4 : B ≤ w2.heap.size := Nat.le_trans (by simp; omega) hg4.size; clear hgrow))
      go_roundw
      case rel => exact ⟨i + 1, by omega, by go_num, by rw [SM.out]; exact hu4, hb4, hz4⟩
      case measure => simp [intOf]; omega
    · obtain rfl : i = 64 := by omega
      have hu' : wr.ownsRow B 9 1 u7 (strD 64).length (strCells (strD 64)) := by rw [strD_len]; exact hu
      obtain ⟨q, cq, rfl, hq⟩ := owns_strs hu'
      rw [strD_len]
      have t0 : decide (((64 : Nat) : Int) - 32 ≤ 31) = false := by decide
      clear hu hu'
      by_cases h0 : f = 0
      · subst h0
        go_wp2_with fail
        refine (HCON.out _ _ _ hq).mono ?_
        rintro e w2 ⟨j, rfl, hj0, _, hb2⟩
        rw [HR.out] at hj0 ⊢
        obtain ⟨hjl, hjr⟩ := hj0 rfl
        have hj64 : j < 64 := by rw [strD_len] at hjl; exact hjl
        have F := Lib.hid (gtk_yes allD_free HK.out (cellD_all hj64) (by rw [← strD_get hjl]; exact hjr))
        have hb3 := hb.trans (hb2.mono hz)
        clear hjr hj0
        go_wp2
        go_ret3
        exact drtake_at F.out rfl (by rw [HB.out]; exact hb3)
      · have hn : n = 0 := by
          rcases HCD.out with h | h | h
          · exact absurd h h0
          · exact h.2
          · exact h.2
        subst hn
        have F := Lib.hid (gtk_not (all := allD) HK.out h0)
        have g0 : (f == 0) = false := by rw [beq_eq_false_iff_ne]; exact h0
        have H0 := Lib.hid h0
        clear h0
        go_wp2_with fail
        refine (HCON.out _ _ _ hq).mono ?_
        rintro e w2 ⟨j, rfl, _, hj0, hb2⟩
        rw [HR.out] at hj0 ⊢
        obtain rfl := hj0 H0.out
        have hb3 := hb.trans (hb2.mono hz)
        clear hj0
        go_wp2
        go_ret3
        exact drtake_at F.out (Nat.add_zero _) (by rw [HB.out]; exact hb3)
end Go.Proofs.YtbooiedfocigfaaDoor
