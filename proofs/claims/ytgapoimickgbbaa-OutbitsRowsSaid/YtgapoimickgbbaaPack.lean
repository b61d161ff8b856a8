/- What Pack of package outbits tells, and that the chapter's examples come out. Conditions: fewer than 2^40 digits. -/
import Derived.Test.YtgapoimickgbbaaText
import Derived.Test.YtgapoimickgbbaaLaws
namespace Go.Proofs.Ytgapoimickgbbaa
open Go.RowKit

theorem text_nil (w : World) : Calls Try.prog 20 #[.pointer none] w fun e w' => e = .returned (.string ⟨#[]⟩) ∧ w = w' := by
  go_enter Try.func20, Try.ntmps20
  go_wp2
  go_ret
  exact ⟨rfl, rfl⟩
set_option maxHeartbeats 1000000 in
theorem pack_code (w : World) (s : ByteArray) (hs : isRow s.data.toList = true) (hn : s.size ≤ 1099511627776) :
    Calls Try.prog 10 #[.string s] w fun e w' => e = .returned (.tuple #[.string ⟨(packL s.data.toList).toArray⟩, .int .i64 0]) ∧ Below w.heap.size w w' := by
  have HS := Lib.hid hs
  have hw0 : IsWr (w.alloc newWr) (w.heap.size + 1) w.heap.size [] := IsWr.fresh rfl (Nat.lt_succ_self _)
  have hb0 : Below w.heap.size w (w.alloc newWr) := (Below.refl _ w).alloc (Nat.le_refl _) _
  have hsz : (w.alloc newWr).heap.size = w.heap.size + 1 := by simp
  have SZ := Lib.hid hsz
  clear hs hsz
  go_enter Try.func10, Try.ntmps10
  go_wp2_with fail
  refine (new_code _).mono ?_
  rintro e w1 ⟨rfl, rfl⟩
  go_wp2_with fail
  refine (add_code _ (w.heap.size + 1) w.heap.size [] s hw0 HS.out (by simp; omega) (by rw [SZ.out]; exact Nat.le_refl _)).mono ?_
  rintro e w2 ⟨rfl, hw2, hg2⟩
  have hb2 : Below w.heap.size w w2 := hb0.grown hg2 (by rw [SZ.out]; omega) (by intro k hk; injection hk with hk; omega)
  have hsz2 := hb2.size
  rw [List.nil_append] at hw2
  go_wp2_with fail
  refine (text_code _ _ _ _ hw2 (by show s.data.size ≤ _; exact hn)).mono ?_
  rintro e w3 ⟨rfl, hb3⟩
  go_wp2
  go_ret2
  exact ⟨rfl, hb2.trans (hb3.mono (by omega))⟩
set_option maxHeartbeats 1000000 in
theorem pack_none (w : World) (s : ByteArray) (hs : isRow s.data.toList = false) :
    Calls Try.prog 10 #[.string s] w fun e w' => e = .returned (.tuple #[.string ⟨#[]⟩, .int .i64 1]) ∧ Below w.heap.size w w' := by
  have HS := Lib.hid hs
  have hw0 : IsWr (w.alloc newWr) (w.heap.size + 1) w.heap.size [] := IsWr.fresh rfl (Nat.lt_succ_self _)
  have hb0 : Below w.heap.size w (w.alloc newWr) := (Below.refl _ w).alloc (Nat.le_refl _) _
  have hsz : (w.alloc newWr).heap.size = w.heap.size + 1 := by simp
  have SZ := Lib.hid hsz
  clear hs hsz
  go_enter Try.func10, Try.ntmps10
  go_wp2_with fail
  refine (new_code _).mono ?_
  rintro e w1 ⟨rfl, rfl⟩
  go_wp2_with fail
  refine (add_none _ w.heap.size s HS.out).mono ?_
  rintro e w2 ⟨rfl, hb2⟩
  have hw2 := hw0.below hb2
  have hb2' : Below w.heap.size w w2 := hb0.trans (hb2.mono (by rw [SZ.out]; omega))
  have hsz2 := hb2'.size
  clear hb2
  go_wp2_with fail
  refine (text_code _ _ _ _ hw2 (by simp)).mono ?_
  rintro e w3 ⟨rfl, hb3⟩
  go_wp2
  go_ret2
  exact ⟨rfl, hb2'.trans (hb3.mono (by omega))⟩

theorem row54 : rowOf (5 : Int).toNat (4 : Int).toNat = [48, 49, 48, 49] := by decide
theorem pack101 : packL [49, 48, 49] = [160] := by decide
set_option maxHeartbeats 1000000 in
theorem lives2 (w : World) : Calls Try.prog 6 #[] w fun e w' => e = .returned (.bool true) ∧ Below w.heap.size w w' := by
  go_enter Try.func6, Try.ntmps6
  go_wp2_with fail
  refine (row_code 5 4 _ (by decide) (by decide)).mono ?_
  rintro e w1 ⟨rfl, hb1⟩
  rw [row54]
  have hsz := hb1.size
  go_wp2_with fail
  refine (pack_code _ ⟨#[49, 48, 49]⟩ (by decide) (by decide)).mono ?_
  rintro e w2 ⟨rfl, hb2⟩
  rw [show (⟨#[49, 48, 49]⟩ : ByteArray).data.toList = [49, 48, 49] from rfl, pack101]
  go_wp2
  go_ret
  exact ⟨rfl, hb1.trans (hb2.mono hsz)⟩
end Go.Proofs.Ytgapoimickgbbaa
