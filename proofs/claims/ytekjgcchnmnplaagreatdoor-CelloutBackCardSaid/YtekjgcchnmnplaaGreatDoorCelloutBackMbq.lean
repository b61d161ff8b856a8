/- Texts that CelloutBack's proof stands on, part 43 of 45. No condition of its own. -/
import Derived.Test.YtekjgcchnmnplaaGreatDoorCelloutBackMj
import Derived.Test.YtekjgcchnmnplaaGreatDoorCelloutBackMo
import Derived.Test.YtekjgcchnmnplaaGreatDoorCelloutBackMbm
import Derived.Test.YtekjgcchnmnplaaGreatDoorCelloutBackMbo
namespace Go.Proofs.YtekjgcchnmnplaaGreatDoor
theorem app_pre (r m : List UInt8) : r.isPrefixOf (r ++ m) = true := List.isPrefixOf_iff_prefix.2 (List.prefix_append _ _)
theorem mtk_head (inter : Bool) (a b : Int) (r : ByteArray) (hr : rowAt inter a b = r) (hne : r.data.toList.isEmpty = false) (m : List UInt8) :
  mtk inter (r.data.toList ++ m) = if a = 2 then (0, 0, 6, 0) else (a, b, 0, r.size) := by
 by_cases hn : a < 0 ∨ 5 < a ∨ b < 0 ∨ 3 < b ∨ (a = 5 ∧ 0 < b)
 ·rw [rowAt_not hn] at hr
  rw [← hr] at hne
  cases hne
 obtain ⟨k, rfl⟩ : ∃ k : Nat, a = k := ⟨a.toNat, by omega⟩
 obtain ⟨c, rfl⟩ : ∃ c : Nat, b = c := ⟨b.toNat, by omega⟩
 obtain ⟨e1, e2, e3⟩ := cellC_at inter k c (by omega) (by omega)
 rw [hr] at e1
 have hrow : rowCY (cellC inter (4 * k + c)) = r.data.toList := by unfold rowCY; rw [e1]
 have hx : cellC inter (4 * k + c) ∈ allC inter := cellC_all (by omega) (by rw [hrow, hne]; rfl)
 obtain ⟨h1, h2, h3⟩ := okRow_inv (all_ok inter _ hx)
 rw [hrow] at h1 h2 h3
 have hlen : r.data.toList.length = r.size := rfl
 have h0 := List.length_pos_iff.2 h1
 have ht := tk_row (all_free inter) (b := r.data.toList ++ m) (r := r.data.toList) (by rw [← hrow]; exact List.mem_map_of_mem hx) (app_pre _ _) (k := 25) (n := 1) (by omega) (by omega)
 have hy := mtk_yes inter ht hx (by rw [hrow]; exact (pre_take.1 (app_pre _ _)).symm)
 rw [e2, e3] at hy
 exact hy
theorem ptk_head (intra : Bool) (k : Nat) (hk : k < 16) (r : ByteArray) (hr : patAt intra k = r) (m : List UInt8) : ptk intra (r.data.toList ++ m) = ((k : Int), 0, r.size) := by
 have e : cellP intra (sameN intra k) = (r, ((sameN intra (sameN intra k) : Nat) : Int)) := by rw [cellP_row intra _ (sameN_lt hk), ← patAt_in hk rfl, hr]
 have hx : cellP intra (sameN intra k) ∈ allP intra := cellP_all intra (sameN_lt hk)
 have hrow : rowC (cellP intra (sameN intra k)) = r.data.toList := by rw [e]; rfl
 obtain ⟨h1, h2, h3⟩ := okRow_inv (allP_ok intra _ hx)
 rw [hrow] at h1 h2 h3
 have hlen : r.data.toList.length = r.size := rfl
 have h0 := List.length_pos_iff.2 h1
 have ht := tk_row (allP_free intra) (b := r.data.toList ++ m) (r := r.data.toList) (by rw [← hrow]; exact List.mem_map_of_mem hx) (app_pre _ _) (k := 25) (n := 1) (by omega) (by omega)
 have hy := ptk_yes intra ht hx (by rw [hrow]; exact (pre_take.1 (app_pre _ _)).symm)
 rw [e, sameN_back hk] at hy
 exact hy
theorem dtk_head {d : Int} (hd : -32 ≤ d ∧ d ≤ 31) (r : ByteArray) (hr : diffAt d = r) (m : List UInt8) : dtk (r.data.toList ++ m) = (d, 0, r.size) := by
 obtain ⟨j, hj⟩ : ∃ j : Nat, d = (j : Int) - 32 := ⟨(d + 32).toNat, by omega⟩
 have hj64 : j < 64 := by omega
 have hrow : rowC (cellD j) = r.data.toList := by
  show (diffAt ((j : Int) - 32)).data.toList = _
  rw [← hj, hr]
 have ht := dtk_row hj64 (b := r.data.toList ++ m) (by rw [hrow]; exact app_pre _ _)
 rw [hrow, ← hj] at ht
 exact ht
theorem stk_head {s : Int} (hs : s = -1 ∨ s = -2 ∨ s = 1 ∨ s = 2) (m : List UInt8) : stk ((stepRow s).data.toList ++ m) = (s, 0, 2) := by
 rcases hs with rfl | rfl | rfl | rfl
 all_goals
  rw [stk_some (by simp [stepRow])]
  rfl
end Go.Proofs.YtekjgcchnmnplaaGreatDoor
