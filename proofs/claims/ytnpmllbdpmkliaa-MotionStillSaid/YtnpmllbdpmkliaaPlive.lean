/- The chapter's example. No condition. -/
import Derived.Test.YtnpmllbdpmkliaaPnewd
namespace Go.Proofs.Ytnpmllbdpmkliaa
open Go.RowKit Go.Lib

theorem siz_six : siz 6 0 = 1024 ∧ siz 6 1 = 256 ∧ siz 6 2 = 256 ∧ isFmt 6 = true ∧ clip 300 0 255 = 255 := by decide +kernel
theorem own_slice {w : World} {v : Value} {g n : Nat} {f : Nat → Int} (h : OwnPl w v g n f) : ∃ a c, v = .slice a n c := by
  obtain ⟨c, h, _⟩ := h
  exact ⟨_, c, h⟩
end Go.Proofs.Ytnpmllbdpmkliaa
