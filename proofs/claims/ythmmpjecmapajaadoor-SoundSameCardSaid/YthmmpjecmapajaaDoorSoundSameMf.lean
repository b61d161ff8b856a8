/- Texts that SoundSame's proof stands on, part 6 of 48. No condition of its own. -/
import Derived.Test.YthmmpjecmapajaaDoorSoundSameMa
import Derived.Test.YthmmpjecmapajaaDoorSoundSameMc
import Derived.Test.YthmmpjecmapajaaDoorSoundSameMd
import Derived.Test.YthmmpjecmapajaaDoorSoundSameMe
namespace Go.Proofs.YthmmpjecmapajaaDoor
open Go.RowKit
theorem gap_lt (p : Nat) : gap p < 8 := by unfold gap; omega
end Go.Proofs.YthmmpjecmapajaaDoor

namespace Go.Proofs.YthmmpjecmapajaaDoor
open Go.RowKit
def markAt (l : List UInt8) (bit : Int) : Int × Int :=
 if bit < 0 ∨ 8 * (l.length : Int) < bit then (0, 1) else if 8 * (l.length : Int) - bit < 22 then (0, 2)
 else if tell l bit.toNat 22 / 32 = 1 then (((tell l bit.toNat 22 % 32 : Nat) : Int), 0) else (0, 4)
def hit (l : List UInt8) (i : Nat) : Bool := (markAt l ((8 * i : Nat) : Int)).2 == 0 && ((markAt l ((8 * i : Nat) : Int)).1 == 0 || (markAt l ((8 * i : Nat) : Int)).1 == 31)
end Go.Proofs.YthmmpjecmapajaaDoor

namespace Go.Proofs.YthmmpjecmapajaaDoor
open Go.RowKit
def markRow (n : Nat) : List UInt8 := rowOf (32 + n) 22
theorem markRow_is (n : Nat) : rowOf (((32 + n : Nat) : Int)).toNat (22 : Int).toNat = markRow n := rfl
theorem markRow_length (n : Nat) : (markRow n).length = 22 := rowOf_length _ _
def behind (r : List UInt8) (n : Nat) : List UInt8 := r ++ List.replicate (gap r.length) 48 ++ markRow n
theorem behind_length (r : List UInt8) (n : Nat) : (behind r n).length = r.length + gap r.length + 22 := by
 unfold behind
 rw [List.length_append, List.length_append, List.length_replicate, markRow_length]
end Go.Proofs.YthmmpjecmapajaaDoor

namespace Go.Proofs.YthmmpjecmapajaaDoor
open Go.RowKit
structure Shd where
 ref : Int
 flags : Int
 fmt : Int
 inter : Bool
 quant : Int
 supp : List Int
def shdZ : Shd := ⟨0, 0, 0, false, 0, []⟩
def byteIn (b : Int) : Bool := decide (0 ≤ b ∧ b ≤ 255)
def shdMay (h : Shd) : Bool := decide (0 ≤ h.ref ∧ h.ref ≤ 255 ∧ 0 ≤ h.flags ∧ h.flags ≤ 7 ∧ 1 ≤ h.quant ∧ h.quant ≤ 31) && isFmt h.fmt && (decide (h.supp.length ≤ 8) && h.supp.all byteIn)
theorem shdMay_iff {h : Shd} : shdMay h = true ↔ (0 ≤ h.ref ∧ h.ref ≤ 255 ∧ 0 ≤ h.flags ∧ h.flags ≤ 7 ∧ 1 ≤ h.quant ∧ h.quant ≤ 31) ∧ (1 ≤ h.fmt ∧ h.fmt ≤ 6) ∧ h.supp.length ≤ 8 ∧ ∀ b ∈ h.supp, 0 ≤ b ∧ b ≤ 255 := by
 unfold shdMay byteIn isFmt
 simp only [Bool.and_eq_true, decide_eq_true_iff, List.all_eq_true]
 constructor
 ·rintro ⟨⟨a, b⟩, c, d⟩; exact ⟨a, b, c, d⟩
 ·rintro ⟨a, b, c, d⟩; exact ⟨⟨a, b⟩, c, d⟩
def suppL : List Int → List UInt8
 | [] => [48]
 | b :: l => 49 :: (rowOf b.toNat 8 ++ suppL l)
def bitL (b : Bool) : List UInt8 := rowOf (if b then 1 else 0) 1
def shdFix (h : Shd) : List UInt8 :=
 rowOf h.ref.toNat 8 ++ (rowOf 2 2 ++ (rowOf h.flags.toNat 3 ++ (rowOf h.fmt.toNat 3 ++ (bitL h.inter ++ (rowOf 0 4 ++ (rowOf h.quant.toNat 5 ++ rowOf 0 1))))))
def shdRow (h : Shd) : List UInt8 := shdFix h ++ suppL h.supp
end Go.Proofs.YthmmpjecmapajaaDoor
