/- What Go's library does where package prefix calls it: strings.Trim at two digits, strings.Compare, strings.HasPrefix; slices.Clone and slices.SortFunc at codes. Over the kit's shelf, laid at this program (text Shelf). Conditions: fewer than 2^62 codes, texts of an int's length. -/
import Derived.Test.YtoacbdaamdodaaaDoorShelf
import Derived.Test.YtoacbdaamdodaaaDoorCodes
import Derived.WalkKit
namespace Go.Proofs.YtoacbdaamdodaaaDoor
open Go.RowKit Go.Lib Go.Sort

/-- Not a digit behind any number of digits: trimmed by digits there is nothing just of digits. -/
theorem drop_all {p : UInt8 → Bool} : ∀ {l : List UInt8}, l.dropWhile p = [] ↔ l.all p = true
  | [] => by simp
  | c :: l => by
    cases h : p c with
    | true => simp only [List.dropWhile_cons, h, if_true, List.all_cons, Bool.true_and]; exact drop_all
    | false => simp [h]
theorem trim_none (l : List UInt8) : Lib.trimS l [48, 49] = [] ↔ isRow l = true := by
  have e : ∀ c : UInt8, ([48, 49] : List UInt8).contains c = (c == 48 || c == 49) := fun c => by rw [Bool.eq_iff_iff]; simp
  unfold Lib.trimS Lib.trimLeftS Lib.trimRightS isRow
  simp only [e]
  rw [drop_all, List.all_reverse]
  constructor
  · intro h
    by_cases hr : l.reverse.dropWhile (fun c => c == 48 || c == 49) = []
    · rw [drop_all, List.all_reverse] at hr
      exact hr
    · exfalso
      have h1 := List.all_eq_true.1 h _ (List.head_mem hr)
      have h2 := List.head_dropWhile_not (fun c : UInt8 => c == 48 || c == 49) hr
      rw [h1] at h2
      cases h2
  · intro h
    rw [drop_all.2 (by rw [List.all_reverse]; exact h)]
    rfl
theorem trim_any (s : ByteArray) (hs : s.size ≤ 9223372036854775807) (w : World) :
    Calls Tryd.prog 45 #[.string s, .string ⟨#[48, 49]⟩] w fun e w' => e = .returned (.string ⟨(Lib.trimS s.data.toList [48, 49]).toArray⟩) ∧ Below w.heap.size w w' :=
  Any.strings_Trim_laid Tryd.lTrim (by kernel_rfl) s ⟨#[48, 49]⟩ w hs (by decide) (ascii_of_all (by decide))
theorem compare_any (a b : ByteArray) (w : World) :
    Calls Tryd.prog 39 #[.string a, .string b] w fun e w' => e = .returned (.int .i64 (Lib.compareBytes a.data.toList b.data.toList)) ∧ w' = w :=
  Any.strings_Compare Tryd.lCompare a b w
theorem begins_any (s p : ByteArray) (w : World) :
    Calls Tryd.prog 33 #[.string s, .string p] w fun e w' => e = .returned (.bool (p.data.toList.isPrefixOf s.data.toList)) ∧ w' = w :=
  Any.strings_HasPrefix Tryd.lHasPrefix s p w

/-- A code: a row and a symbol, as they lie. -/
def encC (x : ByteArray × Int) : List Value := [.string x.1, .int .i64 x.2]
def rowC (x : ByteArray × Int) : List UInt8 := x.1.data.toList
def cmpC (x y : ByteArray × Int) : Int := Lib.compareBytes (rowC x) (rowC y)
theorem swo_codes : SWO (ltOf cmpC) := swo_rows rowC

theorem enc_one (x : ByteArray × Int) : ∀ v ∈ encC x, v.oneCell' = true := by
  intro v hv
  simp only [encC, List.mem_cons, List.not_mem_nil, or_false] at hv
  rcases hv with rfl | rfl <;> rfl
end Go.Proofs.YtoacbdaamdodaaaDoor
