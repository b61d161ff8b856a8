/- What Go's library does where package prefix calls it: strings.Trim at two digits, strings.Compare, strings.HasPrefix; slices.Clone at codes. Over the kit's shelf, laid at this program (text Shelf). Conditions: fewer than 2^62 codes, texts of an int's length. -/
import Derived.Test.YtfechonaghjcnaaDoorShelf
import Derived.Test.YtfechonaghjcnaaDoorCodes
import Derived.WalkKit
namespace Go.Proofs.YtfechonaghjcnaaDoor
open Go.RowKit Go.Lib Go.Sort

/-- Not a digit behind any number of digits: trimmed by digits there is nothing just of digits. -/
theorem drop_all {p : UInt8 → Bool} : ∀ {l : List UInt8}, l.dropWhile p = [] ↔ l.all p = true
  | [] => by simp
  | c :: l => by
    cases h : p c with
    | true => simp only [List.dropWhile_cons, h, if_true, List.all_cons, Bool.true_and]; exact drop_all
    | false => simp [h]
theorem trim_none (l : List UInt8) : Lib.trimS l [48, 49] = [] ↔ isRow l = true := by
  have e : ∀ c : UInt8, ([48, 49] : List UInt8).contains c = (c == 48 || c == 49) := fun c => by rw [Bool.eq_iff_iff]; simp
  unfold Lib.trimS Lib.trimLeftS Lib.trimRightS isRow
  simp only [e]
  rw [drop_all, List.all_reverse]
  constructor
  · intro h
    by_cases hr : l.reverse.dropWhile (fun c => c == 48 || c == 49) = []
    · rw [drop_all, List.all_reverse] at hr
      exact hr
    · exfalso
      have h1 := List.all_eq_true.1 h _ (List.head_mem hr)
      have h2 := List.head_dropWhile_not (fun c : UInt8 => c == 48 || c == 49) hr
      rw [h1] at h2
      cases h2
  · intro h
    rw [drop_all.2 (by rw [List.all_reverse]; exact h)]
    rfl
theorem trim_any (s : ByteArray) (hs : s.size ≤ 9223372036854775807) (w : World) :
    Calls Tryd.prog 36 #[.string s, .string ⟨#[48, 49]⟩] w fun e w' => e = .returned (.string ⟨(Lib.trimS s.data.toList [48, 49]).toArray⟩) ∧ Below w.heap.size w w' :=
  Any.strings_Trim_laid Tryd.lTrim (by kernel_rfl) s ⟨#[48, 49]⟩ w hs (by decide) (ascii_of_all (by decide))
theorem compare_any (a b : ByteArray) (w : World) :
    Calls Tryd.prog 32 #[.string a, .string b] w fun e w' => e = .returned (.int .i64 (Lib.compareBytes a.data.toList b.data.toList)) ∧ w' = w :=
  Any.strings_Compare Tryd.lCompare a b w
theorem begins_any (s p : ByteArray) (w : World) :
    Calls Tryd.prog 40 #[.string s, .string p] w fun e w' => e = .returned (.bool (p.data.toList.isPrefixOf s.data.toList)) ∧ w' = w :=
  Any.strings_HasPrefix Tryd.lHasPrefix s p w

/-- A code: a row and a symbol, as they lie. -/
def encC (x : ByteArray × Int) : List Value := [.string x.1, .int .i64 x.2]
def rowC (x : ByteArray × Int) : List UInt8 := x.1.data.toList
def cmpC (x y : ByteArray × Int) : Int := Lib.compareBytes (rowC x) (rowC y)
theorem swo_codes : SWO (ltOf cmpC) := swo_rows rowC

set_option maxHeartbeats 1000000 in
theorem closure_code (x y : ByteArray × Int) (W : World) : Calls Tryd.prog 31 #[.agg #[.string x.1, .int .i64 x.2], .agg #[.string y.1, .int .i64 y.2]] W fun e w' => e = .returned (.int .i64 (cmpC x y)) ∧ ∃ q os', w' = grow (W.drewN q) os' := by
  have hcon := fun W' => compare_any x.1 y.1 W'
  unfold cmpC rowC
  generalize Lib.compareBytes x.1.data.toList y.1.data.toList = r at hcon ⊢
  go_enter Tryd.func31, Tryd.ntmps31
  go_wp2_with (go_at_call 32; refine (hcon _).mono ?_; rintro e w' ⟨rfl, rfl⟩)
  go_ret
  exact ⟨rfl, 0, _, by rw [alloc_eq_grow, alloc_eq_grow, grow_grow]; rfl⟩
theorem agg_code : ∀ w, (isAgg 61).run Tryd.prog w = .ok true w := fun _ => by kernel_rfl
theorem size_code : ∀ w, (Go.sizeOf 61).run Tryd.prog w = .ok 2 w := fun _ => by kernel_rfl
theorem enc_one (x : ByteArray × Int) : ∀ v ∈ encC x, v.oneCell' = true := by
  intro v hv
  simp only [encC, List.mem_cons, List.not_mem_nil, or_false] at hv
  rcases hv with rfl | rfl <;> rfl
theorem info_code : (Tryd.prog.info? 61).map (fun i => (i.zero, i.size, i.bytes)) = some (some (.agg #[.string ⟨#[]⟩, .int .i64 0]), 2, 24) := by kernel_rfl
theorem clone_any (b off n c : Nat) (news : List Value) (w : World) (hl : news.length = n * 2) (hn : n ≤ 1048576)
    (hc : ∀ j u, news[j]? = some u → w.cell? ⟨b, off + j, none⟩ = some u) (h1 : ∀ u ∈ news, u.oneCell' = true) :
    Calls Tryd.prog 28 #[.slice (some ⟨b, off, none⟩) n c] w fun e w' => ∃ v', e = .returned v' ∧ w'.ownsRow w.heap.size 61 2 v' n news ∧ v' ≠ .slice none 0 0 ∧ Below w.heap.size w w' := by
  obtain ⟨i0, hi, iz0, iz1, iz2⟩ := info_parts info_code
  exact AnyE.slices_Clone Tryd.lClone i0 _ 2 24 hi iz0 iz1 iz2 rfl (by decide) size_code b off n c news w hl (by unfold maxLen; omega) (by omega) hc h1
end Go.Proofs.YtfechonaghjcnaaDoor
