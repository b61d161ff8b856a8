/- What Go's library does where a table of prefix over package mcbpc's symbols calls it: slices.Clone and slices.SortFunc at such codes; strconv.Itoa of a digit. Over the kit's shelf, laid at this program (text Shelf). Conditions: fewer than 2^62 codes. -/
import Derived.Test.YtoacbdaamdodaaaDoorLibs
namespace Go.Proofs.YtoacbdaamdodaaaDoor
open Go.RowKit Go.Lib Go.Sort

/-- A symbol of package mcbpc: a kind and a chroma. -/
abbrev Sym := Fin 6 × Fin 4
def sA (s : Sym) : Int := (s.1.val : Int)
def sB (s : Sym) : Int := (s.2.val : Int)
theorem sym_eq {s t : Sym} (h1 : sA s = sA t) (h2 : sB s = sB t) : s = t := by
  unfold sA at h1
  unfold sB at h2
  exact Prod.ext (Fin.ext (by omega)) (Fin.ext (by omega))
/-- A code: a row and a symbol, as they lie. -/
def encCY (x : ByteArray × Sym) : List Value := [.string x.1, .int .i64 (sA x.2), .int .i64 (sB x.2)]
def rowCY (x : ByteArray × Sym) : List UInt8 := x.1.data.toList
def cmpCY (x y : ByteArray × Sym) : Int := Lib.compareBytes (rowCY x) (rowCY y)
theorem swo_codesY : SWO (ltOf cmpCY) := swo_rows rowCY

set_option maxHeartbeats 1000000 in
theorem closure_codeY (x y : ByteArray × Sym) (W : World) : Calls Tryd.prog 38 #[.agg #[.string x.1, .int .i64 (sA x.2), .int .i64 (sB x.2)], .agg #[.string y.1, .int .i64 (sA y.2), .int .i64 (sB y.2)]] W fun e w' => e = .returned (.int .i64 (cmpCY x y)) ∧ ∃ q os', w' = grow (W.drewN q) os' := by
  have hcon := fun W' => compare_any x.1 y.1 W'
  unfold cmpCY rowCY
  generalize Lib.compareBytes x.1.data.toList y.1.data.toList = r at hcon ⊢
  go_enter Tryd.func38, Tryd.ntmps38
  go_wp2_with (go_at_call 39; refine (hcon _).mono ?_; rintro e w' ⟨rfl, rfl⟩)
  go_ret
  exact ⟨rfl, 0, _, by rw [alloc_eq_grow, alloc_eq_grow, grow_grow]; rfl⟩
theorem agg_codeY : ∀ w, (isAgg 54).run Tryd.prog w = .ok true w := fun _ => by kernel_rfl
theorem size_codeY : ∀ w, (Go.sizeOf 54).run Tryd.prog w = .ok 3 w := fun _ => by kernel_rfl
theorem enc_oneY (x : ByteArray × Sym) : ∀ v ∈ encCY x, v.oneCell' = true := by
  intro v hv
  simp only [encCY, List.mem_cons, List.not_mem_nil, or_false] at hv
  rcases hv with rfl | rfl | rfl <;> rfl
theorem info_codeY : (Tryd.prog.info? 54).map (fun i => (i.zero, i.size, i.bytes)) = some (some (.agg #[.string ⟨#[]⟩, .int .i64 0, .int .i64 0]), 3, 32) := by kernel_rfl
theorem clone_anyY (b off n c : Nat) (news : List Value) (w : World) (hl : news.length = n * 3) (hn : n ≤ 1048576)
    (hc : ∀ j u, news[j]? = some u → w.cell? ⟨b, off + j, none⟩ = some u) (h1 : ∀ u ∈ news, u.oneCell' = true) :
    Calls Tryd.prog 35 #[.slice (some ⟨b, off, none⟩) n c] w fun e w' => ∃ v', e = .returned v' ∧ w'.ownsRow w.heap.size 54 3 v' n news ∧ v' ≠ .slice none 0 0 ∧ Below w.heap.size w w' := by
  obtain ⟨i0, hi, iz0, iz1, iz2⟩ := info_parts info_codeY
  exact AnyE.slices_Clone Tryd.lCloneY i0 _ 3 32 hi iz0 iz1 iz2 rfl (by decide) size_codeY b off n c news w hl (by unfold maxLen; omega) (by omega) hc h1
theorem itoa_small (i : Nat) (hi : i < 100) (w : World) :
    Calls Tryd.prog 22 #[.int .i64 i] w fun e w' => e = .returned (.string ⟨(Lib.decDigits i).toArray⟩) ∧ w' = w :=
  Any.strconv_Itoa_small Tryd.lItoa i hi w
end Go.Proofs.YtoacbdaamdodaaaDoor
