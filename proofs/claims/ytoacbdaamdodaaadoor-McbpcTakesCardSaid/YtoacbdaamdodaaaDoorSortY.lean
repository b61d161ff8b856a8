/- slices.SortFunc at codes over package mcbpc's symbols. Over the kit's shelf, laid at this program (text ShelfS). Conditions: fewer than 2^62 codes. -/
import Derived.Test.YtoacbdaamdodaaaDoorShelfS
import Derived.Test.YtoacbdaamdodaaaDoorLibsY
namespace Go.Proofs.YtoacbdaamdodaaaDoor
open Go.RowKit Go.Lib Go.Sort

theorem cmp_laysY (blk off size : Nat) (w : World) : CmpLays Tryd.prog 38 #[] encCY 3 cmpCY blk off size w :=
  fun _ _ _ _ x y => closure_codeY x y _
theorem sort_anyY (blk off cap : Nat) (d : Array (ByteArray × Sym)) (w : World) (hH : HoldsK encCY 3 w blk off d) (hblk : blk < w.heap.size) (hsz : d.size < 4611686018427387904) :
    Calls Tryd.prog 37 #[.slice (some ⟨blk, off, none⟩) d.size cap, .func (.func 38) #[] #[]] w fun e w' =>
      e = .returned (.tuple #[]) ∧ ∃ d' n os, PermIn 0 d.size d d' ∧ SortedIn (ltOf cmpCY) 0 d.size d' ∧ w' = sortWorldK encCY 3 w blk off n d' os :=
  AnyQ.slices_SortFunc Tryd.lSortY 3 agg_codeY size_codeY encCY (fun _ => rfl) enc_oneY cmpCY swo_codesY 38 #[] blk off cap d w (enters_of Tryd.func38 (by kernel_rfl) rfl) (cmp_laysY blk off d.size w) hH hblk hsz
end Go.Proofs.YtoacbdaamdodaaaDoor
