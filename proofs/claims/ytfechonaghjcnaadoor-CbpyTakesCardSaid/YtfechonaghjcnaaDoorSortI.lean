/- slices.SortFunc at codes over ints. Over the kit's shelf, laid at this program (text ShelfS). Conditions: fewer than 2^62 codes. -/
import Derived.Test.YtfechonaghjcnaaDoorShelfS
import Derived.Test.YtfechonaghjcnaaDoorLibs
namespace Go.Proofs.YtfechonaghjcnaaDoor
open Go.RowKit Go.Lib Go.Sort

theorem cmp_lays (blk off size : Nat) (w : World) : CmpLays Tryd.prog 31 #[] encC 2 cmpC blk off size w :=
  fun _ _ _ _ x y => closure_code x y _
theorem sort_any (blk off cap : Nat) (d : Array (ByteArray × Int)) (w : World) (hH : HoldsK encC 2 w blk off d) (hblk : blk < w.heap.size) (hsz : d.size < 4611686018427387904) :
    Calls Tryd.prog 30 #[.slice (some ⟨blk, off, none⟩) d.size cap, .func (.func 31) #[] #[]] w fun e w' =>
      e = .returned (.tuple #[]) ∧ ∃ d' n os, PermIn 0 d.size d d' ∧ SortedIn (ltOf cmpC) 0 d.size d' ∧ w' = sortWorldK encC 2 w blk off n d' os :=
  AnyQ.slices_SortFunc Tryd.lSort 2 agg_code size_code encC (fun _ => rfl) enc_one cmpC swo_codes 31 #[] blk off cap d w (enters_of Tryd.func31 (by kernel_rfl) rfl) (cmp_lays blk off d.size w) hH hblk hsz
end Go.Proofs.YtfechonaghjcnaaDoor
