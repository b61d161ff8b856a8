/- Texts that CellinSame's proof stands on, part 17 of 35. No condition of its own. -/
import Derived.Test.YtbgncbhkjndelaaGreatDoorCellinSameMn
import Derived.Test.YtbgncbhkjndelaaGreatDoorCellinSameMp
namespace Go.Proofs.YtbgncbhkjndelaaGreatDoor
open Go.RowKit Go.Lib Go.Sort
theorem cmp_laysY (blk off size : Nat) (w : World) : CmpLays Tryz.prog 86 #[] encCY 3 cmpCY blk off size w :=
 fun _ _ _ _ x y => closure_codeY x y _
theorem sort_anyY (blk off cap : Nat) (d : Array (ByteArray × Sym)) (w : World) (hH : HoldsK encCY 3 w blk off d) (hblk : blk < w.heap.size) (hsz : d.size < 4611686018427387904) :
  Calls Tryz.prog 85 #[.slice (some ⟨blk, off, none⟩) d.size cap, .func (.func 86) #[] #[]] w fun e w' =>
   e = .returned (.tuple #[]) ∧ ∃ d' n os, PermIn 0 d.size d d' ∧ SortedIn (ltOf cmpCY) 0 d.size d' ∧ w' = sortWorldK encCY 3 w blk off n d' os :=
 AnyQ.slices_SortFunc Tryz.lSortY 3 agg_codeY size_codeY encCY (fun _ => rfl) enc_oneY cmpCY swo_codesY 86 #[] blk off cap d w (enters_of Tryz.func86 (by kernel_rfl) rfl) (cmp_laysY blk off d.size w) hH hblk hsz
end Go.Proofs.YtbgncbhkjndelaaGreatDoor

namespace Go.Proofs.YtbgncbhkjndelaaGreatDoor
open Go.RowKit Go.Lib Go.Sort
theorem cmp_lays (blk off size : Nat) (w : World) : CmpLays Tryz.prog 72 #[] encC 2 cmpC blk off size w :=
 fun _ _ _ _ x y => closure_code x y _
theorem sort_any (blk off cap : Nat) (d : Array (ByteArray × Int)) (w : World) (hH : HoldsK encC 2 w blk off d) (hblk : blk < w.heap.size) (hsz : d.size < 4611686018427387904) :
  Calls Tryz.prog 71 #[.slice (some ⟨blk, off, none⟩) d.size cap, .func (.func 72) #[] #[]] w fun e w' =>
   e = .returned (.tuple #[]) ∧ ∃ d' n os, PermIn 0 d.size d d' ∧ SortedIn (ltOf cmpC) 0 d.size d' ∧ w' = sortWorldK encC 2 w blk off n d' os :=
 AnyQ.slices_SortFunc Tryz.lSort 2 agg_code size_code encC (fun _ => rfl) enc_one cmpC swo_codes 72 #[] blk off cap d w (enters_of Tryz.func72 (by kernel_rfl) rfl) (cmp_lays blk off d.size w) hH hblk hsz
end Go.Proofs.YtbgncbhkjndelaaGreatDoor
