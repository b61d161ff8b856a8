/- Texts that SheetinTakes's proof stands on, part 37 of 52. No condition of its own. -/
import Derived.Test.YtpgdngijmihafaaGreatDoorSheetinTakesMbh
import Derived.Test.YtpgdngijmihafaaGreatDoorSheetinTakesMbj
namespace Go.Proofs.YtpgdngijmihafaaGreatDoor
open Go.RowKit Go.Lib Go.Sort
theorem Y23 (blk off size:Nat)(w:World):CmpLays Tryz.prog 187 #[] Ygz 3 Yru blk off size w:=
 fun _ _ _ _ x y=> Yqn x y _
theorem Y1j (blk off cap:Nat)(d:Array (ByteArray×Sym))(w:World)(hH:HoldsK Ygz 3 w blk off d)(hblk:blk<w.heap.size)(hsz:d.size<4611686018427387904):
  Calls Tryz.prog 186 #[.slice (some ⟨blk,off,none⟩) d.size cap,.func (.func 187) #[] #[]] w fun e w'=>
   e = .returned (.tuple #[])∧∃d' n os,PermIn 0 d.size d d'∧SortedIn (ltOf Yru) 0 d.size d'∧w'=sortWorldK Ygz 3 w blk off n d' os:=
 AnyQ.slices_SortFunc Tryz.lSortY 3 Y4t Yo9 Ygz (fun _=> rfl) Yp0 Yru Y0f 187 #[] blk off cap d w (enters_of Tryz.func187 (by kernel_rfl) rfl)(Y23 blk off d.size w) hH hblk hsz
theorem Y8d (blk off size:Nat)(w:World):CmpLays Tryz.prog 168 #[] Yr7 2 Y83 blk off size w:=
 fun _ _ _ _ x y=> Yr1 x y _
theorem Y8c (blk off cap:Nat)(d:Array (ByteArray×Int))(w:World)(hH:HoldsK Yr7 2 w blk off d)(hblk:blk<w.heap.size)(hsz:d.size<4611686018427387904):
  Calls Tryz.prog 167 #[.slice (some ⟨blk,off,none⟩) d.size cap,.func (.func 168) #[] #[]] w fun e w'=>
   e = .returned (.tuple #[])∧∃d' n os,PermIn 0 d.size d d'∧SortedIn (ltOf Y83) 0 d.size d'∧w'=sortWorldK Yr7 2 w blk off n d' os:=
 AnyQ.slices_SortFunc Tryz.lSort 2 Y8g Yud Yr7 (fun _=> rfl) Y4f Y83 Y39 168 #[] blk off cap d w (enters_of Tryz.func168 (by kernel_rfl) rfl)(Y8d blk off d.size w) hH hblk hsz
end Go.Proofs.YtpgdngijmihafaaGreatDoor