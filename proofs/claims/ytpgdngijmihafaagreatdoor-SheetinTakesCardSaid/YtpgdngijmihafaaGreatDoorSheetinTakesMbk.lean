/- Texts that SheetinTakes's proof stands on, part 37 of 52. No condition of its own. -/
import Derived.Test.YtpgdngijmihafaaGreatDoorSheetinTakesMbh
import Derived.Test.YtpgdngijmihafaaGreatDoorSheetinTakesMbj
namespace Go.Proofs.YtpgdngijmihafaaGreatDoor
open Go.RowKit Go.Lib Go.Sort
theorem Y16 (blk off size:Nat) (w:World):CmpLays Tryz.prog 187 #[] Ygt 3 Ytf blk off size w:=
 fun _ _ _ _ x y=> Yp9 x y _
theorem Y3x (blk off cap:Nat) (d:Array (ByteArray×Sym)) (w:World) (hH:HoldsK Ygt 3 w blk off d) (hblk:blk<w.heap.size) (hsz:d.size<4611686018427387904):
  Calls Tryz.prog 186 #[.slice (some ⟨blk,off,none⟩) d.size cap,.func (.func 187) #[] #[]] w fun e w'=>
   e = .returned (.tuple #[])∧∃d' n os,PermIn 0 d.size d d'∧SortedIn (ltOf Ytf) 0 d.size d'∧w'=sortWorldK Ygt 3 w blk off n d' os:=
 AnyQ.slices_SortFunc Tryz.lSortY 3 Y4r Yov Ygt (fun _=> rfl) Yp0 Ytf Y0l 187 #[] blk off cap d w (enters_of Tryz.func187 (by kernel_rfl) rfl) (Y16 blk off d.size w) hH hblk hsz
theorem Y70 (blk off size:Nat) (w:World):CmpLays Tryz.prog 168 #[] Ysp 2 Y8k blk off size w:=
 fun _ _ _ _ x y=> Yt6 x y _
theorem Y6l (blk off cap:Nat) (d:Array (ByteArray×Int)) (w:World) (hH:HoldsK Ysp 2 w blk off d) (hblk:blk<w.heap.size) (hsz:d.size<4611686018427387904):
  Calls Tryz.prog 167 #[.slice (some ⟨blk,off,none⟩) d.size cap,.func (.func 168) #[] #[]] w fun e w'=>
   e = .returned (.tuple #[])∧∃d' n os,PermIn 0 d.size d d'∧SortedIn (ltOf Y8k) 0 d.size d'∧w'=sortWorldK Ysp 2 w blk off n d' os:=
 AnyQ.slices_SortFunc Tryz.lSort 2 Y6y Yr9 Ysp (fun _=> rfl) Y05 Y8k Y4l 168 #[] blk off cap d w (enters_of Tryz.func168 (by kernel_rfl) rfl) (Y70 blk off d.size w) hH hblk hsz
end Go.Proofs.YtpgdngijmihafaaGreatDoor