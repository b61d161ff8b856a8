/- No condition. -/
import Derived.Test.YtnamlooifcpoaaaGreatDoorScreensStillMn
import Derived.Test.YtnamlooifcpoaaaGreatDoorScreensStillMbq
namespace Go.Proofs.YtnamlooifcpoaaaGreatDoor
open Go.RowKit Go.Lib Go.Shelf
theorem Yp6:Builder.Extra Tryz.prog Tryz.lJoin_ren where
 sizeBuilder:=by kernel_rfl
 liesBuilder:=by kernel_rfl
 t5:=Tryz.underlying5
 a5:=Tryz.isAgg5
 z5:=Tryz.sizeOf5
 v5:=Tryz.zeroValue5
 infoByte:=by kernel_rfl
 cellsByte:=by kernel_rfl
 sizeByte:=by kernel_rfl
 neB5:=by decide
def Yz5 (l:List ByteArray):List UInt8:=(l.map (·.data.toList)).flatten
theorem Ysy:∀l:List (List UInt8),Lib.join l []=l.flatten
 |[]=>rfl
 |[x]=>by rw[Lib.join_one];simp
 |x::y::r=>by
  rw[Lib.join_cons];simp[Lib.joinTail]
theorem Yto {w:World}{base e:Nat}{v:Value}{l:List ByteArray}(h:w.ownsRow base e 1 v l.length (Ycr l))(h0:0<l.length):
  ∃(b cap:Nat),v=.slice (some ⟨b,0,none⟩) l.length cap∧l.length≤cap∧b<w.heap.size∧∀(j:Nat) x,l[j]? =some x→w.cell? ⟨b,j,none⟩=some (.string x):=by
 have h0:=h;rcases h.2 with ⟨rfl,h1⟩|⟨g,cap,cur,rfl,_,hg,hrest⟩
 ·omega
 ·refine⟨g,cap,rfl,by first|exact hrest.1|exact hrest.2.1|omega,(Array.getElem?_eq_some_iff.1 hg).1,fun i x hi=>?_⟩;have:=World.ownsRow.cells (g:=g) h0 rfl i (.string x) (by simp[Ycr,hi]);rwa [Addr.add_mid,Nat.zero_add] at this
theorem Yv9 (b c:Nat)(l:List ByteArray)(w:World)(hcells:∀(j:Nat) x,l[j]? =some x→w.cell? ⟨b,j,none⟩=some (.string x))(hb:b<w.heap.size)(hc:l.length≤c)(hn:l.length≤1048576)(hl:(Yz5 l).length≤1048576):
  Calls Tryz.prog 166 #[.slice (some ⟨b,0,none⟩) l.length c,.string ⟨#[]⟩] w fun e w'=>e=.returned (.string ⟨(Yz5 l).toArray⟩)∧Below w.heap.size w w':=by
 have h:=Any.strings_Join Tryz.lJoin Yp6 b 0 c l ⟨#[]⟩ w (fun j x hj=>by rw[Nat.zero_add];exact hcells j x hj) hb (by omega) hc;rw[show (⟨#[]⟩:ByteArray).data.toList=[] from rfl,Ysy] at h;exact h (by have:(Yz5 l).length=(l.map (·.data.toList)).flatten.length:=rfl;omega)
end Go.Proofs.YtnamlooifcpoaaaGreatDoor