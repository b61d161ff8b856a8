/- What the walk of PlanesLays needs. No condition. -/
import Derived.Test.YtmmgbnjfbapmcaaPzero
import Derived.Test.YtmmgbnjfbapmcaaPopenl
import Derived.Test.YtmmgbnjfbapmcaaPblaw
namespace Go.Proofs.Ytmmgbnjfbapmcaa
open Go.RowKit Go.Lib

theorem can_zero (w : World) : (zeroValue 49).run Try.prog w = .ok (.agg (frA 0 nilV)) w := by
  have h : (Try.prog.info? 49).map (fun i => i.zero) = some (some (.agg (frA 0 nilV))) := by kernel_rfl
  generalize frA 0 nilV = Z at h ⊢
  cases hq : Try.prog.info? 49 with
  | none => simp [hq] at h
  | some i =>
    simp [hq] at h
    simp [zeroValue, typeInfo, hq, h]
theorem same_nil (w : World) : Calls Try.prog 11 #[.agg (frA 0 nilV), .agg (frA 0 nilV)] w fun e w' => e = .returned (.bool true) ∧ Below w.heap.size w w' :=
  (frsame_code 0 0 nilV nilV (fun _ => 0) (fun _ => 0) (fun _ _ => 0) (fun _ _ => 0) w (FrAt.nil w) (FrAt.nil w)).mono fun e y h => ⟨h.1.trans (by rw [sameF_self]), h.2⟩
/-- A canvas and the page's frame, apart from each other. -/
structure Two (w : World) (lo C F : Nat) (k : Int) (vc vf : Nat → Value) (gc gf : Nat → Nat) (cf df : Nat → Nat → Int) : Prop where
  can : CanAt w lo C k vc gc cf
  there : w.heap[F]? = some (frO 25 k vf)
  own : OwnFr w lo vf gf (siz k) df
  cap : ∀ p, p < 3 → C ≠ gf p
  fap : ∀ p, p < 3 → F ≠ gc p
  fown : ∀ p, p < 3 → F ≠ gf p
  apart : ∀ p q, p < 3 → q < 3 → gc p ≠ gf q
section
variable {w w' : World} {lo C F : Nat} {k : Int} {vc vf : Nat → Value} {gc gf : Nat → Nat} {cf df cf' df' : Nat → Nat → Int}
theorem Two.below (h : Two w lo C F k vc vf gc gf cf df) (hk : isFmt k = true) (hb : Below w.heap.size w w') : Two w' lo C F k vc vf gc gf cf df :=
  ⟨h.can.below hk hb, (hb.block F (Array.getElem?_eq_some_iff.1 h.there).1).trans h.there, h.own.below (fun p _ => siz_some hk p) hb, h.cap, h.fap, h.fown, h.apart⟩
theorem Two.layC (h : Two w lo C F k vc vf gc gf cf df) (hk : isFmt k = true) (hK : Keeps gc w w') (hO : OwnFr w' lo vc gc (siz k) cf') : Two w' lo C F k vc vf gc gf cf' df :=
  ⟨h.can.laid hK hO, (hK.block F (Array.getElem?_eq_some_iff.1 h.there).1 h.fap).trans h.there, h.own.keep fun p hp => hK.block _ ((h.own.pl p hp).lt (siz_some hk p)) (fun q hq e => h.apart q p hq hp e.symm), h.cap, h.fap, h.fown, h.apart⟩
theorem Two.layF (h : Two w lo C F k vc vf gc gf cf df) (hk : isFmt k = true) (hK : Keeps gf w w') (hO : OwnFr w' lo vf gf (siz k) df') : Two w' lo C F k vc vf gc gf cf df' :=
  ⟨⟨(hK.block C (Array.getElem?_eq_some_iff.1 h.can.there).1 h.cap).trans h.can.there, h.can.own.keep fun p hp => hK.block _ ((h.can.own.pl p hp).lt (siz_some hk p)) (fun q hq e => h.apart p q hp hq e), h.can.low, h.can.far⟩, (hK.block F (Array.getElem?_eq_some_iff.1 h.there).1 h.fown).trans h.there, hO, h.cap, h.fap, h.fown, h.apart⟩
end
end Go.Proofs.Ytmmgbnjfbapmcaa
