/- Texts that RowheadPuts's proof stands on, part 5 of 9. No condition of its own. -/
import Derived.Below
import Derived.ChangeSame
import Derived.OpenShut
import Derived.ProofKit
import Derived.WideKeyArgs
namespace Go.Proofs.Ytpboidkoodjcjaa
open Go.ChangeShapes Go.WideShapes Go.ChangeAt Go.RowKit
section
variable {H : Type} {enc : TypeId × Value → H} {P : Program}
theorem args_stay (hl : laidOutB P = true) {W W' : World} {sp : Nat → Bool} :
  ∀ {ts : List TypeId} {vs : List Value} {ds : List (DataW H)} {ps : List MemPlace}, (∀ t ∈ ts, P.readableRec t = true ∧ t < P.types.size) →
   DataW.TrodAll enc P W 0 (fun _ => true) true ts vs ds ps → (∀ p ∈ ps, W.sameAt W' p) → (∀ p ∈ ps, sp p.block = true) → DataW.TrodAll enc P W' 0 sp true ts vs ds ps
 | [], _, _, _, _, h, _, _ => by
  obtain ⟨rfl, rfl, rfl⟩ := trodAll_nil h
  exact trodAll_mk0
 | _ :: _, _, _, _, ht, h, hsame, hs => by
  obtain ⟨v, vs1, d, ds1, a, b, rfl, rfl, rfl, h1, h2⟩ := trodAll_cons h
  obtain ⟨hr, hz⟩ := ht _ List.mem_cons_self
  exact trodAll_cons_mk (WideElems.Trod_stays hl hr hz h1 (fun p hp => hsame p (List.mem_append_left _ hp)) (fun p hp => hs p (List.mem_append_left _ hp)))
   (args_stay hl (fun t h => ht t (List.mem_cons_of_mem _ h)) h2 (fun p hp => hsame p (List.mem_append_right _ hp)) (fun p hp => hs p (List.mem_append_right _ hp)))
theorem law_end {f : Func} {s : ChangeSpec} {W W' : World} {args : Array Value} {ds gs : List (DataW H)} {before : List MemPlace} {tb : TypeId}
  (hl : laidOutB P = true) (hts : f.params.toList.all (fun t => P.readableRec t && decide (t < P.types.size)) = true)
  (hrt : f.resultTypes = #[tb]) (htb : P.underlying tb = some .bool) (hv : s.vars = [])
  (hW : DataW.Whole enc P f.params.toList s.vars false W args.toList ds gs before)
  (hfn : s.fn H (ds ++ gs) = { results := [.lit (.bool true)], args := ds })
  (hb : Below W.heap.size W W') : s.post enc P f false true false false W args (.bool true) W' := by
 have hlt : ∀ p ∈ before, p.block < W.heap.size := fun p hp => hW.lt p hp
 have hW0 := hW
 obtain ⟨p, q, hA, hV, rfl, _, _⟩ := hW
 rw [hv] at hV
 obtain ⟨rfl, rfl⟩ := trodVars_none hV
 rw [List.append_nil] at hlt
 have hts' : ∀ t ∈ f.params.toList, P.readableRec t = true ∧ t < P.types.size := fun t ht => by
  have := List.all_eq_true.1 hts t ht
  simpa using this
 refine ⟨ds, [], p ++ [], [], p, [], hW0, ?_, ?_, ?_, hb.frame _, fun h => by cases h⟩
 ·rw [hrt, hfn]
  exact trodAll_cons_mk (shut_bool htb _) trodAll_mk0
 ·rw [hfn]
  exact args_stay hl hts' hA (fun x hx => hb.same (hlt x hx)) (fun x hx => by simpa using hlt x hx)
 ·rw [hv, hfn]
  rfl
theorem open_two {w : World} {r : Reach} {b0 base : Nat} {sp : Nat → Bool} {held : Bool} {t e : TypeId} {v : Value} {d : DataW H} {ps : List MemPlace} {k : IntKind}
  (ht : P.underlying t = some (.array 2 e)) (he : P.underlying e = some (.int k)) (hc : P.cellsOf t = 2) (hce : P.cellsOf e = 1)
  (hval : Value.okWide P w r b0 t v) (hd : DataW.Trod enc P w base sp held t v d ps) :
  ∃ x y : Int, v = .agg #[.int k x, .int k y] ∧ (Lit.int k x).wf = true ∧ (Lit.int k y).wf = true := by
 obtain ⟨cs, rfl, hsz, _⟩ : ∃ cs, v = .agg cs ∧ cs.size = P.cellsOf t ∧ Row.okWide P w r b0 t cs := by
  simpa [Value.okWide, ht] using hval
 rw [hc] at hsz
 obtain ⟨fuel, hf⟩ := hd
 obtain ⟨xs, m, _, _, _, hl, hel⟩ := DataW.trod_array ht hf
 rw [hce] at hel
 match xs, hl with
 | [y0, y1], _ =>
  obtain ⟨x0, e0, _, w0⟩ := DataW.trod_int he (show DataW.trod _ P w base sp held m e _ = some y0 from hel 0 (by omega))
  obtain ⟨x1, e1, _, w1⟩ := DataW.trod_int he (show DataW.trod _ P w base sp held m e _ = some y1 from hel 1 (by omega))
  obtain ⟨l⟩ := cs
  match l, hsz with
  | [c0, c1], _ =>
   simp [Value.cells] at e0 e1
   subst e0 e1
   exact ⟨x0, x1, rfl, w0, w1⟩
end
end Go.Proofs.Ytpboidkoodjcjaa
