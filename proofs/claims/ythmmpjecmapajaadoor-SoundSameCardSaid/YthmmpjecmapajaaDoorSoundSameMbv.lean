/- Texts that SoundSame's proof stands on, part 48 of 48. No condition of its own. -/
import Derived.Test.YthmmpjecmapajaaDoorSoundSameMbo
import Derived.Test.YthmmpjecmapajaaDoorSoundSameMbp
import Derived.Test.YthmmpjecmapajaaDoorSoundSameMbu
namespace Go.Proofs.YthmmpjecmapajaaDoor
open Go.RowKit Go.Lib
def exSA : Cel := { celZ with kind := 3, dc := fun _ => 9 }
def exSB : Cel := { celZ with mx := -1 }
def exS0 : ShP := ⟨⟨0, 0, 0, false, 0, []⟩, [], 0⟩
def exS1 : ShP := ⟨⟨0, 0, 6, false, 5, []⟩, [⟨false, 0, 0, [exSA, exSA]⟩, ⟨false, 0, 0, [exSA, exSA]⟩], 0⟩
def exS2 : ShP := ⟨⟨0, 0, 6, true, 5, []⟩, [⟨false, 0, 0, [exSB, exSA]⟩, ⟨false, 0, 0, [exSA, exSA]⟩], 0⟩
theorem ex_errs : shErr exS0 = 12 ∧ shErr exS1 = 0 ∧ shErr exS2 = 8 := by decide +kernel
theorem nil_cel (w : World) (c : Cel) (hm : (Lit.int .i64 c.mx).wf = true ∧ (Lit.int .i64 c.my).wf = true) (h : ∀ i, i < 6 → c.ev i = []) : CelV w c (celL c nilS) :=
 ⟨fun _ => none, fun _ => 0, celL_congr fun i hi => by rw [h i hi]; rfl, ⟨hm, fun _ _ _ => rfl⟩, fun i hi => by rw [h i hi]; exact ⟨Nat.zero_le _, .inl rfl⟩⟩
theorem two_cels {w : World} {b : Nat} {c d : Cel} (hc : (Lit.int .i64 c.mx).wf = true ∧ (Lit.int .i64 c.my).wf = true) (hd : (Lit.int .i64 d.mx).wf = true ∧ (Lit.int .i64 d.my).wf = true) (ec : ∀ i, i < 6 → c.ev i = []) (ed : ∀ i, i < 6 → d.ev i = [])
  (h : w.heap[b]? = some (.cells (celL c nilS ++ celL d nilS).toArray 42 (0, 0))) : CelsIn w (some ⟨b, 0, none⟩) [c, d] := by
 refine .inr ⟨b, 0, rfl, (Array.getElem?_eq_some_iff.1 h).1, fun i hi => ?_⟩
 match i, hi with
 | 0, _ =>
  refine ⟨celL c nilS, nil_cel w c hc ec, fun j v hj => ?_⟩
  have hl : j < 18 := (List.getElem?_eq_some_iff.1 hj).1
  rw [Nat.zero_mul, Nat.zero_add]
  exact part_cells h (by rw [List.getElem?_append_left hl]; exact hj)
 | 1, _ =>
  refine ⟨celL d nilS, nil_cel w d hd ed, fun j v hj => ?_⟩
  exact part_cells h (by rw [List.getElem?_append_right (by show 18 ≤ 0 + 1 * 18 + j; omega), show 0 + 1 * 18 + j - (celL c nilS).length = j by show 0 + 1 * 18 + j - 18 = j; omega]; exact hj)
theorem two_rows {w : World} {b b1 b2 : Nat} {l m : List Cel} (h : w.heap[b]? = some (.cells #[.bool false, .int .i64 0, .int .i64 0, .slice (some ⟨b1, 0, none⟩) 2 2, .bool false, .int .i64 0, .int .i64 0, .slice (some ⟨b2, 0, none⟩) 2 2] 45 (0, 0)))
  (hl : l.length = 2) (hm : m.length = 2) (h1 : CelsIn w (some ⟨b1, 0, none⟩) l) (h2 : CelsIn w (some ⟨b2, 0, none⟩) m) : RowsIn w (some ⟨b, 0, none⟩) [⟨false, 0, 0, l⟩, ⟨false, 0, 0, m⟩] := by
 have h' : w.heap[b]? = some (.cells [.bool false, .int .i64 0, .int .i64 0, .slice (some ⟨b1, 0, none⟩) 2 2, .bool false, .int .i64 0, .int .i64 0, .slice (some ⟨b2, 0, none⟩) 2 2].toArray 45 (0, 0)) := h
 refine .inr ⟨b, 0, rfl, (Array.getElem?_eq_some_iff.1 h).1, fun i hi => ?_⟩
 match i, hi with
 | 0, _ =>
  refine ⟨[.bool false, .int .i64 0, .int .i64 0, .slice (some ⟨b1, 0, none⟩) 2 2], ⟨some ⟨b1, 0, none⟩, 2, (by show _ = [Value.bool false, .int .i64 0, .int .i64 0, .slice _ l.length 2]; rw [hl]), (fun h => by cases h), (by show l.length ≤ _; rw [hl]; decide), h1⟩, fun j v hj => ?_⟩
  match j, hj with
  | 0, hj | 1, hj | 2, hj | 3, hj => injection hj with hj; subst hj; exact part_cells h' rfl
 | 1, _ =>
  refine ⟨[.bool false, .int .i64 0, .int .i64 0, .slice (some ⟨b2, 0, none⟩) 2 2], ⟨some ⟨b2, 0, none⟩, 2, (by show _ = [Value.bool false, .int .i64 0, .int .i64 0, .slice _ m.length 2]; rw [hm]), (fun h => by cases h), (by show m.length ≤ _; rw [hm]; decide), h2⟩, fun j v hj => ?_⟩
  match j, hj with
  | 0, hj | 1, hj | 2, hj | 3, hj => injection hj with hj; subst hj; exact part_cells h' rfl
theorem wp_store_freshN {P : Program} {ops : Array Oper} {rest : List Oper} {op : Oper} {a : Act} {w : World} {Q : Exit → Act → World → Prop} (hgd : op.guard = none) (ty : TypeId) (x y : Operand) (ho : op.op = .store ty x y)
  (Z old : Array Value) (T : TypeId) (N : Nat) (hN : w.heap.size = N) (hx : a.eval x = .pointer (some ⟨N, 0, none⟩)) (hy : a.eval y = .agg Z) (hi : (P.info? ty).map (·.size) = some Z.size) (hs : old.size = Z.size) (h1 : Z.all (·.oneCell') = true)
  (h : wpList P ops Q rest (a.put op.dst undef) (w.alloc (.cells Z T (0, 0)))) : wpList P ops Q (op :: rest) a (w.alloc (.cells old T (0, 0))) := by
 subst hN
 exact wp_store_fresh hgd ty x y ho Z old T hx hy hi hs h1 h
theorem laid_next (w : World) (o : Obj) : ∃ w', w.alloc o = w' ∧ w'.heap.size = w.heap.size + 1 ∧ w'.heap[w.heap.size]? = some o ∧ Below w.heap.size w w' :=
 ⟨_, rfl, by simp, heap_alloc_new w _, (Below.refl _ w).alloc (Nat.le_refl _) _⟩
theorem sheetA_zero : ∃ Y : Array Value, Y.size = 8 ∧ ∀ w, (zeroValue 25).run Tryd.prog w = .ok (.agg Y) w := ⟨#[.int .i64 0, .int .i64 0, .int .i64 0, .bool false, .int .i64 0, .slice none 0 0, .slice none 0 0, .int .i64 0], rfl, agg_zero (by kernel_rfl)⟩
set_option maxRecDepth 100000 in
set_option maxHeartbeats 2000000 in
theorem lives25 (w : World) (ht : HasT w) (hs : HasSteps w) : Calls Tryd.prog 6 #[] w fun e w' => e = .returned (.bool true) ∧ Below w.heap.size w w' := by
 obtain ⟨N, hN⟩ : ∃ N, w.heap.size = N := ⟨_, rfl⟩
 obtain ⟨Y, HYS, hzv⟩ := cels_zero
 obtain ⟨Ys, HYSS, hzs⟩ := sheetA_zero
 obtain ⟨A, hA⟩ : ∃ A, (celL exSA nilS).toArray = A := ⟨_, rfl⟩
 obtain ⟨w0, hw0, hs0, hh0, hb0⟩ := laid_next w (.cells A 42 (0, 0))
 obtain ⟨w1, hw1, hs1, hh1, hb1⟩ := laid_next w0 (.cells (celL exSA nilS ++ celL exSA nilS).toArray 42 (0, 0))
 obtain ⟨w2, hw2, hs2, hh2, hb2⟩ := laid_next w1 (.cells (celL exSA nilS ++ celL exSA nilS).toArray 42 (0, 0))
 obtain ⟨w3, hw3, hs3, hh3, hb3⟩ := laid_next w2 (.cells #[.bool false, .int .i64 0, .int .i64 0, .slice (some ⟨N + 1, 0, none⟩) 2 2, .bool false, .int .i64 0, .int .i64 0, .slice (some ⟨N + 2, 0, none⟩) 2 2] 45 (0, 0))
 obtain ⟨Z1, hZ1⟩ : ∃ Z : Array Value, #[.int .i64 0, .int .i64 0, .int .i64 6, .bool false, .int .i64 5, .slice none 0 0, .slice (some ⟨N + 3, 0, none⟩) 2 2, .int .i64 0] = Z := ⟨_, rfl⟩
 obtain ⟨w4, hw4, hs4, hh4, hb4⟩ := laid_next w3 (.cells Z1 25 (0, 0))
 obtain ⟨w5, hw5, hs5, hh5, hb5⟩ := laid_next w4 (.cells (celL exSB nilS ++ celL exSA nilS).toArray 42 (0, 0))
 obtain ⟨w6, hw6, hs6, hh6, hb6⟩ := laid_next w5 (.cells (celL exSA nilS ++ celL exSA nilS).toArray 42 (0, 0))
 obtain ⟨w7, hw7, hs7, hh7, hb7⟩ := laid_next w6 (.cells #[.bool false, .int .i64 0, .int .i64 0, .slice (some ⟨N + 5, 0, none⟩) 2 2, .bool false, .int .i64 0, .int .i64 0, .slice (some ⟨N + 6, 0, none⟩) 2 2] 45 (0, 0))
 obtain ⟨Z2, hZ2⟩ : ∃ Z : Array Value, #[.int .i64 0, .int .i64 0, .int .i64 6, .bool true, .int .i64 5, .slice none 0 0, .slice (some ⟨N + 7, 0, none⟩) 2 2, .int .i64 0] = Z := ⟨_, rfl⟩
 obtain ⟨w8, hw8, hs8, hh8, hb8⟩ := laid_next w7 (.cells Z2 25 (0, 0))
 rw [hN] at hs0 hh0 hb0
 rw [hs0] at hs1 hh1 hb1
 rw [hs1] at hs2 hh2 hb2
 rw [hs2] at hs3 hh3 hb3
 rw [hs3] at hs4 hh4 hb4
 rw [hs4] at hs5 hh5 hb5
 rw [hs5] at hs6 hh6 hb6
 rw [hs6] at hs7 hh7 hb7
 rw [hs7] at hs8 hh8 hb8
 have hs1 : w1.heap.size = N + 2 := hs1
 have hs2 : w2.heap.size = N + 3 := hs2
 have hs3 : w3.heap.size = N + 4 := hs3
 have hs4 : w4.heap.size = N + 5 := hs4
 have hs5 : w5.heap.size = N + 6 := hs5
 have hs6 : w6.heap.size = N + 7 := hs6
 have hs7 : w7.heap.size = N + 8 := hs7
 have hs8 : w8.heap.size = N + 9 := hs8
 have hA1 := (hb1.block N (by omega)).trans hh0
 have hA2 := (hb2.block N (by omega)).trans hA1
 have hA3 := (hb3.block N (by omega)).trans hA2
 have hA4 := (hb4.block N (by omega)).trans hA3
 have hA5 := (hb5.block N (by omega)).trans hA4
 have b78 : Below (N + 7) w7 w8 := hb8.mono (by omega)
 have b68 : Below (N + 6) w6 w8 := (hb7.trans (hb8.mono (by omega))).mono (by omega)
 have b58 : Below (N + 5) w5 w8 := (hb6.trans (b68.mono (by omega))).mono (by omega)
 have b48 : Below (N + 4) w4 w8 := (hb5.trans (b58.mono (by omega))).mono (by omega)
 have b38 : Below (N + 3) w3 w8 := (hb4.trans (b48.mono (by omega))).mono (by omega)
 have b28 : Below (N + 2) w2 w8 := (hb3.trans (b38.mono (by omega))).mono (by omega)
 have b18 : Below (N + 1) w1 w8 := (hb2.trans (b28.mono (by omega))).mono (by omega)
 have b08 : Below N w0 w8 := (hb1.trans (b18.mono (by omega))).mono (by omega)
 have bw8 : Below N w w8 := hb0.trans b08
 have hmA : (Lit.int .i64 exSA.mx).wf = true ∧ (Lit.int .i64 exSA.my).wf = true := by decide
 have hmB : (Lit.int .i64 exSB.mx).wf = true ∧ (Lit.int .i64 exSB.my).wf = true := by decide
 have hR1 : Hid (∀ x, Below (N + 9) w8 x → RowsIn x (some ⟨N + 3, 0, none⟩) exS1.rows) := Lib.hid fun x hx =>
  two_rows ((hx.block (N + 3) (by omega)).trans (((b48.block (N + 3) (by omega)).trans ((hb4.block (N + 3) (by omega)).trans hh3)))) rfl rfl
   (two_cels hmA hmA (fun _ _ => rfl) (fun _ _ => rfl) ((hx.block (N + 1) (by omega)).trans ((b28.block (N + 1) (by omega)).trans ((hb2.block (N + 1) (by omega)).trans hh1))))
   (two_cels hmA hmA (fun _ _ => rfl) (fun _ _ => rfl) ((hx.block (N + 2) (by omega)).trans ((b38.block (N + 2) (by omega)).trans ((hb3.block (N + 2) (by omega)).trans hh2))))
 have hR2 : Hid (∀ x, Below (N + 9) w8 x → RowsIn x (some ⟨N + 7, 0, none⟩) exS2.rows) := Lib.hid fun x hx =>
  two_rows ((hx.block (N + 7) (by omega)).trans ((hb8.block (N + 7) (by omega)).trans hh7)) rfl rfl
   (two_cels hmB hmA (fun _ _ => rfl) (fun _ _ => rfl) ((hx.block (N + 5) (by omega)).trans ((b68.block (N + 5) (by omega)).trans ((hb6.block (N + 5) (by omega)).trans hh5))))
   (two_cels hmA hmA (fun _ _ => rfl) (fun _ _ => rfl) ((hx.block (N + 6) (by omega)).trans ((b78.block (N + 6) (by omega)).trans ((hb7.block (N + 6) (by omega)).trans hh6))))
 have hE1 : ∀ c ∈ celsP exS1, ∀ k, k < 6 → (c.ev k).length ≤ 1048576 := fun c hc k _ => by
  have : c = exSA := by simpa [celsP, exS1] using hc
  subst this; exact Nat.zero_le _
 have hE2 : ∀ c ∈ celsP exS2, ∀ k, k < 6 → (c.ev k).length ≤ 1048576 := fun c hc k _ => by
  have : c = exSB ∨ c = exSA := by simpa [celsP, exS2] using hc
  rcases this with rfl | rfl <;> exact Nat.zero_le _
 have hZ8 : Hid (∀ x, Below (N + 9) w8 x → x.heap[N + 1 + 1 + 1 + 1]? = some (.cells Z1 25 (0, 0)) ∧ x.heap[N + 1 + 1 + 1 + 1 + 1 + 1 + 1 + 1]? = some (.cells Z2 25 (0, 0)) ∧ Below N w x) := Lib.hid fun x hx =>
  ⟨(hx.block (N + 4) (by omega)).trans ((b58.block (N + 4) (by omega)).trans ((hb5.block (N + 4) (by omega)).trans hh4)), (hx.block (N + 8) (by omega)).trans hh8, bw8.trans (hx.mono (by omega))⟩
 have ask : ∀ i x, Below (N + 9) w8 x → AsksCell x i := fun i x hx c p n k y hy hc => cright_code i c p n k y hc (ht.below (by rw [hN]; exact (hZ8.out x hx).2.2.trans (hy.mono (by have := (hZ8.out x hx).2.2.size; omega)))) (hs.below (by rw [hN]; exact (hZ8.out x hx).2.2.trans (hy.mono (by have := (hZ8.out x hx).2.2.size; omega))))
 have K : ∀ (x y : World), Below (N + 9) w8 x → Below x.heap.size x y → Below (N + 9) w8 y := fun x y hx hy => hx.trans (hy.mono (by have := hx.size; omega))
 have C0 := Lib.hid (fun x (hx : Below (N + 9) w8 x) => ((sncheck_code exS0 none none 0 0 x (Nat.zero_le _) (Nat.zero_le _) (IntsL.nil _ _) (.inl rfl) (fun c hc => by cases hc) (ask _ x hx)).mono fun e y h => ⟨h.1.trans (by rw [ex_errs.1]), K x y hx h.2⟩ : Calls Tryd.prog 7 #[.agg #[.int .i64 0, .int .i64 0, .int .i64 0, .bool false, .int .i64 0, .slice none 0 0, .slice none 0 0, .int .i64 0]] x fun e y => e = .returned (.int .i64 12) ∧ Below (N + 9) w8 y))
 have C1 := Lib.hid (fun x (hx : Below (N + 9) w8 x) => (by
  rw [← hZ1]
  exact (sncheck_code exS1 none (some ⟨N + 3, 0, none⟩) 0 2 x (Nat.zero_le _) (by decide) (IntsL.nil _ _) (hR1.out x hx) hE1 (ask _ x hx)).mono fun e y h => ⟨h.1.trans (by rw [ex_errs.2.1]), K x y hx h.2⟩ : Calls Tryd.prog 7 #[.agg Z1] x fun e y => e = .returned (.int .i64 0) ∧ Below (N + 9) w8 y))
 have C2 := Lib.hid (fun x (hx : Below (N + 9) w8 x) => (by
  rw [← hZ2]
  exact (sncheck_code exS2 none (some ⟨N + 7, 0, none⟩) 0 2 x (Nat.zero_le _) (by decide) (IntsL.nil _ _) (hR2.out x hx) hE2 (ask _ x hx)).mono fun e y h => ⟨h.1.trans (by rw [ex_errs.2.2]), K x y hx h.2⟩ : Calls Tryd.prog 7 #[.agg Z2] x fun e y => e = .returned (.int .i64 8) ∧ Below (N + 9) w8 y))
 have C3 := Lib.hid (fun x (hx : Below (N + 9) w8 x) => (by
  rw [← hZ1]
  refine (sncells_code exS1 none (some ⟨N + 3, 0, none⟩) 0 2 x (by decide) (hR1.out x hx) (by decide) hE1).mono ?_
  rintro e y ⟨v, rfl, ho, hb⟩
  obtain ⟨q, cap, rfl, -⟩ := OwnM.many ho (V' := CelV) CelW.cel
  exact ⟨q, cap, rfl, K x y hx hb⟩ : Calls Tryd.prog 9 #[.agg Z1] x fun e y => ∃ q cap, e = .returned (.slice q 4 cap) ∧ Below (N + 9) w8 y))
 have HSA : (Tryd.prog.info? 42).map (·.size) = some A.size := by rw [← hA]; exact cel_sizeA _ _
 have HYA : Y.size = A.size := by rw [HYS, ← hA]; rfl
 have HOA : A.all (·.oneCell') = true := by rw [← hA]; exact one_cells (nil_cel w exSA hmA fun _ _ => rfl)
 have HSZ1 : (Tryd.prog.info? 25).map (·.size) = some Z1.size := by rw [← hZ1]; kernel_rfl
 have HYZ1 : Ys.size = Z1.size := by rw [HYSS, ← hZ1]; rfl
 have HOZ1 : Z1.all (·.oneCell') = true := by rw [← hZ1]; simp [Value.oneCell']
 have HSZ2 : (Tryd.prog.info? 25).map (·.size) = some Z2.size := by rw [← hZ2]; kernel_rfl
 have HYZ2 : Ys.size = Z2.size := by rw [HYSS, ← hZ2]; rfl
 have HOZ2 : Z2.all (·.oneCell') = true := by rw [← hZ2]; simp [Value.oneCell']
 have hh33 : (w2.alloc (.cells #[.bool false, .int .i64 0, .int .i64 0, .slice (some ⟨N + 1, 0, none⟩) 2 2, .bool false, .int .i64 0, .int .i64 0, .slice (some ⟨N + 2, 0, none⟩) 2 2] 45 (0, 0))).heap.size = N + 3 + 1 := by rw [hw3, hs3]
 have hh77 : (w6.alloc (.cells #[.bool false, .int .i64 0, .int .i64 0, .slice (some ⟨N + 5, 0, none⟩) 2 2, .bool false, .int .i64 0, .int .i64 0, .slice (some ⟨N + 6, 0, none⟩) 2 2] 45 (0, 0))).heap.size = N + 7 + 1 := by rw [hw7, hs7]
 have hS8 : Below (N + 9) w8 w8 := Below.refl _ _
 have HA := Lib.hid hA
 have HN := Lib.hid hN
 have HZ1 := Lib.hid hZ1
 have HZ2 := Lib.hid hZ2
 have HW0 := Lib.hid hw0
 have HW1 := Lib.hid hw1
 have HW2 := Lib.hid hw2
 have HW3 := Lib.hid hw3
 have HW4 := Lib.hid hw4
 have HW5 := Lib.hid hw5
 have HW6 := Lib.hid hw6
 have HW7 := Lib.hid hw7
 have HW8 := Lib.hid hw8
 have S33 := Lib.hid hh33
 have S77 := Lib.hid hh77
 obtain ⟨q4, -, -⟩ := hZ8.out _ hS8
 clear hA hN hZ1 hZ2 hw0 hw1 hw2 hw3 hw4 hw5 hw6 hw7 hw8 hh1 hh2 hh3 hh4 hh5 hh6 hh7 hh8 hb0 hb1 hb2 hb3 hb4 hb5 hb6 hb7 hb8 hA2 hA3 b78 b68 b58 b48 b38 b28 b18 b08 bw8 hmA hmB hE1 hE2 ask K hR1 hR2 hs3 hs7 hs8 hh33 hh77 ht hs
 go_enter Tryd.func6, Tryd.ntmps6
 go_wp2_with (first
  | (with_reducible refine wpList_buildTo rfl 42 _ rfl (some 6) rfl (celL exSA nilS).toArray (by kernel_rfl) ?_; rw [HA.out])
  | (with_reducible refine wpList_buildTo rfl 42 _ rfl (some 19) rfl (celL exSB nilS).toArray (by kernel_rfl) ?_)
  | (with_reducible refine wp_store_fresh rfl 42 _ _ rfl A Y 42 rfl rfl HSA HYA HOA ?_; rw [HW0.out, HN.out])
  | (with_reducible refine wpList_load_row rfl 42 _ rfl N rfl 42 A (0, 0) _ hh0 Tryd.underlying42 rfl HSA ?_)
  | (with_reducible refine wpList_load_row rfl 42 _ rfl N rfl 42 A (0, 0) _ hA1 Tryd.underlying42 rfl HSA ?_)
  | (with_reducible refine wpList_load_row rfl 42 _ rfl N rfl 42 A (0, 0) _ hA4 Tryd.underlying42 rfl HSA ?_)
  | (with_reducible refine wpList_load_row rfl 42 _ rfl N rfl 42 A (0, 0) _ hA5 Tryd.underlying42 rfl HSA ?_)
  | (with_reducible refine wpList_lit_cel2 rfl _ _ rfl exSA exSA nilS nilS (N + 1) hs0 9 rfl ?d1 ?d2 ?_; (case d1 => (rw [HA.out]; kernel_rfl)); (case d2 => (rw [HA.out]; kernel_rfl)); rw [HW1.out])
  | (with_reducible refine wpList_lit_cel2 rfl _ _ rfl exSA exSA nilS nilS (N + 2) hs1 13 rfl ?d3 ?d4 ?_; (case d3 => (rw [HA.out]; kernel_rfl)); (case d4 => (rw [HA.out]; kernel_rfl)); rw [HW2.out])
  | (with_reducible refine wpList_lit_cel2 rfl _ _ rfl exSB exSA nilS nilS (N + 5) hs4 21 rfl ?d5 ?d6 ?_; (case d5 => kernel_rfl); (case d6 => (rw [HA.out]; kernel_rfl)); rw [HW5.out])
  | (with_reducible refine wpList_lit_cel2 rfl _ _ rfl exSA exSA nilS nilS (N + 6) hs5 25 rfl ?d7 ?d8 ?_; (case d7 => (rw [HA.out]; kernel_rfl)); (case d8 => (rw [HA.out]; kernel_rfl)); rw [HW6.out])
  | (with_reducible refine wpList_buildTo rfl 25 _ rfl (some 17) rfl #[.int .i64 0, .int .i64 0, .int .i64 6, .bool false, .int .i64 5, .slice none 0 0, .slice (some ⟨N + 3, 0, none⟩) 2 2, .int .i64 0] (by kernel_rfl) ?_; rw [HZ1.out])
  | (with_reducible refine wpList_buildTo rfl 25 _ rfl (some 28) rfl #[.int .i64 0, .int .i64 0, .int .i64 6, .bool true, .int .i64 5, .slice none 0 0, .slice (some ⟨N + 7, 0, none⟩) 2 2, .int .i64 0] (by kernel_rfl) ?_; rw [HZ2.out])
  | (with_reducible refine wp_store_freshN rfl 25 _ _ rfl Z1 Ys 25 (N + 3 + 1) S33.out rfl rfl HSZ1 HYZ1 HOZ1 ?_; rw [HW3.out, HW4.out])
  | (with_reducible refine wp_store_freshN rfl 25 _ _ rfl Z2 Ys 25 (N + 7 + 1) S77.out rfl rfl HSZ2 HYZ2 HOZ2 ?_; rw [HW7.out, HW8.out])
  | (with_reducible refine wpList_load_row rfl 25 _ rfl (N + 1 + 1 + 1 + 1) rfl 25 Z1 (0, 0) _ q4 Tryd.underlying25 rfl HSZ1 ?_))
 refine (C1.out _ hS8).mono ?_
 rintro e x1 ⟨rfl, hx1⟩
 obtain ⟨-, q8, -⟩ := hZ8.out _ hx1
 clear q4
 go_wp2_with (with_reducible refine wpList_wanted_load (by kernel_rfl) 25 _ rfl (N + 1 + 1 + 1 + 1 + 1 + 1 + 1 + 1) rfl 25 Z2 (0, 0) _ q8 Tryd.underlying25 rfl HSZ2 ?_)
 refine (C2.out _ hx1).mono ?_
 rintro e x2 ⟨rfl, hx2⟩
 clear q8 hx1
 go_wp2_with (with_reducible refine wpList_wanted_build (by kernel_rfl) 25 _ rfl (some 38) rfl #[.int .i64 0, .int .i64 0, .int .i64 0, .bool false, .int .i64 0, .slice none 0 0, .slice none 0 0, .int .i64 0] (by kernel_rfl) ?_)
 refine (C0.out _ hx2).mono ?_
 rintro e x3 ⟨rfl, hx3⟩
 obtain ⟨q4, -, -⟩ := hZ8.out _ hx3
 clear hx2
 go_wp2_with (with_reducible refine wpList_wanted_load (by kernel_rfl) 25 _ rfl (N + 1 + 1 + 1 + 1) rfl 25 Z1 (0, 0) _ q4 Tryd.underlying25 rfl HSZ1 ?_)
 refine (C3.out _ hx3).mono ?_
 rintro e x4 ⟨q, cap, rfl, hx4⟩
 have hE := (hZ8.out _ hx4).2.2
 go_wp2
 go_ret
 exact ⟨rfl, by rw [HN.out]; exact hE⟩
end Go.Proofs.YthmmpjecmapajaaDoor
