/- Texts that SoundSame's proof stands on, part 42 of 48. No condition of its own. -/
import Derived.Test.YthmmpjecmapajaaDoorSoundSameMl
import Derived.Test.YthmmpjecmapajaaDoorSoundSameMbg
import Derived.Test.YthmmpjecmapajaaDoorSoundSameMbm
import Derived.Great.BuildSlice
namespace Go.Proofs.YthmmpjecmapajaaDoor
open Go.RowKit Go.Lib
def slP : Value → Option Addr
 | .slice q _ _ => q
 | _ => none
def slC : Value → Nat
 | .slice _ _ c => c
 | _ => 0
theorem own_slice {w : World} {base e c n : Nat} {v : Value} {xs : List Value} (h : w.ownsRow base e c v n xs) : v = .slice (slP v) n (slC v) ∧ (slP v = none → slC v = 0) ∧ v.oneCell' = true := by
 rcases h.2 with ⟨rfl, rfl⟩ | ⟨g, cap, cur, rfl, _⟩
 ·exact ⟨rfl, fun _ => rfl, rfl⟩
 ·exact ⟨rfl, (fun h => by cases h), rfl⟩
theorem celL_congr {c : Cel} {sl sl' : Nat → Value} (h : ∀ i, i < 6 → sl i = sl' i) : celL c sl = celL c sl' := by
 unfold celL
 rw [h 0 (by omega), h 1 (by omega), h 2 (by omega), h 3 (by omega), h 4 (by omega), h 5 (by omega)]
theorem own_base {w : World} {base base' e c n : Nat} {v : Value} {xs : List Value} (h : w.ownsRow base e c v n xs) (hb : base' ≤ base) : w.ownsRow base' e c v n xs := by
 refine ⟨h.1, ?_⟩
 rcases h.2 with h3 | ⟨g, cap, cur, e1, hg, h4⟩
 ·exact .inl h3
 ·exact .inr ⟨g, cap, cur, e1, Nat.le_trans hb hg, h4⟩
def CelW (w : World) (c : Cel) (vs : List Value) : Prop :=
 ∃ sl : Nat → Value, vs = celL c sl ∧ ((Lit.int .i64 c.mx).wf = true ∧ (Lit.int .i64 c.my).wf = true) ∧ ∀ i, i < 6 → (c.ev i).length ≤ maxLen ∧ w.ownsRow 0 55 3 (sl i) (c.ev i).length (cellsV (c.ev i))
theorem own_below {w x : World} {base e c n : Nat} {v : Value} {xs : List Value} (h : w.ownsRow base e c v n xs) (hb : Below w.heap.size w x) : x.ownsRow base e c v n xs :=
 h.kept (below_grownBy hb none) (by cases hv : v.ownBlock with | none => exact .inl rfl | some g => exact .inr (by simp))
theorem CelW.below {w x : World} {c : Cel} {vs : List Value} (h : CelW w c vs) (hb : Below w.heap.size w x) : CelW x c vs := by
 obtain ⟨sl, h1, h2, h3⟩ := h
 exact ⟨sl, h1, h2, fun i hi => ⟨(h3 i hi).1, own_below (h3 i hi).2 hb⟩⟩
theorem CelW.kept {w x : World} {row : Option Nat} {c : Cel} {vs : List Value} (h : CelW w c vs) (hg : w.grownBy x row) (hc : ∀ g, row = some g → ∃ cur, w.heap[g]? = some (.cells cur 42 (0, 0))) : CelW x c vs := by
 obtain ⟨sl, h1, h2, h3⟩ := h
 refine ⟨sl, h1, h2, fun i hi => ⟨(h3 i hi).1, (h3 i hi).2.kept hg ?_⟩⟩
 rcases (h3 i hi).2.2 with ⟨e, _⟩ | ⟨g, cap, cur, e, _, hh, _⟩
 ·rw [e]; exact .inl rfl
 ·refine .inr fun e2 => ?_
  rw [e] at e2
  obtain ⟨cur', hh'⟩ := hc g e2.symm
  rw [hh] at hh'
  injection hh' with hh'
  injection hh' with _ hh' _
  exact absurd hh' (by decide)
theorem CelW.cel {w : World} (c : Cel) (vs : List Value) (h : CelW w c vs) : CelV w c vs := by
 obtain ⟨sl, rfl, h2, h3⟩ := h
 refine ⟨fun i => slP (sl i), fun i => slC (sl i), celL_congr fun i hi => (own_slice (h3 i hi).2).1, ⟨h2, fun i hi => (own_slice (h3 i hi).2).2.1⟩, fun i hi => ⟨(h3 i hi).1, ?_⟩⟩
 obtain ⟨q, cap, e, hE⟩ := owns_evs (h3 i hi).2
 show EvsIn w (slP (sl i)) (c.ev i)
 rw [e]
 exact hE
theorem CelW.shape {w : World} {c : Cel} {vs : List Value} (h : CelW w c vs) : vs.length = 18 ∧ ∀ u ∈ vs, u.oneCell' = true := (CelW.cel c vs h).shape
theorem OwnM.mono {α : Type} {c : Nat} {e : TypeId} {V V' : α → List Value → Prop} {w : World} {base : Nat} {v : Value} {l : List α} (h : OwnM c e V w base v l) (hV : ∀ a vs, V a vs → V' a vs) : OwnM c e V' w base v l := by
 obtain ⟨xs, ⟨h1, h2, h3⟩, h4⟩ := h
 refine ⟨xs, ⟨h1, h2, fun i hi => ?_⟩, h4⟩
 obtain ⟨x, e1, e2⟩ := h3 i hi
 exact ⟨x, e1, hV _ _ e2⟩
def OwnCels (w : World) (base : Nat) (v : Value) (l : List Cel) : Prop := OwnM 18 42 (CelW w) w base v l
theorem OwnCels.nil (w : World) (base : Nat) : OwnCels w base (.slice none 0 0) [] := OwnM.nil ..
theorem OwnCels.below {w x : World} {base : Nat} {v : Value} {l : List Cel} (h : OwnCels w base v l) (hb : Below w.heap.size w x) : OwnCels x base v l :=
 OwnM.mono (OwnM.below h hb) fun _ _ hv => hv.below hb
theorem OwnM.typed {α : Type} {c : Nat} {e : TypeId} {V : α → List Value → Prop} {w : World} {base : Nat} {v : Value} {l : List α} (h : OwnM c e V w base v l) : ∀ g, v.ownBlock = some g → ∃ cur, w.heap[g]? = some (.cells cur e (0, 0)) := by
 obtain ⟨xs, _, h2⟩ := h
 rcases h2.2 with ⟨rfl, _⟩ | ⟨g, cap, cur, rfl, _, hh, _⟩
 ·intro g h; cases h
 ·intro g' h
  injection h with h
  subst h
  exact ⟨cur, hh⟩
theorem ev_info : ∃ i z, Tryd.prog.info? 55 = some i ∧ i.zero = some z ∧ z.cells.size = 3 ∧ i.size = 3 ∧ i.bytes = 24 := by
 have h := info_ev
 generalize Tryd.prog.info? 55 = x at h
 match x, h with
 | some i, h =>
  rw [Option.map_some] at h
  injection h with h
  injection h with h1 h2
  injection h2 with h2 h3
  exact ⟨i, _, rfl, h1, rfl, h2, h3⟩
theorem evs_cells {w : World} {b o : Nat} {l : List Ev} (h : EvsIn w (some ⟨b, o, none⟩) l) : ∀ (j : Nat) u, (cellsV l)[j]? = some u → w.cell? ⟨b, o + j, none⟩ = some u := by
 intro j u hu
 rcases h with rfl | ⟨b', o', e, _, hc⟩
 ·simp [cellsV] at hu
 ·injection e with e
  injection e with e1 e2
  subst e1 e2
  have hj : j < 3 * l.length := by rw [← cellsV_len]; exact (List.getElem?_eq_some_iff.1 hu).1
  have hi : j / 3 < l.length := by omega
  obtain ⟨a0, a1, a2⟩ := cellsV_at l (j / 3) hi
  obtain ⟨b0, b1, b2⟩ := hc (j / 3) hi
  have h3 : j = 3 * (j / 3) ∨ j = 3 * (j / 3) + 1 ∨ j = 3 * (j / 3) + 2 := by omega
  have eo : o + j / 3 * 3 = o + 3 * (j / 3) := by omega
  rw [eo] at b0 b1 b2
  generalize j / 3 = i at *
  rcases h3 with rfl | rfl | rfl
  ·rw [a0] at hu; injection hu with hu; rw [b0, hu]
  ·rw [a1] at hu; injection hu with hu; rw [← Nat.add_assoc, b1, hu]
  ·rw [a2] at hu; injection hu with hu; rw [← Nat.add_assoc, b2, hu]
theorem one_evs (l : List Ev) : ∀ u ∈ cellsV l, u.oneCell' = true := by
 intro u hu
 obtain ⟨x, _, hx⟩ := List.mem_flatMap.1 hu
 simp only [encV, List.mem_cons, List.not_mem_nil, or_false] at hx
 rcases hx with rfl | rfl | rfl <;> rfl
theorem wp_append_evs {w : World} {ops : Array Oper} {rest : List Oper} {o : Oper} {a : Act} {Q : Exit → Act → World → Prop} {s x : Operand} {t : TypeId} {q : Option Addr} {l : List Ev} {cap B : Nat}
  (hgd : o.guard = none) (ho : o.op = .call { callee := .builtin .append, args := #[s, x], argTypes := #[t, t] }) (ht : Tryd.prog.underlying t = some (.slice 55))
  (hs : a.eval s = .slice none 0 0) (hx : a.eval x = .slice q l.length cap) (hq : q = none → cap = 0) (hl : EvsIn w q l) (hm : l.length ≤ 1048576) (hB : B ≤ w.heap.size)
  (h : ∀ q' cap' w', w'.ownsRow B 55 3 (.slice q' l.length cap') l.length (cellsV l) → Below w.heap.size w w' → wpList Tryd.prog ops Q rest (a.put o.dst (.slice q' l.length cap')) w') : wpList Tryd.prog ops Q (o :: rest) a w := by
 obtain ⟨ti, tz, j0, j1, j2, j3, j4⟩ := ev_info
 cases q with
 | none =>
  have hl0 : l = [] := by
   rcases hl with hl | ⟨b, o, e, _⟩
   ·exact hl
   ·cases e
  subst hl0
  rw [hq rfl] at hx
  refine wpList_append_own_none hgd s x t ho B 55 ti 3 ht j0 (.slice none 0 0) 0 [] hs (World.ownsRow_nil ..) hx ?_
  exact h none 0 w (World.ownsRow_nil ..) (Below.refl _ _)
 | some ad =>
  have hcell : ∀ (j : Nat) u, (cellsV l)[j]? = some u → w.cell? (ad.add j) = some u := by
   rcases hl with rfl | ⟨b, o, e, hm⟩
   ·intro j u hj; simp [cellsV] at hj
   ·injection e with e
    subst e
    intro j u hj
    rw [Addr.add_mid]
    exact evs_cells (.inr ⟨b, o, rfl, hm⟩) j u hj
  refine wpList_append_own w hgd s x t ho B 55 ti tz 3 24 ht j0 j1 j3 j4 j2 (by decide) (.slice none 0 0) 0 [] hs (World.ownsRow_nil ..) ad l.length cap (cellsV l) hx (by rw [cellsV_len]; omega) hcell (one_evs l)
   (by unfold maxLen; omega) (by omega) hB fun v' w' h1 h2 _ => (by
   rw [Nat.zero_add, List.nil_append] at h1
   have e := (own_slice h1).1
   rw [e] at h1 ⊢
   exact h _ _ w' h1 ⟨h2.os, h2.tape, h2.output, h2.size, fun k hk => h2.block k hk (by simp [Value.ownBlock])⟩)
theorem wpList_lit_cel {w : World} {ops : Array Oper} {rest : List Oper} {o : Oper} {a : Act} {Q : Exit → Act → World → Prop} (hgd : o.guard = none) (x : Operand) (ho : o.op = .buildSlice 31 1 #[(0, x)]) (c : Cel) (sl : Nat → Value)
  (hx : a.eval x = .agg (celL c sl).toArray) (h : wpList Tryd.prog ops Q rest (a.put o.dst (.slice (some ⟨w.heap.size, 0, none⟩) 1 1)) (w.alloc (.cells (celL c sl).toArray 42 (0, 0)))) : wpList Tryd.prog ops Q (o :: rest) a w := by
 have hf : (match Tryd.prog.info? 42 with
  | some ie => (match ie.zero with
   | some z => if ie.size = 18 then Instr.fill (fun i => some (i * ie.size, ie.size)) ((Array.range (1 * ie.size)).map (z.cells[· % z.cells.size]!)) [(0, .agg (celL c sl).toArray)] else none
   | none => none)
  | none => none) = some (celL c sl).toArray := by kernel_rfl
 cases hi : Tryd.prog.info? 42 with
 | none => rw [hi] at hf; cases hf
 | some ie =>
  rw [hi] at hf
  cases hz : ie.zero with
  | none => simp only [hz] at hf; cases hf
  | some z =>
   simp only [hz] at hf
   by_cases h18 : ie.size = 18
   ·rw [if_pos h18] at hf
    exact wpList_buildSlice hgd _ _ 1 _ ho _ ie z Tryd.underlying31 hi hz (by rw [h18]; decide) (by rw [h18]; decide) (by simpa [hx] using hf) h
   ·rw [if_neg h18] at hf; cases hf
theorem wpList_lit_cel2 {w : World} {ops : Array Oper} {rest : List Oper} {o : Oper} {a : Act} {Q : Exit → Act → World → Prop} (hgd : o.guard = none) (x y : Operand) (ho : o.op = .buildSlice 31 2 #[(0, x), (1, y)]) (c d : Cel) (sl sl' : Nat → Value) (N : Nat) (hN : w.heap.size = N) (t : Tmp) (hd : o.dst = some t)
  (hx : a.eval x = .agg (celL c sl).toArray) (hy : a.eval y = .agg (celL d sl').toArray) (h : wpList Tryd.prog ops Q rest (a.put (some t) (.slice (some ⟨N, 0, none⟩) 2 2)) (w.alloc (.cells (celL c sl ++ celL d sl').toArray 42 (0, 0)))) : wpList Tryd.prog ops Q (o :: rest) a w := by
 have hf : (match Tryd.prog.info? 42 with
  | some ie => (match ie.zero with
   | some z => if ie.size = 18 then Instr.fill (fun i => some (i * ie.size, ie.size)) ((Array.range (2 * ie.size)).map (z.cells[· % z.cells.size]!)) [(0, .agg (celL c sl).toArray), (1, .agg (celL d sl').toArray)] else none
   | none => none)
  | none => none) = some (celL c sl ++ celL d sl').toArray := by kernel_rfl
 cases hi : Tryd.prog.info? 42 with
 | none => rw [hi] at hf; cases hf
 | some ie =>
  rw [hi] at hf
  cases hz : ie.zero with
  | none => simp only [hz] at hf; cases hf
  | some z =>
   simp only [hz] at hf
   by_cases h18 : ie.size = 18
   ·rw [if_pos h18] at hf
    subst hN
    rw [← hd] at h
    exact wpList_buildSlice hgd _ _ 2 _ ho _ ie z Tryd.underlying31 hi hz (by rw [h18]; decide) (by rw [h18]; decide) (by simpa [hx, hy] using hf) h
   ·rw [if_neg h18] at hf; cases hf
end Go.Proofs.YthmmpjecmapajaaDoor

namespace Go.Proofs.YthmmpjecmapajaaDoor
open Go.RowKit Go.Lib
def celsG (S : ShP) (i j : Nat) : List Cel := celsF S i ++ (S.rows[i]!).cels.take j
theorem celsG_next (S : ShP) {i j : Nat} (hi : i < S.rows.length) (hj : j < S.rows[i].cels.length) : celsG S i (j + 1) = celsG S i j ++ [S.rows[i].cels[j]] := by
 unfold celsG
 rw [getElem!_pos S.rows i hi, List.take_succ_eq_append_getElem hj, List.append_assoc]
theorem celsG_row (S : ShP) {i : Nat} (hi : i < S.rows.length) : celsG S i S.rows[i].cels.length = celsF S (i + 1) := by
 unfold celsG
 rw [getElem!_pos S.rows i hi, List.take_length, celsF_next S hi]
theorem celsG_none (S : ShP) (i : Nat) : celsG S i 0 = celsF S i := by unfold celsG; rw [List.take_zero, List.append_nil]
theorem celsG_most (S : ShP) {i j : Nat} (hi : i < S.rows.length) : (celsG S i j).length ≤ (celsP S).length := by
 have h := celsF_most S (i + 1)
 rw [celsF_next S hi, List.length_append] at h
 unfold celsG
 rw [getElem!_pos S.rows i hi, List.length_append, List.length_take]
 omega
def putV (f : Nat → Value) (i : Nat) (v : Value) : Nat → Value := fun k => if k = i then v else f k
theorem celL_put (c : Cel) (f : Nat → Value) (v : Value) : ∀ i, i < 6 → (celL c f).set (12 + i) v = celL c (putV f i v)
 | 0, _ | 1, _ | 2, _ | 3, _ | 4, _ | 5, _ => rfl
theorem wpList_load_evs {ops : Array Oper} {rest : List Oper} {op : Oper} {a : Act} {w : World} {Q : Exit → Act → World → Prop} (hgd : op.guard = none) (x : Operand) (ho : op.op = .load 40 x)
  (b o : Nat) (hx : a.eval x = .pointer (some ⟨b, o, none⟩)) (f : Nat → Value) (hc : w.rangeAt b o [f 0, f 1, f 2, f 3, f 4, f 5]) (h : wpList Tryd.prog ops Q rest (a.put op.dst (.agg #[f 0, f 1, f 2, f 3, f 4, f 5])) w) : wpList Tryd.prog ops Q (op :: rest) a w :=
 wpList_load_mid hgd _ x ho b o hx [f 0, f 1, f 2, f 3, f 4, f 5] _ hc Tryd.underlying40 rfl (by kernel_rfl) h
set_option maxRecDepth 100000 in
set_option maxHeartbeats 1000000 in
theorem sncells_code (S : ShP) (p b : Option Addr) (ca cb : Nat) (w : World) (hn : S.rows.length ≤ maxLen) (hr : RowsIn w b S.rows) (hm : (celsP S).length ≤ 1048576) (hc : ∀ c ∈ celsP S, ∀ k, k < 6 → (c.ev k).length ≤ 1048576) :
  Calls Tryd.prog 9 #[.agg (sheetL S.hd (.slice p S.hd.supp.length ca) (.slice b S.rows.length cb) S.zeros).toArray] w fun e w' => ∃ v, e = .returned v ∧ OwnCels w' w.heap.size v (celsP S) ∧ Below w.heap.size w w' := by
 have n1 : ∀ i (h : i < S.rows.length), ∀ c ∈ S.rows[i].cels, c ∈ celsP S := fun i h c hc => List.mem_flatMap.2 ⟨_, List.getElem_mem h, hc⟩
 unfold maxLen at hn
 obtain ⟨n, hln⟩ : ∃ n, S.rows.length = n := ⟨_, rfl⟩
 rw [hln] at hn ⊢
 obtain ⟨zs, hZ⟩ : ∃ zs, sheetL S.hd (.slice p S.hd.supp.length ca) (.slice b n cb) S.zeros = zs := ⟨_, rfl⟩
 have z6 : zs[6]? = some (.slice b n cb) := by rw [← hZ]; rfl
 rw [hZ]
 obtain ⟨B, hB⟩ : ∃ B, w.heap.size = B := ⟨_, rfl⟩
 obtain ⟨w1, hw1⟩ : ∃ w1, w.alloc (.cells zs.toArray 25 (0, 0)) = w1 := ⟨_, rfl⟩
 have hl1 : Below w.heap.size w w1 := by rw [← hw1]; exact (Below.refl _ w).alloc (Nat.le_refl _) _
 have hs1 : w1.heap.size = B + 1 := by rw [← hw1, ← hB]; simp
 obtain ⟨Yr, HYRS, hzr⟩ := rows_zero
 obtain ⟨Y, HYS, hzv⟩ := cels_zero
 have HW1 := Lib.hid hw1
 have HB := Lib.hid hB
 have NR := Lib.hid hln
 have HR := Lib.hid hr
 have HN1 := Lib.hid n1
 have HC := Lib.hid hc
 have ALL := Lib.hid (celsF_all S hln)
 have MOST := Lib.hid fun i j (hi : i < S.rows.length) => Nat.le_trans (celsG_most S (j := j) hi) hm
 clear hw1 hZ hln hr hm n1 hc
 go_enter Tryd.func9, Tryd.ntmps9
 go_wp2
 rw [HW1.out]
 go_loopw [3, 13] (fun v t wr => ∃ i : Nat, t = .int .i64 (i : Int) ∧ i ≤ n ∧ OwnCels wr (B + 1) v (celsF S i) ∧ Below w.heap.size w wr ∧ B + 1 ≤ wr.heap.size) (fun _ t _ => n - (intOf t).toNat)
 case atStart => exact ⟨0, rfl, Nat.zero_le _, OwnCels.nil .., hl1, by omega⟩
 case round =>
  clear hl1 hs1
  obtain ⟨i, rfl, hi, ho, hb, hs⟩ := hrel
  by_cases hlt : i < n
  ·have t1 : decide ((i : Int) < (n : Int)) = true := by simp; omega
   obtain ⟨b1, o1, rfl, hb1, hc1⟩ := rows_at HR.out (by rw [NR.out]; omega)
   have hil : i < S.rows.length := by rw [NR.out]; exact hlt
   obtain ⟨r, cap, hq, hml, hcel, hat⟩ := hc1 i hil
   obtain ⟨rs, hrs⟩ : ∃ rs, [Value.bool S.rows[i].head, .int .i64 S.rows[i].id, .int .i64 S.rows[i].quant, .slice r S.rows[i].cels.length cap] = rs := ⟨_, rfl⟩
   have r3 : rs[3]? = some (.slice r S.rows[i].cels.length cap) := by rw [← hrs]; rfl
   have rl : rs.length = 4 := by rw [← hrs]; rfl
   have ro : rs.toArray.all (·.oneCell') = true := by rw [← hrs]; simp [Value.oneCell']
   have hrg : wr.rangeAt b1 (o1 + i * 4) rs := fun k v hk => by
    obtain ⟨a0, a1, a2, a3⟩ := hat wr hb
    rw [← hrs] at hk
    match k, hk with
    | 0, hk => injection hk with hk; subst hk; exact a0
    | 1, hk => injection hk with hk; subst hk; exact a1
    | 2, hk => injection hk with hk; subst hk; exact a2
    | 3, hk => injection hk with hk; subst hk; exact a3
   have HSR : (Tryd.prog.info? 45).map (·.size) = some rs.toArray.size := by rw [show rs.toArray.size = 4 from rl]; kernel_rfl
   have HYR : Yr.size = rs.toArray.size := by rw [HYRS]; exact rl.symm
   have gN := Lib.hid (fun j (hj : j < S.rows[i].cels.length) => celsG_next S hil hj)
   have gR := Lib.hid (celsG_row S hil)
   have gM := Lib.hid (fun j => MOST.out i j hil)
   have hcr := Lib.hid (fun c (h : c ∈ S.rows[i].cels) => HC.out c (HN1.out i hil c h))
   rw [← celsG_none S i] at ho
   have GN0 := Lib.hid (celsG_none S i)
   obtain ⟨G, hG⟩ : ∃ G, celsG S i = G := ⟨_, rfl⟩
   simp only [hG] at ho gM gN gR GN0
   clear hat hc1 hrs hG
   generalize S.rows[i].cels = m at *
   obtain ⟨wB, hwB⟩ : ∃ wB, wr.alloc (.cells rs.toArray 45 (0, 0)) = wB := ⟨_, rfl⟩
   have k3 : wB.cell? ⟨wr.heap.size, 3, none⟩ = some (.slice r m.length cap) := part_cells (by rw [← hwB]; exact heap_alloc_new wr _) r3
   have hbB : Below wr.heap.size wr wB := by rw [← hwB]; exact (Below.refl _ wr).alloc (Nat.le_refl _) _
   have hoB := ho.below hbB
   have hbwB : Below w.heap.size w wB := hb.trans (hbB.mono hb.size)
   have hsB : B + 1 ≤ wB.heap.size := Nat.le_trans hs hbB.size
   have HWB := Lib.hid hwB
   have HCEL := Lib.hid hcel
   clear hwB hbB ho hb hs hcel r3
   go_wp2_with (first | (with_reducible refine wpList_load_rw rfl _ rfl b1 (o1 + i * 4) rfl rs hrg rl ?_) | (with_reducible refine wp_store_fresh rfl 45 _ _ rfl rs.toArray Yr 45 rfl rfl HSR HYR ro ?_; rw [HWB.out]))
   clear k3 hrg HSR HYR ro rl
   have hoB0 : OwnCels wB (B + 1) u3 (G 0) := hoB
   clear hoB
   go_loopw [3, 20] (fun v t wr => ∃ j : Nat, t = .int .i64 (j : Int) ∧ j ≤ m.length ∧ OwnCels wr (B + 1) v (G j) ∧ Below w.heap.size w wr ∧ B + 1 ≤ wr.heap.size) (fun _ t _ => m.length - (intOf t).toNat)
   case atStart => exact ⟨0, rfl, Nat.zero_le _, hoB0, hbwB, hsB⟩
   case round =>
    clear hoB0 hbwB hsB
    obtain ⟨j, rfl, hj, ho, hb, hs⟩ := hrel
    by_cases hjm : j < m.length
    ·have t2 : decide ((j : Int) < (m.length : Int)) = true := by simp; omega
     have hml2 : m.length ≤ 9223372036854775807 := by unfold maxLen at hml; omega
     obtain ⟨b2, o2, rfl, hb2, hcv⟩ := ManyIn.each HCEL.out (by omega)
     obtain ⟨vs, hV, hvc⟩ := hcv j hjm
     have hl18 := hV.shape.1
     have hone := one_cells hV
     obtain ⟨p3, cap3, hvs, ⟨hwf, hnc⟩, hev⟩ := hV
     have hrg : wr.rangeAt b2 (o2 + j * 18) vs := fun k v hk => hvc wr hb k v hk
     have hce := hcr.out m[j] (List.getElem_mem hjm)
     have GN := Lib.hid (gN.out j hjm)
     have GM := Lib.hid (gM.out (j + 1))
     clear hcv hvc
     obtain ⟨c, hcj⟩ : ∃ c, m[j] = c := ⟨_, rfl⟩
     rw [hcj] at hvs hwf hev hce GN
     clear hcj
     have HEV := Lib.hid (fun x (hx : Below w.heap.size w x) k (hk : k < 6) => (hev k hk).2.below hx)
     clear hev
     obtain ⟨f, hf⟩ : ∃ f : Nat → Value, (fun k => Value.slice (p3 k) (c.ev k).length (cap3 k)) = f := ⟨_, rfl⟩
     have hfk : ∀ k, f k = .slice (p3 k) (c.ev k).length (cap3 k) := fun k => by rw [← hf]
     rw [hf] at hvs
     clear hf
     generalize wr = wo at *
     obtain ⟨C, hC⟩ : ∃ C, wo.heap.size = C := ⟨_, rfl⟩
     obtain ⟨wC, hwC⟩ : ∃ wC, wo.alloc (.cells vs.toArray 42 (0, 0)) = wC := ⟨_, rfl⟩
     have hhC : wC.heap[C]? = some (.cells (celL c f).toArray 42 (0, 0)) := by rw [← hwC, ← hC, ← hvs]; exact heap_alloc_new wo _
     have hbC : Below C wo wC := by rw [← hwC, ← hC]; exact (Below.refl _ wo).alloc (Nat.le_refl _) _
     have hsC : C + 1 ≤ wC.heap.size := by rw [← hwC, ← hC]; simp
     have hr6 : wC.rangeAt C 12 [f 0, f 1, f 2, f 3, f 4, f 5] := fun k v hk => by
      match k, hk with
      | 0, hk => injection hk with hk; subst hk; exact part_cells hhC rfl
      | 1, hk => injection hk with hk; subst hk; exact part_cells hhC rfl
      | 2, hk => injection hk with hk; subst hk; exact part_cells hhC rfl
      | 3, hk => injection hk with hk; subst hk; exact part_cells hhC rfl
      | 4, hk => injection hk with hk; subst hk; exact part_cells hhC rfl
      | 5, hk => injection hk with hk; subst hk; exact part_cells hhC rfl
     have HSV : (Tryd.prog.info? 42).map (·.size) = some vs.toArray.size := by rw [show vs.toArray.size = 18 from hl18]; kernel_rfl
     have HYV : Y.size = vs.toArray.size := by rw [HYS]; exact hl18.symm
     have IX := Lib.hid (slice_at f)
     obtain ⟨A6, hA6⟩ : ∃ A6 : Array Value, #[f 0, f 1, f 2, f 3, f 4, f 5] = A6 := ⟨_, rfl⟩
     rw [hA6] at IX
     have HA6 := Lib.hid hA6
     have HWC := Lib.hid hwC
     have HC := Lib.hid hC
     have HFK := Lib.hid hfk
     have HBO := Lib.hid hb
     have HOO := Lib.hid ho
     have HSO := Lib.hid hs
     clear hA6 hwC hC hvs hfk hb ho hs
     go_wp2_with (first | (with_reducible refine wpList_load_cel rfl _ rfl b2 (o2 + j * 18) rfl vs hrg hl18 ?_) | (with_reducible refine wp_store_fresh rfl 42 _ _ rfl vs.toArray Y 42 rfl rfl HSV HYV hone ?_; rw [HWC.out, HC.out]) | (with_reducible refine wpList_load_evs rfl _ rfl C 12 rfl f hr6 ?_; rw [HA6.out]))
     clear hr6 hrg hone hl18
     go_loopw [26] (fun t wr => ∃ k : Nat, t = .int .i64 (k : Int) ∧ k ≤ 6 ∧ (∃ sl : Nat → Value, wr.heap[C]? = some (.cells (celL c sl).toArray 42 (0, 0)) ∧ ∀ i, i < k → wr.ownsRow (C + 1) 55 3 (sl i) (c.ev i).length (cellsV (c.ev i))) ∧ Below C wo wr ∧ C + 1 ≤ wr.heap.size) (fun t _ => 6 - (intOf t).toNat)
     case atStart => exact ⟨0, rfl, Nat.zero_le _, ⟨f, hhC, fun i h => absurd h (Nat.not_lt_zero i)⟩, hbC, hsC⟩
     case round =>
      clear hhC hbC hsC
      obtain ⟨k, rfl, hk, ⟨sl, hh, hown⟩, hb, hs⟩ := hrel
      have hbw : Below w.heap.size w wr := HBO.out.trans (hb.mono (by have := HBO.out.size; have := HC.out; omega))
      by_cases hk6 : k < 6
      ·have t3 : decide ((k : Int) < 6) = true := by simp; omega
       have ix := fun x => IX.out x k hk6
       have fk := HFK.out k
       have hek := HEV.out wr hbw k hk6
       have hnk := hnc k hk6
       have hlk := hce k hk6
       go_wp2_with (at_builtin; refine wp_append_evs (q := p3 k) (l := c.ev k) (cap := cap3 k) (B := C + 1) rfl rfl Tryd.underlying39 ?d1 ?d2 hnk hek hlk hs ?_; (case d1 => kernel_rfl); (case d2 => first | rfl | exact fk | (rw [← fk]; kernel_rfl)); intro q2 cap2 w2 ho2 hb2; have hh2 := (hb2.block C hs).trans hh; have c0 := part_cells hh2 (celL_ev c sl k hk6); have c1 := part_free (o := 12 + k) hh2)
       go_roundw
       case rel =>
        have hgs := grownBy_setCell w2 ⟨C, 12 + k, none⟩ (.slice q2 (c.ev k).length cap2)
        have hne : ∀ {v : Value} {n : Nat} {xs : List Value}, w2.ownsRow (C + 1) 55 3 v n xs → v.ownBlock = none ∨ v.ownBlock ≠ some C := fun {v n xs} h => by
         cases hv : v.ownBlock with
         | none => exact .inl rfl
         | some g => exact .inr (by intro e; injection e with e; have := (h.lt g hv).1; omega)
        refine ⟨k + 1, by go_num, by omega, ⟨putV sl k (.slice q2 (c.ev k).length cap2), ?_, fun i hi => ?_⟩, ?_, ?_⟩
        ·rw [← celL_put c sl _ k hk6]
         exact part_set _ hh2
        ·by_cases e : i = k
         ·subst e
          rw [show putV sl i (.slice q2 (c.ev i).length cap2) i = .slice q2 (c.ev i).length cap2 from if_pos rfl]
          exact ho2.kept hgs (hne ho2)
         ·rw [show putV sl k (.slice q2 (c.ev k).length cap2) i = sl i from if_neg e]
          have h2 := own_below (hown i (by omega)) hb2
          exact h2.kept hgs (hne h2)
        ·exact (hb.trans (hb2.mono (by omega))).setCell (Nat.le_refl _) _
        ·exact Nat.le_trans (Nat.le_trans hs hb2.size) hgs.size
       case measure => simp [intOf]; omega
      ·obtain rfl : k = 6 := by omega
       have t3 : decide (((6 : Nat) : Int) < 6) = false := by simp
       have hcw : CelW wr c (celL c sl) := ⟨sl, rfl, hwf, fun i hi => ⟨by have := hce i hi; unfold maxLen; omega, own_base (hown i hi) (Nat.zero_le _)⟩⟩
       have HSL : (Tryd.prog.info? 42).map (·.size) = some (celL c sl).toArray.size := cel_sizeA c sl
       obtain ⟨wX, hwX⟩ : ∃ wX, wr.alloc (.cells (celL c sl).toArray 42 (0, 0)) = wX := ⟨_, rfl⟩
       have hbX : Below wr.heap.size wr wX := by rw [← hwX]; exact (Below.refl _ wr).alloc (Nat.le_refl _) _
       have hhX : wX.heap[wr.heap.size]? = some (.cells (celL c sl).toArray 42 (0, 0)) := by rw [← hwX]; exact heap_alloc_new wr _
       have hcX := hcw.below hbX
       have hCo : C = wo.heap.size := HC.out.symm
       have hoX : OwnCels wX (B + 1) u3 (G j) := HOO.out.below (hb.mono (by omega) |>.trans (hbX.mono (by omega)))
       have hmX : ManyIn 18 (fun _ => CelW wX) wX (some ⟨wr.heap.size, 0, none⟩) [c] := .inr ⟨wr.heap.size, 0, rfl, (Array.getElem?_eq_some_iff.1 hhX).1, fun i hi => by
        obtain rfl : i = 0 := by simpa using hi
        exact ⟨celL c sl, hcX, fun k v hk => by rw [Nat.zero_mul, Nat.zero_add]; exact part_cells hhX hk⟩⟩
       have hGm := GM.out
       rw [GN.out, List.length_append] at hGm
       have hsX : B + 1 ≤ wX.heap.size := by have := hbX.size; have := HSO.out; have := hb.size; omega
       obtain ⟨ti, tz, j0, j1, j2, j3, j4⟩ := cel_info
       have HWX := Lib.hid hwX
       clear hwX hcw hown
       go_wp2_with (first | (with_reducible refine wpList_load_row rfl 42 _ rfl C rfl 42 (celL c sl).toArray (0, 0) _ hh Tryd.underlying42 rfl HSL ?_) | (with_reducible refine wpList_lit_cel rfl _ rfl c sl rfl ?_; rw [HWX.out]) | (at_builtin; refine wp_append_many (V := fun _ => CelW wX) (w0 := wX) (c := 18) (bytes := 240) (base := B + 1) (v := u3) (l := G j) (m := [c]) (q := some ⟨wr.heap.size, 0, none⟩) (cap := 1) rfl rfl Tryd.underlying31 j0 j1 j2 j3 j4 (by decide) ?d1 ?d2 (fun h => by cases h) hoX hmX (fun _ _ h => h) (fun _ _ h => h.shape) ?d3 ?d4 ?d5 ?_; (case d1 => kernel_rfl); (case d2 => kernel_rfl); (case d3 => (unfold maxLen; simp only [List.length_cons, List.length_nil] at hGm ⊢; omega)); (case d4 => (simp only [List.length_cons, List.length_nil] at hGm ⊢; omega)); (case d5 => exact hsX); intro v2 w2 ho2 hg2))
       go_roundw
       case rel =>
        have hbwX : Below w.heap.size w wX := hbw.trans (hbX.mono hbw.size)
        refine ⟨j + 1, by go_num, by omega, ?_, hbwX.grown hg2 (by have := hbwX.size; omega) (fun k hk => by have := OwnM.fresh hoX k hk; have := HB.out; omega), Nat.le_trans hsX hg2.size⟩
        rw [GN.out]
        exact OwnM.mono ho2 fun _ _ hv => hv.kept hg2 fun g hg => OwnM.typed hoX g hg
       case measure => simp [intOf]; omega
    ·obtain rfl : m.length = j := by omega
     have t2 : decide ((m.length : Int) < (m.length : Int)) = false := by simp
     rw [gR.out] at ho
     go_wp2
     go_roundw
     case rel => exact ⟨i + 1, by go_num, by omega, ho, hb, hs⟩
     case measure => simp [intOf]; omega
  ·obtain rfl : n = i := by omega
   have t1 : decide ((n : Int) < (n : Int)) = false := by simp
   rw [ALL.out] at ho
   go_wp2
   go_ret
   exact ⟨_, rfl, OwnM.less ho (by omega), hb⟩
end Go.Proofs.YthmmpjecmapajaaDoor

namespace Go.Proofs.YthmmpjecmapajaaDoor
open Go.RowKit Go.Lib
def OwnVecs (w : World) (base : Nat) (v : Value) (l : List Cel) : Prop := w.ownsRow base 37 2 v l.length (vecC (l.map fun c => (c.mx, c.my)))
theorem OwnVecs.nil (w : World) (base : Nat) : OwnVecs w base (.slice none 0 0) [] := World.ownsRow_nil ..
theorem OwnVecs.below {w x : World} {base : Nat} {v : Value} {l : List Cel} (h : OwnVecs w base v l) (hb : Below w.heap.size w x) : OwnVecs x base v l := own_below h hb
theorem wpList_load_pair {ops : Array Oper} {rest : List Oper} {op : Oper} {a : Act} {w : World} {Q : Exit → Act → World → Prop} (hgd : op.guard = none) (x : Operand) (ho : op.op = .load 37 x)
  (b o : Nat) (hx : a.eval x = .pointer (some ⟨b, o, none⟩)) (u v : Int) (hc : w.rangeAt b o [.int .i64 u, .int .i64 v]) (h : wpList Tryd.prog ops Q rest (a.put op.dst (.agg #[.int .i64 u, .int .i64 v])) w) : wpList Tryd.prog ops Q (op :: rest) a w :=
 wpList_load_mid hgd _ x ho b o hx [.int .i64 u, .int .i64 v] _ hc Tryd.underlying37 rfl (by kernel_rfl) h
set_option maxRecDepth 100000 in
set_option maxHeartbeats 1000000 in
theorem snvecs_code (S : ShP) (p b : Option Addr) (ca cb : Nat) (w : World) (hn : S.rows.length ≤ maxLen) (hr : RowsIn w b S.rows) (hm : (celsP S).length ≤ 1048576) :
  Calls Tryd.prog 11 #[.agg (sheetL S.hd (.slice p S.hd.supp.length ca) (.slice b S.rows.length cb) S.zeros).toArray] w fun e w' => ∃ v, e = .returned v ∧ OwnVecs w' w.heap.size v (celsP S) ∧ Below w.heap.size w w' := by
 unfold maxLen at hn
 obtain ⟨n, hln⟩ : ∃ n, S.rows.length = n := ⟨_, rfl⟩
 rw [hln] at hn ⊢
 obtain ⟨zs, hZ⟩ : ∃ zs, sheetL S.hd (.slice p S.hd.supp.length ca) (.slice b n cb) S.zeros = zs := ⟨_, rfl⟩
 have z6 : zs[6]? = some (.slice b n cb) := by rw [← hZ]; rfl
 rw [hZ]
 obtain ⟨B, hB⟩ : ∃ B, w.heap.size = B := ⟨_, rfl⟩
 obtain ⟨w1, hw1⟩ : ∃ w1, w.alloc (.cells zs.toArray 25 (0, 0)) = w1 := ⟨_, rfl⟩
 have hl1 : Below w.heap.size w w1 := by rw [← hw1]; exact (Below.refl _ w).alloc (Nat.le_refl _) _
 have hs1 : w1.heap.size = B + 1 := by rw [← hw1, ← hB]; simp
 obtain ⟨Yr, HYRS, hzr⟩ := rows_zero
 obtain ⟨Y, HYS, hzv⟩ := cels_zero
 have HW1 := Lib.hid hw1
 have HB := Lib.hid hB
 have NR := Lib.hid hln
 have HR := Lib.hid hr
 have ALL := Lib.hid (celsF_all S hln)
 have MOST := Lib.hid fun i j (hi : i < S.rows.length) => Nat.le_trans (celsG_most S (j := j) hi) hm
 clear hw1 hZ hln hr hm
 go_enter Tryd.func11, Tryd.ntmps11
 go_wp2
 rw [HW1.out]
 go_loopw [3, 11] (fun v t wr => ∃ i : Nat, t = .int .i64 (i : Int) ∧ i ≤ n ∧ OwnVecs wr (B + 1) v (celsF S i) ∧ Below w.heap.size w wr ∧ B + 1 ≤ wr.heap.size) (fun _ t _ => n - (intOf t).toNat)
 case atStart => exact ⟨0, rfl, Nat.zero_le _, OwnVecs.nil .., hl1, by omega⟩
 case round =>
  clear hl1 hs1
  obtain ⟨i, rfl, hi, ho, hb, hs⟩ := hrel
  by_cases hlt : i < n
  ·have t1 : decide ((i : Int) < (n : Int)) = true := by simp; omega
   obtain ⟨b1, o1, rfl, hb1, hc1⟩ := rows_at HR.out (by rw [NR.out]; omega)
   have hil : i < S.rows.length := by rw [NR.out]; exact hlt
   obtain ⟨r, cap, hq, hml, hcel, hat⟩ := hc1 i hil
   obtain ⟨rs, hrs⟩ : ∃ rs, [Value.bool S.rows[i].head, .int .i64 S.rows[i].id, .int .i64 S.rows[i].quant, .slice r S.rows[i].cels.length cap] = rs := ⟨_, rfl⟩
   have r3 : rs[3]? = some (.slice r S.rows[i].cels.length cap) := by rw [← hrs]; rfl
   have rl : rs.length = 4 := by rw [← hrs]; rfl
   have ro : rs.toArray.all (·.oneCell') = true := by rw [← hrs]; simp [Value.oneCell']
   have hrg : wr.rangeAt b1 (o1 + i * 4) rs := fun k v hk => by
    obtain ⟨a0, a1, a2, a3⟩ := hat wr hb
    rw [← hrs] at hk
    match k, hk with
    | 0, hk => injection hk with hk; subst hk; exact a0
    | 1, hk => injection hk with hk; subst hk; exact a1
    | 2, hk => injection hk with hk; subst hk; exact a2
    | 3, hk => injection hk with hk; subst hk; exact a3
   have HSR : (Tryd.prog.info? 45).map (·.size) = some rs.toArray.size := by rw [show rs.toArray.size = 4 from rl]; kernel_rfl
   have HYR : Yr.size = rs.toArray.size := by rw [HYRS]; exact rl.symm
   have gN := Lib.hid (fun j (hj : j < S.rows[i].cels.length) => celsG_next S hil hj)
   have gR := Lib.hid (celsG_row S hil)
   have gM := Lib.hid (fun j => MOST.out i j hil)
   rw [← celsG_none S i] at ho
   have GN0 := Lib.hid (celsG_none S i)
   obtain ⟨G, hG⟩ : ∃ G, celsG S i = G := ⟨_, rfl⟩
   simp only [hG] at ho gM gN gR GN0
   clear hat hc1 hrs hG
   generalize S.rows[i].cels = m at *
   obtain ⟨wB, hwB⟩ : ∃ wB, wr.alloc (.cells rs.toArray 45 (0, 0)) = wB := ⟨_, rfl⟩
   have k3 : wB.cell? ⟨wr.heap.size, 3, none⟩ = some (.slice r m.length cap) := part_cells (by rw [← hwB]; exact heap_alloc_new wr _) r3
   have hbB : Below wr.heap.size wr wB := by rw [← hwB]; exact (Below.refl _ wr).alloc (Nat.le_refl _) _
   have hoB := ho.below hbB
   have hbwB : Below w.heap.size w wB := hb.trans (hbB.mono hb.size)
   have hsB : B + 1 ≤ wB.heap.size := Nat.le_trans hs hbB.size
   have HWB := Lib.hid hwB
   have HCEL := Lib.hid hcel
   clear hwB hbB ho hb hs hcel r3
   go_wp2_with (first | (with_reducible refine wpList_load_rw rfl _ rfl b1 (o1 + i * 4) rfl rs hrg rl ?_) | (with_reducible refine wp_store_fresh rfl 45 _ _ rfl rs.toArray Yr 45 rfl rfl HSR HYR ro ?_; rw [HWB.out]))
   clear k3 hrg HSR HYR ro rl
   have hoB0 : OwnVecs wB (B + 1) u3 (G 0) := hoB
   clear hoB
   go_loopw [3, 18] (fun v t wr => ∃ j : Nat, t = .int .i64 (j : Int) ∧ j ≤ m.length ∧ OwnVecs wr (B + 1) v (G j) ∧ Below w.heap.size w wr ∧ B + 1 ≤ wr.heap.size) (fun _ t _ => m.length - (intOf t).toNat)
   case atStart => exact ⟨0, rfl, Nat.zero_le _, hoB0, hbwB, hsB⟩
   case round =>
    clear hoB0 hbwB hsB
    obtain ⟨j, rfl, hj, ho, hb, hs⟩ := hrel
    by_cases hjm : j < m.length
    ·have t2 : decide ((j : Int) < (m.length : Int)) = true := by simp; omega
     have hml2 : m.length ≤ 9223372036854775807 := by unfold maxLen at hml; omega
     obtain ⟨b2, o2, rfl, hb2, hcv⟩ := ManyIn.each HCEL.out (by omega)
     obtain ⟨vs, hV, hvc⟩ := hcv j hjm
     have hl18 := hV.shape.1
     have hone := one_cells hV
     obtain ⟨p3, cap3, hvs, -, -⟩ := hV
     have hrg : wr.rangeAt b2 (o2 + j * 18) vs := fun k v hk => hvc wr hb k v hk
     have GN := Lib.hid (gN.out j hjm)
     have GM := Lib.hid (gM.out (j + 1))
     clear hcv hvc
     obtain ⟨c, hcj⟩ : ∃ c, m[j] = c := ⟨_, rfl⟩
     rw [hcj] at hvs GN
     clear hcj
     have v4 : vs[4]? = some (.int .i64 c.mx) := by rw [hvs]; rfl
     have v5 : vs[5]? = some (.int .i64 c.my) := by rw [hvs]; rfl
     obtain ⟨C, hC⟩ : ∃ C, wr.heap.size = C := ⟨_, rfl⟩
     obtain ⟨wC, hwC⟩ : ∃ wC, wr.alloc (.cells vs.toArray 42 (0, 0)) = wC := ⟨_, rfl⟩
     have hhC : wC.heap[C]? = some (.cells vs.toArray 42 (0, 0)) := by rw [← hwC, ← hC]; exact heap_alloc_new wr _
     have hbC : Below wr.heap.size wr wC := by rw [← hwC]; exact (Below.refl _ wr).alloc (Nat.le_refl _) _
     have hr2 : wC.rangeAt C 4 [.int .i64 c.mx, .int .i64 c.my] := fun k v hk => by
      match k, hk with
      | 0, hk => injection hk with hk; subst hk; exact part_cells hhC v4
      | 1, hk => injection hk with hk; subst hk; exact part_cells hhC v5
     have HSV : (Tryd.prog.info? 42).map (·.size) = some vs.toArray.size := by rw [show vs.toArray.size = 18 from hl18]; kernel_rfl
     have HYV : Y.size = vs.toArray.size := by rw [HYS]; exact hl18.symm
     have hoC : wC.ownsRow (B + 1) 37 2 u3 (G j).length (vecC ((G j).map fun c => (c.mx, c.my))) := ho.below hbC
     have hbwC : Below w.heap.size w wC := hb.trans (hbC.mono hb.size)
     have hsC : B + 1 ≤ wC.heap.size := Nat.le_trans hs hbC.size
     have hGm := GM.out
     rw [GN.out, List.length_append] at hGm
     have hGl : (G j).length ≤ 1048576 := by omega
     obtain ⟨ti, j0, j1, j2, j3⟩ := info_vec
     have HWC := Lib.hid hwC
     have HC := Lib.hid hC
     clear hwC hC hvs v4 v5 hhC ho hb hs hGm hbC
     go_wp2_with (first | (with_reducible refine wpList_load_cel rfl _ rfl b2 (o2 + j * 18) rfl vs hrg hl18 ?_) | (with_reducible refine wp_store_fresh rfl 42 _ _ rfl vs.toArray Y 42 rfl rfl HSV HYV hone ?_; rw [HWC.out, HC.out]) | (with_reducible refine wpList_load_pair rfl _ rfl C 4 rfl c.mx c.my hr2 ?_) | (at_builtin; refine wp_append_vec (y0 := c.mx) (y1 := c.my) rfl rfl Tryd.underlying33 j0 j1 rfl j2 j3 rfl (hoC.alloc _) rfl ?c1 ?c2 ?c3 ?c4 ?_; (case c1 => go_cell); (case c2 => go_cell); (case c3 => exact hGl); (case c4 => (simp; omega)); intro v2 w2 ho2 hg2))
     go_roundw
     case rel =>
      obtain ⟨wX, hwX⟩ : ∃ wX, wC.alloc (.cells #[.int .i64 c.mx, .int .i64 c.my] 37 (0, 0)) = wX := ⟨_, rfl⟩
      rw [hwX] at hg2
      have hbX : Below wC.heap.size wC wX := by rw [← hwX]; exact (Below.refl _ wC).alloc (Nat.le_refl _) _
      have hbwX : Below w.heap.size w wX := hbwC.trans (hbX.mono hbwC.size)
      refine ⟨j + 1, by go_num, by omega, ?_, hbwX.grown hg2 (by have := hbwX.size; omega) (fun k hk => by have := (hoC.lt k hk).1; have := HB.out; omega), Nat.le_trans (Nat.le_trans hsC hbX.size) hg2.size⟩
      rw [GN.out]
      unfold OwnVecs
      rw [List.map_append, List.map_cons, List.map_nil, vecC_snoc, List.length_append]
      exact ho2
     case measure => simp [intOf]; omega
    ·obtain rfl : m.length = j := by omega
     have t2 : decide ((m.length : Int) < (m.length : Int)) = false := by simp
     rw [gR.out] at ho
     go_wp2
     go_roundw
     case rel => exact ⟨i + 1, by go_num, by omega, ho, hb, hs⟩
     case measure => simp [intOf]; omega
  ·obtain rfl : n = i := by omega
   have t1 : decide ((n : Int) < (n : Int)) = false := by simp
   rw [ALL.out] at ho
   go_wp2
   go_ret
   exact ⟨_, rfl, own_base ho (by omega), hb⟩
end Go.Proofs.YthmmpjecmapajaaDoor
