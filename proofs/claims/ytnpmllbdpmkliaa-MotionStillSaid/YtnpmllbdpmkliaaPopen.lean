/- Frames that come in by value; whether a frame is light; regions with loads beside calls. No condition. -/
import Derived.Test.YtnpmllbdpmkliaaPlive
import Derived.Test.YtnpmllbdpmkliaaOpen
import Derived.Deep.RegionHeld
namespace Go.Proofs.Ytnpmllbdpmkliaa
open Go.RowKit Go.Lib Go.ChangeShapes Go.WideShapes Go.ChangeAt

section
variable {H : Type} {enc : TypeId × Value → H} {P : Program}
/-- Bytes among the cells of a struct. -/
theorem bytes_cell {w : World} {base fuel : Nat} {sp : Nat → Bool} {held : Bool} {t e : TypeId} {v : Value} {x : DataW H × List MemPlace}
    (ht : P.underlying t = some (.slice e)) (he : P.underlying e = some (.int .u8)) (ce : P.cellsOf e = 1)
    (hf : DataW.trod enc P w base sp held fuel t [v] = some x) : ∃ n f, BtAt w v n f ∧ n ≤ maxLen := by
  rcases Go.Deep.open_slice1 ht ce hf with ⟨h1, _⟩ | ⟨a, len, cap, m, n, V, D, Pl, h1, hb, hl, hm, hmm, _, hx⟩
  · injection h1 with h1
    subst h1
    exact ⟨0, fun _ => 0, BtAt.nil w _, Nat.zero_le _⟩
  · injection h1 with h1
    subst h1
    have hlm : len ≤ m := by rw [hmm]; split <;> omega
    have each : ∀ i, i < len → ∃ y : Int, w.cell? (a.add i) = some (.int .u8 y) ∧ 0 ≤ y ∧ y ≤ 255 := by
      intro i hi
      obtain ⟨h1, h2⟩ := hx i (by omega)
      obtain ⟨y, e0, _, w0⟩ := DataW.trod_int he h2
      injection e0 with e0
      have h' : (decide (IntKind.u8.min ≤ y) && decide (y ≤ IntKind.u8.max)) = true := w0
      rw [Bool.and_eq_true, decide_eq_true_iff, decide_eq_true_iff] at h'
      have e1 : IntKind.u8.min = 0 := rfl
      have e2 : IntKind.u8.max = 255 := rfl
      exact ⟨y, by rw [h1, e0], by omega, by omega⟩
    refine ⟨len, fun i => match w.cell? (a.add i) with | some (.int _ y) => y | _ => 0, ⟨some a, cap, rfl, hl, ?_⟩, by omega⟩
    by_cases h0 : len = 0
    · exact .inl h0
    · right
      obtain ⟨y0, hy0, _⟩ := each 0 (by omega)
      have ea : a = ⟨a.block, a.off, none⟩ := by
        have : a.add 0 = a := by cases a with | mk b o s => cases s <;> simp [Addr.add]
        rw [this] at hy0
        exact spot_none hy0
      refine ⟨a.block, a.off, by rw [← ea], fun i hi => ?_⟩
      obtain ⟨y, hy, h1, h2⟩ := each i hi
      have eadd : a.add i = ⟨a.block, a.off + i, none⟩ := by rw [ea]; simp [Addr.add]
      simp only [hy]
      exact ⟨by rw [← eadd]; exact hy, h1, h2⟩
/-- A frame that comes in by value. -/
theorem open_frame {w : World} {r : Reach} {b0 base : Nat} {sp : Nat → Bool} {held : Bool} {t ti ta ts te : TypeId} {f0 f1 : Field} {v : Value} {d : DataW H} {ps : List MemPlace}
    (ht : P.underlying t = some (.struct #[f0, f1])) (hi : P.underlying ti = some (.int .i64)) (ha : P.underlying ta = some (.array 3 ts)) (hs : P.underlying ts = some (.slice te)) (he : P.underlying te = some (.int .u8))
    (e0 : f0.type = ti) (e1 : f1.type = ta) (o0 : f0.offset = 0) (o1 : f1.offset = 1) (ci : P.cellsOf ti = 1) (ca : P.cellsOf ta = 3) (cs : P.cellsOf ts = 1) (hc : P.cellsOf t = 4) (ce : P.cellsOf te = 1)
    (hval : Value.okWide P w r b0 t v) (hd : DataW.Trod enc P w base sp held t v d ps) :
    ∃ (k : Int) (vs : Nat → Value) (n : Nat → Nat) (f : Nat → Nat → Int), v = .agg (frA k vs) ∧ (Lit.int .i64 k).wf = true ∧ FrAt w vs n f ∧ ∀ p, p < 3 → n p ≤ maxLen := by
  obtain ⟨cells, rfl, hsz, _⟩ : ∃ cs, v = .agg cs ∧ cs.size = P.cellsOf t ∧ Row.okWide P w r b0 t cs := by
    simpa [Value.okWide, ht] using hval
  rw [hc] at hsz
  obtain ⟨fuel, hf⟩ := hd
  obtain ⟨xs, k, hk, hxy, _, hxl, hfs⟩ := DataW.trod_struct ht hf
  obtain ⟨l⟩ := cells
  match l, hsz, xs, hxl with
  | [c0, c1, c2, c3], _, [y0, y1], _ =>
    have g0 := hfs 0 f0 rfl
    have g1 := hfs 1 f1 rfl
    rw [e0, o0, ci] at g0
    rw [e1, o1, ca] at g1
    obtain ⟨x0, q0, _, w0⟩ := DataW.trod_int hi (show DataW.trod _ P w base sp held k ti [c0] = some y0 from g0)
    obtain ⟨zs, m, _, _, _, hl, hel⟩ := DataW.trod_array ha (show DataW.trod _ P w base sp held k ta [c1, c2, c3] = some y1 from g1)
    rw [cs] at hel
    match zs, hl with
    | [z0, z1, z2], _ =>
      obtain ⟨n0, r0, b0, l0⟩ := bytes_cell hs he ce (show DataW.trod _ P w base sp held m ts [c1] = some z0 from hel 0 (by omega))
      obtain ⟨n1, r1, b1, l1⟩ := bytes_cell hs he ce (show DataW.trod _ P w base sp held m ts [c2] = some z1 from hel 1 (by omega))
      obtain ⟨n2, r2, b2, l2⟩ := bytes_cell hs he ce (show DataW.trod _ P w base sp held m ts [c3] = some z2 from hel 2 (by omega))
      injection q0 with q0
      subst q0
      refine ⟨x0, fun p => if p = 0 then c1 else if p = 1 then c2 else c3, fun p => if p = 0 then n0 else if p = 1 then n1 else n2, fun p => if p = 0 then r0 else if p = 1 then r1 else r2, rfl, w0, fun p hp => ?_, fun p hp => ?_⟩
      · match p, hp with
        | 0, _ => exact b0
        | 1, _ => exact b1
        | 2, _ => exact b2
      · match p, hp with
        | 0, _ => exact l0
        | 1, _ => exact l1
        | 2, _ => exact l2
end
theorem FrAt.slices {w : World} {v : Nat → Value} {n : Nat → Nat} {f : Nat → Nat → Int} (h : FrAt w v n f) : ∀ p, p < 3 → ∃ a c, v p = .slice a (n p) c := fun p hp => by
  obtain ⟨a, c, e, _⟩ := h p hp
  exact ⟨a, c, e⟩
theorem FrAt.ones {w : World} {v : Nat → Value} {n : Nat → Nat} {f : Nat → Nat → Int} (h : FrAt w v n f) : ∀ p, p < 3 → (v p).oneCell' = true := fun p hp => (h p hp).one

/-- Is a frame light? -/
def lightF (n : Nat → Nat) : Bool := decide ((n 0 : Int) ≤ 30000) && (decide ((n 1 : Int) ≤ 30000) && decide ((n 2 : Int) ≤ 30000))
theorem lightF_iff {n : Nat → Nat} : lightF n = true ↔ ∀ p, p < 3 → n p ≤ 30000 := by
  unfold lightF
  simp only [Bool.and_eq_true, decide_eq_true_iff]
  constructor
  · rintro ⟨h0, h1, h2⟩ p hp
    match p, hp with
    | 0, _ => omega
    | 1, _ => omega
    | 2, _ => omega
  · intro h
    have := h 0 (by omega)
    have := h 1 (by omega)
    have := h 2 (by omega)
    omega
set_option maxRecDepth 100000 in
theorem light_code (k : Int) (v : Nat → Value) (n : Nat → Nat) (w : World) (hv : ∀ p, p < 3 → ∃ a c, v p = .slice a (n p) c) : Calls Try.prog 11 #[.agg (frA k v)] w fun e w' => e = .returned (.bool (lightF n)) ∧ Below w.heap.size w w' := by
  have hb1 : ∀ o, Below w.heap.size w (w.alloc o) := fun o => (Below.refl _ w).alloc (Nat.le_refl _) _
  have hR := Lib.hid (show lightF n = (decide ((n 0 : Int) ≤ 30000) && (decide ((n 1 : Int) ≤ 30000) && decide ((n 2 : Int) ≤ 30000))) from rfl)
  obtain ⟨a0, b0, hv0⟩ := hv 0 (by omega)
  obtain ⟨a1, b1, hv1⟩ := hv 1 (by omega)
  obtain ⟨a2, b2, hv2⟩ := hv 2 (by omega)
  unfold frA frL
  rw [hv0, hv1, hv2]
  clear hv hv0 hv1 hv2
  generalize n 0 = n0 at *
  generalize n 1 = n1 at *
  generalize n 2 = n2 at *
  cases t0 : decide ((n0 : Int) ≤ 30000)
  · go_enter Try.func11, Try.ntmps11
    go_wp2
    go_ret
    exact ⟨ret_bool (by rw [hR.out, t0]; rfl), hb1 _⟩
  cases t1 : decide ((n1 : Int) ≤ 30000)
  · go_enter Try.func11, Try.ntmps11
    go_wp2
    go_ret
    exact ⟨ret_bool (by rw [hR.out, t0, t1]; rfl), hb1 _⟩
  cases t2 : decide ((n2 : Int) ≤ 30000)
  all_goals
    go_enter Try.func11, Try.ntmps11
    go_wp2
    go_ret
    exact ⟨ret_bool (by rw [hR.out, t0, t1, t2]; rfl), hb1 _⟩

/-- Number i first, its slot written out, in a region in which loads stand beside calls. -/
theorem held_take {P : Program} {ops : Array Oper} {Q : Exit → Act → World → Prop} {md : Region.Mode} {S : World → Prop} (i : Nat) {oi : Oper} (d : Option Tmp) {v : Value} {fuel : Nat} {listed : Array Bool} {a : Act} {w : World} (hi : ops[i]? = some oi) (hd : oi.dst = d)
    (hs : Region.noSelect ops = true) (hf : Region.free md ops listed i = true) (hr : (Region.ready md ops listed).contains i = true)
    (hQ : ∀ c a w, Q (.panic c) (a.put d v) w → Q (.panic c) a w) (hS : S w) (hy : YieldsIf P ops S oi v a)
    (h : wpAnyH P md ops Q S fuel (listed.setIfInBounds i true) (a.put d v) w) : wpAnyH P md ops Q S (fuel + 1) listed a w := by
  subst hd
  exact wpAnyH_take hi hs hf hr hQ hy hS h
end Go.Proofs.Ytnpmllbdpmkliaa
