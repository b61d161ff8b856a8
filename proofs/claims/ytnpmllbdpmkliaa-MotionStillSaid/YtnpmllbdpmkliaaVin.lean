/- What a cell takes by a vector is inside its planes; a block put into a patch. Plain numbers and one law. No condition. -/
import Derived.Test.YtnpmllbdpmkliaaVtake
import Derived.Test.YtnpmllbdpmkliaaPcut
namespace Go.Proofs.Ytnpmllbdpmkliaa
open Go.RowKit Go.Lib

/-- A vector's numbers for a block; the halves where it begins. -/
def vecB (b : Nat) (v : Int) : Int := if b < 4 then v else chrV v
def lefB (k : Int) (m b : Nat) (v : Int) : Nat := (16 * (col k m b : Int) + vecB b v).toNat
def topB (k : Int) (m b : Nat) (v : Int) : Nat := (16 * (lin k m b : Int) + vecB b v).toNat
/-- A cell's patch by a vector. -/
def predF (k : Int) (m : Nat) (f : Nat → Nat → Int) (u v : Int) : Nat → Int := fun s => blkT (f (plc (s / 64))) (wid k (plc (s / 64))) (lefB k m (s / 64) u) (topB k m (s / 64) v) (s % 64)

theorem chr_inside {c m : Nat} {v : Int} (h : reachV c m v = true) : 0 ≤ 16 * (c : Int) + chrV v ∧ 16 * (c : Int) + chrV v + 14 ≤ 16 * (m : Int) - 2 := by
  obtain ⟨⟨h1, h2⟩, h3, h4⟩ := reachV_iff.1 h
  rw [chrV_of (by omega) (by omega)]
  unfold chrP
  split <;> split <;> omega
theorem half_in {W H x y : Nat} (hW : 0 < W) (hH : 0 < H) (hx : x ≤ 2 * W - 2) (hy : y ≤ 2 * H - 2) : y / 2 * W + x / 2 + y % 2 * W + x % 2 < W * H := by
  have h : (y / 2 + y % 2 + 1) * W ≤ H * W := Nat.mul_le_mul_right _ (by omega)
  rw [Nat.add_mul, Nat.add_mul, Nat.one_mul, Nat.mul_comm H] at h
  omega
/-- Where a block begins, along columns or lines. -/
theorem beg_in {c m b r : Nat} {v : Int} (h : reachV c m v = true) (hr : r ≤ 1) (hb : b < 6) :
    0 ≤ 16 * ((if b < 4 then 2 * c + r else c : Nat) : Int) + vecB b v ∧ 16 * ((if b < 4 then 2 * c + r else c : Nat) : Int) + vecB b v + 14 ≤ 2 * ((if plc b = 0 then 16 * m else 8 * m : Nat) : Int) - 2 := by
  have h1 := reachV_iff.1 h
  have h2 := chr_inside h
  unfold vecB plc
  by_cases h4 : b < 4
  · simp only [if_pos h4, if_true]
    omega
  · simp only [if_neg h4, if_neg (show ¬ b - 3 = 0 by omega)]
    omega
theorem pred_in {k : Int} {m b : Nat} {u v : Int} (hm : m < cells k) (hu : reachV (m % acr k) (acr k) u = true) (hv : reachV (m / acr k) (dow k) v = true) (hb : b < 6) :
    16 * (col k m b : Int) + vecB b u = (lefB k m b u : Int) ∧ 16 * (lin k m b : Int) + vecB b v = (topB k m b v : Int) ∧ lefB k m b u ≤ 9000 ∧ topB k m b v ≤ 9000 ∧ InT (siz k (plc b)) (wid k (plc b)) (lefB k m b u) (topB k m b v) := by
  obtain ⟨h0, h1, h2⟩ := cell_parts hm
  obtain ⟨-, -, -, -, m1, m2⟩ := acr_fmt k
  have c1 : 0 ≤ 16 * (col k m b : Int) + vecB b u ∧ 16 * (col k m b : Int) + vecB b u + 14 ≤ 2 * (wid k (plc b) : Int) - 2 := beg_in (r := b % 2) hu (by omega) hb
  have c2 : 0 ≤ 16 * (lin k m b : Int) + vecB b v ∧ 16 * (lin k m b : Int) + vecB b v + 14 ≤ 2 * (hei k (plc b) : Int) - 2 := by
    have := beg_in (r := b / 2) (b := b) hv
    by_cases h4 : b < 4
    · exact beg_in (r := b / 2) hv (by omega) hb
    · have h := beg_in (r := 0) (b := b) hv (by omega) hb
      unfold lin hei
      simp only [if_neg h4] at h ⊢
      exact h
  obtain ⟨w1, w2⟩ := wid_most k (plc b)
  have e1 : 16 * (col k m b : Int) + vecB b u = (lefB k m b u : Int) := by unfold lefB; omega
  have e2 : 16 * (lin k m b : Int) + vecB b v = (topB k m b v : Int) := by unfold topB; omega
  rw [e1] at c1
  rw [e2] at c2
  refine ⟨e1, e2, by omega, by omega, fun i hi => ?_⟩
  have hh : siz k (plc b) = wid k (plc b) * hei k (plc b) := rfl
  rw [hh]
  have q1 : i % 8 ≤ 7 := by omega
  have q2 : i / 8 ≤ 7 := by omega
  exact half_in (by omega) (by omega) (by omega) (by omega)

theorem laid4 (w : World) (o1 o2 o3 o4 : Obj) : ∃ (B : Nat) (wA wB wC wD : World), w.heap.size = B ∧ w.alloc o1 = wA ∧ wA.alloc o2 = wB ∧ wB.alloc o3 = wC ∧ wC.alloc o4 = wD ∧ wA.heap.size = B + 1 ∧ wB.heap.size = B + 2 ∧ wC.heap.size = B + 3 ∧ wD.heap.size = B + 4 ∧ wD.heap[B]? = some o1 ∧ wD.heap[B + 1]? = some o2 ∧ wD.heap[B + 2]? = some o3 ∧ wD.heap[B + 3]? = some o4 ∧ Below B w wD := by
  obtain ⟨B, wA, wB, wC, h1, h2, h3, h4, h5, h6, h7, h8, h9, h10, h11⟩ := laid3 w o1 o2 o3
  refine ⟨B, wA, wB, wC, wC.alloc o4, h1, h2, h3, h4, rfl, h5, h6, h7, by simp; omega, heap_keep h8, heap_keep h9, heap_keep h10, ?_, h11.alloc (by omega) _⟩
  rw [← h7]
  exact heap_alloc_new wC _
/-- A block put into a patch. -/
def putB (g h : Nat → Int) (o : Nat) : Nat → Int := fun s => if o ≤ s ∧ s < o + 64 then h (s - o) else g s
theorem arn_part (n o : Nat) (g h : Nat → Int) (hfit : o + 64 ≤ n) : ((arn n g).toList.take o ++ ((arrA h).toList ++ (arn n g).toList.drop (o + 64))).toArray = arn n (putB g h o) := by
  unfold arn arrA arrL
  refine congrArg List.toArray (List.ext_getElem? fun i => ?_)
  by_cases h1 : i < o
  · rw [List.getElem?_append_left (by simp; omega), List.getElem?_take_of_lt h1]
    simp [show i < n by omega, putB, show ¬ o ≤ i by omega]
  · rw [List.getElem?_append_right (by simp; omega)]
    by_cases h2 : i < o + 64
    · rw [List.getElem?_append_left (by simp; omega)]
      simp [show i < n by omega, putB, show o ≤ i ∧ i < o + 64 by omega, show min o n = o by omega, show i - o < 64 by omega]
    · rw [List.getElem?_append_right (by simp; omega), List.getElem?_drop]
      by_cases h3 : i < n
      · simp [h3, putB, show ¬ (o ≤ i ∧ i < o + 64) by omega, show min o n = o by omega, show o + 64 + (i - o - 64) = i by omega]
      · simp [h3, show min o n = o by omega, show o + 64 + (i - o - 64) = i by omega]
theorem putB_next {g h : Nat → Int} {b : Nat} (hh : ∀ i, i < 64 → h i = g (64 * b + i)) : arn 384 (putB (putS g (64 * b)) h (64 * b)) = arn 384 (putS g (64 * (b + 1))) := by
  refine arn_congr fun s _ => ?_
  unfold putB
  rw [putS_at, putS_at]
  by_cases h1 : 64 * b ≤ s ∧ s < 64 * b + 64
  · rw [if_pos h1, if_pos (by omega), hh _ (by omega), show 64 * b + (s - 64 * b) = s by omega]
  · rw [if_neg h1]
    by_cases h2 : s < 64 * b
    · rw [if_pos h2, if_pos (by omega)]
    · rw [if_neg h2, if_neg (by omega)]
theorem pred_block (k : Int) (m : Nat) (f : Nat → Nat → Int) (u v : Int) (b : Nat) : ∀ i, i < 64 → blkT (f (plc b)) (wid k (plc b)) (lefB k m b u) (topB k m b v) i = predF k m f u v (64 * b + i) := fun i hi => by
  unfold predF
  rw [show (64 * b + i) / 64 = b by omega, show (64 * b + i) % 64 = i by omega]
theorem wp_store_block {P : Program} {ops : Array Oper} {rest : List Oper} {op : Oper} {a : Act} {w : World} {Q : Exit → Act → World → Prop} (hgd : op.guard = none) (ty : TypeId) (x y : Operand) (ho : op.op = .store ty x y)
    (B b o : Nat) (hO : o = 64 * b) (T : TypeId) (g h : Nat → Int) (Z : Array Value) (hZ : arrA h = Z) (hx : a.eval x = .pointer (some ⟨B, o, none⟩)) (hy : a.eval y = .agg Z) (hg : w.heap[B]? = some (arnO T 384 (putS g (64 * b)))) (hb : b < 6) (hh : ∀ i, i < 64 → h i = g (64 * b + i))
    (hi : (P.info? ty).map (·.size) = some Z.size)
    (hk : ∀ w', Hid (w'.heap[B]? = some (arnO T 384 (putS g (64 * (b + 1))))) → w.grownBy w' (some B) → wpList P ops Q rest (a.put op.dst undef) w') : wpList P ops Q (op :: rest) a w := by
  subst hZ hO
  refine wpList_store_part hgd ty x y ho B (64 * b) (arrA h) hx hy _ T hg hi (fun v hv => (Array.all_eq_true_iff_forall_mem.1 (arrA_one h)) v (by simpa using hv)) (by rw [arrA_size, arn_size]; omega) fun w' h1 h2 => ?_
  refine hk w' (Lib.hid ?_) h2
  have := h1.out
  rw [arrA_size, arn_part 384 (64 * b) _ _ (by omega), putB_next hh] at this
  exact this
/-- The same, of one operation. -/
theorem oper_store_block {P : Program} {op : Oper} {a : Act} {w : World} {K : Act → World → Prop} {Q : Exit → Act → World → Prop} (ty : TypeId) (x y : Operand) (ho : op.op = .store ty x y)
    (B b o : Nat) (hO : o = 64 * b) (T : TypeId) (g h : Nat → Int) (Z : Array Value) (hZ : arrA h = Z) (hx : a.eval x = .pointer (some ⟨B, o, none⟩)) (hy : a.eval y = .agg Z) (hg : w.heap[B]? = some (arnO T 384 (putS g (64 * b)))) (hb : b < 6) (hh : ∀ i, i < 64 → h i = g (64 * b + i))
    (hi : (P.info? ty).map (·.size) = some Z.size)
    (hk : ∀ w', Hid (w'.heap[B]? = some (arnO T 384 (putS g (64 * (b + 1))))) → w.grownBy w' (some B) → K (a.put op.dst undef) w') : Oper.wp P op a w K Q := by
  subst hZ
  have h1 : ∀ v ∈ (arrA h).toList, v.oneCell' = true := fun v hv => (Array.all_eq_true_iff_forall_mem.1 (arrA_one h)) v (by simpa using hv)
  obtain ⟨C, hC⟩ : ∃ C, arn 384 (putS g (64 * b)) = C := ⟨_, rfl⟩
  have hCs : C.size = 384 := by rw [← hC]; exact arn_size _ _
  have hg' : w.heap[B]? = some (.cells C T (0, 0)) := by rw [← hC]; exact hg
  have hrun := run_storeCells_at (P := P) B o T (arrA h).toList 0 C w hg' (by have := arrA_size h; simp; omega) h1
  have hst : (storeVar ty ⟨B, o, none⟩ (.agg (arrA h))).run P w = .ok () (w.setRow B (C.toList.take o ++ ((arrA h).toList ++ C.toList.drop (o + (arrA h).size))).toArray) := by
    cases hq : P.info? ty with
    | none => simp [hq] at hi
    | some i =>
      have hs : i.size = (arrA h).size := by simpa [hq] using hi
      simp only [Nat.add_zero, Array.length_toList] at hrun
      simp [storeVar, sizeOf, typeInfo, hq, Value.cells, hs, hrun]
  unfold Oper.wp execOp
  simp only [ho, hx, hy, Instr.storeAt, Instr.sureAddr, Sem.run_bind, Sem.run_pure, Result.andThen_ok, hst]
  refine hk _ (Lib.hid ?_) ⟨rfl, rfl, rfl, by simp, fun k _ hk => setRow_other w B k _ (by intro e; exact hk (by rw [e]))⟩
  refine (setRow_heap w B _ _ T _ hg').trans ?_
  rw [arrA_size, ← hC, hO, arn_part 384 (64 * b) _ _ (by omega), putB_next hh]
  rfl
end Go.Proofs.Ytnpmllbdpmkliaa
