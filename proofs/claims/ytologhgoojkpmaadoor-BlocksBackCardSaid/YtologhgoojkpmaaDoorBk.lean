/- Plain lists alone: a block's row, what stands at the head of some bits, and that they lead back. No condition. -/
import Derived.Test.YtologhgoojkpmaaDoorRuns
import Derived.Test.YtologhgoojkpmaaDoorEcode
import Derived.Test.YtologhgoojkpmaaDoorBack
namespace Go.Proofs.YtologhgoojkpmaaDoor
open Go.RowKit

/-! ### What is written -/
def fromB (i : Bool) : Nat := i.toNat
def rowE (x : Ev) : ByteArray := eventAt x.1 x.2.1 x.2.2
def rowsB (l : List Ev) : List UInt8 := l.flatMap fun x => (rowE x).data.toList
def dcOk (i : Bool) (d : Int) : Bool := if i then decide (1 ≤ d) && decide (d ≤ 254) else d == 0
def dcB (i : Bool) (d : Int) : List UInt8 := if i then rowOf (if d = 128 then 255 else d.toNat) 8 else []
def mayB (i : Bool) (d : Int) (l : List Ev) : Bool := dcOk i d && !badV (fromB i) l l.length
def rowB (i : Bool) (d : Int) (l : List Ev) : List UInt8 := dcB i d ++ rowsB l
theorem dcB_row (i : Bool) (d : Int) : isRow (dcB i d) = true := by
  unfold dcB
  split
  · exact rowOf_row _ _
  · rfl
theorem dcB_len (i : Bool) (d : Int) : (dcB i d).length = 8 * fromB i := by
  unfold dcB fromB
  cases i
  · rfl
  · exact rowOf_length _ _
theorem rowE_row (x : Ev) : isRow (rowE x).data.toList = true := by
  unfold rowE eventAt
  split
  · exact rowOf_row _ _
  · rfl
theorem rowE_len (x : Ev) : (rowE x).data.toList.length ≤ 22 := by
  unfold rowE eventAt
  split
  next h =>
    obtain ⟨r0, r1, _⟩ := rightT_iff.1 h
    have := num_fits x.1 x.2.1.toNat x.2.2 (by omega)
    show (rowOf _ _).length ≤ 22
    rw [rowOf_length]
    exact this.2.1
  · exact Nat.zero_le _
theorem rowsB_append (l m : List Ev) : rowsB (l ++ m) = rowsB l ++ rowsB m := by simp [rowsB]
theorem rowsB_snoc (l : List Ev) (x : Ev) : rowsB (l ++ [x]) = rowsB l ++ (rowE x).data.toList := by simp [rowsB]
theorem rowsB_row (l : List Ev) : isRow (rowsB l) = true := by
  induction l with
  | nil => rfl
  | cons x l ih => rw [rowsB, List.flatMap_cons, isRow_append, rowE_row, show isRow (List.flatMap (fun x => (rowE x).data.toList) l) = true from ih]; rfl
theorem rowsB_len (l : List Ev) : (rowsB l).length ≤ 22 * l.length := by
  induction l with
  | nil => exact Nat.le_refl _
  | cons x l ih =>
    have h1 := rowE_len x
    have h2 : (List.flatMap (fun x => (rowE x).data.toList) l).length ≤ 22 * l.length := ih
    rw [rowsB, List.flatMap_cons, List.length_append, List.length_cons]
    omega
theorem rowB_row (i : Bool) (d : Int) (l : List Ev) : isRow (rowB i d l) = true := by
  unfold rowB
  rw [isRow_append, dcB_row, rowsB_row]
  rfl
theorem rowB_len (i : Bool) (d : Int) (l : List Ev) : (rowB i d l).length ≤ 8 + 22 * l.length := by
  have h1 := dcB_len i d
  have h2 := rowsB_len l
  have h3 : fromB i ≤ 1 := by cases i <;> decide
  unfold rowB
  rw [List.length_append]
  omega

/-! ### What is read -/
def evI (x : Bool × Nat × Int) : Ev := (x.1, (x.2.1 : Int), x.2.2)
/-- Events from bit p on, acc ahead of them, the next level's number at least m: the events, what is wrong, where they end. -/
def eloop (B : List UInt8) : Nat → List Ev → Nat → Nat → List Ev × Int × Nat
  | 0, _, _, _ => ([], 7, 0)
  | k + 1, acc, p, m =>
    if (etk (B.drop p)).2.1 ≠ 0 then ([], (etk (B.drop p)).2.1, 0) else
    if 63 < m + (etk (B.drop p)).1.2.1 then ([], 7, 0) else
    if (etk (B.drop p)).1.1 then (acc ++ [evI (etk (B.drop p)).1], 0, p + (etk (B.drop p)).2.2) else
    eloop B k (acc ++ [evI (etk (B.drop p)).1]) (p + (etk (B.drop p)).2.2) (m + (etk (B.drop p)).1.2.1 + 1)
theorem eloop_err {B : List UInt8} {k p m n : Nat} {acc : List Ev} {x : Bool × Nat × Int} {f : Int} (h : etk (B.drop p) = (x, f, n)) (hf : f ≠ 0) : eloop B (k + 1) acc p m = ([], f, 0) := by
  rw [eloop, h, if_pos hf]
theorem eloop_far {B : List UInt8} {k p m n r : Nat} {acc : List Ev} {l : Bool} {v : Int} (h : etk (B.drop p) = ((l, r, v), 0, n)) (hr : 63 < m + r) : eloop B (k + 1) acc p m = ([], 7, 0) := by
  rw [eloop, h, if_neg (fun h => h rfl), if_pos hr]
theorem eloop_end {B : List UInt8} {k p m n r : Nat} {acc : List Ev} {v : Int} (h : etk (B.drop p) = ((true, r, v), 0, n)) (hr : m + r ≤ 63) : eloop B (k + 1) acc p m = (acc ++ [(true, (r : Int), v)], 0, p + n) := by
  rw [eloop, h, if_neg (fun h => h rfl), if_neg (by simp only; omega), if_pos rfl]
  rfl
theorem eloop_on {B : List UInt8} {k p m n r : Nat} {acc : List Ev} {v : Int} (h : etk (B.drop p) = ((false, r, v), 0, n)) (hr : m + r ≤ 63) : eloop B (k + 1) acc p m = eloop B k (acc ++ [(false, (r : Int), v)]) (p + n) (m + r + 1) := by
  rw [eloop, h, if_neg (fun h => h rfl), if_neg (by simp only; omega), if_neg (fun h => by cases h)]
  rfl
/-- The first number: it, what is wrong, how many digits it takes. -/
def dcT (b : List UInt8) (i : Bool) : Int × Int × Nat :=
  if i then (if b.length < 8 then (0, 2, 0) else if num (b.take 8) = 0 ∨ num (b.take 8) = 128 then (0, 7, 0) else (if num (b.take 8) = 255 then 128 else ((num (b.take 8) : Nat) : Int), 0, 8)) else (0, 0, 0)
/-- A block from bit p on: dc, the events, where it ends, what is wrong. -/
def btk (B : List UInt8) (p : Nat) (i c : Bool) : Int × List Ev × Nat × Int :=
  if (dcT (B.drop p) i).2.1 ≠ 0 then (0, [], p, (dcT (B.drop p) i).2.1) else
  if c = false then ((dcT (B.drop p) i).1, [], p + (dcT (B.drop p) i).2.2, 0) else
  if (eloop B (65 - fromB i) [] (p + (dcT (B.drop p) i).2.2) (fromB i)).2.1 ≠ 0 then (0, [], p, (eloop B (65 - fromB i) [] (p + (dcT (B.drop p) i).2.2) (fromB i)).2.1) else
  ((dcT (B.drop p) i).1, (eloop B (65 - fromB i) [] (p + (dcT (B.drop p) i).2.2) (fromB i)).1, (eloop B (65 - fromB i) [] (p + (dcT (B.drop p) i).2.2) (fromB i)).2.2, 0)
theorem btk_dc {B : List UInt8} {p n : Nat} {i c : Bool} {d f : Int} (h : dcT (B.drop p) i = (d, f, n)) (hf : f ≠ 0) : btk B p i c = (0, [], p, f) := by
  unfold btk
  rw [h, if_pos hf]
theorem btk_bare {B : List UInt8} {p n : Nat} {i : Bool} {d : Int} (h : dcT (B.drop p) i = (d, 0, n)) : btk B p i false = (d, [], p + n, 0) := by
  unfold btk
  rw [h, if_neg (fun h => h rfl), if_pos rfl]
theorem btk_ev {B : List UInt8} {p n e : Nat} {i : Bool} {d f : Int} {l : List Ev} (h : dcT (B.drop p) i = (d, 0, n)) (he : eloop B (65 - fromB i) [] (p + n) (fromB i) = (l, f, e)) (hf : f ≠ 0) : btk B p i true = (0, [], p, f) := by
  unfold btk
  rw [h, if_neg (fun h => h rfl), if_neg (by decide)]
  simp only
  rw [he, if_pos hf]
theorem btk_all {B : List UInt8} {p n e : Nat} {i : Bool} {d : Int} {l : List Ev} (h : dcT (B.drop p) i = (d, 0, n)) (he : eloop B (65 - fromB i) [] (p + n) (fromB i) = (l, 0, e)) : btk B p i true = (d, l, e, 0) := by
  unfold btk
  rw [h, if_neg (fun h => h rfl), if_neg (by decide)]
  simp only
  rw [he, if_neg (fun h => h rfl)]
theorem dcT_none (b : List UInt8) : dcT b false = (0, 0, 0) := rfl
theorem dcT_short {b : List UInt8} (h : b.length < 8) : dcT b true = (0, 2, 0) := by
  unfold dcT
  rw [if_pos rfl, if_pos h]
theorem dcT_not {b : List UInt8} (h : 8 ≤ b.length) (hn : num (b.take 8) = 0 ∨ num (b.take 8) = 128) : dcT b true = (0, 7, 0) := by
  unfold dcT
  rw [if_pos rfl, if_neg (by omega), if_pos hn]
theorem dcT_mid {b : List UInt8} (h : 8 ≤ b.length) (hn : num (b.take 8) = 255) : dcT b true = (128, 0, 8) := by
  unfold dcT
  rw [if_pos rfl, if_neg (by omega), if_neg (by omega), if_pos hn]
theorem dcT_ok {b : List UInt8} {v : Nat} (h : 8 ≤ b.length) (hv : num (b.take 8) = v) (h0 : v ≠ 0) (h1 : v ≠ 128) (h2 : v ≠ 255) : dcT b true = ((v : Int), 0, 8) := by
  unfold dcT
  rw [if_pos rfl, if_neg (by omega), if_neg (by omega), if_neg (by omega), hv]

/-! ### Bounds of what stands at the head of some bits -/
theorem evT_run (p : Nat) : (evT p).2.1 ≤ 63 := by
  have h : ∀ x ∈ evZ, x.2.1 ≤ 63 := by decide +kernel
  unfold evT
  cases hp : evZ[p]? with
  | none => exact Nat.zero_le _
  | some x => exact h x (List.mem_of_getElem? hp)
theorem etk_most {b : List UInt8} {l : Bool} {r n : Nat} {v f : Int} (h : etk b = ((l, r, v), f, n)) : r ≤ 63 ∧ n ≤ b.length := by
  unfold etk at h
  split at h
  · injection h with h1 h2
    injection h1 with h1 h3
    injection h3 with h3 h4
    injection h2 with h2 h5
    omega
  split at h
  · split at h
    · injection h with h1 h2
      injection h1 with h1 h3
      injection h3 with h3 h4
      injection h2 with h2 h5
      omega
    split at h
    · injection h with h1 h2
      injection h2 with h2 h5
      have := (escT_range (num (b.take 22))).1
      rw [h1] at this
      simp only at this
      omega
    · injection h with h1 h2
      injection h1 with h1 h3
      injection h3 with h3 h4
      injection h2 with h2 h5
      omega
  · split at h
    · injection h with h1 h2
      injection h1 with h1 h3
      injection h3 with h3 h4
      injection h2 with h2 h5
      omega
    · injection h with h1 h2
      injection h2 with h2 h5
      have := evT_run (gtk allT b).1.toNat
      unfold signT at h1
      injection h1 with h1 h3
      injection h3 with h3 h4
      omega

/-! ### There and back -/
theorem rowOf_catK (c d n m : Nat) (hc : c < 2 ^ n) (hd : d < 2 ^ m) : rowOf c n ++ rowOf d m = rowOf (c * 2 ^ m + d) (n + m) := by
  have h := row_num (rowOf c n ++ rowOf d m) (by rw [isRow_append, rowOf_row, rowOf_row]; rfl)
  rw [List.length_append, rowOf_length, rowOf_length, num_append, rowOf_length, num_rowOf, num_rowOf, Nat.mod_eq_of_lt hc, Nat.mod_eq_of_lt hd] at h
  exact h.symm
/-- What an event's row tells is taken again, whatever stands behind it. -/
theorem back_evt {l : Bool} {run : Nat} {level : Int} (hr : rightT run level = true) (tl : List UInt8) :
    etk ((rowE (l, (run : Int), level)).data.toList ++ tl) = ((l, run, level), 0, (rowE (l, (run : Int), level)).data.toList.length) := by
  obtain ⟨r, he⟩ : ∃ r, rowE (l, (run : Int), level) = r := ⟨_, rfl⟩
  rw [he]
  unfold rowE at he
  simp only at he
  obtain ⟨r0, r1, l0, l1, l2⟩ := rightT_iff.1 hr
  obtain ⟨f1, f2, f3⟩ := num_fits l run level (by omega)
  have hrd : r.data.toList = rowOf (numT l run level) (digT l run level) := by
    rw [← he]
    unfold eventAt
    rw [if_pos hr, Int.toNat_natCast]
  have hlen : r.data.toList.length = digT l run level := by rw [hrd, rowOf_length]
  have htake : (r.data.toList ++ tl).take (digT l run level) = r.data.toList := by rw [← hlen, List.take_left]
  have hbl : digT l run level ≤ (r.data.toList ++ tl).length := by rw [List.length_append]; omega
  have hnum : num r.data.toList = numT l run level := by rw [hrd, num_rowOf, Nat.mod_eq_of_lt f3]
  rw [hlen]
  obtain ⟨b, htl⟩ : ∃ b, r.data.toList ++ tl = b := ⟨_, rfl⟩
  rw [htl] at htake hbl ⊢
  cases hin : inT l run level.natAbs with
  | true =>
    have hp := plT_lt (by omega) hin
    have hev := plT_ev (by omega) hin
    have hn1 : numT l run level = 2 * codeT (plT l run level.natAbs) + (if level < 0 then 1 else 0) := by unfold numT; rw [hin, if_pos rfl]
    have hd1 : digT l run level = lenT (plT l run level.natAbs) + 1 := by unfold digT; rw [hin, if_pos rfl]
    generalize plT l run level.natAbs = p at hp hev hn1 hd1
    obtain ⟨b0, b1, b2, _⟩ := code_fits p (by omega)
    have hs : (if level < 0 then 1 else 0 : Nat) < 2 := by split <;> decide
    have hpre : (rowC (cellT p)).isPrefixOf b = true := by
      rw [← htl, hrd, hn1, hd1, rowC_T, Nat.mul_comm, ← rowOf_catK _ _ _ 1 b2 hs, List.append_assoc, List.isPrefixOf_iff_prefix]
      exact List.prefix_append _ _
    have hg := gtk_row allT_free (cellT_all (show p < 103 by omega)) (by rw [rowC_len]; exact b0) (by rw [rowC_len]; omega) hpre
    rw [rowC_len] at hg
    have ht := etk_table (i := p) (n := lenT p) hg (by omega) (by rw [← hd1]; exact hbl)
    rw [← hd1, htake, hnum, hev, hn1] at ht
    rw [ht]
    unfold signT
    by_cases hneg : level < 0
    · rw [if_pos hneg, show (2 * codeT p + 1) % 2 = 1 by omega]
      simp only [beq_self_eq_true, if_true]
      rw [show -((level.natAbs : Nat) : Int) = level by omega]
    · rw [if_neg hneg, show (2 * codeT p + 0) % 2 = 0 by omega]
      simp only [show ((0 : Nat) == 1) = false from rfl, Bool.false_eq_true, if_false]
      rw [show ((level.natAbs : Nat) : Int) = level by omega]
  | false =>
    have hn1 : numT l run level = ((6 + l.toNat) * 64 + run) * 256 + (level % 256).toNat := by unfold numT; rw [hin, if_neg (by decide)]
    have hd1 : digT l run level = 22 := by unfold digT; rw [hin, if_neg (by decide)]
    have hl1 : l.toNat ≤ 1 := by cases l <;> decide
    have hpre : (rowC (cellT 102)).isPrefixOf b = true := by
      have h7 : (rowOf (numT l run level) 22).take 7 = rowC (cellT 102) := by
        rw [rowOf_head _ _ _ (by decide), show numT l run level / 2 ^ (22 - 7) = 3 by rw [hn1]; omega]
        decide +kernel
      rw [← htl, hrd, hd1, ← h7, List.isPrefixOf_iff_prefix]
      exact (List.take_prefix 7 _).trans (List.prefix_append _ _)
    have hg := gtk_row allT_free (cellT_all (show 102 < 103 by decide)) (by decide +kernel) (by decide +kernel) hpre
    have ht := etk_escape (n := (rowC (cellT 102)).length) hg (by omega)
    rw [← hd1, htake, hnum] at ht
    have hesc : escT (numT l run level) = (l, run, level) := by
      rw [hn1]
      unfold escT
      rw [show (((6 + l.toNat) * 64 + run) * 256 + (level % 256).toNat) / 16384 % 2 = l.toNat by omega, show (((6 + l.toNat) * 64 + run) * 256 + (level % 256).toNat) / 256 % 64 = run by omega, show (((6 + l.toNat) * 64 + run) * 256 + (level % 256).toNat) % 256 = (level % 256).toNat by omega]
      rw [show (l.toNat == 1) = l by cases l <;> rfl]
      congr 2
      split <;> omega
    rw [hesc] at ht
    simp only [hr, hin, Bool.not_false, Bool.and_true, if_true] at ht
    rw [ht]
theorem drop_at {A C : List UInt8} {p : Nat} (h : p = A.length) : (A ++ C).drop p = C := by rw [h, List.drop_left]
/-- What the rows of some events tell is taken again. -/
theorem back_evs {a : Nat} {l : List Ev} (hl : badV a l l.length = false) (A C : List UInt8) (h0 : 0 < l.length) : ∀ j, j < l.length →
    (lvS a (l.take j)).1 ≤ 63 ∧ ∃ k, 65 ≤ k + (lvS a (l.take j)).1 ∧ eloop (A ++ rowsB l ++ C) (65 - a) [] A.length a = eloop (A ++ rowsB l ++ C) k (l.take j) (A.length + (rowsB (l.take j)).length) (lvS a (l.take j)).1
  | 0, hj => by
    have hf := badV_ok hl hj
    unfold fitV at hf
    simp only [Bool.and_eq_true, decide_eq_true_eq] at hf
    obtain ⟨_, hn⟩ := hf
    rw [List.take_zero] at hn ⊢
    exact ⟨by omega, 65 - a, by show 65 ≤ 65 - a + a; omega, rfl⟩
  | j + 1, hj => by
    obtain ⟨ih0, k, hk1, ih⟩ := back_evs hl A C h0 j (by omega)
    have hf := badV_ok hl (show j < l.length by omega)
    have hf2 := badV_ok hl hj
    have hm := lvS_more a l (show j < l.length by omega)
    have ht : l.take (j + 1) = l.take j ++ [l[j]'(by omega)] := List.take_succ_eq_append_getElem (by omega)
    have hcut : A ++ rowsB l ++ C = (A ++ rowsB (l.take j)) ++ ((rowE (l[j]'(by omega))).data.toList ++ (rowsB (l.drop (j + 1)) ++ C)) := by
      have : rowsB l = rowsB (l.take j) ++ ((rowE (l[j]'(by omega))).data.toList ++ rowsB (l.drop (j + 1))) := by
        have e : rowsB (l.take (j + 1) ++ l.drop (j + 1)) = rowsB (l.take j) ++ ((rowE (l[j]'(by omega))).data.toList ++ rowsB (l.drop (j + 1))) := by
          rw [ht, rowsB_append, rowsB_snoc, List.append_assoc]
        rwa [List.take_append_drop] at e
      rw [this]
      simp only [List.append_assoc]
    unfold fitV at hf hf2
    simp only [Bool.and_eq_true, decide_eq_true_eq, beq_iff_eq] at hf hf2
    obtain ⟨⟨hr, hlast⟩, hn⟩ := hf
    obtain ⟨⟨_, _⟩, hn2⟩ := hf2
    refine ⟨by omega, ?_⟩
    rw [ih, hm, ht, rowsB_snoc, List.length_append]
    obtain ⟨⟨e0, e1, e2⟩, he⟩ : ∃ e, l[j]'(by omega) = e := ⟨_, rfl⟩
    rw [he] at hr hlast hn hcut hm ⊢
    simp only at hr hlast hn ⊢
    obtain ⟨r, rfl⟩ : ∃ r : Nat, e1 = (r : Int) := ⟨e1.toNat, by have := (rightT_iff.1 hr).1; omega⟩
    have he0 : e0 = false := by rw [hlast]; simp; omega
    subst he0
    rw [Int.toNat_natCast] at hn ⊢
    generalize (lvS a (l.take j)).1 = m at ih0 hn hk1 ⊢
    have hk := back_evt (l := false) hr (rowsB (l.drop (j + 1)) ++ C)
    obtain ⟨k, rfl⟩ : ∃ k', k = k' + 1 := ⟨k - 1, by omega⟩
    refine ⟨k, by omega, ?_⟩
    rw [eloop_on (r := r) (v := e2) (n := (rowE (false, (r : Int), e2)).data.toList.length) (by rw [hcut, drop_at (by rw [List.length_append]), hk]) (by omega), Nat.add_assoc]
theorem back_loop {a : Nat} {l : List Ev} (hl : badV a l l.length = false) (A C : List UInt8) (h0 : 0 < l.length) :
    eloop (A ++ rowsB l ++ C) (65 - a) [] A.length a = (l, 0, A.length + (rowsB l).length) := by
  obtain ⟨j, hj⟩ : ∃ j, l.length = j + 1 := ⟨l.length - 1, by omega⟩
  have hjl : j < l.length := by omega
  obtain ⟨ih0, k, hk1, ih⟩ := back_evs hl A C h0 j hjl
  have hf := badV_ok hl hjl
  have ht : l = l.take j ++ [l[j]] := by
    conv => lhs; rw [← List.take_length (l := l), hj, List.take_succ_eq_append_getElem hjl]
  have hcut : A ++ rowsB l ++ C = (A ++ rowsB (l.take j)) ++ ((rowE l[j]).data.toList ++ C) := by
    have : rowsB l = rowsB (l.take j) ++ (rowE l[j]).data.toList := by
      conv => lhs; rw [ht]
      rw [rowsB_snoc]
    rw [this]
    simp only [List.append_assoc]
  have hsz : (rowsB l).length = (rowsB (l.take j)).length + (rowE l[j]).data.toList.length := by
    conv => lhs; rw [ht]
    rw [rowsB_snoc, List.length_append]
  unfold fitV at hf
  simp only [Bool.and_eq_true, decide_eq_true_eq, beq_iff_eq] at hf
  obtain ⟨⟨hr, hlast⟩, hn⟩ := hf
  rw [ih]
  have hl2 : l.take j ++ [l[j]] = l := ht.symm
  obtain ⟨⟨e0, e1, e2⟩, he⟩ : ∃ e, l[j] = e := ⟨_, rfl⟩
  rw [he] at hr hlast hn hcut hsz hl2
  simp only at hr hlast hn
  obtain ⟨r, rfl⟩ : ∃ r : Nat, e1 = (r : Int) := ⟨e1.toNat, by have := (rightT_iff.1 hr).1; omega⟩
  have he0 : e0 = true := by rw [hlast]; simp; omega
  subst he0
  rw [Int.toNat_natCast] at hn
  generalize (lvS a (l.take j)).1 = m at ih0 hn hk1
  have hk := back_evt (l := true) hr C
  obtain ⟨k, rfl⟩ : ∃ k', k = k' + 1 := ⟨k - 1, by omega⟩
  rw [eloop_end (r := r) (v := e2) (n := (rowE (true, (r : Int), e2)).data.toList.length) (by rw [hcut, drop_at (by rw [List.length_append]), hk]) (by omega), hl2, hsz, Nat.add_assoc]
/-- A block that may be is taken again, whatever stands ahead and behind. -/
theorem back_btk {i : Bool} {d : Int} {l : List Ev} (hm : mayB i d l = true) (A C : List UInt8) :
    btk (A ++ rowB i d l ++ C) A.length i (decide (0 < l.length)) = (d, l, A.length + (rowB i d l).length, 0) := by
  unfold mayB at hm
  rw [Bool.and_eq_true, Bool.not_eq_true'] at hm
  obtain ⟨hd, hl⟩ := hm
  have hdc : dcT ((A ++ rowB i d l ++ C).drop A.length) i = (d, 0, (dcB i d).length) := by
    rw [List.append_assoc, drop_at rfl]
    unfold rowB
    rw [List.append_assoc]
    cases i with
    | false =>
      have : d = 0 := by simpa [dcOk] using hd
      subst this
      rfl
    | true =>
      have hd2 : 1 ≤ d ∧ d ≤ 254 := by simpa [dcOk] using hd
      have hlen := dcB_len true d
      have h8 : (dcB true d).length = 8 := hlen
      have htk : (dcB true d ++ (rowsB l ++ C)).take 8 = dcB true d := by rw [← h8, List.take_left]
      have hge : 8 ≤ (dcB true d ++ (rowsB l ++ C)).length := by rw [List.length_append]; omega
      have hnum : num (dcB true d) = if d = 128 then 255 else d.toNat := by
        unfold dcB
        rw [if_pos rfl, num_rowOf, Nat.mod_eq_of_lt]
        split <;> omega
      rw [h8]
      by_cases h128 : d = 128
      · subst h128
        exact dcT_mid hge (by rw [htk, hnum, if_pos rfl])
      · rw [if_neg h128] at hnum
        rw [dcT_ok hge (by rw [htk, hnum]) (by omega) (by omega) (by omega)]
        rw [Int.toNat_of_nonneg (by omega)]
  have hsz : (rowB i d l).length = (dcB i d).length + (rowsB l).length := by unfold rowB; rw [List.length_append]
  by_cases h0 : 0 < l.length
  · rw [decide_eq_true h0]
    have := back_loop hl (A ++ dcB i d) C h0
    rw [List.length_append] at this
    rw [btk_all hdc (by rw [show A ++ rowB i d l ++ C = A ++ dcB i d ++ rowsB l ++ C by unfold rowB; simp only [List.append_assoc]]; exact this), hsz, Nat.add_assoc]
  · rw [decide_eq_false h0]
    have hn : l = [] := List.eq_nil_of_length_eq_zero (by omega)
    subst hn
    rw [btk_bare hdc, hsz]
    rfl

/-! ### May it be? -/
theorem dcOk_false {d : Int} : dcOk false d = (d == 0) := rfl
theorem dcOk_true {d : Int} : dcOk true d = (decide (1 ≤ d) && decide (d ≤ 254)) := rfl
theorem badV_len {a : Nat} {l : List Ev} (h : badV a l l.length = false) : l.length ≤ 64 := by
  have key : ∀ j, j ≤ l.length → j ≤ (lvS a (l.take j)).1 := by
    intro j
    induction j with
    | zero => intro _; exact Nat.zero_le _
    | succ j ih =>
      intro hj
      have h1 := ih (by omega)
      have h2 := lvS_more a l (show j < l.length by omega)
      rw [h2]
      simp only
      omega
  by_cases h64 : l.length ≤ 64
  · exact h64
  · exfalso
    have h1 := badV_ok h (show 64 < l.length by omega)
    have h2 := key 64 (by omega)
    unfold fitV at h1
    simp only [Bool.and_eq_true, decide_eq_true_eq] at h1
    omega
theorem badV_right {a : Nat} {l : List Ev} (h : badV a l l.length = false) {j : Nat} (hj : j < l.length) : rightT l[j].2.1 l[j].2.2 = true := by
  have h1 := badV_ok h hj
  unfold fitV at h1
  simp only [Bool.and_eq_true] at h1
  exact h1.1.1
theorem mayB_parts {i : Bool} {d : Int} {l : List Ev} (h : mayB i d l = true) : dcOk i d = true ∧ badV (fromB i) l l.length = false := by
  unfold mayB at h
  rw [Bool.and_eq_true, Bool.not_eq_true'] at h
  exact h
theorem lvG_ok {i : Bool} {l : List Ev} (h : badV (fromB i) l l.length = false) : (lvG l ((fromB i : Nat) : Int)).2 = 0 := by
  unfold lvG
  rw [if_pos (by cases i; exact .inl rfl; exact .inr rfl), Int.toNat_natCast, if_neg (by rw [h]; decide)]
theorem lvG_bad {i : Bool} {l : List Ev} (h : badV (fromB i) l l.length = true) : (lvG l ((fromB i : Nat) : Int)).2 = 7 := by
  unfold lvG
  rw [if_pos (by cases i; exact .inl rfl; exact .inr rfl), Int.toNat_natCast, if_pos h]

/-! ### Where a loop over events stands -/
theorem eloop_len (B : List UInt8) : ∀ (k : Nat) (acc : List Ev) (p m : Nat), (eloop B k acc p m).1.length ≤ acc.length + k
  | 0, acc, p, m => Nat.zero_le _
  | k + 1, acc, p, m => by
    rw [eloop]
    split
    · exact Nat.zero_le _
    split
    · exact Nat.zero_le _
    split
    · simp only [List.length_append, List.length_cons, List.length_nil]; omega
    · refine Nat.le_trans (eloop_len B k _ _ _) ?_
      simp only [List.length_append, List.length_cons, List.length_nil]; omega
theorem btk_len (B : List UInt8) (p : Nat) (i c : Bool) : (btk B p i c).2.1.length ≤ 65 := by
  unfold btk
  split
  · exact Nat.zero_le _
  split
  · exact Nat.zero_le _
  split
  · exact Nat.zero_le _
  · refine Nat.le_trans (eloop_len _ _ _ _ _) ?_
    simp
/-- Where a loop over events stands. -/
def EvR (S : List UInt8) (a p : Nat) (acc : List Ev) (m t : Nat) : Prop := ∃ k, 65 ≤ k + m ∧ eloop S (65 - a) [] p a = eloop S k acc t m
theorem EvR.first (S : List UInt8) (a p : Nat) : EvR S a p [] a p := ⟨65 - a, by omega, rfl⟩
theorem EvR.err {S : List UInt8} {a p m t n : Nat} {acc : List Ev} {x : Bool × Nat × Int} {f : Int} (h : EvR S a p acc m t) (hm : m ≤ 64) (he : etk (S.drop t) = (x, f, n)) (hf : f ≠ 0) : eloop S (65 - a) [] p a = ([], f, 0) := by
  obtain ⟨k, hk, h⟩ := h
  obtain ⟨k, rfl⟩ : ∃ k', k = k' + 1 := ⟨k - 1, by omega⟩
  rw [h, eloop_err he hf]
theorem EvR.far {S : List UInt8} {a p m t n r : Nat} {acc : List Ev} {l : Bool} {v : Int} (h : EvR S a p acc m t) (hm : m ≤ 64) (he : etk (S.drop t) = ((l, r, v), 0, n)) (hr : 63 < m + r) : eloop S (65 - a) [] p a = ([], 7, 0) := by
  obtain ⟨k, hk, h⟩ := h
  obtain ⟨k, rfl⟩ : ∃ k', k = k' + 1 := ⟨k - 1, by omega⟩
  rw [h, eloop_far he hr]
theorem EvR.end {S : List UInt8} {a p m t n r : Nat} {acc : List Ev} {v : Int} (h : EvR S a p acc m t) (_ : m ≤ 64) (he : etk (S.drop t) = ((true, r, v), 0, n)) (hr : m + r ≤ 63) : eloop S (65 - a) [] p a = (acc ++ [(true, (r : Int), v)], 0, t + n) := by
  obtain ⟨k, hk, h⟩ := h
  obtain ⟨k, rfl⟩ : ∃ k', k = k' + 1 := ⟨k - 1, by omega⟩
  rw [h, eloop_end he hr]
theorem EvR.on {S : List UInt8} {a p m t n r : Nat} {acc : List Ev} {v : Int} (h : EvR S a p acc m t) (_ : m ≤ 64) (he : etk (S.drop t) = ((false, r, v), 0, n)) (hr : m + r ≤ 63) : EvR S a p (acc ++ [(false, (r : Int), v)]) (m + r + 1) (t + n) := by
  obtain ⟨k, hk, h⟩ := h
  obtain ⟨k, rfl⟩ : ∃ k', k = k' + 1 := ⟨k - 1, by omega⟩
  exact ⟨k, by omega, by rw [h, eloop_on he hr]⟩
theorem bfrom_code (i : Bool) (w : World) : Calls Tryd.prog 35 #[.bool i] w fun e w' => e = .returned (.int .i64 (fromB i : Nat)) ∧ w = w' := by
  cases i
  all_goals
    go_enter Tryd.func35, Tryd.ntmps35
    go_wp2
    go_ret
    exact ⟨rfl, rfl⟩
end Go.Proofs.YtologhgoojkpmaaDoor
