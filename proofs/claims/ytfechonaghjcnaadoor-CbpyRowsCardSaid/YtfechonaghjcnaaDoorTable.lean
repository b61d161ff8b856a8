/- What a Table of package prefix does, once it is made. Conditions: readers of texts of at most 2^47 bytes. -/
import Derived.Test.YtfechonaghjcnaaDoorDatum
import Derived.Test.YtfechonaghjcnaaDoorReader
import Derived.BigQuiet
import Derived.Deep.QuietTactic
import Derived.IntWalk
namespace Go.Proofs.YtfechonaghjcnaaDoor
open Go.RowKit Go.Maps

/-- What 'with' gives. -/
def WithGives (p : Option Addr) (l : List (ByteArray × Int)) (at_ : Nat) (c : UInt8) (w : World) (e : Ending) (w' : World) : Prop :=
  ∃ q cap, e = .returned (.slice q (if c = 48 then l.takeWhile (nought rowC at_) else l.dropWhile (nought rowC at_)).length cap) ∧ w = w' ∧ Cds w q (if c = 48 then l.takeWhile (nought rowC at_) else l.dropWhile (nought rowC at_)) ∧
    (if c = 48 then l.takeWhile (nought rowC at_) else l.dropWhile (nought rowC at_)).length ≤ cap ∧ cap ≤ maxLen ∧ ∀ a, q = some a → ∃ a', p = some a' ∧ a'.block = a.block
theorem while_len {α : Type} (p : α → Bool) (l : List α) (k : Nat) (h1 : ∀ i, (h : i < l.length) → i < k → p l[i] = true) (h2 : ∀ h : k < l.length, p l[k] = false) (hk : k ≤ l.length) : l.takeWhile p = l.take k ∧ l.dropWhile p = l.drop k := by
  induction l generalizing k with
  | nil => simp
  | cons x l ih =>
    cases k with
    | zero =>
      have := h2 (by simp)
      simp only [List.getElem_cons_zero] at this
      simp [this]
    | succ k =>
      have h0 := h1 0 (by simp) (by omega)
      simp only [List.getElem_cons_zero] at h0
      have := ih k (fun i hi hik => by have := h1 (i + 1) (by simpa using hi) (by omega); simpa using this) (fun hk => by have := h2 (by simpa using hk); simpa using this) (by simpa using hk)
      simp [h0, this.1, this.2]
theorem nought_at (x : ByteArray × Int) (at_ : Nat) (h : at_ < x.1.size) : nought rowC at_ x = (x.1[at_] == 48) := by
  unfold nought rowC
  have e : x.1.data.toList[at_]? = some x.1[at_] := List.getElem?_eq_getElem (show at_ < x.1.data.toList.length from h)
  rw [e]
  rfl
/-- Those up to a place, or from it on. -/
theorem with_ends {l : List (ByteArray × Int)} {at_ k : Nat} {c : UInt8} {w : World} {p q : Option Addr} {n cap : Nat} (h1 : ∀ i, (h : i < l.length) → i < k → nought rowC at_ l[i] = true) (h2 : ∀ h : k < l.length, nought rowC at_ l[k] = false) (hk : k ≤ l.length)
    (hn : n = if c = 48 then k else l.length - k) (hq : Cds w q (if c = 48 then l.take k else l.drop k)) (hcap : n ≤ cap) (hm : cap ≤ maxLen) (hsm : ∀ a, q = some a → ∃ a', p = some a' ∧ a'.block = a.block) : WithGives p l at_ c w (.returned (.slice q n cap)) w := by
  obtain ⟨e1, e2⟩ := while_len (nought rowC at_) l k h1 h2 hk
  unfold WithGives
  rw [e1, e2]
  by_cases hc : c = 48
  · simp only [hc, if_true] at hn hq ⊢
    have hl : (l.take k).length = k := by rw [List.length_take]; omega
    exact ⟨q, cap, by rw [hl, hn], trivial, hq, by omega, hm, hsm⟩
  · simp only [hc, if_false] at hn hq ⊢
    have hl : (l.drop k).length = l.length - k := List.length_drop
    exact ⟨q, cap, by rw [hl, hn], trivial, hq, by omega, hm, hsm⟩
theorem same_self {p : Option Addr} : ∀ a, p = some a → ∃ a', p = some a' ∧ a'.block = a.block := fun a h => ⟨a, h, rfl⟩
theorem same_map {p : Option Addr} {n : Nat} : ∀ a, Option.map (fun x => Addr.add x n) p = some a → ∃ a', p = some a' ∧ a'.block = a.block := by
  intro a h
  cases p with
  | none => cases h
  | some b => cases h; exact ⟨b, rfl, by show b.block = (b.add n).block; unfold Addr.add; split <;> rfl⟩
set_option maxRecDepth 100000 in
set_option maxHeartbeats 4000000 in
theorem with_code (l : List (ByteArray × Int)) (p : Option Addr) (cap at_ : Nat) (c : UInt8) (w : World) (hc : Cds w p l) (hlc : l.length ≤ cap) (hcap : cap ≤ maxLen) (hrow : ∀ x ∈ l, at_ < x.1.size ∧ x.1.size ≤ 24) :
    Calls Tryd.prog 34 #[.slice p l.length cap, .int .i64 (at_ : Int), .int .u8 (c.toNat : Int)] w (WithGives p l at_ c w) := by
  unfold maxLen at hcap
  have HR := Lib.hid hrow
  clear hrow
  have cc : (c = 48 ∧ ((c.toNat : Int) == 48) = true) ∨ (c ≠ 48 ∧ ((c.toNat : Int) == 48) = false) := by
    by_cases h : c = 48
    · exact .inl ⟨h, by rw [h]; rfl⟩
    · refine .inr ⟨h, ?_⟩
      rw [beq_eq_false_iff_ne]
      intro e
      exact h (UInt8.toNat_inj.1 (by show c.toNat = 48; omega))
  go_enter Tryd.func34, Tryd.ntmps34
  go_wp2
  go_loop [7] (fun i => ∃ k : Nat, k ≤ l.length ∧ i = .int .i64 k ∧ Hid (∀ i, (h : i < l.length) → i < k → nought rowC at_ l[i] = true)) (fun i => l.length - (intOf i).toNat)
  case atStart => exact ⟨0, Nat.zero_le _, rfl, Lib.hid (fun i _ h => absurd h (Nat.not_lt_zero i))⟩
  case round =>
    obtain ⟨k, hk, rfl, hin⟩ := hrel
    by_cases hlt : k < l.length
    · obtain ⟨b, o, rfl, _, hcells⟩ := hc.at (by omega)
      have c0 := (hcells k hlt).1
      have hx := HR.out l[k] (List.getElem_mem hlt)
      obtain ⟨x, hxe⟩ : ∃ x, l[k] = x := ⟨_, rfl⟩
      rw [hxe] at c0 hx
      obtain ⟨hx1, hx2⟩ := hx
      have NO := Lib.hid (show nought rowC at_ l[k] = (x.1[at_] == 48) by rw [hxe]; exact nought_at x at_ hx1)
      have HC := Lib.hid hc
      clear hcells hxe hc
      by_cases h48 : x.1[at_].toNat = 48
      · have g0 : ((x.1[at_].toNat : Int) == 48) = true := by rw [h48]; rfl
        have NX : Hid (∀ i, (h : i < l.length) → i < k + 1 → nought rowC at_ l[i] = true) := Lib.hid (fun i hi h => by
          by_cases e : i = k
          · subst e
            rw [NO.out, UInt8.toNat_inj.1 (show x.1[at_].toNat = (48 : UInt8).toNat from h48)]
            rfl
          · exact hin.out i hi (by omega))
        clear h48 cc
        go_wp2
        go_round
        case rel => exact ⟨k + 1, by omega, by go_num, NX⟩
        case measure => simp [intOf]; omega
      · have g0 : ((x.1[at_].toNat : Int) == 48) = false := by rw [beq_eq_false_iff_ne]; omega
        have N2 : Hid (∀ h : k < l.length, nought rowC at_ l[k] = false) := Lib.hid (fun _ => by
          rw [NO.out, beq_eq_false_iff_ne]
          intro e
          exact h48 (by rw [e]; rfl))
        clear h48
        rcases cc with ⟨hcc, g1⟩ | ⟨hcc, g1⟩
        · have C := Lib.hid hcc
          clear hcc
          go_wp2
          go_ret
          exact with_ends hin.out N2.out hk (by rw [if_pos C.out]) (by rw [if_pos C.out]; exact HC.out.take k) (by omega) (by unfold maxLen; omega) (fun a h => ⟨a, h, rfl⟩)
        · have C := Lib.hid hcc
          clear hcc
          go_wp2
          go_ret
          exact with_ends hin.out N2.out hk (by rw [if_neg C.out]) (by rw [if_neg C.out]; exact HC.out.drop k) (by omega) (by unfold maxLen; omega) (fun a h => ⟨_, rfl, by cases h; rfl⟩)
    · obtain rfl : k = l.length := by omega
      have N2 : Hid (∀ h : l.length < l.length, nought rowC at_ l[l.length] = false) := Lib.hid (fun h => absurd h (Nat.lt_irrefl _))
      have HC := Lib.hid hc
      clear hc
      rcases cc with ⟨hcc, g1⟩ | ⟨hcc, g1⟩
      · have C := Lib.hid hcc
        clear hcc
        go_wp2
        go_ret
        exact with_ends hin.out N2.out hk (by rw [if_pos C.out]) (by rw [if_pos C.out]; exact HC.out.take _) (by omega) (by unfold maxLen; omega) (fun a h => ⟨a, h, rfl⟩)
      · have C := Lib.hid hcc
        clear hcc
        go_wp2
        all_goals
          go_ret
          exact with_ends hin.out N2.out hk (by rw [if_neg C.out, Nat.sub_self]) (by rw [if_neg C.out, List.drop_length]; exact .inl rfl) (by omega) (by unfold maxLen; omega) (by first | exact same_self | exact same_map)

/-- A Table's block. -/
def tbCells (m : Option Nat) (q : Option Addr) (n cap : Nat) (L : Int) : List Value := [.map m, .slice q n cap, .int .i64 L]
def tbObj (m : Option Nat) (q : Option Addr) (n cap : Nat) (L : Int) : Obj := .cells (tbCells m q n cap L).toArray 63 (0, 0)
/-- Block tb is a Table of these codes, in the order in which they lie, whose longest row has L digits; the codes lie below block N. -/
def IsTb (w : World) (N tb : Nat) (ds : List (ByteArray × Int)) (L : Int) : Prop :=
  ∃ (m : Option Nat) (q : Option Addr) (cap : Nat), w.heap[tb]? = some (tbObj m q ds.length cap L) ∧ ds.length ≤ cap ∧ cap ≤ maxLen ∧ Cds w q ds ∧ RowMap w m ds ∧ ∀ a, q = some a → a.block < N
theorem IsTb.lt {w : World} {N tb : Nat} {ds : List (ByteArray × Int)} {L : Int} (h : IsTb w N tb ds L) : tb < w.heap.size := by
  obtain ⟨_, _, _, h, _⟩ := h
  exact (Array.getElem?_eq_some_iff.1 h).1
theorem IsTb.below {w w' : World} {N tb : Nat} {ds : List (ByteArray × Int)} {L : Int} (h : IsTb w N tb ds L) (hb : Below w.heap.size w w') : IsTb w' N tb ds L := by
  have hlt := h.lt
  obtain ⟨m, q, cap, h1, h2, h3, h4, h5, h6⟩ := h
  exact ⟨m, q, cap, (hb.block tb hlt).trans h1, h2, h3, h4.below hb, h5.below hb, h6⟩

/-- And the codes lie from block lo on. -/
def IsTbL (w : World) (lo N tb : Nat) (ds : List (ByteArray × Int)) (L : Int) : Prop :=
  ∃ (m : Option Nat) (q : Option Addr) (cap : Nat), w.heap[tb]? = some (tbObj m q ds.length cap L) ∧ ds.length ≤ cap ∧ cap ≤ maxLen ∧ Cds w q ds ∧ RowMap w m ds ∧ ∀ a, q = some a → lo ≤ a.block ∧ a.block < N
theorem IsTbL.top {w : World} {lo N tb : Nat} {ds : List (ByteArray × Int)} {L : Int} (h : IsTbL w lo N tb ds L) : IsTb w N tb ds L := by
  obtain ⟨m, q, cap, h1, h2, h3, h4, h5, h6⟩ := h
  exact ⟨m, q, cap, h1, h2, h3, h4, h5, fun a ha => (h6 a ha).2⟩
theorem IsTb.low {w : World} {N tb : Nat} {ds : List (ByteArray × Int)} {L : Int} (h : IsTb w N tb ds L) : IsTbL w 0 N tb ds L := by
  obtain ⟨m, q, cap, h1, h2, h3, h4, h5, h6⟩ := h
  exact ⟨m, q, cap, h1, h2, h3, h4, h5, fun a ha => ⟨Nat.zero_le _, h6 a ha⟩⟩
theorem IsTbL.lt {w : World} {lo N tb : Nat} {ds : List (ByteArray × Int)} {L : Int} (h : IsTbL w lo N tb ds L) : tb < w.heap.size := h.top.lt
theorem IsTbL.below {w w' : World} {lo N tb : Nat} {ds : List (ByteArray × Int)} {L : Int} (h : IsTbL w lo N tb ds L) (hb : Below w.heap.size w w') : IsTbL w' lo N tb ds L := by
  have hlt := h.lt
  obtain ⟨m, q, cap, h1, h2, h3, h4, h5, h6⟩ := h
  exact ⟨m, q, cap, (hb.block tb hlt).trans h1, h2, h3, h4.below hb, h5.below hb, h6⟩

/-- What Row gives. -/
def RowGives (ds : List (ByteArray × Int)) (s : Int) (w : World) (e : Ending) (w' : World) : Prop :=
  ∃ (v : ByteArray) (ok : Bool), e = .returned (.tuple #[.string v, .bool ok]) ∧ w = w' ∧ ((∀ x ∈ ds, x.2 ≠ s) → v = ⟨#[]⟩ ∧ ok = false) ∧ (∀ x ∈ ds, x.2 = s → v.data.toList = x.1.data.toList ∧ ok = true)
set_option maxHeartbeats 1000000 in
theorem tdigits_code (s : ByteArray) (hs : s.size ≤ maxLen) (w : World) :
    Calls Tryd.prog 29 #[.string s] w fun e w' => e = .returned (.bool (okRow s.data.toList)) ∧ Below w.heap.size w w' := by
  unfold maxLen at hs
  have hsl : s.data.toList.length = s.size := rfl
  by_cases x0 : s.data.toList = []
  · have F := Lib.hid (show okRow s.data.toList = false by rw [x0]; rfl)
    have e0 : s.toList.isEmpty = true := by rw [Lib.toList_data, x0]; rfl
    have e1 : s.toList = [] := by rw [Lib.toList_data, x0]
    clear x0 hsl
    go_enter Tryd.func29, Tryd.ntmps29
    go_wp2
    go_ret
    exact ⟨ret_bool F.out.symm, Below.refl _ _⟩
  have e0 : s.toList.isEmpty = false := by rw [Lib.toList_data]; simpa using x0
  by_cases x1 : 24 < s.size
  · have F := Lib.hid (show okRow s.data.toList = false by
      cases h : okRow s.data.toList with
      | false => rfl
      | true => have := (okRow_inv h).2.1; omega)
    have e1 : decide ((s.size : Int) ≤ 24) = false := by simp; omega
    clear x0 hsl x1
    go_enter Tryd.func29, Tryd.ntmps29
    go_wp2
    go_ret
    exact ⟨ret_bool F.out.symm, Below.refl _ _⟩
  have e1 : decide ((s.size : Int) ≤ 24) = true := by simp; omega
  have hk : okRow s.data.toList = isRow s.data.toList := by
    cases h : isRow s.data.toList with
    | true => exact okRow_parts x0 (by omega) h
    | false =>
      cases h2 : okRow s.data.toList with
      | false => rfl
      | true => rw [(okRow_inv h2).2.2] at h; cases h
  have hk2 : (Lib.trimS s.data.toList [48, 49]).isEmpty = okRow s.data.toList := by
    rw [hk, Bool.eq_iff_iff, List.isEmpty_iff, trim_none]
  obtain ⟨r, hr⟩ : ∃ r, (⟨(Lib.trimS s.data.toList [48, 49]).toArray⟩ : ByteArray) = r := ⟨_, rfl⟩
  have hr2 : r.toList.isEmpty = okRow s.data.toList := by rw [← hk2, ← hr, Lib.toList_data]
  have RR := Lib.hid hr
  have R2 := Lib.hid hr2
  clear x0 hsl x1 hk hk2 hr hr2
  go_enter Tryd.func29, Tryd.ntmps29
  go_wp2_with fail
  refine (trim_any s hs _).mono ?_
  rintro e w1 ⟨rfl, hb⟩
  rw [RR.out]
  go_wp2
  go_ret
  exact ⟨ret_bool R2.out, hb⟩

set_option maxRecDepth 100000 in
set_option maxHeartbeats 4000000 in
theorem nested_code (l : List (ByteArray × Int)) (p : Option Addr) (cap : Nat) (w : World) (r : Bool) (hr : r = true ↔ ∃ i, ∃ h : i + 1 < l.length, (rowC l[i]).isPrefixOf (rowC l[i + 1]) = true) (hc : Cds w p l) (hm : l.length ≤ 1048576) :
    Calls Tryd.prog 33 #[.slice p l.length cap] w fun e w' => e = .returned (.bool r) ∧ Below w.heap.size w w' := by
  have R := Lib.hid hr
  clear hr
  obtain ⟨B, hB⟩ : ∃ B, w.heap.size = B := ⟨_, rfl⟩
  have hE : ∀ x, Below B w x → ∀ i, (h : i < l.length) → ∃ b o, p = some ⟨b, o, none⟩ ∧ ∀ j, (h : j < l.length) → x.cell? ⟨b, o + j * 2, none⟩ = some (.string l[j].1) := by
    intro x hx i hi
    obtain ⟨b, o, rfl, hblt, hcells⟩ := hc.at (by omega)
    exact ⟨b, o, rfl, fun j hj => (World.cell?_of_block (a := ⟨b, o + j * 2, none⟩) (hx.block b (by omega))).trans (hcells j hj).1⟩
  have EE := Lib.hid hE
  have hb0 : Below B w w := Below.refl _ _
  have HB := Lib.hid hB
  rw [hB]
  clear hE hc hB
  go_enter Tryd.func33, Tryd.ntmps33
  go_wp2
  go_loopw [3] (fun i wr => ∃ k : Nat, (k < l.length ∨ k = 0) ∧ i = .int .i64 ((k : Int) + 1) ∧ Below B w wr ∧ Hid (∀ i, (h : i + 1 < l.length) → i < k → (rowC l[i]).isPrefixOf (rowC l[i + 1]) = false)) (fun i _ => l.length + 1 - (intOf i).toNat)
  case atStart => exact ⟨0, .inr rfl, rfl, hb0, Lib.hid (fun i _ h => absurd h (Nat.not_lt_zero i))⟩
  case round =>
    clear hb0
    obtain ⟨k, hk, rfl, hb, hin⟩ := hrel
    by_cases hlt : k + 1 < l.length
    · obtain ⟨b, o, rfl, hcells⟩ := EE.out wr hb (k + 1) hlt
      have c1 := hcells (k + 1) hlt
      have c0 := hcells k (by omega)
      obtain ⟨x, hx⟩ : ∃ x, l[k + 1] = x := ⟨_, rfl⟩
      obtain ⟨y, hy⟩ : ∃ y, l[k] = y := ⟨_, rfl⟩
      rw [hx] at c1
      rw [hy] at c0
      have HX := Lib.hid hx
      have HY := Lib.hid hy
      have t0 : decide ((k : Int) + 1 < l.length) = true := by simp; omega
      have hbg : ∀ w, Calls Tryd.prog 40 #[.string x.1, .string y.1] w fun e w' => e = .returned (.bool (y.1.data.toList.isPrefixOf x.1.data.toList)) ∧ w' = w := fun w => begins_any x.1 y.1 w
      clear hcells hk hx hy
      cases hpre : y.1.data.toList.isPrefixOf x.1.data.toList with
      | true =>
        rw [hpre] at hbg
        have F := Lib.hid (R.out.2 ⟨k, hlt, by rw [HX.out, HY.out]; exact hpre⟩)
        have BG := Lib.hid hbg
        clear hpre hbg
        go_wp2_with fail
        go_quiet ((go_at_call 40; exact Calls.quiet_of_same (BG.out _)))
        go_wp2
        go_ret
        exact ⟨ret_bool F.out.symm, below_drewN hb _⟩
      | false =>
        rw [hpre] at hbg
        have F : Hid (∀ i, (h : i + 1 < l.length) → i < k + 1 → (rowC l[i]).isPrefixOf (rowC l[i + 1]) = false) := Lib.hid (fun i hi h => by
          by_cases e : i = k
          · subst e
            rw [HX.out, HY.out]
            exact hpre
          · exact hin.out i hi (by omega))
        have BG := Lib.hid hbg
        clear hpre hbg
        go_wp2_with fail
        go_quiet ((go_at_call 40; exact Calls.quiet_of_same (BG.out _)))
        go_wp2
        go_roundw
        case rel => exact ⟨k + 1, .inl hlt, by go_num, below_drewN hb _, F⟩
        case measure => simp [intOf]; omega
    · have F := Lib.hid (show r = false by
        cases hrr : r with
        | false => rfl
        | true =>
          obtain ⟨i, hi, hp⟩ := R.out.1 hrr
          rw [hin.out i hi (by omega)] at hp
          cases hp)
      have t0 : decide ((k : Int) + 1 < l.length) = false := by simp; omega
      clear hlt hk
      go_wp2
      go_ret
      exact ⟨ret_bool F.out.symm, hb⟩
end Go.Proofs.YtfechonaghjcnaaDoor
