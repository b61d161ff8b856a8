/- What package mcbpc's iterator over codes gives: those of one kind of sheets whose rows begin with some digits, one by one. Conditions: what it has captured lies in two boxes, which the loop's body keeps. -/
import Derived.RangeFuncNested
import Derived.RangeFuncBound
import Derived.RangeFuncCalls
import Derived.RangeFuncLeaves
import Derived.Shelf.Abstract
import Derived.Shelf.RegionOpen
import Derived.OwnWalkIn
import Derived.TacticsInMore
import Derived.LoopNIn
import Derived.LoopIn
import Derived.Test.YtoacbdaamdodaaaDoorMrows
import Derived.Test.YtoacbdaamdodaaaDoorSlotsY
namespace Go.Proofs.YtoacbdaamdodaaaDoor
open Go.RowKit Go.Lib
attribute [local go_sem] Oper.semAt_some

/-- Place i of a table: its row (or nothing), its kind and chroma. -/
def cellC (inter : Bool) (i : Nat) : ByteArray × Sym := (rowAt inter ((i / 4 : Nat) : Int) ((i % 4 : Nat) : Int), (⟨i / 4 % 6, Nat.mod_lt _ (by decide)⟩, ⟨i % 4, Nat.mod_lt _ (by decide)⟩))
/-- The codes up to a place whose rows begin with f. -/
def upto (inter : Bool) (f : List UInt8) (i : Nat) : List (ByteArray × Sym) := ((List.range i).map (cellC inter)).filter fun x => f.isPrefixOf (rowCY x)
theorem upto_zero (inter : Bool) (f : List UInt8) : upto inter f 0 = [] := rfl
theorem upto_yes {inter : Bool} {f : List UInt8} {i : Nat} (h : f.isPrefixOf (rowCY (cellC inter i)) = true) : upto inter f (i + 1) = upto inter f i ++ [cellC inter i] := by
  unfold upto
  rw [List.range_succ, List.map_append, List.filter_append]
  simp [h]
theorem upto_no {inter : Bool} {f : List UInt8} {i : Nat} (h : f.isPrefixOf (rowCY (cellC inter i)) = false) : upto inter f (i + 1) = upto inter f i := by
  unfold upto
  rw [List.range_succ, List.map_append, List.filter_append]
  simp [h]
theorem upto_len (inter : Bool) (f : List UInt8) (i : Nat) : (upto inter f i).length ≤ i := by
  unfold upto
  refine Nat.le_trans (List.length_filter_le _ _) ?_
  simp
theorem cellC_at (inter : Bool) (k c : Nat) (hk : k < 6) (hc : c < 4) : (cellC inter (4 * k + c)).1 = rowAt inter (k : Int) (c : Int) ∧ sA (cellC inter (4 * k + c)).2 = (k : Int) ∧ sB (cellC inter (4 * k + c)).2 = (c : Int) := by
  have h1 : (4 * k + c) / 4 = k := by omega
  have h2 : (4 * k + c) % 4 = c := by omega
  unfold cellC sA sB
  simp only [h1, h2]
  exact ⟨trivial, by rw [Nat.mod_eq_of_lt hk], trivial⟩
theorem grown_none {w x : World} (h : Below w.heap.size w x) : w.grownBy x none := ⟨h.os, h.tape, h.output, h.size, fun k hk _ => h.block k hk⟩
/-- A code, as it is yielded. -/
def encS (x : ByteArray × Sym) : Array Value := #[.agg #[.string x.1, .int .i64 (sA x.2), .int .i64 (sB x.2)]]
/-- What the loop's body keeps: the two boxes. -/
def KeepB (b0 b1 : Nat) (inter : Bool) (f : ByteArray) (W W' : World) : Prop :=
  (Boxed W b0 4 (.bool inter) → Boxed W' b0 4 (.bool inter)) ∧ (Boxed W b1 9 (.string f) → Boxed W' b1 9 (.string f))
theorem KeepB.grown {b0 b1 : Nat} {inter : Bool} {f : ByteArray} {W W' : World} {row : Option Nat} (hg : W.grownBy W' row) (h0 : some b0 ≠ row) (h1 : some b1 ≠ row) : KeepB b0 b1 inter f W W' :=
  ⟨fun h => h.kept hg h0, fun h => h.kept hg h1⟩

set_option maxRecDepth 100000 in
set_option maxHeartbeats 4000000 in
theorem codes1_in (n : Nat) (hn : 1 ≤ n) (l b0 b1 : Nat) (inter : Bool) (f : ByteArray) (J Jx : List (ByteArray × Sym) → World → Prop)
    (W : World) (hJ : AbidesFrom W.heap.size J)
    (hY : ∀ pre x W1, J pre W1 → pre.length < 24 → YieldAt Fence.wide (n - 1) Tryd.prog l (encS x) W1 fun e W' =>
      (e = .returned (.bool true) ∧ J (pre ++ [x]) W' ∧ KeepB b0 b1 inter f W1 W') ∨ (e = .returned (.bool false) ∧ Jx (pre ++ [x]) W'))
    (hb0 : Boxed W b0 4 (.bool inter)) (hb1 : Boxed W b1 9 (.string f)) (h0 : J [] W) :
    CallsIn Fence.wide n Tryd.prog 32 #[.func (.yield l) #[] #[], .pointer (some ⟨b0, 0, none⟩), .pointer (some ⟨b1, 0, none⟩)] W fun e W' => (∃ v, e = .returned v) ∧
      ((∃ xs, xs = upto inter f.data.toList 24 ∧ J xs W') ∨ (∃ pre, True ∧ Jx pre W')) := by
  refine callsIn_of_wp Tryd.func32 rfl trivial ?_ rfl
  simp only [Tryd.ntmps32, List.size_toArray, List.length_cons, List.length_nil, Nat.reduceAdd, Nat.reduceSub, Array.replicate_succ, Array.replicate_zero, List.push_toArray, List.append_toArray, List.nil_append, List.cons_append]
  gi_wp2
  gi_loopw [7] (fun v wr => ∃ k : Nat, k ≤ 6 ∧ v = .int .i64 k ∧ J (upto inter f.data.toList (4 * k)) wr ∧ Boxed wr b0 4 (.bool inter) ∧ Boxed wr b1 9 (.string f)) (fun v _ => 6 - (intOf v).toNat)
  case atStart => exact ⟨0, by omega, rfl, h0, hb0, hb1⟩
  case round =>
    obtain ⟨k, hk, rfl, hj, hb0, hb1⟩ := hrel
    by_cases hlt : k < 6
    · have c0 := hb0.cell
      obtain ⟨a, b, d, g, hl⟩ := rowsL_four inter k
      have ix : ∀ c : Nat, c < 4 → ∀ w, (Instr.index 41 (.agg #[.string a, .string b, .string d, .string g]) (.int .i64 (c : Int))).run Tryd.prog w = .ok (.string (rowAt inter k c)) w := by
        intro c hc w
        have hr : rowAt inter k c = [a, b, d, g][c]?.getD ⟨#[]⟩ := by
          unfold rowAt
          rw [if_pos (by omega), hl, Int.toNat_natCast]
        obtain ⟨i0, i1, i2, i3⟩ := four_at a b d g w
        rcases (by omega : c = 0 ∨ c = 1 ∨ c = 2 ∨ c = 3) with rfl | rfl | rfl | rfl
        · rw [hr]; exact i0
        · rw [hr]; exact i1
        · rw [hr]; exact i2
        · rw [hr]; exact i3
      have IX := Lib.hid ix
      have HL := Lib.hid (show fourV (rowsL inter k) = .agg #[.string a, .string b, .string d, .string g] by rw [hl]; rfl)
      clear ix hl
      gi_wp2
      refine ⟨trivial, (callsIn_wide.2 (rows_code inter k _)).mono ?_⟩
      rintro e w1 ⟨rfl, hbw⟩
      rw [HL.out]
      have hg1 := grown_none hbw
      have hj1 := hJ _ wr w1 none hj hg1 (fun r e => by cases e)
      have hb01 := hb0.kept hg1 (by simp)
      have hb11 := hb1.kept hg1 (by simp)
      clear hj hb0 hb1 hg1 hbw c0
      gi_wp2
      gi_loopw [13] (fun v wx => ∃ c : Nat, c ≤ 4 ∧ v = .int .i64 c ∧ J (upto inter f.data.toList (4 * k + c)) wx ∧ Boxed wx b0 4 (.bool inter) ∧ Boxed wx b1 9 (.string f)) (fun v _ => 4 - (intOf v).toNat)
      case atStart => exact ⟨0, by omega, rfl, hj1, hb01, hb11⟩
      case round =>
        clear hj1 hb01 hb11
        obtain ⟨c, hc, rfl, hj, hb0, hb1⟩ := hrel
        by_cases hct : c < 4
        · have ix := IX.out c hct
          have c1 := hb1.cell
          obtain ⟨e1, e2, e3⟩ := cellC_at inter k c hlt hct
          obtain ⟨x, hx⟩ : ∃ x, cellC inter (4 * k + c) = x := ⟨_, rfl⟩
          rw [hx] at e1 e2 e3
          have ec : encS x = #[.agg #[.string (rowAt inter k c), .int .i64 (k : Int), .int .i64 (c : Int)]] := by unfold encS; rw [e1, e2, e3]
          obtain ⟨r, hr⟩ : ∃ r, rowAt inter k c = r := ⟨_, rfl⟩
          rw [hr] at ix ec e1
          have HX := Lib.hid hx
          have hrow : rowCY x = r.data.toList := by unfold rowCY; rw [e1]
          have HR := Lib.hid hrow
          have hlen := upto_len inter f.data.toList (4 * k + c)
          clear hx hr e1 e2 e3 hrow
          gi_wp2
          refine ⟨trivial, (callsIn_wide.2 (begins_any r f _)).mono ?_⟩
          rintro e w2 ⟨rfl, rfl⟩
          cases hpre : f.data.toList.isPrefixOf r.data.toList with
          | true =>
            have UP := Lib.hid (upto_yes (inter := inter) (f := f.data.toList) (i := 4 * k + c) (by rw [HX.out, HR.out]; exact hpre))
            obtain ⟨fn, tmps, assign, body, hy, hR⟩ := hY _ x w2 hj (by omega)
            rw [ec] at hy
            clear hpre
            gi_wp2
            refine hR.mono ?_
            rintro e W3 (⟨rfl, hj3, hk3⟩ | ⟨rfl, hjx⟩)
            · have hb03 := hk3.1 hb0
              have hb13 := hk3.2 hb1
              gi_wp2
              go_roundw
              case rel => exact ⟨c + 1, by omega, by go_num, by rw [← Nat.add_assoc, UP.out, HX.out]; exact hj3, hb03, hb13⟩
              case measure => simp [intOf]; omega
            · gi_wp2
              exact bodyPost_ret (results_none rfl _ _ _) rfl ⟨⟨_, rfl⟩, .inr ⟨_, trivial, hjx⟩⟩
          | false =>
            have UP := Lib.hid (upto_no (inter := inter) (f := f.data.toList) (i := 4 * k + c) (by rw [HX.out, HR.out]; exact hpre))
            clear hpre
            gi_wp2
            refine ⟨fun _ h => (by cases h), ?_⟩
            gi_wp2
            go_roundw
            case rel => exact ⟨c + 1, by omega, by go_num, by rw [← Nat.add_assoc, UP.out]; exact hj, hb0, hb1⟩
            case measure => simp [intOf]; omega
        · obtain rfl : c = 4 := by omega
          gi_wp2
          go_roundw
          case rel => exact ⟨k + 1, by omega, by go_num, by rw [Nat.mul_add]; exact hj, hb0, hb1⟩
          case measure => simp [intOf]; omega
    · obtain rfl : k = 6 := by omega
      gi_wp2
      go_end0
      exact ⟨⟨_, rfl⟩, .inl ⟨_, rfl, hj⟩⟩

/-- The iterator, as a range over it wants it. -/
theorem codes_stops (n : Nat) (hn : 1 ≤ n) (b0 b1 : Nat) (inter : Bool) (f : ByteArray) (w : World) (hb0 : Boxed w b0 4 (.bool inter)) (hb1 : Boxed w b1 9 (.string f)) :
    SeqStopsK Fence.wide n Tryd.prog 32 #[.pointer (some ⟨b0, 0, none⟩), .pointer (some ⟨b1, 0, none⟩)] encS (KeepB b0 b1 inter f) (fun xs => xs = upto inter f.data.toList 24) (fun _ => True) 24 w :=
  fun l J Jx W hW hJ _ hY h0 => codes1_in n hn l b0 b1 inter f J Jx W hJ hY ((hW.block b0 hb0.lt).trans hb0) ((hW.block b1 hb1.lt).trans hb1) h0
end Go.Proofs.YtoacbdaamdodaaaDoor
