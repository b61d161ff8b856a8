/- What New, Len, Fill, Add and Put of package outbits do to a Writer. Conditions: fewer than 2^40 bits in all; numbers are what an int holds. -/
import Derived.Test.YtologhgoojkpmaaDoorPut
import Derived.Test.YtologhgoojkpmaaDoorTells
namespace Go.Proofs.YtologhgoojkpmaaDoor
open Go.RowKit

/-- A new Writer's block. -/
def newWr : Obj := .cells (wrCells [] (.pointer none)).toArray 54 (0, 0)
theorem IsWr.fresh {w : World} {B b : Nat} (hb : w.heap.size = b) (hB : b < B) : IsWr (w.alloc newWr) B b [] := by
  subst hb
  exact ⟨rfl, hB, .pointer none, heap_alloc_new w newWr, rfl⟩
theorem wr_zero : ∃ Z : Array Value, (∀ w, (zeroValue 54).run Tryd.prog w = .ok (.agg Z) w) ∧ Hid (Z = (wrCells [] (.pointer none)).toArray) := by
  refine ⟨(wrCells [] (.pointer none)).toArray, ?_, Lib.hid rfl⟩
  have h : (Tryd.prog.info? 54).map (fun i => i.zero) = some (some (.agg (wrCells [] (.pointer none)).toArray)) := by kernel_rfl
  generalize (wrCells [] (Value.pointer none)).toArray = Z at h ⊢
  cases hq : Tryd.prog.info? 54 with
  | none => simp [hq] at h
  | some i =>
    simp [hq] at h
    intro w
    simp [zeroValue, typeInfo, hq, h]

set_option maxHeartbeats 1000000 in
theorem new_code (w : World) : Calls Tryd.prog 8 #[] w fun e w' => e = .returned (.pointer (some ⟨w.heap.size, 0, none⟩)) ∧ w.alloc newWr = w' := by
  obtain ⟨Z, hz1, hz2⟩ := wr_zero
  go_enter Tryd.func8, Tryd.ntmps8
  go_wp2
  go_ret
  refine ⟨rfl, ?_⟩
  unfold newWr
  rw [← hz2.out]

theorem len_code (w : World) (B b : Nat) (r : List UInt8) (hw : IsWr w B b r) :
    Calls Tryd.prog 12 #[.pointer (some ⟨b, 0, none⟩)] w fun e w' => e = .returned (.int .i64 (r.length : Int)) ∧ w = w' := by
  obtain ⟨hr, hbB, v, hh, hc⟩ := hw
  have hbits := part_cells hh (midCells_bits r v _)
  go_enter Tryd.func12, Tryd.ntmps12
  go_wp2
  go_ret
  exact ⟨rfl, rfl⟩
theorem len_nil (w : World) : Calls Tryd.prog 12 #[.pointer none] w fun e w' => e = .returned (.int .i64 0) ∧ w = w' := by
  go_enter Tryd.func12, Tryd.ntmps12
  go_wp2
  go_ret
  exact ⟨rfl, rfl⟩

theorem grown_iter {w wr : World} {row : Option Nat} {K : Nat} (h : w.grownBy wr row) (hK : w.heap.size ≤ K) (s : ByteArray) (p : Nat) : w.grownBy (wr.iterAt K s p) row :=
  ⟨h.os, h.tape, h.output, by rw [Lib.iterAt_size]; exact h.size, fun k hk hr => by rw [Lib.iterAt_other _ _ _ _ _ (by omega)]; exact h.block k hk hr⟩
theorem IsWr.iterAt {w : World} {B b : Nat} {r : List UInt8} (h : IsWr w B b r) {K : Nat} {s : ByteArray} {q : Nat} (hK : w.heap[K]? = some (.stringIter s q)) (p : Nat) : IsWr (w.iterAt K s p) B b r :=
  h.kept (fun cs T ho => by rw [Lib.iterAt_other _ _ _ _ _ (by rintro rfl; rw [hK] at ho; cases ho)]; exact ho) (fun g cs T _ ho => by rw [Lib.iterAt_other _ _ _ _ _ (by rintro rfl; rw [hK] at ho; cases ho)]; exact ho)
theorem row_byte (s : ByteArray) (p : Nat) (h : p < s.size) (hr : isRow s.data.toList = true) : s[p] = 48 ∨ s[p] = 49 := by
  have := isRow_get s.data.toList p h hr
  have e : s.data.toList[p] = s[p] := rfl
  rw [e] at this
  rcases this with c | c
  · exact .inl (UInt8.toNat_inj.1 c)
  · exact .inr (UInt8.toNat_inj.1 c)
theorem take_byte (s : ByteArray) (p : Nat) (h : p < s.size) : s.data.toList.take (p + 1) = s.data.toList.take p ++ [s[p]] := List.take_succ_eq_append_getElem h

theorem add_nil (s : ByteArray) (w : World) : Calls Tryd.prog 9 #[.pointer none, .string s] w fun e w' => e = .returned (.int .i64 1) ∧ w = w' := by
  go_enter Tryd.func9, Tryd.ntmps9
  go_wp2
  go_ret
  exact ⟨rfl, rfl⟩
set_option maxHeartbeats 1000000 in
theorem add_none (w : World) (b : Nat) (s : ByteArray) (hs : isRow s.data.toList = false) :
    Calls Tryd.prog 9 #[.pointer (some ⟨b, 0, none⟩), .string s] w fun e w' => e = .returned (.int .i64 1) ∧ Below w.heap.size w w' := by
  go_enter Tryd.func9, Tryd.ntmps9
  go_wp2_with fail
  refine (isrow_code s _).mono ?_
  rintro e w1 ⟨rfl, hb⟩
  go_wp2
  go_ret
  exact ⟨rfl, hb⟩
set_option maxHeartbeats 1000000 in
theorem add_code (w : World) (B b : Nat) (r : List UInt8) (s : ByteArray) (hw : IsWr w B b r) (hs : isRow s.data.toList = true) (hn : r.length + s.size ≤ 1099511627776) (hB : B ≤ w.heap.size) :
    Calls Tryd.prog 9 #[.pointer (some ⟨b, 0, none⟩), .string s] w fun e w' => e = .returned (.int .i64 0) ∧ IsWr w' B b (r ++ s.data.toList) ∧ w.grownBy w' (some b) := by
  have SR := Lib.hid hs
  obtain ⟨H, hH⟩ : ∃ H, w.heap.size = H := ⟨_, rfl⟩
  go_enter Tryd.func9, Tryd.ntmps9
  go_wp2_with fail
  refine (isrow_code s _).mono ?_
  rintro e w1 ⟨rfl, hb⟩
  have hw1 := hw.below hb
  have hg1 : w.grownBy w1 (some b) := ⟨hb.os, hb.tape, hb.output, hb.size, fun k hk _ => hb.block k hk⟩
  obtain ⟨K, hK⟩ : ∃ K, w1.heap.size = K := ⟨_, rfl⟩
  have hKw : w.heap.size ≤ K := by have := hb.size; omega
  have hit0 : (w1.iter s 0).heap[K]? = some (.stringIter s 0) := by rw [← hK]; exact World.iter_heap w1 s 0
  have hw2 : IsWr (w1.iter s 0) B b r := hw1.below ((Below.refl _ w1).alloc (Nat.le_refl _) _)
  have hg2 : w.grownBy (w1.iter s 0) (some b) := grown_trans hg1 (World.grownBy_alloc w1 _ _)
  have IT := Lib.hid hit0
  have EK := Lib.hid hK
  clear hit0 hK hb hw1 hg1 hw hH
  go_wp2
  rw [EK.out]
  go_loopw [] (fun wr => ∃ p : Nat, p ≤ s.size ∧ wr.heap[K]? = some (.stringIter s p) ∧ IsWr wr B b (r ++ s.data.toList.take p) ∧ w.grownBy wr (some b)) (fun wr => s.size - wr.iterPos K)
  case atStart => exact ⟨0, Nat.zero_le _, IT.out, by simpa using hw2, hg2⟩
  case round =>
    clear hw2 hg2
    obtain ⟨p, hp, hit, hwr, hg⟩ := hrel
    have hsz := hg.size
    have hbK : b ≠ K := by
      rintro rfl
      obtain ⟨_, _, v, hh, _⟩ := hwr
      rw [hit] at hh; cases hh
    by_cases hlt : p < s.size
    · have hnx : ∀ ty, (Instr.next (.pointer (some ⟨K, 0, none⟩)) true ty).run Tryd.prog wr = _ := fun ty => Lib.run_next_any_at wr K s p ty hit hlt
      have hit2 := Lib.iterAt_heap wr K s p (p + (Utf8.decode s p).2) hit
      have hw3 := hwr.iterAt hit (p + (Utf8.decode s p).2)
      have hg3 := grown_iter hg hKw s (p + (Utf8.decode s p).2)
      have hc := row_byte s p hlt SR.out
      have hd := dec_digit s p hlt (by rcases hc with c | c <;> rw [c]; exact .inl rfl; exact .inr rfl)
      rw [hd] at hnx hit2 hw3 hg3
      have hln : (r ++ s.data.toList.take p).length ≤ 1099511627776 := by rw [List.length_append, List.length_take]; omega
      have hsz3 := hg3.size
      have T := Lib.hid (take_byte s p hlt)
      have HI := Lib.hid hit
      have H2 := Lib.hid hit2
      clear hd hit hit2 hg hwr
      rcases hc with c | c
      · rw [c] at hnx
        have C := Lib.hid c
        clear c
        go_wp2_with fail
        refine (put_nought _ B b _ hw3 hln (by omega)).mono ?_
        rintro e w2 ⟨rfl, hw4, hg4⟩
        have hkeep := hg4.block K (Array.getElem?_eq_some_iff.1 H2.out).1 (by simpa using hbK.symm)
        have H4 := Lib.hid (hkeep.trans H2.out)
        clear hkeep
        go_wp2
        go_roundw
        case rel => exact ⟨p + 1, by omega, H4.out, by rw [T.out, C.out, ← List.append_assoc]; exact hw4, grown_trans hg3 hg4⟩
        case measure => simp only [World.iterPos, H4.out, HI.out]; omega
      · rw [c] at hnx
        have C := Lib.hid c
        clear c
        go_wp2_with fail
        refine (put_one _ B b _ hw3 hln (by omega)).mono ?_
        rintro e w2 ⟨rfl, hw4, hg4⟩
        have hkeep := hg4.block K (Array.getElem?_eq_some_iff.1 H2.out).1 (by simpa using hbK.symm)
        have H4 := Lib.hid (hkeep.trans H2.out)
        clear hkeep
        go_wp2
        go_roundw
        case rel => exact ⟨p + 1, by omega, H4.out, by rw [T.out, C.out, ← List.append_assoc]; exact hw4, grown_trans hg3 hg4⟩
        case measure => simp only [World.iterPos, H4.out, HI.out]; omega
    · have hnx : ∀ ty, (Instr.next (.pointer (some ⟨K, 0, none⟩)) true ty).run Tryd.prog wr = _ := fun ty => Lib.run_next_end_at wr K s p ty hit hlt
      obtain rfl : p = s.size := by omega
      clear hit
      go_wp2
      go_ret
      exact ⟨rfl, by rwa [List.take_of_length_le (by exact Nat.le_refl _)] at hwr, hg⟩
end Go.Proofs.YtologhgoojkpmaaDoor
