/- Texts that SheetheadPuts's proof stands on, part 15 of 23. No condition of its own. -/
import Derived.Test.YtgbnpmpkfkijdaaSheetheadPutsMf
import Derived.Test.YtgbnpmpkfkijdaaSheetheadPutsMn
import Derived.Deep.RegionLaw
import Derived.Laws.CopyOwn
import Derived.WalkMore
namespace Go.Proofs.Ytgbnpmpkfkijdaa
open Go.RowKit
set_option maxHeartbeats 1000000 in
theorem put_fits (w : World) (B b : Nat) (r : List UInt8) (v n : Int) (hw : IsWr w B b r) (h2 : v ≤ 9223372036854775807) (hf : fitsIn v n = true) (hn : r.length + 32 ≤ 1099511627776) (hB : B ≤ w.heap.size) :
  Calls Try.prog 26 #[.pointer (some ⟨b, 0, none⟩), .int .i64 v, .int .i64 n] w fun e w' => e = .returned (.int .i64 0) ∧ IsWr w' B b (r ++ rowOf v.toNat n.toNat) ∧ w.grownBy w' (some b) := by
 have hrow : isRow (rowOf v.toNat n.toNat) = true := rowOf_row _ _
 have hlen : (rowOf v.toNat n.toNat).length ≤ 32 := by rw [rowOf_length]; have := (fits_parts hf).2.1; omega
 have HR := Lib.hid hrow
 have HF := Lib.hid hf
 clear hrow hf
 go_enter Try.func26, Try.ntmps26
 go_wp2_with fail
 refine (row_code v n _ h2 HF.out).mono ?_
 rintro e w1 ⟨rfl, hb⟩
 have hw1 := hw.below hb
 have hg1 : w.grownBy w1 (some b) := ⟨hb.os, hb.tape, hb.output, hb.size, fun k hk _ => hb.block k hk⟩
 have hsz := hb.size
 clear hb
 go_wp2_with fail
 refine (add_code _ B b r _ hw1 HR.out (by rw [size_mk]; omega) (by omega)).mono ?_
 rintro e w2 ⟨rfl, hw2, hg2⟩
 go_wp2
 go_ret
 exact ⟨rfl, hw2, grown_trans hg1 hg2⟩
def textCells (r : List UInt8) (m k : Nat) : List Value := (List.range m).map fun i => Value.int .u8 ((if i < 256 * k then 0 else byteAt r i : Nat) : Int)
theorem textCells_length (r : List UInt8) (m k : Nat) : (textCells r m k).length = m := by simp [textCells]
theorem textCells_get (r : List UInt8) (m k i : Nat) (h : i < m) : (textCells r m k)[i]? = some (.int .u8 ((if i < 256 * k then 0 else byteAt r i : Nat) : Int)) := by
 simp [textCells, h]
theorem textCells_none (r : List UInt8) (m k i : Nat) (h : ¬ i < m) : (textCells r m k)[i]? = none := List.getElem?_eq_none (by rw [textCells_length]; omega)
theorem splice_get {α : Type} (L : List α) (o : Nat) (cs : List α) (i : Nat) (h : o + cs.length ≤ L.length) : (splice L o cs)[i]? = if i < o then L[i]? else if i < o + cs.length then cs[i - o]? else L[i]? := by
 unfold splice
 by_cases h1 : i < o
 ·rw [if_pos h1, List.getElem?_append_left (by rw [List.length_take]; omega), List.getElem?_take, if_pos h1]
 ·rw [if_neg h1, List.getElem?_append_right (by rw [List.length_take]; omega), List.length_take, show min o L.length = o by omega]
  by_cases h2 : i < o + cs.length
  ·rw [if_pos h2, List.getElem?_append_left (by omega)]
  ·rw [if_neg h2, List.getElem?_append_right (by omega), List.getElem?_drop]
   congr 1
   omega
theorem text_piece (r : List UInt8) (m k : Nat) (h : 256 * (k + 1) ≤ m) : splice (textCells r m (k + 1)) (256 * k) (pieceCells r k) = textCells r m k := by
 apply List.ext_getElem?
 intro i
 rw [splice_get _ _ _ _ (by rw [textCells_length, pieceCells_length]; omega), pieceCells_length]
 by_cases hm : i < m
 ·rw [textCells_get r m k i hm, textCells_get r m (k + 1) i hm]
  by_cases h1 : i < 256 * k
  ·rw [if_pos h1, if_pos h1, if_pos (by omega)]
  ·rw [if_neg h1, if_neg h1]
   by_cases h2 : i < 256 * k + 256
   ·rw [if_pos h2, pieceCells_get r k (i - 256 * k) (by omega), show 256 * k + (i - 256 * k) = i by omega]
   ·rw [if_neg h2, if_neg (by omega)]
 ·rw [textCells_none r m k i hm, textCells_none r m (k + 1) i hm, if_neg (by omega), if_neg (by omega)]
theorem text_last (r : List UInt8) (m q c : Nat) (hc : c = min 256 (m - 256 * q)) (h : 256 * q ≤ m) (h2 : m ≤ 256 * q + 256) :
  splice (List.replicate m (Value.int .u8 0)) (256 * q) ((pieceCells r q).take c) = textCells r m q := by
 apply List.ext_getElem?
 intro i
 have hl : ((pieceCells r q).take c).length = c := by rw [List.length_take, pieceCells_length]; omega
 rw [splice_get _ _ _ _ (by rw [List.length_replicate, hl]; omega), hl]
 by_cases hm : i < m
 ·rw [textCells_get r m q i hm]
  by_cases h1 : i < 256 * q
  ·rw [if_pos h1, if_pos h1, List.getElem?_replicate, if_pos hm]; rfl
  ·rw [if_neg h1, if_neg h1, if_pos (by omega), List.getElem?_take, if_pos (by omega), pieceCells_get r q _ (by omega), show 256 * q + (i - 256 * q) = i by omega]
 ·rw [textCells_none r m q i hm, List.getElem?_replicate, if_neg hm, if_neg (by omega), if_neg (by omega)]
theorem text_whole (r : List UInt8) (hr : isRow r = true) : textCells r ((r.length + 7) / 8) 0 = cellsOfBytes (packL r) := by
 rw [packL_get]
 unfold textCells cellsOfBytes
 rw [List.map_map]
 apply List.map_congr_left
 intro i _
 have := byteAt_lt r i hr
 simp [UInt8.toNat_ofNat']
 omega
theorem made_bytes (m : Nat) : (madeCells (Value.int .u8 0).cells (m * 1)).toList = List.replicate m (Value.int .u8 0) := by
 apply List.ext_getElem?
 intro i
 simp only [Array.getElem?_toList, List.getElem?_replicate, Nat.mul_one]
 by_cases h : i < m
 ·rw [if_pos h, Array.getElem?_eq_getElem (by rw [size_madeCells]; exact h)]
  simp [madeCells, Value.cells, Nat.mod_one]
 ·rw [if_neg h, Array.getElem?_eq_none (by rw [size_madeCells]; omega)]
theorem own_whole {w : World} {base e g n : Nat} {xs : List Value} (h : w.ownsRow base e 1 (.slice (some ⟨g, 0, none⟩) n n) n xs) : w.heap[g]? = some (.cells xs.toArray e (0, 0)) := by
 rcases h.2 with ⟨h1, _⟩ | ⟨g', cap, cur, h1, _, h2, _, _, h3, h4⟩
 ·cases h1
 ·injection h1 with h1 _ h1'
  injection h1 with h1
  injection h1 with h1
  subst h1 h1'
  rw [h2, ← h4, List.take_of_length_le (by rw [Array.length_toList]; omega), Array.toArray_toList]
set_option maxHeartbeats 1000000 in
theorem text_code (w : World) (B b : Nat) (r : List UInt8) (hw : IsWr w B b r) (hn : r.length ≤ 1099511627776) :
  Calls Try.prog 14 #[.pointer (some ⟨b, 0, none⟩)] w fun e w' => e = .returned (.string ⟨(packL r).toArray⟩) ∧ Below w.heap.size w w' := by
 obtain ⟨i0, hi, hz0, hz1, hz2⟩ := info_parts info_u8
 obtain ⟨hr, hbB, v, hh, hc⟩ := hw
 have hlt : b < w.heap.size := (Array.getElem?_eq_some_iff.1 hh).1
 have hbits := part_cells hh (midCells_bits r v _)
 obtain ⟨m, hm⟩ : ∃ m, (r.length + 7) / 8 = m := ⟨_, rfl⟩
 obtain ⟨q, hq⟩ : ∃ q, r.length / 2048 = q := ⟨_, rfl⟩
 have em : ((r.length : Int) + 7) / 8 = ((m : Nat) : Int) := by omega
 have eq2 : (r.length : Int) / 2048 = ((q : Nat) : Int) := by omega
 have m1 : m ≤ 137438953473 := by omega
 go_enter Try.func14, Try.ntmps14
 have EM := Lib.hid em
 have HM := Lib.hid hm
 have HQ := Lib.hid hq
 clear em hm hq
 go_wp2_with (at_make; refine wpList_make_full _ rfl _ _ 61 rfl w.heap.size 5 i0 (.int .u8 0) 1 Try.underlying61 hi hz0 hz1 _ _ _ _ m rfl rfl EM.out EM.out ?b2 ?b3 ?b4 ?_; (case b2 => (rw [hz2]; omega)); (case b3 => (unfold maxLen; omega)); (case b4 => exact Nat.le_refl _); intro w1 hown hgrow; have hh1 := (hgrow.block b hlt (by simp)).trans hh; have hbits1 := part_cells hh1 (midCells_bits r v _))
 obtain ⟨o, ho⟩ : ∃ o, 256 * q = o := ⟨_, rfl⟩
 have eo : (q : Int) * 256 = ((o : Nat) : Int) := by omega
 have o1 : o ≤ m := by have := HM.out; have := HQ.out; omega
 have o2 : m ≤ o + 256 := by have := HM.out; have := HQ.out; omega
 have o3 : (0 : Int) ≤ (o : Int) := by omega
 have o4 : (o : Int) ≤ (m : Int) := by omega
 rw [eo]
 have HO := Lib.hid ho
 have EQ := Lib.hid eq2
 clear eo ho eq2
 obtain ⟨Z0, hZ0⟩ : ∃ Z0, List.replicate m (Value.int .u8 0) = Z0 := ⟨_, rfl⟩
 have hg0 := own_whole hown
 rw [made_bytes, hZ0] at hg0
 obtain ⟨CS, hCS⟩ : ∃ CS, (pieceCells r q).take (min 256 (m - o)) = CS := ⟨_, rfl⟩
 have hcl : CS.length = min 256 (m - o) := by rw [← hCS, List.length_take, pieceCells_length]; omega
 have hc1 : ∀ v ∈ CS, v.oneCell' = true := by rw [← hCS]; exact fun v hv => pieceCells_one _ _ v (List.mem_of_mem_take hv)
 have hsrc : ∀ j v, CS[j]? = some v → w1.cell? ((⟨b, 1, none⟩ : Addr).add j) = some v := by
  intro j x hx
  have hj : j < CS.length := (List.getElem?_eq_some_iff.1 hx).1
  rw [Addr.add_mid]
  refine part_cells hh1 ?_
  rw [← hCS, List.getElem?_take, if_pos (by omega)] at hx
  unfold wrCells midCells
  rw [Nat.add_comm, List.getElem?_cons_succ, List.getElem?_append_left (by rw [pieceCells_length]; omega), HQ.out, hx]
 have hb1 : Below w.heap.size w w1 := ⟨hgrow.os, hgrow.tape, hgrow.output, hgrow.size, fun k hk => hgrow.block k hk (by simp)⟩
 have hzl : Z0.length = m := by rw [← hZ0]; simp
 have Z0H := Lib.hid hZ0
 have CSH := Lib.hid hCS
 have CL := Lib.hid hcl
 have ZL := Lib.hid hzl
 have u8 : (Try.prog.info? 5).map (·.size) = some 1 := by kernel_rfl
 clear hZ0 hCS hcl hzl hown hgrow
 refine wp_region_any (by kernel_rfl) ?_
 change wpAny _ _ _ _ _ _ _ (World.drew _)
 refine any_take 0 (some 21) (v := ?_) rfl rfl (by kernel_rfl) (by kernel_rfl) (by kernel_rfl) (fun _ _ _ h => h) (Or.inl ⟨by rfl, ?_⟩) ?_
 rotate_left
 ·(intro w; go_simp; try with_reducible rfl)
 rotate_right
 refine any_take 1 (some 22) (v := ?_) rfl rfl (by kernel_rfl) (by kernel_rfl) (by kernel_rfl) (fun _ _ _ h => h) (Or.inl ⟨by rfl, ?_⟩) ?_
 rotate_left
 ·(intro w; go_simp; try with_reducible rfl)
 rotate_right
 refine any_take 2 (some 23) (v := ?_) rfl rfl (by kernel_rfl) (by kernel_rfl) (by kernel_rfl) (fun _ _ _ h => h) (Or.inl ⟨by rfl, ?_⟩) ?_
 rotate_left
 ·(intro w; go_simp; try with_reducible rfl)
 rotate_right
 refine any_take 3 (some 24) (v := ?_) rfl rfl (by kernel_rfl) (by kernel_rfl) (by kernel_rfl) (fun _ _ _ h => h) (Or.inl ⟨by rfl, ?_⟩) ?_
 rotate_left
 ·(intro w; go_simp; try with_reducible rfl)
 rotate_right
 refine any_take 4 (some 25) (v := ?_) rfl rfl (by kernel_rfl) (by kernel_rfl) (by kernel_rfl) (fun _ _ _ h => h) (Or.inl ⟨by rfl, ?_⟩) ?_
 rotate_left
 ·(intro w; go_simp; try with_reducible rfl)
 rotate_right
 refine any_take 5 (some 26) (v := ?_) rfl rfl (by kernel_rfl) (by kernel_rfl) (by kernel_rfl) (fun _ _ _ h => h) (Or.inl ⟨by rfl, ?_⟩) ?_
 rotate_left
 ·(intro w; go_simp; try with_reducible rfl)
 rotate_right
 refine any_take 6 (some 27) (v := ?_) rfl rfl (by kernel_rfl) (by kernel_rfl) (by kernel_rfl) (fun _ _ _ h => h) (Or.inl ⟨by rfl, ?_⟩) ?_
 rotate_left
 ·(intro w; go_simp; try with_reducible rfl)
 rotate_right
 refine wpAny_tail 7 (by kernel_rfl) (by kernel_rfl) ?_
 simp only [List.drop_succ_cons, List.drop_zero, Act.put, List.setIfInBounds_toArray, List.set_cons_zero, List.set_cons_succ]
 refine wpList_copy_splice rfl (.tmp 23) (.tmp 27) 61 61 rfl 5 Try.underlying61 u8 _ _ _ _ _ _ rfl rfl w.heap.size o Z0 5 (show w1.drew.heap[w.heap.size]? = _ from hg0) CS ?hn ?hpos ?hfit hc1 w.heap.size w hb1.drew (Nat.le_refl _) ?_
 case hn => rw [CL.out]
 case hpos =>
  intro h0
  rw [CL.out] at h0
  rw [if_neg (by omega)]
  exact ⟨rfl, _, rfl, hsrc⟩
 case hfit => rw [CL.out, ZL.out]; omega
 intro w2 HG2 hb2
 obtain ⟨p0, rfl⟩ := hc.pointer
 have hh2 := (hb2.block b hlt).trans hh
 have hfst : w2.cell? ⟨b, 0, none⟩ = some (.pointer p0) := part_cells hh2 rfl
 have HT : Hid (w2.heap[w.heap.size]? = some (.cells (textCells r m q).toArray 5 (0, 0))) := by
  have e := HG2.out
  have e2 := text_last r m q (min 256 (m - o)) (by rw [HO.out]) (by rw [HO.out]; exact o1) (by rw [HO.out]; exact o2)
  rw [HO.out, Z0H.out, CSH.out] at e2
  rw [e2] at e
  exact Lib.hid e
 have HC : Hid (Chain w B r q (.pointer p0)) := by have e := hc; rw [HQ.out] at e; exact Lib.hid e
 clear hc hh1 hh2 hbits1 HG2 hg0 hsrc hb1 Z0H CSH CL ZL hc1 hh hbits EQ
 generalize (if m = o then (some ({ block := w.heap.size, off := 0 } : Addr)) else some { block := w.heap.size, off := o }) = dx
 go_wp2
 go_loopw [4, 5] (fun x p wr => ∃ (k : Nat) (pv : Option Addr), x = .int .i64 ((256 * k : Nat) : Int) ∧ p = .pointer pv ∧ 256 * k ≤ m ∧ Hid (Chain w B r k (.pointer pv)) ∧ Hid (wr.heap[w.heap.size]? = some (.cells (textCells r m k).toArray 5 (0, 0))) ∧ Below w.heap.size w wr) (fun x _ _ => (intOf x).toNat)
 case atStart => exact ⟨q, p0, by rw [HO.out], rfl, by rw [HO.out]; exact o1, HC, HT, hb2⟩
 case round =>
  clear HC HT hb2 hfst
  obtain ⟨k, pv, rfl, rfl, hk, HC, HT, hb⟩ := hrel
  cases k with
  | zero =>
   have e := HC.out
   obtain rfl : pv = none := by injection e
   have hown : OwnBytes wr 0 5 (.slice (some ⟨w.heap.size, 0, none⟩) m m) (packL r) := by
    refine ⟨by rw [cellsOfBytes_length]; omega, .inr ⟨w.heap.size, m, (textCells r m 0).toArray, by rw [packL_length, HM.out], Nat.zero_le _, HT.out, by rw [packL_length, HM.out]; exact Nat.le_refl _, by unfold maxLen; omega, by simp [textCells_length], ?_⟩⟩
    have e := text_whole r hr
    rw [HM.out] at e
    rw [← e, List.toList_toArray]
    exact List.take_of_length_le (by rw [textCells_length, packL_length, HM.out]; omega)
   have ht := OwnBytes.text Try.underlying61 Try.underlying5 Try.underlying9 hown
   clear e hown
   go_wp2
   go_ret
   exact ⟨rfl, hb⟩
  | succ k =>
   obtain ⟨g, v', e, hgB, hg, hc'⟩ := HC.out
   obtain rfl : pv = some ⟨g, 0, none⟩ := by injection e
   obtain ⟨p1, rfl⟩ := hc'.pointer
   have HC' := Lib.hid hc'
   clear e hc'
   have hglt : g < w.heap.size := (Array.getElem?_eq_some_iff.1 hg).1
   have hgr := (hb.block g hglt).trans hg
   go_wp2
   obtain ⟨y, hy⟩ : ∃ y, 256 * k = y := ⟨_, rfl⟩
   have ey : 256 * ((k : Int) + 1) - 256 = ((y : Nat) : Int) := by omega
   have y1 : y + 256 ≤ m := by omega
   have y2 : (0 : Int) ≤ (y : Int) := by omega
   have y3 : (y : Int) ≤ (m : Int) := by omega
   rw [ey]
   have HY := Lib.hid hy
   clear ey hy
   obtain ⟨PC, hPC⟩ : ∃ PC, pieceCells r k = PC := ⟨_, rfl⟩
   have hpl : PC.length = 256 := by rw [← hPC]; exact pieceCells_length _ _
   have hp1 : ∀ v ∈ PC, v.oneCell' = true := by rw [← hPC]; exact pieceCells_one _ _
   rw [hPC] at hg hgr
   have hsrc : ∀ j v, PC[j]? = some v → wr.cell? ((⟨g, 1, none⟩ : Addr).add j) = some v := by
    intro j x hx
    rw [Addr.add_mid]
    refine part_cells hgr ?_
    rw [Nat.add_comm, List.getElem?_cons_succ, hx]
   have PCH := Lib.hid hPC
   have PL := Lib.hid hpl
   clear hPC hpl
   refine wp_region_any (by kernel_rfl) ?_
   change wpAny _ _ _ _ _ _ _ (World.drew _)
   refine any_take 0 (some 41) (v := ?_) rfl rfl (by kernel_rfl) (by kernel_rfl) (by kernel_rfl) (fun _ _ _ h => h) (Or.inl ⟨by rfl, ?_⟩) ?_
   rotate_left
   ·(intro w; go_simp; try with_reducible rfl)
   rotate_right
   refine any_take 1 (some 42) (v := ?_) rfl rfl (by kernel_rfl) (by kernel_rfl) (by kernel_rfl) (fun _ _ _ h => h) (Or.inl ⟨by rfl, ?_⟩) ?_
   rotate_left
   ·(intro w; go_simp; try with_reducible rfl)
   rotate_right
   refine any_take 2 (some 43) (v := ?_) rfl rfl (by kernel_rfl) (by kernel_rfl) (by kernel_rfl) (fun _ _ _ h => h) (Or.inl ⟨by rfl, ?_⟩) ?_
   rotate_left
   ·(intro w; go_simp; try with_reducible rfl)
   rotate_right
   refine any_take 3 (some 44) (v := ?_) rfl rfl (by kernel_rfl) (by kernel_rfl) (by kernel_rfl) (fun _ _ _ h => h) (Or.inl ⟨by rfl, ?_⟩) ?_
   rotate_left
   ·(intro w; go_simp; try with_reducible rfl)
   rotate_right
   refine any_take 4 (some 45) (v := ?_) rfl rfl (by kernel_rfl) (by kernel_rfl) (by kernel_rfl) (fun _ _ _ h => h) (Or.inl ⟨by rfl, ?_⟩) ?_
   rotate_left
   ·(intro w; go_simp; try with_reducible rfl)
   rotate_right
   refine any_take 5 (some 46) (v := ?_) rfl rfl (by kernel_rfl) (by kernel_rfl) (by kernel_rfl) (fun _ _ _ h => h) (Or.inl ⟨by rfl, ?_⟩) ?_
   rotate_left
   ·(intro w; go_simp; try with_reducible rfl)
   rotate_right
   refine any_take 6 (some 47) (v := ?_) rfl rfl (by kernel_rfl) (by kernel_rfl) (by kernel_rfl) (fun _ _ _ h => h) (Or.inl ⟨by rfl, ?_⟩) ?_
   rotate_left
   ·(intro w; go_simp; try with_reducible rfl)
   rotate_right
   refine wpAny_tail 7 (by kernel_rfl) (by kernel_rfl) ?_
   simp only [List.drop_succ_cons, List.drop_zero, Act.put, List.setIfInBounds_toArray, List.set_cons_zero, List.set_cons_succ]
   refine wpList_copy_splice rfl (.tmp 43) (.tmp 47) 61 61 rfl 5 Try.underlying61 u8 _ _ _ _ _ _ rfl rfl w.heap.size y (textCells r m (k + 1)) 5 (show wr.drew.heap[w.heap.size]? = _ from HT.out) PC ?hn2 ?hpos2 ?hfit2 hp1 w.heap.size w hb.drew (Nat.le_refl _) ?_
   case hn2 => rw [PL.out]; show 256 = min 256 (m - y); omega
   case hpos2 =>
    intro _
    rw [if_neg (by omega)]
    exact ⟨rfl, _, rfl, hsrc⟩
   case hfit2 => rw [PL.out, textCells_length]; exact y1
   intro w3 HG3 hb3
   have HT3 : Hid (w3.heap[w.heap.size]? = some (.cells (textCells r m k).toArray 5 (0, 0))) := by
    have e := HG3.out
    rw [← PCH.out, ← HY.out, text_piece r m k (by omega)] at e
    exact Lib.hid e
   have hnx : w3.cell? ⟨g, 0, none⟩ = some (.pointer p1) := part_cells ((hb3.block g hglt).trans hg) rfl
   generalize (if m = y then (some ({ block := w.heap.size, off := 0 } : Addr)) else some { block := w.heap.size, off := y }) = dy
   clear HG3 hgr hg hsrc HT HC hb
   go_wp2
   go_roundw
   case rel => exact ⟨k, p1, by rw [HY.out], rfl, by omega, HC', HT3, hb3⟩
   case measure => simp [intOf]; have := HY.out; omega
end Go.Proofs.Ytgbnpmpkfkijdaa

namespace Go.Proofs.Ytgbnpmpkfkijdaa
open Go.RowKit
theorem shift5 (y : Nat) : (y : Int) / 2 ^ 5 = ((y / 32 : Nat) : Int) := by simp
theorem low5 (y : Nat) : bits .and .i64 (y : Int) 31 = ((y % 32 : Nat) : Int) := by
 have := and_low (y : Int) 5 (by omega)
 rw [show (2 : Int) ^ 5 - 1 = 31 from rfl] at this
 rw [this]
 simp
theorem mark_pair {l : List UInt8} {bit : Int} {v c : Int} (h : markAt l bit = (v, c)) {k k' : IntKind} : Ending.returned (.tuple #[.int k v, .int k' c]) = .returned (.tuple #[.int k (markAt l bit).1, .int k' (markAt l bit).2]) := by rw [h]
set_option maxHeartbeats 1000000 in
theorem mat_code (w : World) (s : ByteArray) (bit : Int) (hs : s.size ≤ 1099511627776) :
  Calls Try.prog 46 #[.string s, .int .i64 bit] w fun e w' => e = .returned (.tuple #[.int .i64 (markAt s.data.toList bit).1, .int .i64 (markAt s.data.toList bit).2]) ∧ Below w.heap.size w w' := by
 have hsl : s.data.toList.length = s.size := rfl
 obtain ⟨b, hb⟩ : ∃ b, w.heap.size = b := ⟨_, rfl⟩
 have hr0 : IsRd (w.alloc (rdObj s 0)) b s 0 := IsRd.fresh hb (Nat.le_trans hs (by decide))
 have hb0 : Below w.heap.size w (w.alloc (rdObj s 0)) := (Below.refl _ w).alloc (Nat.le_refl _) _
 have hz0 : (w.alloc (rdObj s 0)).heap.size = b + 1 := by simp; exact hb
 rw [hb] at hb0
 have HB := Lib.hid hb
 rw [hb]
 by_cases h1 : bit < 0 ∨ 8 * (s.size : Int) < bit
 ·have A := Lib.hid (mark_arg (l := s.data.toList) (bit := bit) (by rw [hsl]; exact h1))
  go_enter Try.func46, Try.ntmps46
  go_wp2_with fail
  refine (rnew_code _ _).mono ?_
  rintro e w1 ⟨rfl, rfl⟩
  rw [HB.out]
  go_wp2_with fail
  refine (seek_not _ _ _ _ bit hr0 h1).mono ?_
  rintro e w1 ⟨rfl, rfl⟩
  clear h1
  go_wp2
  go_ret2
  exact ⟨mark_pair A.out, hb0⟩
 ·obtain ⟨p, rfl⟩ := Int.eq_ofNat_of_zero_le (by omega : 0 ≤ bit)
  have hp : p ≤ 8 * s.size := by omega
  clear h1
  by_cases h2 : 8 * s.size < p + 22
  ·have A := Lib.hid (mark_short (l := s.data.toList) (p := p) (by rw [hsl]; exact hp) (by rw [hsl]; exact h2))
   have K := Lib.hid (ask_short (l := s.data.toList) (p := p) (n := 22) (by omega) (by rw [hsl]; omega))
   go_enter Try.func46, Try.ntmps46
   go_wp2_with fail
   refine (rnew_code _ _).mono ?_
   rintro e w1 ⟨rfl, rfl⟩
   rw [HB.out]
   go_wp2_with fail
   refine (seek_code _ _ _ _ (p : Int) hr0 (by omega) (by omega)).mono ?_
   rintro e w1 ⟨rfl, hr1, hg1⟩
   rw [Int.toNat_natCast] at hr1
   have hb1 : Below b w w1 := hb0.grown hg1 (by omega) (by intro k hk; injection hk with hk; omega)
   have hz1 := hg1.size
   go_wp2_with fail
   refine (take_code _ _ _ _ _ hr1).mono ?_
   rintro e w2 ⟨rfl, hr2, hg2⟩
   rw [K.out]
   have hb2 : Below b w w2 := hb1.grown hg2 (by omega) (by intro k hk; injection hk with hk; omega)
   go_wp2
   go_ret2
   exact ⟨mark_pair A.out, hb2⟩
  ·have A := Lib.hid (mark_in (l := s.data.toList) (p := p) (by rw [hsl]; omega))
   have K := Lib.hid (ask_ok (l := s.data.toList) (p := p) (n := 22) (by omega) (by rw [hsl]; omega))
   have hlt : tell s.data.toList p (22 : Int).toNat < 4194304 := tell_lt s.data.toList p 22
   have hne : tell s.data.toList p (22 : Int).toNat = tell s.data.toList p 22 := rfl
   rw [← hne] at A
   generalize tell s.data.toList p (22 : Int).toNat = y at A K hlt
   clear hne
   have S5 := Lib.hid (shift5 y)
   have L5 := Lib.hid (low5 y)
   go_enter Try.func46, Try.ntmps46
   go_wp2_with fail
   refine (rnew_code _ _).mono ?_
   rintro e w1 ⟨rfl, rfl⟩
   rw [HB.out]
   go_wp2_with fail
   refine (seek_code _ _ _ _ (p : Int) hr0 (by omega) (by omega)).mono ?_
   rintro e w1 ⟨rfl, hr1, hg1⟩
   rw [Int.toNat_natCast] at hr1
   have hb1 : Below b w w1 := hb0.grown hg1 (by omega) (by intro k hk; injection hk with hk; omega)
   have hz1 := hg1.size
   go_wp2_with fail
   refine (take_code _ _ _ _ _ hr1).mono ?_
   rintro e w2 ⟨rfl, hr2, hg2⟩
   rw [K.out]
   have hb2 : Below b w w2 := hb1.grown hg2 (by omega) (by intro k hk; injection hk with hk; omega)
   clear hr0 hb0 hz0 hr1 hg1 hr2 hg2 hb1 hz1 K
   by_cases h3 : y / 32 = 1
   ·have d3 : ((y : Int) / 32 != 1) = false := by rw [bne_eq_false_iff_eq]; omega
    have A2 := Lib.hid (A.out.trans (if_pos h3))
    clear A h3
    go_wp2
    go_ret2
    rw [L5.out]
    exact ⟨mark_pair A2.out, hb2⟩
   ·have d3 : ((y : Int) / 32 != 1) = true := by rw [bne_iff_ne]; omega
    have A2 := Lib.hid (A.out.trans (if_neg h3))
    clear A h3
    go_wp2
    go_ret2
    exact ⟨mark_pair A2.out, hb2⟩
end Go.Proofs.Ytgbnpmpkfkijdaa

namespace Go.Proofs.Ytgbnpmpkfkijdaa
open Go.RowKit
theorem or_32 : ∀ n : Fin 32, bits .or .i64 32 ((n.val : Nat) : Int) = ((32 + n.val : Nat) : Int) := by decide +kernel
theorem mark_fits (n : Nat) (h : n < 32) : fitsIn ((32 + n : Nat) : Int) 22 = true := by
 unfold fitsIn
 rw [decide_eq_true_iff]
 refine ⟨by omega, by omega, by omega, ?_⟩
 show ((32 + n : Nat) : Int) < 2 ^ 22
 omega
set_option maxHeartbeats 1000000 in
theorem mput_code (w : World) (B b : Nat) (r : List UInt8) (n : Nat) (h : n < 32) (hw : IsWr w B b r) (hn : r.length + 40 ≤ 1099511627776) (hB : B ≤ w.heap.size) :
  Calls Try.prog 25 #[.pointer (some ⟨b, 0, none⟩), .int .i64 (n : Int)] w fun e w' => e = .returned (.int .i64 0) ∧ IsWr w' B b (r ++ List.replicate (gap r.length) 48 ++ markRow n) ∧ w.grownBy w' (some b) := by
 have O : Hid (bits .or .i64 32 (n : Int) = ((32 + n : Nat) : Int)) := Lib.hid (or_32 ⟨n, h⟩)
 have hf := mark_fits n h
 have F := Lib.hid hf
 have G := Lib.hid (gap_lt r.length)
 have d1 : decide ((n : Int) < 0) = false := by simp
 have d2 : decide (31 < (n : Int)) = false := by simp; omega
 have V : Hid (((32 + n : Nat) : Int) ≤ 9223372036854775807) := Lib.hid (by omega)
 clear hf h
 go_enter Try.func25, Try.ntmps25
 go_wp2_with fail
 refine (fill_code _ B b r hw (by omega) hB).mono ?_
 rintro e w1 ⟨rfl, hw1, hg1⟩
 have hB1 : B ≤ w1.heap.size := Nat.le_trans hB hg1.size
 go_wp2_with fail
 rw [O.out]
 refine (put_fits _ B b _ _ _ hw1 V.out F.out (by have := G.out; rw [List.length_append, List.length_replicate]; omega) hB1).mono ?_
 rintro e w2 ⟨rfl, hw2, hg2⟩
 rw [markRow_is] at hw2
 go_wp2
 go_ret
 exact ⟨rfl, hw2, grown_trans hg1 hg2⟩
end Go.Proofs.Ytgbnpmpkfkijdaa
