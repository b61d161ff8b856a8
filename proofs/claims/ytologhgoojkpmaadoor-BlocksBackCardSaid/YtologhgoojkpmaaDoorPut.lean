/- What put of package outbits does to a Writer: one digit more. Conditions: fewer than 2^40 bits. -/
import Derived.Test.YtologhgoojkpmaaDoorWriter
import Derived.Test.YtologhgoojkpmaaDoorRegion
import Derived.BigRegion
namespace Go.Proofs.YtologhgoojkpmaaDoor
open Go.RowKit

theorem foldl_set (o : Nat) : ∀ (l : List Value) (k : Nat) (a : Array Value), o + k + l.length ≤ a.size →
    (l.zipIdx k).foldl (fun a x => a.setIfInBounds (o + x.snd) x.fst) a = (a.toList.take (o + k) ++ (l ++ a.toList.drop (o + k + l.length))).toArray
  | [], k, a, _ => by simp
  | v :: l, k, a, h => by
    rw [List.length_cons] at h
    rw [List.zipIdx_cons, List.foldl_cons, foldl_set o l (k + 1) _ (by simp; omega)]
    congr 1
    apply List.ext_getElem?
    intro i
    simp only [Array.toList_setIfInBounds, List.getElem?_append, List.length_take, List.length_set, Array.length_toList, List.getElem?_take, List.getElem?_drop, List.getElem?_set, List.length_cons, List.getElem?_cons]
    by_cases h1 : i < o + k
    · simp [h1, show i < o + (k + 1) by omega, show min (o + (k + 1)) a.size = o + (k + 1) by omega, show min (o + k) a.size = o + k by omega, show ¬ o + k = i by omega]
    · by_cases h2 : i = o + k
      · subst h2
        simp [show min (o + (k + 1)) a.size = o + (k + 1) by omega, show min (o + k) a.size = o + k by omega, show o + k < o + (k + 1) by omega, show o + k < a.size by omega]
      · have e : i - (o + k) = i - (o + (k + 1)) + 1 := by omega
        simp [h1, show ¬ i < o + (k + 1) by omega, show min (o + (k + 1)) a.size = o + (k + 1) by omega, show min (o + k) a.size = o + k by omega, e]
        by_cases h3 : i - (o + (k + 1)) < l.length
        · simp [h3]
        · simp [h3]
          rw [if_neg (by omega)]
          congr 1
          omega

theorem row_zero : ∃ Z : Array Value, (∀ w, (zeroValue 52).run Tryd.prog w = .ok (.agg Z) w) ∧ (Tryd.prog.info? 52).map (·.size) = some Z.size ∧ Hid (Z = (List.replicate 256 (.int .u8 0)).toArray) := by
  refine ⟨(List.replicate 256 (.int .u8 0)).toArray, ?_, by kernel_rfl, Lib.hid rfl⟩
  have h : (Tryd.prog.info? 52).map (fun i => i.zero) = some (some (.agg (List.replicate 256 (.int .u8 0)).toArray)) := by kernel_rfl
  generalize (List.replicate 256 (Value.int .u8 0)).toArray = Z at h ⊢
  cases hq : Tryd.prog.info? 52 with
  | none => simp [hq] at h
  | some i =>
    simp [hq] at h
    intro w
    simp [zeroValue, typeInfo, hq, h]
theorem piece_zero : ∃ Z : Array Value, (∀ w, (zeroValue 66).run Tryd.prog w = .ok (.agg Z) w) ∧ Z.size = 257 := by
  refine ⟨#[.pointer none] ++ Array.replicate 256 (.int .u8 0), ?_, by simp⟩
  have h : (Tryd.prog.info? 66).map (fun i => (i.zero, i.size)) = some (some (.agg (#[.pointer none] ++ Array.replicate 256 (.int .u8 0))), 257) := by kernel_rfl
  cases hq : Tryd.prog.info? 66 with
  | none => simp [hq] at h
  | some i =>
    simp [hq] at h
    intro w
    simp [zeroValue, typeInfo, hq, h.1]
theorem piece_fold (Z : Array Value) (v : Value) (cs : List Value) (hZ : Z.size = 257) (hc : cs.length = 256) :
    List.foldl (fun cs x => cs.setIfInBounds (1 + x.snd) x.fst) (Z.setIfInBounds 0 v) cs.zipIdx = (v :: cs).toArray := by
  rw [foldl_set 1 cs 0 _ (by simp; omega)]
  obtain ⟨l⟩ := Z
  have hl : l.length = 257 := hZ
  congr 1
  match l, hl with
  | x :: l, hl =>
    simp only [List.length_cons] at hl
    simp only [Array.toList_setIfInBounds, List.set_cons_zero, Nat.add_zero, List.take_succ_cons, List.take_zero, hc]
    rw [show 1 + 256 = 256 + 1 from rfl, List.drop_succ_cons, List.drop_eq_nil_of_le (by omega)]
    simp

theorem full_end {w w2 w4 : World} {B b : Nat} {r : List UInt8} {d : UInt8} {p : Option Addr} (hr : isRow (r ++ [d]) = true) (hbB : b < B) (hB : B ≤ w.heap.size) (hf : r.length % 2048 = 2047)
    (hc : Chain w B r (r.length / 2048) (.pointer p)) (g2 : w.grownBy w2 (some b))
    (hh2 : w2.heap[b]? = some (.cells (midCells (r ++ [d]) (.pointer p) (r.length / 2048)).toArray 54 (0, 0)))
    (hg4 : ((w2.alloc (.cells (.pointer p :: pieceCells (r ++ [d]) (r.length / 2048)).toArray 66)).setCell ⟨b, 0, none⟩ (.pointer (some ⟨w2.heap.size, 0, none⟩))).drew.grownBy w4 (some b))
    (hh4 : w4.heap[b]? = some (.cells (((midCells (r ++ [d]) (.pointer p) (r.length / 2048)).set 0 (.pointer (some ⟨w2.heap.size, 0, none⟩))).take 1 ++ ((List.replicate 256 (Value.int .u8 0)) ++
      ((midCells (r ++ [d]) (.pointer p) (r.length / 2048)).set 0 (.pointer (some ⟨w2.heap.size, 0, none⟩))).drop (1 + 256))).toArray 54 (0, 0))) :
    IsWr w4 B b (r ++ [d]) ∧ w.grownBy w4 (some b) := by
  have hlt : b < w2.heap.size := (Array.getElem?_eq_some_iff.1 hh2).1
  have g3 : w2.grownBy ((w2.alloc (.cells (.pointer p :: pieceCells (r ++ [d]) (r.length / 2048)).toArray 66)).setCell ⟨b, 0, none⟩ (.pointer (some ⟨w2.heap.size, 0, none⟩))).drew (some b) :=
    grown_trans (World.grownBy_alloc w2 _ _) (grown_trans (grownBy_setCell _ ⟨b, 0, none⟩ _) (grownBy_drew _ _))
  have G := grown_trans g2 (grown_trans g3 hg4)
  refine ⟨⟨hr, hbB, .pointer (some ⟨w2.heap.size, 0, none⟩), ?_, ?_⟩, G⟩
  · rw [hh4, mid_full r d _ hf]
    unfold midCells
    rw [List.set_cons_zero, List.take_succ_cons, List.take_zero, Nat.add_comm 1, List.drop_succ_cons, List.drop_append, pieceCells_length, List.drop_eq_nil_of_le (by rw [pieceCells_length]; omega)]
    rfl
  · rw [show (r ++ [d]).length / 2048 = r.length / 2048 + 1 by rw [List.length_append, List.length_singleton]; omega]
    refine ⟨w2.heap.size, .pointer p, rfl, Nat.le_trans hB g2.size, ?_, ?_⟩
    · rw [hg4.block w2.heap.size (by simp) (by simp; omega)]
      show (((w2.alloc _).setCell _ _)).heap[w2.heap.size]? = _
      rw [heap_setCell_other _ _ _ _ (by show w2.heap.size ≠ b; omega)]
      exact heap_alloc_new w2 _
    · refine (hc.kept fun g _ _ hg ho => ?_).more [d] (by omega)
      rw [G.block g (Array.getElem?_eq_some_iff.1 ho).1 (by simp; omega)]; exact ho

set_option maxRecDepth 100000 in
set_option maxHeartbeats 1000000 in
theorem put_one (w : World) (B b : Nat) (r : List UInt8) (hw : IsWr w B b r) (hn : r.length ≤ 1099511627776) (hB : B ≤ w.heap.size) :
    Calls Tryd.prog 24 #[.pointer (some ⟨b, 0, none⟩), .int .i32 49] w fun e w' => e = .returned (.tuple #[]) ∧ IsWr w' B b (r ++ [49]) ∧ w.grownBy w' (some b) := by
  obtain ⟨hr, hbB, v, hh, hc⟩ := hw
  have hbits := part_cells hh (midCells_bits r v _)
  have hf := fun o => part_free (o := o) hh
  go_enter Tryd.func24, Tryd.ntmps24
  go_wp2
  obtain ⟨k, hk⟩ : ∃ k, r.length % 2048 = k := ⟨_, rfl⟩
  have ek : ((r.length : Int) % 2048) = ((k : Nat) : Int) := by omega
  rw [ek]
  have k0 : (0 : Int) ≤ (k : Int) := by omega
  have k1 : (k : Int) < 2048 := by omega
  have i0 : (0 : Int) ≤ (k : Int) / 8 := by omega
  have i1 : (k : Int) / 8 < 256 := by omega
  have hx := part_cells hh (midCells_last r v _ (k / 8) (by omega))
  rw [← hk, place_split, hk] at hx
  have KK := Lib.hid hk
  clear ek hk
  go_region
  have e1 : bits .or .u8 ((byteAt r (r.length / 8) : Nat) : Int) (128 / 2 ^ (k % 8)) = ((byteAt r (r.length / 8) + 2 ^ (7 - r.length % 8) : Nat) : Int) := by
    obtain ⟨A, hA⟩ := byteAt_low r
    have hk := KK.out
    have e : k % 8 = r.length % 8 := by omega
    rw [e, or_bit _ _ A (by omega) hA (byteAt_lt r _ hr)]
  rw [e1]
  have hh1 := part_set (o := 1 + k / 8) (.int .u8 ((byteAt r (r.length / 8) + 2 ^ (7 - r.length % 8) : Nat) : Int)) hh
  have hg1 := grown_trans (grownBy_setCell w ⟨b, 1 + k / 8, none⟩ (.int .u8 ((byteAt r (r.length / 8) + 2 ^ (7 - r.length % 8) : Nat) : Int))) (grownBy_drew _ _)
  have hh1 : (w.setCell ⟨b, 1 + k / 8, none⟩ (.int .u8 ((byteAt r (r.length / 8) + 2 ^ (7 - r.length % 8) : Nat) : Int))).drew.heap[b]? = _ := hh1
  have hset := set_one r v
  have hk := KK.out
  rw [hk] at hset
  generalize (w.setCell ⟨b, 1 + k / 8, none⟩ (.int .u8 ((byteAt r (r.length / 8) + 2 ^ (7 - r.length % 8) : Nat) : Int))).drew = w1 at hh1 hg1 ⊢
  have hb1 : (((wrCells r v).set (1 + k / 8) (.int .u8 ((byteAt r (r.length / 8) + 2 ^ (7 - r.length % 8) : Nat) : Int))))[257]? = some (.int .i64 (r.length : Int)) := by
    rw [List.getElem?_set_ne (by omega)]; exact midCells_bits r v _
  have hbits1 := part_cells hh1 hb1
  have hf1 := fun o => part_free (o := o) hh1
  have hh2 := part_set (o := 257) (.int .i64 ((r.length : Int) + 1)) hh1
  have hh2 : (w1.setCell ⟨b, 257, none⟩ (.int .i64 ((r.length : Int) + 1))).heap[b]? = some (.cells (midCells (r ++ [49]) v (r.length / 2048)).toArray 54 (0, 0)) := by rw [hh2]; unfold wrCells; rw [hset]
  have hg2 := grown_trans hg1 (grownBy_setCell w1 ⟨b, 257, none⟩ (.int .i64 ((r.length : Int) + 1)))
  have H2 := Lib.hid hh2
  clear hh1 hh2 hset hb1 e1 hx hf hbits i0 i1 hh hk
  by_cases hfull : k = 2047
  · have ht : ((k : Int) == 2047) = true := by rw [beq_iff_eq]; omega
    go_wp2
    have hh2 := H2.out
    generalize w1.setCell ⟨b, 257, none⟩ (.int .i64 ((r.length : Int) + 1)) = w2 at hh2 hg2 ⊢
    clear H2 hbits1 hf1 hg1
    obtain ⟨p, rfl⟩ := hc.pointer
    obtain ⟨K, hK⟩ : ∃ K, r.length / 2048 = K := ⟨_, rfl⟩
    rw [hK] at hh2 hc
    obtain ⟨cs, hcs⟩ : ∃ cs, pieceCells (r ++ [49]) K = cs := ⟨_, rfl⟩
    have hcl : cs.length = 256 := by rw [← hcs]; exact pieceCells_length _ _
    have hc1 : ∀ v ∈ cs, v.oneCell' = true := by rw [← hcs]; exact pieceCells_one _ _
    have hfst : w2.cell? ⟨b, 0, none⟩ = some (.pointer p) := part_cells hh2 rfl
    have hrg : w2.rangeAt b 1 cs := by
      intro j v hv
      have hj : j < cs.length := (List.getElem?_eq_some_iff.1 hv).1
      refine part_cells hh2 ?_
      unfold midCells
      rw [hcs, Nat.add_comm, List.getElem?_cons_succ, List.getElem?_append_left hj, hv]
    have hfr : w2.frozen? ⟨b, 0, none⟩ = false := part_free hh2
    have hfst2 : ∀ o, (w2.alloc o).cell? ⟨b, 0, none⟩ = some (.pointer p) := fun o => by
      rw [World.cell?_alloc_lt _ _ _ (World.block_lt_of_cell? w2 _ hfst)]; exact hfst
    have hfr2 : ∀ o, (w2.alloc o).frozen? ⟨b, 0, none⟩ = false := fun o => by
      rw [World.frozen?_alloc_past _ _ _ (World.block_lt_of_cell? w2 _ hfst)]; exact part_free hh2
    have hrg2 : ∀ o, (w2.alloc o).rangeAt b 1 cs := fun o => World.rangeAt_alloc hrg o
    have hrg3 : ∀ o x, ((w2.alloc o).setCell ⟨b, 0, none⟩ x).rangeAt b 1 cs := fun o x j v hv => by
      rw [World.cell?_setCell_other _ _ _ _ (by intro e; injection e with _ e; omega)]
      exact hrg2 o j v hv
    have hu := Tryd.underlying52
    have hi : (Tryd.prog.info? 52).map (·.size) = some cs.length := by rw [hcl]; kernel_rfl
    obtain ⟨Z, hz1, hz2⟩ := piece_zero
    have hz3 : Z ≠ #[] := by rintro rfl; simp at hz2
    have hz4 := piece_fold Z (.pointer p) cs hz2 hcl
    have G2 := Lib.hid hg2
    have HH2 := Lib.hid hh2
    have HCS := Lib.hid hcs
    have CL := Lib.hid hcl
    have EK := Lib.hid hK
    have HC := Lib.hid hc
    clear hg2 hh2 hcs hK hc
    have hl1 : (loadVar 51 ⟨b, 0, none⟩).run Tryd.prog w2.drew = .ok (.pointer p) w2.drew := by go_simp
    have hl2 := run_loadVar_mid w2.drew b 1 _ cs _ ((World.rangeAt_drew _ _ _ _).2 hrg) hu rfl hi
    have HL1 := Lib.hid hl1
    have HL2 := Lib.hid hl2
    clear hl1 hl2
    refine wp_region_any (by kernel_rfl) ?_
    change wpAny _ _ _ _ _ _ _ (World.drew _)
    refine wpAny_take (i := 0) (v := ?_) rfl (by kernel_rfl) (by kernel_rfl) (by kernel_rfl) (fun _ _ _ h => h) (Or.inl ⟨by rfl, ?_⟩) ?_
    rotate_left
    · (intro w; go_simp; try with_reducible rfl)
    rotate_right
    refine wpAny_take (i := 1) (v := ?_) rfl (by kernel_rfl) (by kernel_rfl) (by kernel_rfl) (fun _ _ _ h => h) (Or.inl ⟨by rfl, ?_⟩) ?_
    rotate_left
    · (intro w; go_simp; try with_reducible rfl)
    rotate_right
    refine wpAny_take (i := 2) (v := ?_) rfl (by kernel_rfl) (by kernel_rfl) (by kernel_rfl) (fun _ _ _ h => h) (Or.inl ⟨by rfl, ?_⟩) ?_
    rotate_left
    · (intro w; go_simp; try with_reducible rfl)
    rotate_right
    refine wpAny_take (i := 3) (v := ?_) rfl (by kernel_rfl) (by kernel_rfl) (by kernel_rfl) (fun _ _ _ h => h) (Or.inl ⟨by rfl, ?_⟩) ?_
    rotate_left
    · (intro w; go_simp; try with_reducible rfl)
    rotate_right
    refine wpAny_take (i := 5) (v := ?_) rfl (by kernel_rfl) (by kernel_rfl) (by kernel_rfl) (fun _ _ _ h => h) (Or.inl ⟨by rfl, ?_⟩) ?_
    rotate_left
    · (intro w; go_simp; try with_reducible rfl)
    rotate_right
    refine wpAny_take (i := 6) (v := ?_) rfl (by kernel_rfl) (by kernel_rfl) (by kernel_rfl) (fun _ _ _ h => h) (Or.inl ⟨by rfl, ?_⟩) ?_
    rotate_left
    · (intro w; go_simp; try with_reducible rfl)
    rotate_right
    refine wpAny_take (i := 7) (v := ?_) rfl (by kernel_rfl) (by kernel_rfl) (by kernel_rfl) (fun _ _ _ h => h) (Or.inl ⟨by rfl, ?_⟩) ?_
    rotate_left
    · (intro w; go_simp; try with_reducible rfl)
    rotate_right
    refine wpAny_pair (i := 4) (j := 8) (di := some 39) (dj := some 43) (vi := .pointer p) (vj := .agg cs.toArray) rfl rfl rfl rfl rfl rfl ?r1 ?r2 ?r3 (by decide) ?h1 ?h2 ?h3 ?h4 ?hc ?h
    case r1 => kernel_rfl
    case r2 => kernel_rfl
    case r3 => kernel_rfl
    case h1 => exact exec_load (ty := 51) (x := .tmp 38) (ad := ⟨b, 0, none⟩) (by kernel_rfl) (by kernel_rfl) HL1.out
    case h2 => exact exec_load (ty := 52) (x := .tmp 42) (ad := ⟨b, 1, none⟩) (by kernel_rfl) (by kernel_rfl) HL2.out
    case h3 => exact exec_load (ty := 52) (x := .tmp 42) (ad := ⟨b, 1, none⟩) (by kernel_rfl) (by kernel_rfl) HL2.out
    case h4 => exact exec_load (ty := 51) (x := .tmp 38) (ad := ⟨b, 0, none⟩) (by kernel_rfl) (by kernel_rfl) HL1.out
    case hc => kernel_rfl
    refine wpAny_tail 9 (by kernel_rfl) (by kernel_rfl) ?_
    have hh3 : (((w2.alloc (.cells (.pointer p :: cs).toArray 66)).setCell ⟨b, 0, none⟩ (.pointer (some ⟨w2.heap.size, 0, none⟩))).drew).heap[b]? = _ :=
      part_set (.pointer (some ⟨w2.heap.size, 0, none⟩)) ((Below.heap_alloc w2 _ b (World.block_lt_of_cell? w2 _ hfst)).trans HH2.out)
    have H3 := Lib.hid hh3
    obtain ⟨Z2, hz5, hz6, hz7⟩ := row_zero
    have hz8 : ∀ v ∈ Z2.toList, v.oneCell' = true := by
      rw [hz7.out]
      intro v hv
      rw [List.eq_of_mem_replicate hv]
      rfl
    have hz9 : 1 + Z2.size ≤ ((midCells (r ++ [49]) (.pointer p) K).set 0 (.pointer (some ⟨w2.heap.size, 0, none⟩))).toArray.size := by
      rw [hz7.out]; simp [midCells_length]
    clear hfst hrg hfr hrg2 hrg3 hh3
    go_wp2_with (refine wpList_store_part rfl 52 _ _ rfl b 1 Z2 rfl rfl _ _ H3.out hz6 hz8 hz9 ?_; intro w4 hh4 hg4)
    go_end0
    refine ⟨rfl, full_end (by rw [isRow_append, hr]; rfl) hbB hB (by rw [KK.out]; exact hfull) (by rw [EK.out]; exact HC.out) G2.out (by rw [EK.out]; exact HH2.out) (by rw [EK.out, HCS.out]; exact hg4) ?_⟩
    have e := hh4.out
    rw [hz7.out] at e
    rw [EK.out, e]
    rfl
  · have ht : ((k : Int) == 2047) = false := by rw [beq_eq_false_iff_ne]; omega
    go_wp2
    go_end0
    have hm := mid_open r 49 v (by rw [KK.out]; exact hfull)
    refine ⟨rfl, ⟨by rw [isRow_append, hr]; rfl, hbB, v, by rw [H2.out, hm], ?_⟩, hg2⟩
    have hk := KK.out
    rw [List.length_append, List.length_singleton, show (r.length + 1) / 2048 = r.length / 2048 by omega]
    refine (hc.kept fun g _ _ hg ho => ?_).more [49] (by omega)
    rw [hg2.block g (Array.getElem?_eq_some_iff.1 ho).1 (by simp; omega)]; exact ho
set_option maxRecDepth 100000 in
set_option maxHeartbeats 1000000 in
theorem put_nought (w : World) (B b : Nat) (r : List UInt8) (hw : IsWr w B b r) (hn : r.length ≤ 1099511627776) (hB : B ≤ w.heap.size) :
    Calls Tryd.prog 24 #[.pointer (some ⟨b, 0, none⟩), .int .i32 48] w fun e w' => e = .returned (.tuple #[]) ∧ IsWr w' B b (r ++ [48]) ∧ w.grownBy w' (some b) := by
  obtain ⟨hr, hbB, v, hh, hc⟩ := hw
  have hbits1 := part_cells hh (midCells_bits r v _)
  have hf1 := fun o => part_free (o := o) hh
  have hh2 := part_set (o := 257) (.int .i64 ((r.length : Int) + 1)) hh
  have hh2 : (w.setCell ⟨b, 257, none⟩ (.int .i64 ((r.length : Int) + 1))).heap[b]? = some (.cells (midCells (r ++ [48]) v (r.length / 2048)).toArray 54 (0, 0)) := by rw [hh2]; unfold wrCells; rw [set_nought]
  have hg2 := grownBy_setCell w ⟨b, 257, none⟩ (.int .i64 ((r.length : Int) + 1))
  have H2 := Lib.hid hh2
  clear hh2 hh
  by_cases hfull : r.length % 2048 = 2047
  · have ht : (((r.length : Int) % 2048) == 2047) = true := by rw [beq_iff_eq]; omega
    have F := Lib.hid hfull
    clear hfull
    go_enter Tryd.func24, Tryd.ntmps24
    go_wp2
    have hfull := F.out
    have hh2 := H2.out
    generalize w.setCell ⟨b, 257, none⟩ (.int .i64 ((r.length : Int) + 1)) = w2 at hh2 hg2 ⊢
    clear H2 hbits1 hf1
    obtain ⟨p, rfl⟩ := hc.pointer
    obtain ⟨K, hK⟩ : ∃ K, r.length / 2048 = K := ⟨_, rfl⟩
    rw [hK] at hh2 hc
    obtain ⟨cs, hcs⟩ : ∃ cs, pieceCells (r ++ [48]) K = cs := ⟨_, rfl⟩
    have hcl : cs.length = 256 := by rw [← hcs]; exact pieceCells_length _ _
    have hc1 : ∀ v ∈ cs, v.oneCell' = true := by rw [← hcs]; exact pieceCells_one _ _
    have hfst : w2.cell? ⟨b, 0, none⟩ = some (.pointer p) := part_cells hh2 rfl
    have hrg : w2.rangeAt b 1 cs := by
      intro j v hv
      have hj : j < cs.length := (List.getElem?_eq_some_iff.1 hv).1
      refine part_cells hh2 ?_
      unfold midCells
      rw [hcs, Nat.add_comm, List.getElem?_cons_succ, List.getElem?_append_left hj, hv]
    have hfr : w2.frozen? ⟨b, 0, none⟩ = false := part_free hh2
    have hfst2 : ∀ o, (w2.alloc o).cell? ⟨b, 0, none⟩ = some (.pointer p) := fun o => by
      rw [World.cell?_alloc_lt _ _ _ (World.block_lt_of_cell? w2 _ hfst)]; exact hfst
    have hfr2 : ∀ o, (w2.alloc o).frozen? ⟨b, 0, none⟩ = false := fun o => by
      rw [World.frozen?_alloc_past _ _ _ (World.block_lt_of_cell? w2 _ hfst)]; exact part_free hh2
    have hrg2 : ∀ o, (w2.alloc o).rangeAt b 1 cs := fun o => World.rangeAt_alloc hrg o
    have hrg3 : ∀ o x, ((w2.alloc o).setCell ⟨b, 0, none⟩ x).rangeAt b 1 cs := fun o x j v hv => by
      rw [World.cell?_setCell_other _ _ _ _ (by intro e; injection e with _ e; omega)]
      exact hrg2 o j v hv
    have hu := Tryd.underlying52
    have hi : (Tryd.prog.info? 52).map (·.size) = some cs.length := by rw [hcl]; kernel_rfl
    obtain ⟨Z, hz1, hz2⟩ := piece_zero
    have hz3 : Z ≠ #[] := by rintro rfl; simp at hz2
    have hz4 := piece_fold Z (.pointer p) cs hz2 hcl
    have G2 := Lib.hid hg2
    have HH2 := Lib.hid hh2
    have HCS := Lib.hid hcs
    have CL := Lib.hid hcl
    have EK := Lib.hid hK
    have HC := Lib.hid hc
    clear hg2 hh2 hcs hK hc
    have hl1 : (loadVar 51 ⟨b, 0, none⟩).run Tryd.prog w2.drew = .ok (.pointer p) w2.drew := by go_simp
    have hl2 := run_loadVar_mid w2.drew b 1 _ cs _ ((World.rangeAt_drew _ _ _ _).2 hrg) hu rfl hi
    have HL1 := Lib.hid hl1
    have HL2 := Lib.hid hl2
    clear hl1 hl2
    refine wp_region_any (by kernel_rfl) ?_
    change wpAny _ _ _ _ _ _ _ (World.drew _)
    refine wpAny_take (i := 0) (v := ?_) rfl (by kernel_rfl) (by kernel_rfl) (by kernel_rfl) (fun _ _ _ h => h) (Or.inl ⟨by rfl, ?_⟩) ?_
    rotate_left
    · (intro w; go_simp; try with_reducible rfl)
    rotate_right
    refine wpAny_take (i := 1) (v := ?_) rfl (by kernel_rfl) (by kernel_rfl) (by kernel_rfl) (fun _ _ _ h => h) (Or.inl ⟨by rfl, ?_⟩) ?_
    rotate_left
    · (intro w; go_simp; try with_reducible rfl)
    rotate_right
    refine wpAny_take (i := 2) (v := ?_) rfl (by kernel_rfl) (by kernel_rfl) (by kernel_rfl) (fun _ _ _ h => h) (Or.inl ⟨by rfl, ?_⟩) ?_
    rotate_left
    · (intro w; go_simp; try with_reducible rfl)
    rotate_right
    refine wpAny_take (i := 3) (v := ?_) rfl (by kernel_rfl) (by kernel_rfl) (by kernel_rfl) (fun _ _ _ h => h) (Or.inl ⟨by rfl, ?_⟩) ?_
    rotate_left
    · (intro w; go_simp; try with_reducible rfl)
    rotate_right
    refine wpAny_take (i := 5) (v := ?_) rfl (by kernel_rfl) (by kernel_rfl) (by kernel_rfl) (fun _ _ _ h => h) (Or.inl ⟨by rfl, ?_⟩) ?_
    rotate_left
    · (intro w; go_simp; try with_reducible rfl)
    rotate_right
    refine wpAny_take (i := 6) (v := ?_) rfl (by kernel_rfl) (by kernel_rfl) (by kernel_rfl) (fun _ _ _ h => h) (Or.inl ⟨by rfl, ?_⟩) ?_
    rotate_left
    · (intro w; go_simp; try with_reducible rfl)
    rotate_right
    refine wpAny_take (i := 7) (v := ?_) rfl (by kernel_rfl) (by kernel_rfl) (by kernel_rfl) (fun _ _ _ h => h) (Or.inl ⟨by rfl, ?_⟩) ?_
    rotate_left
    · (intro w; go_simp; try with_reducible rfl)
    rotate_right
    refine wpAny_pair (i := 4) (j := 8) (di := some 39) (dj := some 43) (vi := .pointer p) (vj := .agg cs.toArray) rfl rfl rfl rfl rfl rfl ?r1 ?r2 ?r3 (by decide) ?h1 ?h2 ?h3 ?h4 ?hc ?h
    case r1 => kernel_rfl
    case r2 => kernel_rfl
    case r3 => kernel_rfl
    case h1 => exact exec_load (ty := 51) (x := .tmp 38) (ad := ⟨b, 0, none⟩) (by kernel_rfl) (by kernel_rfl) HL1.out
    case h2 => exact exec_load (ty := 52) (x := .tmp 42) (ad := ⟨b, 1, none⟩) (by kernel_rfl) (by kernel_rfl) HL2.out
    case h3 => exact exec_load (ty := 52) (x := .tmp 42) (ad := ⟨b, 1, none⟩) (by kernel_rfl) (by kernel_rfl) HL2.out
    case h4 => exact exec_load (ty := 51) (x := .tmp 38) (ad := ⟨b, 0, none⟩) (by kernel_rfl) (by kernel_rfl) HL1.out
    case hc => kernel_rfl
    refine wpAny_tail 9 (by kernel_rfl) (by kernel_rfl) ?_
    have hh3 : (((w2.alloc (.cells (.pointer p :: cs).toArray 66)).setCell ⟨b, 0, none⟩ (.pointer (some ⟨w2.heap.size, 0, none⟩))).drew).heap[b]? = _ :=
      part_set (.pointer (some ⟨w2.heap.size, 0, none⟩)) ((Below.heap_alloc w2 _ b (World.block_lt_of_cell? w2 _ hfst)).trans HH2.out)
    have H3 := Lib.hid hh3
    obtain ⟨Z2, hz5, hz6, hz7⟩ := row_zero
    have hz8 : ∀ v ∈ Z2.toList, v.oneCell' = true := by
      rw [hz7.out]
      intro v hv
      rw [List.eq_of_mem_replicate hv]
      rfl
    have hz9 : 1 + Z2.size ≤ ((midCells (r ++ [48]) (.pointer p) K).set 0 (.pointer (some ⟨w2.heap.size, 0, none⟩))).toArray.size := by
      rw [hz7.out]; simp [midCells_length]
    clear hfst hrg hfr hrg2 hrg3 hh3
    go_wp2_with (refine wpList_store_part rfl 52 _ _ rfl b 1 Z2 rfl rfl _ _ H3.out hz6 hz8 hz9 ?_; intro w4 hh4 hg4)
    go_end0
    refine ⟨rfl, full_end (by rw [isRow_append, hr]; rfl) hbB hB (by exact hfull) (by rw [EK.out]; exact HC.out) G2.out (by rw [EK.out]; exact HH2.out) (by rw [EK.out, HCS.out]; exact hg4) ?_⟩
    have e := hh4.out
    rw [hz7.out] at e
    rw [EK.out, e]
    rfl
  · have ht : (((r.length : Int) % 2048) == 2047) = false := by rw [beq_eq_false_iff_ne]; omega
    have F := Lib.hid hfull
    clear hfull
    go_enter Tryd.func24, Tryd.ntmps24
    go_wp2
    go_end0
    have hm := mid_open r 48 v F.out
    refine ⟨rfl, ⟨by rw [isRow_append, hr]; rfl, hbB, v, by rw [H2.out, hm], ?_⟩, hg2⟩
    have hk := F.out
    rw [List.length_append, List.length_singleton, show (r.length + 1) / 2048 = r.length / 2048 by omega]
    refine (hc.kept fun g _ _ hg ho => ?_).more [48] (by omega)
    rw [hg2.block g (Array.getElem?_eq_some_iff.1 ho).1 (by simp; omega)]; exact ho
end Go.Proofs.YtologhgoojkpmaaDoor
