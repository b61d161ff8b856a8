/- A patch laid on a canvas. No condition. -/
import Derived.Test.YtmmgbnjfbapmcaaPtold
import Derived.Test.YtmmgbnjfbapmcaaPclaw
import Derived.Test.YtmmgbnjfbapmcaaPrep
namespace Go.Proofs.Ytmmgbnjfbapmcaa
open Go.RowKit Go.Lib

theorem toldF_in (l : Nat → Int) (y i : Nat) : 0 ≤ toldF l y i ∧ toldF l y i ≤ 255 := ⟨clip_lo _ _ _, clip_hi _ _ _ (by omega)⟩
theorem toldF_eq (pt : Nat → Int) (b y i : Nat) : toldF (fun j => pt (b * 64 + j)) y i = clip (pt (64 * b + 8 * y + i)) 0 255 := by
  show clip (pt (b * 64 + (8 * y + i))) 0 255 = _
  rw [show b * 64 + (8 * y + i) = 64 * b + 8 * y + i by omega]
/-- A block of a patch. -/
theorem pt_index (pt : Nat → Int) {b : Nat} (hb : b < 6) (w : World) : (Instr.index 37 (.agg (arn 384 pt)) (.int .i64 (b : Int))).run Try.prog w = .ok (.agg (arrA fun j => pt (b * 64 + j))) w := by
  obtain ⟨j, hj, hs⟩ := arr_info
  have h1 : (0 : Int) ≤ (b : Int) ∧ (b : Int) < ((6 : Nat) : Int) := by omega
  have hp := run_part_arr (arn 384 pt) (b * 64) w
  rw [pt_extract pt hb] at hp
  simp only [Instr.index, asIntOf, Sem.run_bind, Sem.run_pure, Result.andThen_ok, run_underlying Try.underlying37, if_pos h1, run_sizeOf w hj, Int.toNat_natCast, arr_cells, hp]
/-- Eight bytes copied into a plane. -/
theorem copy_eight {w : World} {g q R c1 c2 n : Nat} {f r : Nat → Int} {v : Value} {ty : TypeId} (h : OwnPl w v g n f) (hq : q + 8 ≤ n) (hR : w.heap[R]? = some (arbO 8 r)) :
    (Builtin.copy_ #[22, 22] ty #[.slice (some ⟨g, q, none⟩) 8 c1, .slice (some ⟨R, 0, none⟩) 8 c2]).run Try.prog w = .ok (.int .i64 8) (w.setCells g q ((byL 8 r).map (Value.int .u8))) := by
  obtain ⟨c, rfl, hc, h⟩ := h
  have hl : ((byL 8 r).map (Value.int .u8)).length = 8 := by rw [List.length_map, byL_len]
  have hr := run_copy_cells (P := Try.prog) w 22 22 ty 5 g q 8 c1 ⟨R, 0, none⟩ 8 c2 ((byL 8 r).map (Value.int .u8)) Try.underlying22 u8_size (by rw [hl]; rfl)
    (fun j u hj => by
      have hj2 := (List.getElem?_eq_some_iff.1 hj).1
      rw [hl] at hj2
      have e1 : (⟨R, 0, none⟩ : Addr).add j = ⟨R, j, none⟩ := by unfold Addr.add; split <;> simp_all
      rw [e1, arb_cell hR hj2]
      simpa [byL, hj2] using hj)
    (fun j hj => by rw [hl] at hj; rw [(h (q + j) (by omega)).1]; rfl) (fun j hj => by rw [hl] at hj; exact (h (q + j) (by omega)).2.1)
    (fun u hu => by obtain ⟨x, _, rfl⟩ := List.mem_map.1 hu; rfl)
  rw [hl] at hr
  exact hr
set_option maxRecDepth 1000000 in
set_option maxHeartbeats 8000000 in
theorem lay_none (k : Int) (C : Nat) (v : Nat → Value) (m : Int) (pt : Nat → Int) (w : World) (hC : w.heap[C]? = some (frO 49 k v)) (hno : hasC k m = false) :
    Calls Try.prog 19 #[.pointer (some ⟨C, 0, none⟩), .int .i64 m, .agg (arn 384 pt)] w fun e w' => e = .returned (.int .i64 1) ∧ Below w.heap.size w w' := by
  have hb1 : ∀ o, Below w.heap.size w (w.alloc o) := fun o => (Below.refl _ w).alloc (Nat.le_refl _) _
  have c2 := fun w => hascell_code k m w
  rw [hno] at c2
  generalize arn 384 pt = X
  have ck : (w.alloc (.cells X 37 (0, 0))).cell? ⟨C, 0, none⟩ = some (.int .i64 k) := fr_cell0 (T := 49) (v := v) (heap_keep hC)
  go_enter Try.func19, Try.ntmps19
  go_wp2_with (with_reducible refine (c2 _).mono ?_; rintro e w1 ⟨rfl, rfl⟩)
  go_ret
  exact ⟨rfl, hb1 _⟩
set_option maxRecDepth 1000000 in
theorem lay_nil (m : Int) (pt : Nat → Int) (w : World) :
    Calls Try.prog 19 #[.pointer none, .int .i64 m, .agg (arn 384 pt)] w fun e w' => e = .returned (.int .i64 1) ∧ Below w.heap.size w w' := by
  have hb1 : ∀ o, Below w.heap.size w (w.alloc o) := fun o => (Below.refl _ w).alloc (Nat.le_refl _) _
  generalize arn 384 pt = X
  go_enter Try.func19, Try.ntmps19
  go_wp2
  go_ret
  exact ⟨rfl, hb1 _⟩
set_option maxRecDepth 1000000 in
set_option maxHeartbeats 8000000 in
theorem lay_code (k : Int) (C lo : Nat) (v : Nat → Value) (g : Nat → Nat) (f : Nat → Nat → Int) (m : Nat) (pt : Nat → Int) (w : World) (hC : w.heap[C]? = some (frO 49 k v)) (hO : OwnFr w lo v g (siz k) f) (hCg : ∀ p, p < 3 → C ≠ g p) (hm : m < cells k) :
    Calls Try.prog 19 #[.pointer (some ⟨C, 0, none⟩), .int .i64 (m : Int), .agg (arn 384 pt)] w fun e w' => e = .returned (.int .i64 0) ∧ Keeps g w w' ∧ OwnFr w' lo v g (siz k) (layF k m pt f 384) := by
  have c2 : ∀ w, Calls Try.prog 32 #[.int .i64 k, .int .i64 (m : Int)] w fun e w' => e = .returned (.bool true) ∧ w = w' := fun w => (hascell_code k m w).mono fun e y h => ⟨h.1.trans (by rw [hasC_iff.2 ⟨by omega, by simpa using hm⟩]), h.2⟩
  have hHN : ∀ p, p < 3 → 0 < siz k p := fun p _ => siz_some (cells_fmt hm) p
  have HN := Lib.hid hHN
  have hCs : C < w.heap.size := (Array.getElem?_eq_some_iff.1 hC).1
  have hgs : ∀ p, p < 3 → g p < w.heap.size := fun p hp => (hO.pl p hp).lt (hHN p hp)
  have HGS := Lib.hid hgs
  have HCG := Lib.hid hCg
  obtain ⟨B, hB⟩ : ∃ B, w.heap.size = B := ⟨_, rfl⟩
  have HSX := pt_sized pt
  have HPI := Lib.hid (fun b (hb : b < 6) w => pt_index pt hb w)
  obtain ⟨X, hX⟩ : ∃ X, arn 384 pt = X := ⟨_, rfl⟩
  rw [hX] at HPI HSX ⊢
  obtain ⟨wA, hwA⟩ : ∃ wA, w.alloc (.cells X 37 (0, 0)) = wA := ⟨_, rfl⟩
  have hbA : Below w.heap.size w wA := by rw [← hwA]; exact (Below.refl _ w).alloc (Nat.le_refl _) _
  have hA0 : wA.heap[B]? = some (.cells X 37 (0, 0)) := by rw [← hwA, ← hB]; exact heap_alloc_new w _
  have hA1 : wA.heap[C]? = some (frO 49 k v) := by rw [← hwA]; exact heap_keep hC
  have hAO := hO.below hHN hbA
  have hAK : Keeps g w wA := Keeps.of_below hbA
  have hzA : wA.heap.size = B + 1 := by rw [← hwA, ← hB]; simp
  have ck : (w.alloc (.cells X 37 (0, 0))).cell? ⟨C, 0, none⟩ = some (.int .i64 k) := fr_cell0 (T := 49) (v := v) (heap_keep hC)
  have HWA := Lib.hid hwA
  have HB := Lib.hid hB
  have c3 := Lib.hid (fun b (hb : b < 6) w => where_code k m b w hm hb)
  have c4 := Lib.hid (fun l y (hy : y < 8) w => told_code l y w hy)
  clear hX hwA hB hO hC hHN hgs hCg hbA
  go_enter Try.func19, Try.ntmps19
  go_wp2_with (first | (with_reducible refine (c2 _).mono ?_; rintro e w1 ⟨rfl, rfl⟩) | (rw [HWA.out, HB.out]; with_reducible refine wpList_load_row rfl 37 _ rfl B rfl 37 X (0, 0) _ hA0 Try.underlying37 rfl HSX ?_))
  clear ck hA0 c2 HSX HWA
  go_loopw [25] (fun z wr => ∃ b : Nat, b ≤ 6 ∧ z = .int .i64 b ∧ wr.heap[C]? = some (frO 49 k v) ∧ OwnFr wr lo v g (siz k) (layF k m pt f (64 * b)) ∧ Keeps g w wr ∧ B + 1 ≤ wr.heap.size) (fun z _ => 6 - (RowKit.intOf z).toNat)
  case atStart => exact ⟨0, by omega, rfl, hA1, hAO, hAK, by omega⟩
  case round =>
    clear hA1 hAO hAK hzA
    obtain ⟨b, hb6, rfl, h0, hO, hK, hz⟩ := hrel
    generalize wr = wo at *
    by_cases hlt : b < 6
    · have t0 : decide ((b : Int) < 6) = true := by simp; omega
      have cw := fun x => c3.out b hlt x
      have hpi := fun w => HPI.out b hlt w
      have ck := fr_cell0 h0
      have HSA := arr_sized fun j => pt (b * 64 + j)
      have HOA := arrA_one fun j => pt (b * 64 + j)
      have hza := arr_zero
      have HYA : (arrA fun _ => 0).size = (arrA fun j => pt (b * 64 + j)).size := by rw [arrA_size, arrA_size]
      have C4 := Lib.hid (fun y (hy : y < 8) w => c4.out (fun j => pt (b * 64 + j)) y hy w)
      obtain ⟨w1, hw1⟩ : ∃ w1, wo.alloc (.cells (arrA fun j => pt (b * 64 + j)) 35 (0, 0)) = w1 := ⟨_, rfl⟩
      have h1c : w1.heap[C]? = some (frO 49 k v) := by rw [← hw1]; exact heap_keep h0
      have hb1 : Below wo.heap.size wo w1 := by rw [← hw1]; exact (Below.refl _ wo).alloc (Nat.le_refl _) _
      have h1a : w1.heap[wo.heap.size]? = some (.cells (arrA fun j => pt (b * 64 + j)) 35 (0, 0)) := by rw [← hw1]; exact heap_alloc_new wo _
      have h1s : w1.heap.size = wo.heap.size + 1 := by rw [← hw1]; simp
      have hO1 := hO.below HN.out hb1
      have hK1 := hK.trans (Keeps.of_below hb1)
      have ck1 := fr_cell0 h1c
      generalize arrA (fun j => pt (b * 64 + j)) = XA at *
      generalize (arrA fun _ => 0) = YA at *
      have HW1 := Lib.hid hw1
      clear hw1 hb1 hO hK h0
      go_wp2_with (with_reducible refine wp_store_fresh rfl 35 _ _ rfl XA YA 35 rfl rfl HSA HYA HOA ?_; rw [HW1.out])
      refine (cw _).mono ?_
      rintro e x2 ⟨rfl, hb2⟩
      have hP3 := plc_most hlt
      have hNm : siz k (plc b) ≤ 1073741824 := by have := siz_most k (plc b); omega
      have HLI := Lib.hid (fun y (hy : y < 8) => line_in hm hlt hy)
      have HRW := Lib.hid (fun y (hy : y < 8) p j => lay_row k m pt f b y hy p j 8 (by omega))
      have h2c := (hb2.block C (by have := hK1.size; omega)).trans h1c
      have h2a := (hb2.block wo.heap.size (by omega)).trans h1a
      have hO2 := hO1.below HN.out hb2
      have hK2 := hK1.trans (Keeps.of_below hb2)
      have h2s := hb2.size
      obtain ⟨w3, hw3⟩ : ∃ w3, x2.alloc (.cells (areaA (plc b) (fst8 k m b) (wid k (plc b))) 71 (0, 0)) = w3 := ⟨_, rfl⟩
      have h3c : w3.heap[C]? = some (frO 49 k v) := by rw [← hw3]; exact heap_keep h2c
      have hb3 : Below x2.heap.size x2 w3 := by rw [← hw3]; exact (Below.refl _ x2).alloc (Nat.le_refl _) _
      have h3a : w3.heap[wo.heap.size]? = some (.cells XA 35 (0, 0)) := by rw [← hw3]; exact heap_keep h2a
      have h3r : w3.heap[x2.heap.size]? = some (.cells (areaA (plc b) (fst8 k m b) (wid k (plc b))) 71 (0, 0)) := by rw [← hw3]; exact heap_alloc_new x2 _
      have h3s : w3.heap.size = x2.heap.size + 1 := by rw [← hw3]; simp
      have hO3 := hO2.below HN.out hb3
      have hK3 := hK2.trans (Keeps.of_below hb3)
      have hRR : B + 1 ≤ wo.heap.size ∧ wo.heap.size < x2.heap.size ∧ x2.heap.size < w3.heap.size := by omega
      unfold areaA at hw3
      have HW3 := Lib.hid hw3
      have HSR := area_sized (plc b) (fst8 k m b) (wid k (plc b))
      have CLN := Lib.hid (fun y (hy : y < 8) c (hc : siz k (plc b) ≤ c) (hv : v (plc b) = .slice (some ⟨g (plc b), 0, none⟩) (siz k (plc b)) c) x => line_code (plc b) (fst8 k m b) (wid k (plc b)) y (siz k (plc b)) 0 c (g (plc b)) v x hP3 hv hc (HLI.out y hy) hNm)
      clear hw3 hb2 hb3 hO1 hO2 hK1 hK2 h1c h2c h1a h2a h2s h1s h3s cw ck ck1 hpi hz HW1 HYA HOA hza
      unfold areaA
      go_wp2
      rw [HW3.out]
      generalize wo.heap.size = R1 at *
      generalize x2.heap.size = R2 at *
      generalize areaA (plc b) (fst8 k m b) (wid k (plc b)) = AA at *
      clear HW3
      go_loopw [37] (fun z wr => ∃ y : Nat, y ≤ 8 ∧ z = .int .i64 y ∧ wr.heap[C]? = some (frO 49 k v) ∧ wr.heap[R1]? = some (.cells XA 35 (0, 0)) ∧ wr.heap[R2]? = some (.cells AA 71 (0, 0)) ∧ OwnFr wr lo v g (siz k) (layF k m pt f (64 * b + 8 * y)) ∧ Keeps g w wr ∧ R2 < wr.heap.size) (fun z _ => 8 - (RowKit.intOf z).toNat)
      case atStart => exact ⟨0, by omega, rfl, h3c, h3a, h3r, hO3, hK3, hRR.2.2⟩
      case round =>
        clear h3c h3a h3r hO3 hK3
        obtain ⟨y, hy8, rfl, h0, ha, hr, hO, hK, hz⟩ := hrel
        generalize wr = wp at *
        by_cases hly : y < 8
        · have t1 : decide ((y : Int) < 8) = true := by simp; omega
          go_wp2_with (with_reducible refine wpList_load_row rfl 35 _ rfl R1 rfl 35 XA (0, 0) _ ha Try.underlying35 rfl HSA ?_)
          refine (C4.out y hly _).mono ?_
          rintro e x3 ⟨rfl, hb3⟩
          have HSV := arb_sized (toldF (fun j => pt (b * 64 + j)) y)
          have HOV := arb_one 8 (toldF (fun j => pt (b * 64 + j)) y)
          have hzv := arb_zero
          have HYV : (arb 8 fun _ => 0).size = (arb 8 (toldF (fun j => pt (b * 64 + j)) y)).size := by rw [arb_size, arb_size]
          obtain ⟨w4, hw4⟩ : ∃ w4, x3.alloc (.cells (arb 8 (toldF (fun j => pt (b * 64 + j)) y)) 77 (0, 0)) = w4 := ⟨_, rfl⟩
          have hb4 : Below wp.heap.size wp w4 := by rw [← hw4]; exact hb3.trans ((Below.refl _ x3).alloc hb3.size _)
          have h4r : w4.heap[x3.heap.size]? = some (arbO 8 (toldF (fun j => pt (b * 64 + j)) y)) := by rw [← hw4]; exact heap_alloc_new x3 _
          have h4s : w4.heap.size = x3.heap.size + 1 := by rw [← hw4]; simp
          have h40 := (hb4.block C (by have := hK.size; omega)).trans h0
          have h4a := (hb4.block R1 (by omega)).trans ha
          have h4x := (hb4.block R2 (by omega)).trans hr
          have hO4 := hO.below HN.out hb4
          have hK4 := hK.trans (Keeps.of_below hb4)
          have hz4 : R2 < x3.heap.size := by have := hb3.size; omega
          have HW4 := Lib.hid hw4
          obtain ⟨cv, hv, hcv, -⟩ := hO4.pl _ hP3
          have CL0 := CLN.out y hly cv hcv hv
          have hq := HLI.out y hly
          have HRY := Lib.hid (HRW.out y hly)
          generalize fst8 k m b + y * wid k (plc b) = q at CL0 hq HRY
          have CL := Lib.hid (fun (x : World) (hx : Below w4.heap.size w4 x) => ((CL0 x).mono fun e y h => ⟨by rw [h.1, Nat.zero_add], hx.trans (h.2.mono hx.size)⟩ : Calls Try.prog 34 #[.agg AA, .agg #[v 0, v 1, v 2], .int .i64 (y : Int)] x fun e y => e = .returned (.slice (some ⟨g (plc b), q, none⟩) 8 (cv - q)) ∧ Below w4.heap.size w4 y))
          have HXA := Lib.hid (fun (x : World) (hx : Below w4.heap.size w4 x) => (hx.block R2 (by omega)).trans h4x)
          have HXC := Lib.hid (fun (x : World) (hx : Below w4.heap.size w4 x) p (hp : p < 3) => fr_cell ((hx.block C (by have := hK4.size; omega)).trans h40) hp)
          have HE := Lib.hid (fun (x : World) (hx : Below w4.heap.size w4 x) => (⟨(hx.block C (by have := hK4.size; omega)).trans h40, (hx.block R1 (by omega)).trans h4a, (hx.block R2 (by omega)).trans h4x, (hx.block x3.heap.size (by omega)).trans h4r, hO4.below HN.out hx, hK4.trans (Keeps.of_below hx)⟩ : x.heap[C]? = some (frO 49 k v) ∧ x.heap[R1]? = some (.cells XA 35 (0, 0)) ∧ x.heap[R2]? = some (.cells AA 71 (0, 0)) ∧ x.heap[x3.heap.size]? = some (arbO 8 (toldF (fun j => pt (b * 64 + j)) y)) ∧ OwnFr x lo v g (siz k) (layF k m pt f (64 * b + 8 * y)) ∧ Keeps g w x))
          have HRB := Lib.hid (toldF_in (fun j => pt (b * 64 + j)) y)
          have HRE := Lib.hid (toldF_eq pt b y)
          generalize toldF (fun j => pt (b * 64 + j)) y = r at *
          generalize arb 8 r = V at *
          generalize (arb 8 fun _ => 0) = Y8 at *
          clear hw4 hb4 hb3 h0 ha hr hO hK hz h40 h4a h4x h4r hO4 hK4 CL0
          go_wp2_with (with_reducible refine wp_store_fresh rfl 77 _ _ rfl V Y8 77 rfl rfl HSV HYV HOV ?_; rw [HW4.out])
          generalize x3.heap.size = R3 at *
          refine wp_region_calm (S := fun x => Below w4.heap.size w4 x) 9 (by kernel_rfl) (by kernel_rfl) (Below.refl _ _).drew ?_
          simp only [List.take_succ_cons, List.take_zero, List.drop_succ_cons, List.drop_zero]
          refine calm_load 71 _ R2 71 AA (0, 0) _ (by kernel_rfl) rfl rfl (fun x hx => HXA.out x hx) Try.underlying71 rfl HSR ?_
          simp only [Act.put, List.setIfInBounds_toArray, List.set_cons_zero, List.set_cons_succ]
          refine calm_value (v := ?v1) (by kernel_rfl) ?m ?_; (case m => (intro x _; go_simp; try with_reducible rfl))
          simp only [Act.put, List.setIfInBounds_toArray, List.set_cons_zero, List.set_cons_succ]
          refine calm_value (v := ?v2) (by kernel_rfl) ?m ?_; (case m => (intro x _; go_simp; try with_reducible rfl))
          simp only [Act.put, List.setIfInBounds_toArray, List.set_cons_zero, List.set_cons_succ]
          refine calm_value (v := ?v3) (by kernel_rfl) ?m ?_; (case m => (intro x _; go_simp; try with_reducible rfl))
          simp only [Act.put, List.setIfInBounds_toArray, List.set_cons_zero, List.set_cons_succ]
          refine calm_value (v := ?v4) (by kernel_rfl) ?m ?_; (case m => (intro x _; go_simp; try with_reducible rfl))
          simp only [Act.put, List.setIfInBounds_toArray, List.set_cons_zero, List.set_cons_succ]
          refine calm_value (v := .agg #[v 0, v 1, v 2]) (by kernel_rfl) ?m ?_; (case m => (intro x hx; have p0 := HXC.out x hx 0 (by omega); have p1 := HXC.out x hx 1 (by omega); have p2 := HXC.out x hx 2 (by omega); go_simp; try with_reducible rfl))
          simp only [Act.put, List.setIfInBounds_toArray, List.set_cons_zero, List.set_cons_succ]
          refine calm_value (v := ?v6) (by kernel_rfl) ?m ?_; (case m => (intro x _; go_simp; try with_reducible rfl))
          simp only [Act.put, List.setIfInBounds_toArray, List.set_cons_zero, List.set_cons_succ]
          refine calm_call (by kernel_rfl) CL.out (fun _ => by kernel_rfl) ?_
          simp only [Act.put, List.setIfInBounds_toArray, List.set_cons_zero, List.set_cons_succ]
          refine calm_value (v := .slice (some ⟨R3, 0, none⟩) 8 8) (by kernel_rfl) ?m ?_; (case m => (intro x hx; go_simp; try with_reducible rfl))
          simp only [Act.put, List.setIfInBounds_toArray, List.set_cons_zero, List.set_cons_succ]
          refine calm_nil fun x hx => ?_
          obtain ⟨g0, ga, gr, gv, gO, gK⟩ := HE.out x hx
          have hcp := fun ty => copy_eight (ty := ty) (c1 := cv - q) (c2 := 8) (gO.pl _ hP3) hq gv
          have hgP : g (plc b) < B := by rw [← HB.out]; exact HGS.out _ hP3
          have nO := (gO.sets hP3 q 8 r (fun i _ => HRB.out i) hq).congr (f' := layF k m pt f (64 * b + 8 * (y + 1))) (fun p _ j _ => by
            have e1 := HRY.out p j
            rw [show 64 * b + 8 * y + 8 = 64 * b + 8 * (y + 1) by omega] at e1
            rw [e1]
            by_cases e : p = plc b ∧ q ≤ j ∧ j < q + 8
            · rw [if_pos e, if_pos e, HRE.out]
            · rw [if_neg e, if_neg e])
          have n0 := (setCells_block (g (plc b)) ((byL 8 r).map (Value.int .u8)) q x C (HCG.out _ hP3)).trans g0
          have na := (setCells_block (g (plc b)) ((byL 8 r).map (Value.int .u8)) q x R1 (by omega)).trans ga
          have nr := (setCells_block (g (plc b)) ((byL 8 r).map (Value.int .u8)) q x R2 (by omega)).trans gr
          have nK := gK.trans (Keeps.of_grown hP3 rfl (setCells_grown (g (plc b)) ((byL 8 r).map (Value.int .u8)) q x))
          have nz : R2 < (x.setCells (g (plc b)) q ((byL 8 r).map (Value.int .u8))).heap.size := by rw [setCells_size]; have := hx.size; omega
          generalize x.setCells (g (plc b)) q ((byL 8 r).map (Value.int .u8)) = wn at *
          have REL := Lib.hid (⟨n0, na, nr, nO, nK, nz⟩ : wn.heap[C]? = some (frO 49 k v) ∧ wn.heap[R1]? = some (.cells XA 35 (0, 0)) ∧ wn.heap[R2]? = some (.cells AA 71 (0, 0)) ∧ OwnFr wn lo v g (siz k) (layF k m pt f (64 * b + 8 * (y + 1))) ∧ Keeps g w wn ∧ R2 < wn.heap.size)
          clear n0 na nr nO nK nz g0 ga gr gv gO gK hgP hx
          go_wp2_with (at_builtin; refine Lib.wpList_copy_run _ rfl _ _ 22 22 rfl _ _ rfl rfl (hcp _) ?_)
          go_roundw
          case rel => exact ⟨y + 1, by omega, by go_num, REL.out⟩
          case measure => simp [RowKit.intOf]; omega
        · obtain rfl : y = 8 := by omega
          have t1 : decide ((8 : Int) < 8) = false := by simp
          have hO' : OwnFr wp lo v g (siz k) (layF k m pt f (64 * (b + 1))) := hO
          have hz' : B + 1 ≤ wp.heap.size := by omega
          clear hO ha hr
          go_wp2
          go_roundw
          case rel => exact ⟨b + 1, by omega, by go_num, h0, hO', hK, hz'⟩
          case measure => simp [RowKit.intOf]; omega
    · obtain rfl : b = 6 := by omega
      have t0 : decide ((6 : Int) < 6) = false := by simp
      have hO' : OwnFr wo lo v g (siz k) (layF k m pt f 384) := hO
      clear hO
      go_wp2
      go_ret
      exact ⟨rfl, hK, hO'⟩
end Go.Proofs.Ytmmgbnjfbapmcaa
