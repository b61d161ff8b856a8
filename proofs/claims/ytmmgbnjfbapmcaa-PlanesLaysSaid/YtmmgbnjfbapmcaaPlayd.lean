/- A patch laid on a frame, by the document. No condition. -/
import Derived.Test.YtmmgbnjfbapmcaaPframe
import Derived.Test.YtmmgbnjfbapmcaaPcutn
namespace Go.Proofs.Ytmmgbnjfbapmcaa
open Go.RowKit Go.Lib

theorem layF_next (k : Int) (m : Nat) (pt : Nat → Int) (f : Nat → Nat → Int) (b i : Nat) (hi : i < 64) (p j : Nat) :
    (if p = plc b ∧ j = pos k m b i then clip (pt (64 * b + i)) 0 255 else layF k m pt f (64 * b + i) p j) = layF k m pt f (64 * b + (i + 1)) p j := by
  show _ = (if p = plc ((64 * b + i) / 64) ∧ j = pos k m ((64 * b + i) / 64) ((64 * b + i) % 64) then clip (pt (64 * b + i)) 0 255 else layF k m pt f (64 * b + i) p j)
  rw [show (64 * b + i) / 64 = b by omega, show (64 * b + i) % 64 = i by omega]
set_option maxRecDepth 1000000 in
set_option maxHeartbeats 8000000 in
theorem lay_page (k : Int) (lo : Nat) (v : Nat → Value) (g : Nat → Nat) (f : Nat → Nat → Int) (m : Nat) (pt : Nat → Int) (w : World) (hO : OwnFr w lo v g (siz k) f) (hm : m < cells k) :
    Calls Try.prog 22 #[.agg (frA k v), .int .i64 (m : Int), .agg (arn 384 pt)] w fun e w' => e = .returned (.tuple #[]) ∧ Keeps g w w' ∧ OwnFr w' lo v g (siz k) (layF k m pt f 384) := by
  have hHN : ∀ p, p < 3 → 0 < siz k p := fun p _ => siz_some (cells_fmt hm) p
  have HN := Lib.hid hHN
  have hgs : ∀ p, p < 3 → g p < w.heap.size := fun p hp => (hO.pl p hp).lt (hHN p hp)
  have HGS := Lib.hid hgs
  obtain ⟨B, wA, wB, hB, hwA, hwB, hzA, hzB, hC0, hC1, hbC⟩ := laid2 w (.cells (frA k v) 25 (0, 0)) (.cells (arn 384 pt) 37 (0, 0))
  replace hC0 : wB.heap[B]? = some (frO 25 k v) := hC0
  replace hC1 : wB.heap[B + 1]? = some (ptO pt) := hC1
  have hOB := hO.below hHN (by rw [hB]; exact hbC)
  have hKB : Keeps g w wB := Keeps.of_below (by rw [hB]; exact hbC)
  have CP := Lib.hid (fun b i (hb : b < 6) (hi : i < 64) x => place_page k m b i x hm hb hi)
  have CW := Lib.hid (fun b (hb : b < 6) x => wide_page k (plc b) (plc_most hb) x)
  have CC := Lib.hid (fun n x => clip_page n 0 255 x)
  have HPI := Lib.hid (fun b i (hb : b < 6) (hi : i < 64) => (⟨pos_page k m b i, pos_in hm hb hi⟩ : (8 * lin k m b + i / 8) * wid k (plc b) + (8 * col k m b + i % 8) = pos k m b i ∧ pos k m b i < siz k (plc b)))
  have HSM := Lib.hid (fun p => siz_most k p)
  generalize frA k v = X at *
  generalize arn 384 pt = Y at *
  have HWA := Lib.hid hwA
  have HWB := Lib.hid hwB
  have HB := Lib.hid hB
  clear hwA hwB hB hO hHN hgs hzA
  go_enter Try.func22, Try.ntmps22
  go_wp2
  rw [HWA.out, HB.out, HWB.out]
  go_loopw [6] (fun z wr => ∃ b : Nat, b ≤ 6 ∧ z = .int .i64 b ∧ wr.heap[B]? = some (frO 25 k v) ∧ wr.heap[B + 1]? = some (ptO pt) ∧ OwnFr wr lo v g (siz k) (layF k m pt f (64 * b)) ∧ Keeps g w wr ∧ B + 2 ≤ wr.heap.size) (fun z _ => 6 - (RowKit.intOf z).toNat)
  case atStart => exact ⟨0, by omega, rfl, hC0, hC1, hOB, hKB, by omega⟩
  case round =>
    clear hC0 hC1 hbC hzB hOB hKB
    obtain ⟨b, hb6, rfl, h0, h1, hO, hK, hz⟩ := hrel
    generalize wr = wo at *
    by_cases hlt : b < 6
    · have t0 : decide ((b : Int) < 6) = true := by simp; omega
      go_wp2
      go_loopw [7] (fun z wr => ∃ i : Nat, i ≤ 64 ∧ z = .int .i64 i ∧ wr.heap[B]? = some (frO 25 k v) ∧ wr.heap[B + 1]? = some (ptO pt) ∧ OwnFr wr lo v g (siz k) (layF k m pt f (64 * b + i)) ∧ Keeps g w wr ∧ B + 2 ≤ wr.heap.size) (fun z _ => 64 - (RowKit.intOf z).toNat)
      case atStart => exact ⟨0, by omega, rfl, h0, h1, hO, hK, hz⟩
      case round =>
        clear h0 h1 hO hK hz
        obtain ⟨i, hi64, rfl, h0, h1, hO, hK, hz⟩ := hrel
        by_cases hli : i < 64
        · have t1 : decide ((i : Int) < 64) = true := by simp; omega
          have cp := fun x => CP.out b i hlt hli x
          have ck := fr_cell0 h0
          obtain ⟨hpe, hpl⟩ := HPI.out b i hlt hli
          have hP3 := plc_most hlt
          have hnm := HSM.out (plc b)
          go_wp2_with fail
          refine (cp _).mono ?_
          rintro e x ⟨rfl, hx⟩
          have g0 := (hx.block B (by omega)).trans h0
          have g1 := (hx.block (B + 1) (by omega)).trans h1
          have gO := hO.below HN.out hx
          have gK := hK.trans (Keeps.of_below hx)
          have gz : B + 2 ≤ x.heap.size := by have := hx.size; omega
          obtain ⟨cv, hv, hcv, hcell⟩ := gO.pl _ hP3
          have HKC := Lib.hid (fun (y : World) (hy : Below x.heap.size x y) => fr_cell0 ((hy.block B (by omega)).trans g0))
          have HVC := Lib.hid (fun (y : World) (hy : Below x.heap.size x y) => ((fr_cell ((hy.block B (by omega)).trans g0) hP3).trans (by rw [hv]) : y.cell? ⟨B, 1 + plc b, none⟩ = some (.slice (some ⟨g (plc b), 0, none⟩) (siz k (plc b)) cv)))
          have HPC := Lib.hid (fun (y : World) (hy : Below x.heap.size x y) => arn_cell (T := 37) (i := b * 64 + i) ((hy.block (B + 1) (by omega)).trans g1) (by omega))
          have C1 := Lib.hid (fun (y : World) (hy : Below x.heap.size x y) => ((CW.out b hlt y).mono fun e z h => ⟨h.1, hy.trans (h.2.mono hy.size)⟩ : Calls Try.prog 26 #[.int .i64 k, .int .i64 (plc b : Int)] y fun e z => e = .returned (.int .i64 (wid k (plc b) : Int)) ∧ Below x.heap.size x z))
          have C2 := Lib.hid (fun (y : World) (hy : Below x.heap.size x y) => ((CC.out (pt (b * 64 + i)) y).mono fun e z h => ⟨h.1, h.2 ▸ hy⟩ : Calls Try.prog 31 #[.int .i64 (pt (b * 64 + i)), .int .i64 0, .int .i64 255] y fun e z => e = .returned (.int .i64 (clip (pt (b * 64 + i)) 0 255)) ∧ Below x.heap.size x z))
          have HGE := Lib.hid (fun (y : World) (hy : Below x.heap.size x y) => (⟨(hy.block B (by omega)).trans g0, (hy.block (B + 1) (by omega)).trans g1, gO.below HN.out hy, gK.trans (Keeps.of_below hy), by have := hy.size; omega⟩ : y.heap[B]? = some (frO 25 k v) ∧ y.heap[B + 1]? = some (ptO pt) ∧ OwnFr y lo v g (siz k) (layF k m pt f (64 * b + i)) ∧ Keeps g w y ∧ B + 2 ≤ y.heap.size))
          have hr : 0 ≤ clip (pt (b * 64 + i)) 0 255 ∧ clip (pt (b * 64 + i)) 0 255 ≤ 255 := ⟨clip_lo _ _ _, clip_hi _ _ _ (by omega)⟩
          have hu : IntKind.u8.wrap (clip (pt (b * 64 + i)) 0 255) = clip (pt (b * 64 + i)) 0 255 := by rw [IntKind.wrap_u8]; omega
          have hgB : g (plc b) < B := by rw [← HB.out]; exact HGS.out _ hP3
          have HNX := Lib.hid (fun p j => layF_next k m pt f b i hli p j)
          rw [show 64 * b + i = b * 64 + i by omega] at HNX
          generalize clip (pt (b * 64 + i)) 0 255 = zc at C2 hr hu HNX
          generalize pt (b * 64 + i) = za at C2 HPC
          generalize 8 * col k m b + i % 8 = xx at *
          generalize 8 * lin k m b + i / 8 = yy at *
          obtain ⟨mm, hmm⟩ : ∃ mm, yy * wid k (plc b) = mm := ⟨_, rfl⟩
          rw [hmm] at hpe
          have M : (yy : Int) * (wid k (plc b) : Int) = (mm : Int) := by rw [← hmm]; exact (Int.natCast_mul _ _).symm
          have S : (mm : Int) + (xx : Int) = (pos k m b i : Int) := by omega
          have W1 : IntKind.i64.wrap (mm : Int) = (mm : Int) := wrapNat (by omega)
          have W2 : IntKind.i64.wrap (pos k m b i : Int) = (pos k m b i : Int) := wrapNat (by omega)
          have HPO := Lib.hid hpl
          generalize hPG : plc b = P at *
          generalize hPS : pos k m b i = q at *
          generalize wid k P = W at *
          generalize siz k P = N at hpl hnm HVC
          clear hmm h0 h1 hO hK hz g0 g1 gO gK gz hv hcell cp ck hx
          go_wp2
          refine wp_region_calm (S := fun y => Below x.heap.size x y) 20 (by kernel_rfl) (by kernel_rfl) (Below.refl _ _).drew ?_
          simp only [List.take_succ_cons, List.take_zero, List.drop_succ_cons, List.drop_zero]
          refine calm_value (v := ?v0) (by kernel_rfl) ?m ?_; (case m => (intro x _; go_simp; try with_reducible rfl))
          simp only [Act.put, List.setIfInBounds_toArray, List.set_cons_zero, List.set_cons_succ]
          refine calm_value (v := ?v1) (by kernel_rfl) ?m ?_; (case m => (intro x _; go_simp; try with_reducible rfl))
          simp only [Act.put, List.setIfInBounds_toArray, List.set_cons_zero, List.set_cons_succ]
          refine calm_value (v := ?v2) (by kernel_rfl) ?m ?_; (case m => (intro x _; go_simp; rw [if_pos (by omega)]))
          simp only [Act.put, List.setIfInBounds_toArray, List.set_cons_zero, List.set_cons_succ]
          refine calm_cell 22 _ ⟨B, 1 + P, none⟩ (.slice (some ⟨g P, 0, none⟩) N cv) (by kernel_rfl) rfl rfl (fun x hx => by have c0 := (HVC.out x hx); go_simp) ?_
          simp only [Act.put, List.setIfInBounds_toArray, List.set_cons_zero, List.set_cons_succ]
          refine calm_value (v := ?v4) (by kernel_rfl) ?m ?_; (case m => (intro x _; go_simp; try with_reducible rfl))
          simp only [Act.put, List.setIfInBounds_toArray, List.set_cons_zero, List.set_cons_succ]
          refine calm_value (v := ?v5) (by kernel_rfl) ?m ?_; (case m => (intro x _; go_simp; try with_reducible rfl))
          simp only [Act.put, List.setIfInBounds_toArray, List.set_cons_zero, List.set_cons_succ]
          refine calm_cell 3 _ ⟨B, 0, none⟩ (.int .i64 k) (by kernel_rfl) rfl rfl (fun x hx => by have c0 := (HKC.out x hx); go_simp) ?_
          simp only [Act.put, List.setIfInBounds_toArray, List.set_cons_zero, List.set_cons_succ]
          refine calm_value (v := ?v7) (by kernel_rfl) ?m ?_; (case m => (intro x _; go_simp; try with_reducible rfl))
          simp only [Act.put, List.setIfInBounds_toArray, List.set_cons_zero, List.set_cons_succ]
          refine calm_call (by kernel_rfl) C1.out (fun _ => by kernel_rfl) ?_
          simp only [Act.put, List.setIfInBounds_toArray, List.set_cons_zero, List.set_cons_succ]
          refine calm_value (v := ?v9) (by kernel_rfl) ?m ?_; (case m => (intro x _; go_simp; try with_reducible rfl))
          simp only [Act.put, List.setIfInBounds_toArray, List.set_cons_zero, List.set_cons_succ]
          refine calm_value (v := ?v10) (by kernel_rfl) ?m ?_; (case m => (intro x _; go_simp; try with_reducible rfl))
          simp only [Act.put, List.setIfInBounds_toArray, List.set_cons_zero, List.set_cons_succ]
          refine calm_value (v := ?v11) (by kernel_rfl) ?m ?_; (case m => (intro x _; go_simp; try with_reducible rfl))
          simp only [Act.put, List.setIfInBounds_toArray, List.set_cons_zero, List.set_cons_succ]
          refine calm_value (v := ?v12) (by kernel_rfl) ?m ?_; (case m => (intro x _; go_simp; try with_reducible rfl))
          simp only [Act.put, List.setIfInBounds_toArray, List.set_cons_zero, List.set_cons_succ]
          refine calm_value (v := ?v13) (by kernel_rfl) ?m ?_; (case m => (intro x _; go_simp; try with_reducible rfl))
          simp only [Act.put, List.setIfInBounds_toArray, List.set_cons_zero, List.set_cons_succ]
          refine calm_value (v := ?v14) (by kernel_rfl) ?m ?_; (case m => (intro x _; go_simp; rw [if_pos (by omega)]))
          simp only [Act.put, List.setIfInBounds_toArray, List.set_cons_zero, List.set_cons_succ]
          refine calm_value (v := ?v15) (by kernel_rfl) ?m ?_; (case m => (intro x _; go_simp; rw [if_pos (by omega)]))
          simp only [Act.put, List.setIfInBounds_toArray, List.set_cons_zero, List.set_cons_succ]
          refine calm_cell 3 _ ⟨B + 1, b * 64 + i, none⟩ (.int .i64 za) (by kernel_rfl) rfl rfl (fun x hx => by have c0 := (HPC.out x hx); go_simp) ?_
          simp only [Act.put, List.setIfInBounds_toArray, List.set_cons_zero, List.set_cons_succ]
          refine calm_call (by kernel_rfl) C2.out (fun _ => by kernel_rfl) ?_
          simp only [Act.put, List.setIfInBounds_toArray, List.set_cons_zero, List.set_cons_succ]
          refine calm_value (v := ?v18) (by kernel_rfl) ?m ?_; (case m => (intro x _; go_simp; try with_reducible rfl))
          simp only [Act.put, List.setIfInBounds_toArray, List.set_cons_zero, List.set_cons_succ]
          refine calm_value (v := ?v19) (by kernel_rfl) ?m ?_; (case m => (intro x _; go_simp; try with_reducible rfl))
          simp only [Act.put, List.setIfInBounds_toArray, List.set_cons_zero, List.set_cons_succ]
          refine calm_nil fun x2 hx => ?_
          obtain ⟨g0, g1, gO, gK, gz⟩ := HGE.out x2 hx
          obtain ⟨cz, -, -, hcell⟩ := gO.pl P hP3
          obtain ⟨cc, ff, -⟩ := hcell q HPO.out
          have n0 := (heap_setCell_other x2 ⟨g P, q, none⟩ B (.int .u8 zc) (by show B ≠ g P; omega)).trans g0
          have n1 := (heap_setCell_other x2 ⟨g P, q, none⟩ (B + 1) (.int .u8 zc) (by show B + 1 ≠ g P; omega)).trans g1
          have nO := (gO.set hP3 q zc hr HPO.out).congr (f' := layF k m pt f (64 * b + (i + 1))) (fun p _ j _ => by
            rw [← HNX.out p j, show b * 64 + i = 64 * b + i by omega])
          have nK := gK.trans (Keeps.of_grown hP3 rfl (grownBy_setCell x2 ⟨g P, q, none⟩ (.int .u8 zc)))
          have nz : B + 2 ≤ (x2.setCell ⟨g P, q, none⟩ (.int .u8 zc)).heap.size := by simp [World.setCell]; omega
          have REL := Lib.hid (⟨n0, n1, nO, nK, nz⟩ : (x2.setCell ⟨g P, q, none⟩ (.int .u8 zc)).heap[B]? = some (frO 25 k v) ∧ (x2.setCell ⟨g P, q, none⟩ (.int .u8 zc)).heap[B + 1]? = some (ptO pt) ∧ OwnFr (x2.setCell ⟨g P, q, none⟩ (.int .u8 zc)) lo v g (siz k) (layF k m pt f (64 * b + (i + 1))) ∧ Keeps g w (x2.setCell ⟨g P, q, none⟩ (.int .u8 zc)) ∧ B + 2 ≤ (x2.setCell ⟨g P, q, none⟩ (.int .u8 zc)).heap.size)
          clear n0 n1 nO nK nz g0 g1 gO gK gz hcell hx
          go_wp2
          go_roundw
          case rel => exact ⟨i + 1, by omega, by go_num, REL.out⟩
          case measure => simp [RowKit.intOf]; omega
        · obtain rfl : i = 64 := by omega
          have t1 : decide ((64 : Int) < 64) = false := by simp
          have hO' : OwnFr wr lo v g (siz k) (layF k m pt f (64 * (b + 1))) := hO
          clear hO
          go_wp2
          go_roundw
          case rel => exact ⟨b + 1, by omega, by go_num, h0, h1, hO', hK, hz⟩
          case measure => simp [RowKit.intOf]; omega
    · obtain rfl : b = 6 := by omega
      have t0 : decide ((6 : Int) < 6) = false := by simp
      have hO' : OwnFr wo lo v g (siz k) (layF k m pt f 384) := hO
      clear hO
      go_wp2
      go_end0
      exact ⟨rfl, hK, hO'⟩
end Go.Proofs.Ytmmgbnjfbapmcaa
