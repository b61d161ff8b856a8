/- A cell's patch, by the code. No condition. -/
import Derived.Test.YtnpmllbdpmkliaaPopen
namespace Go.Proofs.Ytnpmllbdpmkliaa
open Go.RowKit Go.Lib

def ptO (g : Nat → Int) : Obj := arnO 33 384 g
theorem pt_size : (Try.prog.info? 33).map (·.size) = some 384 := by kernel_rfl
theorem pt_sized (g : Nat → Int) : (Try.prog.info? 33).map (·.size) = some (arn 384 g).size := arn_sized pt_size g
theorem pt_zero : ∀ w, (zeroValue 33).run Try.prog w = .ok (.agg (arn 384 fun _ => 0)) w := arn_zero (by kernel_rfl)
/-- The first t numbers put. -/
theorem putS_next (g : Nat → Int) (t : Nat) : setF (putS g t) t (g t) = putS g (t + 1) := rfl
theorem cut_at (k : Int) (m : Nat) (f : Nat → Nat → Int) (b y x : Nat) (hy : y < 8) (hx : x < 8) : cutF k m f (64 * b + 8 * y + x) = f (plc b) (fst8 k m b + y * wid k (plc b) + x) := by
  unfold cutF
  rw [show (64 * b + 8 * y + x) / 64 = b by omega, show (64 * b + 8 * y + x) % 64 = 8 * y + x by omega]
  unfold pos
  rw [show (8 * y + x) / 8 = y by omega, show (8 * y + x) % 8 = x by omega]
theorem pt_put {w : World} {B t : Nat} {g : Nat → Int} (h : w.heap[B]? = some (ptO (putS g t))) : (w.setCell ⟨B, t, none⟩ (.int .i64 (g t))).heap[B]? = some (ptO (putS g (t + 1))) := by
  have := arn_put (w := w) (B := B) (i := t) (n := 384) (T := 33) (f := putS g t) (g t) h
  rw [putS_next] at this
  exact this
set_option maxRecDepth 1000000 in
set_option maxHeartbeats 8000000 in
theorem cut_code (k : Int) (v : Nat → Value) (n : Nat → Nat) (f : Nat → Nat → Int) (m : Nat) (w : World) (h : FrAt w v n f) (hr : rightF k n = true) (hm : m < cells k) :
    Calls Try.prog 17 #[.agg (frA k v), .int .i64 (m : Int)] w fun e w' => e = .returned (.tuple #[.agg (arn 384 (cutF k m f)), .int .i64 0]) ∧ Below w.heap.size w w' := by
  obtain ⟨B, wA, wB, wC, hB, hwA, hwB, hwC, hzA, hzB, hzC, hC0, hC1, hC2, hbC⟩ := laid3 w (.cells (frA k v) 29 (0, 0)) (.cells (arn 384 fun _ => 0) 33 (0, 0)) (.cells (arn 384 fun _ => 0) 33 (0, 0))
  replace hC2 : wC.heap[B + 2]? = some (ptO (putS (cutF k m f) 0)) := hC2
  have c1 := frright_code k v n wC h.slices
  rw [hr] at c1
  have c2 : ∀ w, Calls Try.prog 35 #[.int .i64 k, .int .i64 (m : Int)] w fun e w' => e = .returned (.bool true) ∧ w = w' := fun w => (hascell_code k m w).mono fun e y h => ⟨h.1.trans (by rw [hasC_iff.2 ⟨by omega, by simpa using hm⟩]), h.2⟩
  have c3 := Lib.hid (fun b (hb : b < 6) w => where_code k m b w hm hb)
  have HF := Lib.hid (fun (x : World) (hx : Below B w x) => h.below (by rw [hB]; exact hx))
  have HV := Lib.hid (rightF_iff.1 hr).2
  have hz0 := pt_zero
  have HSX := fr_sized fr_size k v
  have HPS := fun g => pt_sized g
  have HYS : (arn 384 fun _ => 0).size = 384 := arn_size _ _
  obtain ⟨X, hX⟩ : ∃ X, frA k v = X := ⟨_, rfl⟩
  have hC0' : wC.heap[B]? = some (.cells X 29 (0, 0)) := by rw [← hX]; exact hC0
  replace hC0 : wC.heap[B]? = some (frO 29 k v) := hC0
  have ck := fr_cell0 hC0
  rw [hX] at c1 hwA HSX ⊢
  obtain ⟨Y, hY⟩ : ∃ Y, (arn 384 fun _ => 0) = Y := ⟨_, rfl⟩
  rw [hY] at hwB hwC hz0 HYS hC1
  have HX := Lib.hid hX
  have HY := Lib.hid hY
  have HWA := Lib.hid hwA
  have HWB := Lib.hid hwB
  have HWC := Lib.hid hwC
  have HB := Lib.hid hB
  clear hX hY hwA hwB hwC hB h hr
  go_enter Try.func17, Try.ntmps17
  go_wp2_with (rw [HWA.out, HB.out, HWB.out, HWC.out]; with_reducible refine wpList_load_row rfl 29 _ rfl B rfl 29 X (0, 0) _ hC0' Try.underlying29 rfl HSX ?_)
  refine c1.mono ?_
  rintro e w1 ⟨rfl, hb1⟩
  have h10 := (hb1.block B (by omega)).trans hC0
  have h11 := (hb1.block (B + 1) (by omega)).trans hC1
  have h12 := (hb1.block (B + 2) (by omega)).trans hC2
  have hbw := hbC.trans (hb1.mono (by omega))
  have hz1 : B + 3 ≤ w1.heap.size := by have := hb1.size; omega
  replace ck := fr_cell0 h10
  clear hb1 hbC hC0 hC0' hC1 hC2 hzA hzB hzC c1
  go_wp2_with (with_reducible refine (c2 _).mono ?_; rintro e x ⟨rfl, rfl⟩)
  clear ck
  have HZ0 := Lib.hid hz0
  have HPP := Lib.hid HPS
  have C2 := Lib.hid c2
  have HSS := Lib.hid HSX
  clear hz0 HPS c2 HSX
  go_loopw [23] (fun z wr => ∃ b : Nat, b ≤ 6 ∧ z = .int .i64 b ∧ wr.heap[B]? = some (frO 29 k v) ∧ wr.heap[B + 1]? = some (.cells Y 33 (0, 0)) ∧ wr.heap[B + 2]? = some (ptO (putS (cutF k m f) (64 * b))) ∧ Below B w wr ∧ B + 3 ≤ wr.heap.size) (fun z _ => 6 - (RowKit.intOf z).toNat)
  case atStart => exact ⟨0, by omega, rfl, h10, h11, h12, hbw, hz1⟩
  case round =>
    clear h10 h11 h12 hbw hz1
    obtain ⟨b, hb6, rfl, h0, h1, h2, hb, hz⟩ := hrel
    generalize wr = wo at *
    by_cases hlt : b < 6
    · have t0 : decide ((b : Int) < 6) = true := by simp; omega
      have cw := fun x => c3.out b hlt x
      have hP3 := plc_most hlt
      have hNs := HV.out _ hP3
      have hN0 : 0 < n (plc b) := by rw [hNs]; exact siz_some (cells_fmt hm) _
      have hNm : n (plc b) ≤ 1073741824 := by rw [hNs]; have := siz_most k (plc b); omega
      have HLI := Lib.hid (fun y (hy : y < 8) => (by rw [hNs]; exact line_in hm hlt hy : fst8 k m b + y * wid k (plc b) + 8 ≤ n (plc b)))
      have HCA := Lib.hid (fun y x (hy : y < 8) (hx : x < 8) => cut_at k m f b y x hy hx)
      obtain ⟨ad, cc, hv, hcc, hd⟩ := HF.out wo hb _ hP3
      obtain ⟨bb, oo, rfl, -⟩ : ∃ bb oo, ad = some ⟨bb, oo, none⟩ ∧ ∀ i, i < n (plc b) → wo.cell? ⟨bb, oo + i, none⟩ = some (.int .u8 (f (plc b) i)) ∧ 0 ≤ f (plc b) i ∧ f (plc b) i ≤ 255 := by
        rcases hd with h0 | h0
        · omega
        · exact h0
      have HCE := Lib.hid (fun (x : World) (hx : Below B w x) (i : Nat) (hi : i < n (plc b)) => (by
        obtain ⟨ad', cc', hv', _, hd'⟩ := HF.out x hx _ hP3
        rw [hv] at hv'
        injection hv' with e1 _ _
        subst e1
        rcases hd' with h0 | ⟨b', o', e2, h0⟩
        · omega
        · injection e2 with e2
          injection e2 with e2 e3 _
          subst e2 e3
          exact h0 i hi : x.cell? ⟨bb, oo + i, none⟩ = some (.int .u8 (f (plc b) i)) ∧ 0 ≤ f (plc b) i ∧ f (plc b) i ≤ 255))
      have CL := Lib.hid (fun y (hy : y < 8) x => line_code (plc b) (fst8 k m b) (wid k (plc b)) y (n (plc b)) oo cc bb v x hP3 hv hcc (HLI.out y hy) hNm)
      unfold areaA at cw CL
      clear hd hNs hv
      generalize plc b = P at *
      generalize fst8 k m b = F at *
      generalize wid k P = W at *
      generalize n P = N at *
      have ck := fr_cell0 h0
      go_wp2_with fail
      refine (cw _).mono ?_
      rintro e x1 ⟨rfl, hb1⟩
      have h10 := (hb1.block B (by omega)).trans h0
      have h11 := (hb1.block (B + 1) (by omega)).trans h1
      have h12 := (hb1.block (B + 2) (by omega)).trans h2
      have hbw := hb.trans (hb1.mono (by omega))
      have hz1 : B + 3 ≤ x1.heap.size := by have := hb1.size; omega
      obtain ⟨w2, hw2⟩ : ∃ w2, x1.alloc (.cells (areaA P F W) 60 (0, 0)) = w2 := ⟨_, rfl⟩
      have h20 : w2.heap[B]? = some (frO 29 k v) := by rw [← hw2]; exact heap_keep h10
      have h21 : w2.heap[B + 1]? = some (.cells Y 33 (0, 0)) := by rw [← hw2]; exact heap_keep h11
      have h22 : w2.heap[B + 2]? = some (ptO (putS (cutF k m f) (64 * b))) := by rw [← hw2]; exact heap_keep h12
      have h23 : w2.heap[x1.heap.size]? = some (.cells (areaA P F W) 60 (0, 0)) := by rw [← hw2]; exact heap_alloc_new x1 _
      have hbw2 : Below B w w2 := by rw [← hw2]; exact hbw.alloc (by omega) _
      have hz2 : x1.heap.size < w2.heap.size := by rw [← hw2]; simp
      unfold areaA at hw2
      have HW2 := Lib.hid hw2
      clear hw2 h10 h11 h12 hbw hb1 cw ck h0 h1 h2 hb hz
      go_wp2
      rw [HW2.out]
      generalize x1.heap.size = R at *
      clear HW2
      go_loopw [31] (fun z wr => ∃ y : Nat, y ≤ 8 ∧ z = .int .i64 y ∧ wr.heap[B]? = some (frO 29 k v) ∧ wr.heap[B + 1]? = some (.cells Y 33 (0, 0)) ∧ wr.heap[B + 2]? = some (ptO (putS (cutF k m f) (64 * b + 8 * y))) ∧ wr.heap[R]? = some (.cells (areaA P F W) 60 (0, 0)) ∧ Below B w wr ∧ R < wr.heap.size) (fun z _ => 8 - (RowKit.intOf z).toNat)
      case atStart => exact ⟨0, by omega, rfl, h20, h21, h22, h23, hbw2, hz2⟩
      case round =>
        clear h20 h21 h22 h23 hbw2 hz2
        obtain ⟨y, hy8, rfl, h0, h1, h2, h3, hb, hz⟩ := hrel
        generalize wr = wp at *
        by_cases hly : y < 8
        · have t1 : decide ((y : Int) < 8) = true := by simp; omega
          have cl := CL.out y hly
          have hq := HLI.out y hly
          have HC2 := Lib.hid (fun x (hx : x < 8) => HCA.out y x hly hx)
          generalize F + y * W = q at cl hq HC2
          have ck := fr_cell0 h0
          have p0 := fr_cell h0 (p := 0) (by omega)
          have p1 := fr_cell h0 (p := 1) (by omega)
          have p2 := fr_cell h0 (p := 2) (by omega)
          obtain ⟨a0, a1, a2⟩ := area_cells h3
          go_wp2_with fail
          refine (cl _).mono ?_
          rintro e x1 ⟨rfl, hb1⟩
          have hBz := hb.size
          have h10 := (hb1.block B (by omega)).trans h0
          have h11 := (hb1.block (B + 1) (by omega)).trans h1
          have h12 := (hb1.block (B + 2) (by omega)).trans h2
          have h13 := (hb1.block R hz).trans h3
          have hbw := hb.trans (hb1.mono (by omega))
          have hzx := Nat.lt_of_lt_of_le hz hb1.size
          clear hb1 cl ck h0 h1 h2 h3 hb hz hBz p0 p1 p2 a0 a1 a2
          go_wp2
          go_loopw [40] (fun z wr => ∃ x : Nat, x ≤ 8 ∧ z = .int .i64 x ∧ wr.heap[B]? = some (frO 29 k v) ∧ wr.heap[B + 1]? = some (.cells Y 33 (0, 0)) ∧ wr.heap[B + 2]? = some (ptO (putS (cutF k m f) (64 * b + 8 * y + x))) ∧ wr.heap[R]? = some (.cells (areaA P F W) 60 (0, 0)) ∧ Below B w wr ∧ R < wr.heap.size) (fun z _ => 8 - (RowKit.intOf z).toNat)
          case atStart => exact ⟨0, by omega, rfl, h10, h11, h12, h13, hbw, hzx⟩
          case round =>
            clear h10 h11 h12 h13 hbw hzx
            obtain ⟨x, hx8, rfl, h0, h1, h2, h3, hb, hz⟩ := hrel
            by_cases hlx : x < 8
            · have t2 : decide ((x : Int) < 8) = true := by simp; omega
              obtain ⟨c0, z1, z2⟩ := HCE.out wr hb (q + x) (by omega)
              have e1 := HC2.out x hlx
              rw [← e1] at c0 z1 z2
              have wz : IntKind.i64.wrap (cutF k m f (64 * b + 8 * y + x)) = cutF k m f (64 * b + 8 * y + x) := wrapN (by omega)
              clear e1
              have eA : oo + (q + x) = oo + q + x := by omega
              rw [eA] at c0
              clear eA
              obtain ⟨t, ht⟩ : ∃ t, 64 * b + 8 * y + x = t := ⟨_, rfl⟩
              have et : b * 64 + (8 * y + x) = t := by omega
              rw [ht] at h2 c0 z1 z2 wz
              have ht4 : t < 384 := by omega
              have cc2 : wr.cell? ⟨B + 1 + 1, b * 64 + (8 * y + x), none⟩ = some (.int .i64 (putS (cutF k m f) t t)) := by rw [et]; exact arn_cell (i := t) h2 ht4
              have ff2 : wr.frozen? ⟨B + 1 + 1, b * 64 + (8 * y + x), none⟩ = false := by rw [et]; exact arn_free (i := t) h2
              have PUT := Lib.hid (⟨heap_set h0 (by simp; omega), heap_set h1 (by simp), by rw [et, show 64 * b + 8 * y + (x + 1) = t + 1 by omega]; exact pt_put h2, heap_set h3 (by simp; omega), hb.setCell (by simp; omega) _, by simp [World.setCell]; omega⟩ : (wr.setCell ⟨B + 1 + 1, b * 64 + (8 * y + x), none⟩ (.int .i64 (cutF k m f t))).heap[B]? = some (frO 29 k v) ∧ (wr.setCell ⟨B + 1 + 1, b * 64 + (8 * y + x), none⟩ (.int .i64 (cutF k m f t))).heap[B + 1]? = some (.cells Y 33 (0, 0)) ∧ (wr.setCell ⟨B + 1 + 1, b * 64 + (8 * y + x), none⟩ (.int .i64 (cutF k m f t))).heap[B + 2]? = some (ptO (putS (cutF k m f) (64 * b + 8 * y + (x + 1)))) ∧ (wr.setCell ⟨B + 1 + 1, b * 64 + (8 * y + x), none⟩ (.int .i64 (cutF k m f t))).heap[R]? = some (.cells (areaA P F W) 60 (0, 0)) ∧ Below B w (wr.setCell ⟨B + 1 + 1, b * 64 + (8 * y + x), none⟩ (.int .i64 (cutF k m f t))) ∧ R < (wr.setCell ⟨B + 1 + 1, b * 64 + (8 * y + x), none⟩ (.int .i64 (cutF k m f t))).heap.size)
              generalize putS (cutF k m f) t t = y2 at cc2
              generalize cutF k m f t = zv at *
              clear ht et h0 h1 h2 h3 hb hz
              go_wp2
              go_roundw
              case rel => exact ⟨x + 1, by omega, by go_num, PUT.out⟩
              case measure => simp [RowKit.intOf]; omega
            · obtain rfl : x = 8 := by omega
              have t2 : decide ((8 : Int) < 8) = false := by simp
              have h2' : wr.heap[B + 2]? = some (ptO (putS (cutF k m f) (64 * b + 8 * (y + 1)))) := h2
              clear h2
              go_wp2
              go_roundw
              case rel => exact ⟨y + 1, by omega, by go_num, h0, h1, h2', h3, hb, hz⟩
              case measure => simp [RowKit.intOf]; omega
        · obtain rfl : y = 8 := by omega
          have t1 : decide ((8 : Int) < 8) = false := by simp
          have h2' : wp.heap[B + 2]? = some (ptO (putS (cutF k m f) (64 * (b + 1)))) := h2
          have hz3 : B + 3 ≤ wp.heap.size := by omega
          clear h2 h3
          go_wp2
          go_roundw
          case rel => exact ⟨b + 1, by omega, by go_num, h0, h1, h2', hb, hz3⟩
          case measure => simp [RowKit.intOf]; omega
    · obtain rfl : b = 6 := by omega
      have t0 : decide ((6 : Int) < 6) = false := by simp
      have HSV := HPP.out (putS (cutF k m f) (64 * 6))
      have HOV := arn_one 384 (putS (cutF k m f) (64 * 6))
      have HVS : (arn 384 (putS (cutF k m f) (64 * 6))).size = 384 := arn_size _ _
      have HVE : arn 384 (putS (cutF k m f) (64 * 6)) = arn 384 (cutF k m f) := arn_congr (putS_most 384 (cutF k m f))
      have h2' : wo.heap[B + 2]? = some (.cells (arn 384 (putS (cutF k m f) (64 * 6))) 33 (0, 0)) := h2
      clear h2
      rw [HVE] at HSV HOV HVS h2'
      obtain ⟨V, hV⟩ : ∃ V, arn 384 (cutF k m f) = V := ⟨_, rfl⟩
      rw [hV] at HSV HOV HVS h2'
      have HVV := Lib.hid hV
      have HYV : Y.size = V.size := by rw [HYS, HVS]
      clear HVE hV
      go_wp2_with (first | (with_reducible refine wpList_load_row rfl 33 _ rfl (B + 2) rfl 33 V (0, 0) _ h2' Try.underlying33 rfl HSV ?_) | (with_reducible refine wp_store_arr rfl 33 _ _ rfl (B + 1) V Y rfl rfl 33 h1 HSV HYV HOV ?_; intro w2 hh2 hg2))
      refine bodyPost_ret (results_pair rfl _ _ (B + 1) 33 _ (0, 0) _ rfl hh2 Try.underlying33 rfl HSV) rfl ?_
      exact ⟨by rw [HVV.out]; rfl, by rw [HB.out]; exact hb.grown hg2 (by omega) (fun k hk => by injection hk with hk; omega)⟩
end Go.Proofs.Ytnpmllbdpmkliaa
