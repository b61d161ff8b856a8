/- Canvases made, and the frames that they are. No condition. -/
import Derived.Test.YtmmgbnjfbapmcaaPclone
import Derived.Test.YtmmgbnjfbapmcaaPnewd
import Derived.Test.YtmmgbnjfbapmcaaPlay
namespace Go.Proofs.Ytmmgbnjfbapmcaa
open Go.RowKit Go.Lib

theorem clip_nought : clip 0 0 255 = 0 := by decide +kernel
set_option maxRecDepth 1000000 in
set_option maxHeartbeats 8000000 in
theorem on_none (k : Int) (w : World) (hk : isFmt k = false) : Calls Try.prog 18 #[.int .i64 k] w fun e w' => e = .returned (.tuple #[.pointer none, .int .i64 1]) ∧ Below w.heap.size w w' := by
  have c1 := fun w => new_none k 0 w hk
  have hFz : ∀ w, (zeroValue 25).run Try.prog w = .ok (.agg (frA 0 nilV)) w := fr_zero
  have HSV := fr_sized fr_size 0 nilV
  have HOV := fr_ones 0 nilV (fun _ _ => rfl)
  generalize frA 0 nilV = Z at *
  go_enter Try.func18, Try.ntmps18
  go_wp2_with fail
  refine (c1 _).mono ?_
  rintro e x ⟨rfl, hb⟩
  go_wp2_with (with_reducible refine wp_store_fresh rfl 25 _ _ rfl Z Z 25 rfl rfl HSV rfl HOV ?_)
  go_ret2
  exact ⟨rfl, hb.alloc hb.size _⟩
/-- What a canvas is. -/
structure CanAt (w : World) (lo C : Nat) (k : Int) (v : Nat → Value) (g : Nat → Nat) (f : Nat → Nat → Int) : Prop where
  there : w.heap[C]? = some (frO 49 k v)
  own : OwnFr w lo v g (siz k) f
  low : lo ≤ C
  far : ∀ p, p < 3 → C ≠ g p
theorem CanAt.below {w w' : World} {lo C : Nat} {k : Int} {v : Nat → Value} {g : Nat → Nat} {f : Nat → Nat → Int} (h : CanAt w lo C k v g f) (hk : isFmt k = true) (hb : Below w.heap.size w w') : CanAt w' lo C k v g f :=
  ⟨(hb.block C (Array.getElem?_eq_some_iff.1 h.there).1).trans h.there, h.own.below (fun p _ => siz_some hk p) hb, h.low, h.far⟩
set_option maxRecDepth 1000000 in
set_option maxHeartbeats 8000000 in
theorem on_code (k : Int) (w : World) (hk : isFmt k = true) : Calls Try.prog 18 #[.int .i64 k] w fun e w' => ∃ C v g, e = .returned (.tuple #[.pointer (some ⟨C, 0, none⟩), .int .i64 0]) ∧ CanAt w' w.heap.size C k v g (fun _ _ => 0) ∧ Below w.heap.size w w' := by
  have c1 := new_code k 0 w hk
  rw [clip_nought] at c1
  have hFz : ∀ w, (zeroValue 25).run Try.prog w = .ok (.agg (frA 0 nilV)) w := fr_zero
  have hYs : (frA 0 nilV).size = 4 := rfl
  generalize frA 0 nilV = Y at *
  go_enter Try.func18, Try.ntmps18
  go_wp2_with fail
  refine c1.mono ?_
  rintro e x ⟨v, g, rfl, hO, hb⟩
  have hHN : ∀ p, p < 3 → 0 < siz k p := fun p _ => siz_some hk p
  have HSV := fr_sized fr_size k v
  have HOV := fr_ones k v hO.ones
  have HYV : Y.size = (frA k v).size := hYs
  obtain ⟨x1, hx1⟩ : ∃ x1, x.alloc (.cells (frA k v) 25 (0, 0)) = x1 := ⟨_, rfl⟩
  have h1 : x1.heap[x.heap.size]? = some (frO 25 k v) := by rw [← hx1]; exact heap_alloc_new x _
  have hb1 : Below x.heap.size x x1 := by rw [← hx1]; exact (Below.refl _ x).alloc (Nat.le_refl _) _
  have hO1 := hO.below hHN hb1
  have ck := fr_cell0 h1
  have p0 := fr_cell h1 (p := 0) (by omega)
  have p1 := fr_cell h1 (p := 1) (by omega)
  have p2 := fr_cell h1 (p := 2) (by omega)
  have HW1 := Lib.hid hx1
  have hlt : ∀ p, p < 3 → g p < x1.heap.size := fun p hp => (hO1.pl p hp).lt (hHN p hp)
  have REL := Lib.hid (⟨heap_alloc_new x1 _, hO1.below hHN ((Below.refl _ x1).alloc (Nat.le_refl _) _), by have := hb.size; have := hb1.size; omega, fun p hp => by have := hlt p hp; omega⟩ : CanAt (x1.alloc (.cells (frA k v) 49 (0, 0))) w.heap.size x1.heap.size k v g (fun _ _ => 0))
  have RB := Lib.hid ((hb.trans (hb1.mono hb.size)).alloc (by have := hb.size; have := hb1.size; omega) (.cells (frA k v) 49 (0, 0)))
  unfold frA frL at REL RB
  obtain ⟨Z, hZ⟩ : ∃ Z, frA k v = Z := ⟨_, rfl⟩
  rw [hZ] at HSV HOV HYV HW1
  rw [hZ]
  clear hx1 hZ h1 hb1 hO1 hO hb hlt hYs
  go_wp2_with (with_reducible refine wp_store_fresh rfl 25 _ _ rfl Z Y 25 rfl rfl HSV HYV HOV ?_; rw [HW1.out])
  go_ret2
  exact ⟨_, v, g, rfl, REL.out, RB.out⟩
set_option maxRecDepth 1000000 in
theorem frame_nil (w : World) : Calls Try.prog 20 #[.pointer none] w fun e w' => e = .returned (.agg (frA 0 nilV)) ∧ Below w.heap.size w w' := by
  have hb1 : ∀ o, Below w.heap.size w (w.alloc o) := fun o => (Below.refl _ w).alloc (Nat.le_refl _) _
  go_enter Try.func20, Try.ntmps20
  go_wp2
  exact bodyPost_ret (results_cell_row rfl _ _ w.heap.size 25 _ (0, 0) _ rfl (heap_alloc_new w _) Try.underlying25 rfl fr_size) rfl ⟨rfl, hb1 _⟩
set_option maxRecDepth 1000000 in
set_option maxHeartbeats 8000000 in
theorem frame_code (k : Int) (lo C : Nat) (v : Nat → Value) (g : Nat → Nat) (f : Nat → Nat → Int) (w : World) (hk : isFmt k = true) (hc : CanAt w lo C k v g f) :
    Calls Try.prog 20 #[.pointer (some ⟨C, 0, none⟩)] w (NewdGives k f w) := by
  have HN := Lib.hid (fun p => siz_some hk p)
  have HM := Lib.hid (fun p => siz_most k p)
  obtain ⟨B, hB⟩ : ∃ B, w.heap.size = B := ⟨_, rfl⟩
  have hC := hc.there
  have hCs : C < B := by rw [← hB]; exact (Array.getElem?_eq_some_iff.1 hC).1
  obtain ⟨wA, hwA⟩ : ∃ wA, w.alloc (.cells (frA 0 nilV) 25 (0, 0)) = wA := ⟨_, rfl⟩
  obtain ⟨wB, hwB⟩ : ∃ wB, wA.alloc (.cells (frA k nilV) 25 (0, 0)) = wB := ⟨_, rfl⟩
  have hzA : wA.heap.size = B + 1 := by rw [← hwA, ← hB]; simp
  have hzB : wB.heap.size = B + 2 := by rw [← hwB]; simp [hzA]
  have hC0 : wB.heap[B]? = some (frO 25 0 nilV) := by rw [← hwB]; refine heap_keep ?_; rw [← hwA, ← hB]; exact heap_alloc_new w _
  have hC1 : wB.heap[B + 1]? = some (frO 25 k nilV) := by rw [← hwB, ← hzA]; exact heap_alloc_new wA _
  have hbC : Below B w wB := by rw [← hwB, ← hwA, ← hB]; exact ((Below.refl _ w).alloc (Nat.le_refl _) _).alloc (by simp) _
  have HCC := Lib.hid (fun (x : World) (hx : Below B w x) => (hx.block C hCs).trans hC)
  have HO := Lib.hid (fun (x : World) (hx : Below B w x) => hc.own.below (fun p _ => siz_some hk p) (by rw [hB]; exact hx))
  have HP0 := Lib.hid (PlSo.none wB (B + 2) (fun _ => 0) (siz k) f)
  have HIX := Lib.hid (fun p (hp : p < 3) w => fr_index v hp w)
  have ck := fr_cell0 (HCC.out wB hbC)
  have p0 := fr_cell (HCC.out wB hbC) (p := 0) (by omega)
  have p1 := fr_cell (HCC.out wB hbC) (p := 1) (by omega)
  have p2 := fr_cell (HCC.out wB hbC) (p := 2) (by omega)
  have ckA : wA.cell? ⟨C, 0, none⟩ = some (.int .i64 k) := by
    rw [← hwA]
    exact fr_cell0 (T := 49) (v := v) (heap_keep hC)
  have ckW : (w.alloc (.cells (frA 0 nilV) 25 (0, 0))).cell? ⟨C, 0, none⟩ = some (.int .i64 k) := by rw [hwA]; exact ckA
  unfold frA frL nilV at hwA hwB ckW
  rw [← hwB, ← hwA] at p0 p1 p2
  have HWA := Lib.hid hwA
  have HWB := Lib.hid hwB
  have HB := Lib.hid hB
  clear hwA hwB hB hC hk hc hzA
  go_enter Try.func20, Try.ntmps20
  go_wp2
  rw [HWA.out, HB.out, HWB.out]
  clear p0 p1 p2 ck ckA ckW
  go_loopw [20] (fun z wr => ∃ i : Nat, i ≤ 3 ∧ z = .int .i64 i ∧ ∃ v' g', wr.heap[B]? = some (frO 25 0 nilV) ∧ wr.heap[B + 1]? = some (frO 25 k v') ∧ PlSo wr (B + 2) v' g' (siz k) f i ∧ Below B w wr ∧ B + 2 ≤ wr.heap.size) (fun z _ => 3 - (RowKit.intOf z).toNat)
  case atStart => exact ⟨0, by omega, rfl, nilV, fun _ => 0, hC0, hC1, HP0.out, hbC, by omega⟩
  case round =>
    clear hC0 hC1 hbC hzB HP0
    obtain ⟨i, hi, rfl, v', g', h0, h1, hP, hb, hz⟩ := hrel
    by_cases hlt : i < 3
    · have t0 : decide ((i : Int) < 3) = true := by simp; omega
      have hix := fun w => HIX.out i hlt w
      have hOi := (HO.out wr hb).pl i hlt
      have hn0 := HN.out i
      have hnm := HM.out i
      go_wp2_with fail
      refine (clone_code (v i) (g i) (siz k i) (f i) _ hOi hn0 (by omega)).mono ?_
      rintro e w3 ⟨x, R, rfl, hR, hx, hbx⟩
      obtain ⟨cx, hxe⟩ : ∃ c, x = .slice (some ⟨R, 0, none⟩) (siz k i) c := by
        obtain ⟨c, h, _⟩ := hx
        exact ⟨c, h⟩
      subst hxe
      have h03 := (hbx.block B (by omega)).trans h0
      have h13 := (hbx.block (B + 1) (by omega)).trans h1
      have cc := fr_cell h13 hlt
      have ff := fr_free h13 (1 + i)
      generalize hNE : siz k i = N at *
      have PUT := Lib.hid (⟨setV v' i (.slice (some ⟨R, 0, none⟩) N cx), _, heap_set h03 (by simp), fr_put h13 hlt _, (hP.next HN.out hbx hz (by rw [hNE]; exact hx) hR).set (by simp) _, (hb.trans (hbx.mono (by omega))).setCell (by simp) _, by have := hbx.size; simp [World.setCell]; omega⟩ : ∃ v' g', (w3.setCell ⟨B + 1, 1 + i, none⟩ (.slice (some ⟨R, 0, none⟩) N cx)).heap[B]? = some (frO 25 0 nilV) ∧ (w3.setCell ⟨B + 1, 1 + i, none⟩ (.slice (some ⟨R, 0, none⟩) N cx)).heap[B + 1]? = some (frO 25 k v') ∧ PlSo (w3.setCell ⟨B + 1, 1 + i, none⟩ (.slice (some ⟨R, 0, none⟩) N cx)) (B + 2) v' g' (siz k) f (i + 1) ∧ Below B w (w3.setCell ⟨B + 1, 1 + i, none⟩ (.slice (some ⟨R, 0, none⟩) N cx)) ∧ B + 2 ≤ (w3.setCell ⟨B + 1, 1 + i, none⟩ (.slice (some ⟨R, 0, none⟩) N cx)).heap.size)
      clear h03 h13 hbx hx hP h0 h1 hb hOi hNE
      go_wp2
      go_roundw
      case rel => exact ⟨i + 1, by omega, by go_num, PUT.out⟩
      case measure => simp [RowKit.intOf]; omega
    · obtain rfl : i = 3 := by omega
      have t0 : decide ((3 : Int) < 3) = false := by simp
      have hA := hP.all
      have HSV := fr_sized fr_size k v'
      have HOV := fr_ones k v' hA.ones
      have HYV : (frA 0 nilV).size = (frA k v').size := rfl
      have h0' : wr.heap[B]? = some (.cells (frA 0 nilV) 25 (0, 0)) := h0
      have h1' : wr.heap[B + 1]? = some (.cells (frA k v') 25 (0, 0)) := h1
      have HA := Lib.hid hA
      clear h0 h1 hA hP
      obtain ⟨Z, hZ⟩ : ∃ Z, frA k v' = Z := ⟨_, rfl⟩
      rw [hZ] at HSV HOV HYV h1'
      have HZ := Lib.hid hZ
      clear hZ
      generalize frA 0 nilV = Y at *
      go_wp2_with (first | (with_reducible refine wpList_load_row rfl 25 _ rfl (B + 1) rfl 25 Z (0, 0) _ h1' Try.underlying25 rfl HSV ?_) | (with_reducible refine wp_store_arr rfl 25 _ _ rfl B Z Y rfl rfl 25 h0' HSV HYV HOV ?_; intro w2 hh2 hg2))
      refine bodyPost_ret (results_cell_row rfl _ _ B 25 _ (0, 0) _ rfl hh2 Try.underlying25 rfl HSV) rfl ?_
      refine ⟨v', g', by rw [HZ.out], ?_, ?_⟩
      · rw [HB.out]
        refine (HA.out.mono (by omega)).keep fun p hp => hg2.block _ ((HA.out.pl p hp).lt (HN.out p)) ?_
        have := HA.out.from_ p hp
        intro e
        injection e with e
        omega
      · rw [HB.out]
        exact hb.grown hg2 (by omega) (fun k hk => by injection hk with hk; omega)
end Go.Proofs.Ytmmgbnjfbapmcaa
