/- New frames of the code's: all samples one number. No condition. -/
import Derived.Test.YtnpmllbdpmkliaaPrep
import Derived.Test.YtnpmllbdpmkliaaPright
namespace Go.Proofs.Ytnpmllbdpmkliaa
open Go.RowKit Go.Lib

/-- The first i of three planes laid. -/
structure PlSo (w : World) (lo : Nat) (v : Nat → Value) (g n : Nat → Nat) (f : Nat → Nat → Int) (i : Nat) : Prop where
  pl : ∀ p, p < i → OwnPl w (v p) (g p) (n p) (f p)
  from_ : ∀ p, p < i → lo ≤ g p
  apart : ∀ p q, p < i → q < i → p ≠ q → g p ≠ g q
  rest : ∀ p, i ≤ p → v p = .slice none 0 0
theorem PlSo.none (w : World) (lo : Nat) (g n : Nat → Nat) (f : Nat → Nat → Int) : PlSo w lo nilV g n f 0 := ⟨fun p hp => by omega, fun p hp => by omega, fun p q hp => by omega, fun _ _ => rfl⟩
section
variable {w w' : World} {lo : Nat} {v : Nat → Value} {g n : Nat → Nat} {f : Nat → Nat → Int} {i : Nat}
theorem PlSo.keep (h : PlSo w lo v g n f i) (hk : ∀ p, p < i → w'.heap[g p]? = w.heap[g p]?) : PlSo w' lo v g n f i := ⟨fun p hp => (h.pl p hp).keep (hk p hp), h.from_, h.apart, h.rest⟩
theorem PlSo.set (h : PlSo w lo v g n f i) {a : Addr} (ha : a.block < lo) (x : Value) : PlSo (w.setCell a x) lo v g n f i := h.keep fun p hp => heap_setCell_other w a (g p) x (by have := h.from_ p hp; omega)
theorem PlSo.next (h : PlSo w lo v g n f i) (hn : ∀ p, 0 < n p) (hb : Below w.heap.size w w') (hlo : lo ≤ w.heap.size) {x : Value} {R : Nat} (hx : OwnPl w' x R (n i) (f i)) (hR : w.heap.size ≤ R) :
    PlSo w' lo (setV v i x) (fun q => if q = i then R else g q) n f (i + 1) := by
  have hlt : ∀ p, p < i → g p < w.heap.size := fun p hp => (h.pl p hp).lt (hn p)
  refine ⟨fun p hp => ?_, fun p hp => ?_, fun p q hp hq hne => ?_, fun p hp => ?_⟩
  · by_cases e : p = i
    · subst e
      rw [setV_at]
      simp only [if_true]
      exact hx
    · rw [setV_other _ _ e]
      simp only [if_neg e]
      exact (h.pl p (by omega)).keep (hb.block _ (hlt p (by omega)))
  · by_cases e : p = i
    · simp only [if_pos e]; omega
    · simp only [if_neg e]; exact h.from_ p (by omega)
  · by_cases e : p = i
    · have e2 : ¬ q = i := fun e3 => hne (e.trans e3.symm)
      simp only [if_pos e, if_neg e2]
      have := hlt q (by omega)
      omega
    · by_cases e2 : q = i
      · simp only [if_neg e, if_pos e2]
        have := hlt p (by omega)
        omega
      · simp only [if_neg e, if_neg e2]
        exact h.apart p q (by omega) (by omega) hne
  · rw [setV_other _ _ (by omega)]
    exact h.rest p (by omega)
theorem PlSo.all (h : PlSo w lo v g n f 3) : OwnFr w lo v g n f := ⟨h.pl, h.from_, h.apart⟩
end
theorem fr_size : (Try.prog.info? 29).map (·.size) = some 4 := by kernel_rfl
theorem fr_zero (w : World) : (zeroValue 29).run Try.prog w = .ok (.agg (frA 0 nilV)) w := by
  have h : (Try.prog.info? 29).map (fun i => i.zero) = some (some (.agg (frA 0 nilV))) := by kernel_rfl
  generalize frA 0 nilV = Z at h ⊢
  cases hq : Try.prog.info? 29 with
  | none => simp [hq] at h
  | some i =>
    simp [hq] at h
    simp [zeroValue, typeInfo, hq, h]

/-- What New gives of a format that there is. -/
def NewGives (k : Int) (f : Nat → Nat → Int) (w : World) (e : Ending) (w' : World) : Prop :=
  ∃ v g, e = .returned (.tuple #[.agg (frA k v), .int .i64 0]) ∧ OwnFr w' w.heap.size v g (siz k) f ∧ Below w.heap.size w w'
set_option maxRecDepth 1000000 in
set_option maxHeartbeats 8000000 in
theorem new_none (k s : Int) (w : World) (hk : isFmt k = false) : Calls Try.prog 18 #[.int .i64 k, .int .i64 s] w fun e w' => e = .returned (.tuple #[.agg (frA 0 nilV), .int .i64 1]) ∧ Below w.heap.size w w' := by
  have c := fun w => isformat_code k w
  rw [hk] at c
  have hb1 : ∀ o, Below w.heap.size w (w.alloc o) := fun o => (Below.refl _ w).alloc (Nat.le_refl _) _
  go_enter Try.func18, Try.ntmps18
  go_wp2_with (with_reducible refine (c _).mono ?_; rintro e w1 ⟨rfl, rfl⟩)
  exact bodyPost_ret (results_pair rfl _ _ w.heap.size 29 _ (0, 0) _ rfl (heap_alloc_new w _) Try.underlying29 rfl fr_size) rfl ⟨rfl, hb1 _⟩
set_option maxRecDepth 1000000 in
set_option maxHeartbeats 8000000 in
theorem new_code (k s : Int) (w : World) (hk : isFmt k = true) : Calls Try.prog 18 #[.int .i64 k, .int .i64 s] w (NewGives k (fun _ _ => clip s 0 255) w) := by
  have c1 := fun w => isformat_code k w
  rw [hk] at c1
  have c2 := fun w => clipped_code s w
  have hr : 0 ≤ clip s 0 255 ∧ clip s 0 255 ≤ 255 := ⟨clip_lo _ _ _, clip_hi _ _ _ (by omega)⟩
  have HN := Lib.hid (fun p => siz_some hk p)
  generalize clip s 0 255 = y at *
  obtain ⟨B, wA, wB, hB, hwA, hwB, hzA, hzB, hC0, hC1, hbC⟩ := laid2 w (.cells (frA 0 nilV) 29 (0, 0)) (.cells (frA k nilV) 29 (0, 0))
  unfold frA frL nilV at hwA hwB
  have HWA := Lib.hid hwA
  have HWB := Lib.hid hwB
  have HB := Lib.hid hB
  have HP0 := Lib.hid (PlSo.none wB (B + 2) (fun _ => 0) (siz k) (fun _ _ => y))
  have CS := Lib.hid (fun p hp w => samples_code k p hp w)
  have HM := Lib.hid (fun p => siz_most k p)
  clear hwA hwB hB hk hzA
  go_enter Try.func18, Try.ntmps18
  go_wp2_with (with_reducible refine (c1 _).mono ?_; rintro e w1 ⟨rfl, rfl⟩)
  rw [HWA.out, HB.out, HWB.out]
  go_loopw [14] (fun z wr => ∃ i : Nat, i ≤ 3 ∧ z = .int .i64 i ∧ ∃ v g, wr.heap[B]? = some (frO 29 0 nilV) ∧ wr.heap[B + 1]? = some (frO 29 k v) ∧ PlSo wr (B + 2) v g (siz k) (fun _ _ => y) i ∧ Below B w wr ∧ B + 2 ≤ wr.heap.size) (fun z _ => 3 - (RowKit.intOf z).toNat)
  case atStart => exact ⟨0, by omega, rfl, nilV, fun _ => 0, hC0, hC1, HP0.out, hbC, by omega⟩
  case round =>
    clear hC0 hC1 hbC hzB HP0
    obtain ⟨i, hi, rfl, v, g, h0, h1, hP, hb, hz⟩ := hrel
    by_cases hlt : i < 3
    · have t0 : decide ((i : Int) < 3) = true := by simp; omega
      have c3 := CS.out i hlt
      have hn0 := HN.out i
      have hnm := HM.out i
      have HPH := Lib.hid hP
      have H0 := Lib.hid h0
      have H1 := Lib.hid h1
      have HBB := Lib.hid hb
      clear h0 h1 hP hb
      generalize hN : siz k i = N at c3 hn0 hnm
      have HNN := Lib.hid hN
      clear hN
      go_wp2_with (first | (with_reducible refine (c2 _).mono ?_; rintro e w1 ⟨rfl, rfl⟩) | (with_reducible refine (c3 _).mono ?_; rintro e w1 ⟨rfl, rfl⟩))
      have hce : (wr.alloc (.cells #[.int .u8 y] 5 (0, 0))).cell? ⟨wr.heap.size, 0, none⟩ = some (.int .u8 y) := cell_of_row _ _ 0 _ _ _ (heap_alloc_new wr _)
      have hba : Below wr.heap.size wr (wr.alloc (.cells #[.int .u8 y] 5 (0, 0))) := (Below.refl _ wr).alloc (Nat.le_refl _) _
      have hza : (wr.alloc (.cells #[.int .u8 y] 5 (0, 0))).heap.size = wr.heap.size + 1 := by simp
      refine (repeat_code wr.heap.size 1 N y _ hce hr hn0 (by omega)).mono ?_
      rintro e w3 ⟨x, rfl, hx, hbx⟩
      generalize wr.alloc (.cells #[.int .u8 y] 5 (0, 0)) = wx at hbx hx hba hza
      obtain ⟨cx, hxe⟩ : ∃ c, x = .slice (some ⟨wx.heap.size, 0, none⟩) N c := by
        obtain ⟨c, h, _⟩ := hx
        exact ⟨c, h⟩
      subst hxe
      have hb3 : Below wr.heap.size wr w3 := hba.trans (hbx.mono (by omega))
      have h03 := (hb3.block B (by omega)).trans H0.out
      have h13 := (hb3.block (B + 1) (by omega)).trans H1.out
      have cc := fr_cell h13 hlt
      have ff := fr_free h13 (1 + i)
      have PUT := Lib.hid (⟨setV v i (.slice (some ⟨wx.heap.size, 0, none⟩) N cx), _, heap_set h03 (by simp), fr_put h13 hlt _, (HPH.out.next HN.out hb3 hz (by rw [HNN.out]; exact hx) (by omega)).set (by simp) _, (HBB.out.trans (hb3.mono (by omega))).setCell (by simp) _, by have := hb3.size; simp [World.setCell]; omega⟩ : ∃ v g, (w3.setCell ⟨B + 1, 1 + i, none⟩ (.slice (some ⟨wx.heap.size, 0, none⟩) N cx)).heap[B]? = some (frO 29 0 nilV) ∧ (w3.setCell ⟨B + 1, 1 + i, none⟩ (.slice (some ⟨wx.heap.size, 0, none⟩) N cx)).heap[B + 1]? = some (frO 29 k v) ∧ PlSo (w3.setCell ⟨B + 1, 1 + i, none⟩ (.slice (some ⟨wx.heap.size, 0, none⟩) N cx)) (B + 2) v g (siz k) (fun _ _ => y) (i + 1) ∧ Below B w (w3.setCell ⟨B + 1, 1 + i, none⟩ (.slice (some ⟨wx.heap.size, 0, none⟩) N cx)) ∧ B + 2 ≤ (w3.setCell ⟨B + 1, 1 + i, none⟩ (.slice (some ⟨wx.heap.size, 0, none⟩) N cx)).heap.size)
      clear h03 h13 hb3 hbx hx hba hza hce
      go_wp2
      go_roundw
      case rel => exact ⟨i + 1, by omega, by go_num, PUT.out⟩
      case measure => simp [RowKit.intOf]; omega
    · obtain rfl : i = 3 := by omega
      have t0 : decide ((3 : Int) < 3) = false := by simp
      have hA := hP.all
      have HSV := fr_sized fr_size k v
      have HOV := fr_ones k v hA.ones
      have HYV : (frA 0 nilV).size = (frA k v).size := rfl
      have h0' : wr.heap[B]? = some (.cells (frA 0 nilV) 29 (0, 0)) := h0
      have h1' : wr.heap[B + 1]? = some (.cells (frA k v) 29 (0, 0)) := h1
      have HA := Lib.hid hA
      clear h0 h1 hA hP
      obtain ⟨Z, hZ⟩ : ∃ Z, frA k v = Z := ⟨_, rfl⟩
      rw [hZ] at HSV HOV HYV h1'
      have HZ := Lib.hid hZ
      clear hZ
      generalize frA 0 nilV = Y at *
      go_wp2_with (first | (with_reducible refine wpList_load_row rfl 29 _ rfl (B + 1) rfl 29 Z (0, 0) _ h1' Try.underlying29 rfl HSV ?_) | (with_reducible refine wp_store_arr rfl 29 _ _ rfl B Z Y rfl rfl 29 h0' HSV HYV HOV ?_; intro w2 hh2 hg2))
      refine bodyPost_ret (results_pair rfl _ _ B 29 _ (0, 0) _ rfl hh2 Try.underlying29 rfl HSV) rfl ?_
      refine ⟨v, g, by rw [HZ.out]; rfl, ?_, ?_⟩
      · rw [HB.out]
        refine (HA.out.mono (by omega)).keep fun p hp => hg2.block _ ((HA.out.pl p hp).lt (HN.out p)) ?_
        have := HA.out.from_ p hp
        intro e
        injection e with e
        omega
      · rw [HB.out]
        exact hb.grown hg2 (by omega) (fun k hk => by injection hk with hk; omega)
end Go.Proofs.Ytnpmllbdpmkliaa
