/- The walk of PlanesBack. No condition. -/
import Derived.Test.YtmmgbnjfbapmcaaPframe
import Derived.Test.YtmmgbnjfbapmcaaPcutn
namespace Go.Proofs.Ytmmgbnjfbapmcaa
open Go.RowKit

theorem BtAt.congr {w : World} {v : Value} {n : Nat} {f g : Nat → Int} (h : BtAt w v n f) (hf : ∀ i, i < n → f i = g i) : BtAt w v n g := by
  obtain ⟨p, c, rfl, hc, h⟩ := h
  refine ⟨p, c, rfl, hc, ?_⟩
  rcases h with h | ⟨b, o, rfl, h⟩
  · exact .inl h
  · refine .inr ⟨b, o, rfl, fun i hi => ?_⟩
    rw [← hf i hi]
    exact h i hi
/-- The same samples, noughts beyond them. -/
def cutTo (n : Nat → Nat) (f : Nat → Nat → Int) : Nat → Nat → Int := fun p j => if p < 3 ∧ j < n p then f p j else 0
theorem FrAt.cutTo {w : World} {v : Nat → Value} {n : Nat → Nat} {f : Nat → Nat → Int} (h : FrAt w v n f) : FrAt w v n (cutTo n f) ∧ ∀ p j, 0 ≤ cutTo n f p j ∧ cutTo n f p j ≤ 255 := by
  refine ⟨fun p hp => (h p hp).congr fun i hi => ?_, fun p j => ?_⟩
  · unfold Go.Proofs.Ytmmgbnjfbapmcaa.cutTo
    rw [if_pos ⟨hp, hi⟩]
  · unfold Go.Proofs.Ytmmgbnjfbapmcaa.cutTo
    by_cases e : p < 3 ∧ j < n p
    · rw [if_pos e]
      exact (h p e.1).range j e.2
    · rw [if_neg e]
      omega
/-- The first i cells are the frame's. -/
def Good (k : Int) (f cf : Nat → Nat → Int) (i : Nat) : Prop := ∀ m, m < i → ∀ b q, b < 6 → q < 64 → cf (plc b) (pos k m b q) = f (plc b) (pos k m b q)
theorem Good.lay {k : Int} {f cf : Nat → Nat → Int} {i : Nat} (h : Good k f cf i) (hf : ∀ p j, 0 ≤ f p j ∧ f p j ≤ 255) (m : Nat) : Good k f (layF k m (cutF k m f) cf 384) i := fun m' hm b q hb hq => back_keep k m f cf hf (h m' hm b q hb hq) 384
theorem Good.next {k : Int} {f cf : Nat → Nat → Int} {i : Nat} (h : Good k f cf i) (hf : ∀ p j, 0 ≤ f p j ∧ f p j ≤ 255) : Good k f (layF k i (cutF k i f) cf 384) (i + 1) := by
  intro m hm b q hb hq
  by_cases e : m = i
  · subst e
    exact back_cell k m f cf hf b q hq 384 (by omega)
  · exact h.lay hf i m (by omega) b q hb hq
theorem Good.all {k : Int} {f cf : Nat → Nat → Int} (h : Good k f cf (cells k)) : ∀ p, p < 3 → ∀ j, j < siz k p → cf p j = f p j := by
  intro p hp j hj
  obtain ⟨m, b, q, hm, hb, hq, rfl, rfl⟩ := some_cell hp hj
  exact h m hm b q hb hq

theorem CanAt.laid {w w' : World} {lo C : Nat} {k : Int} {v : Nat → Value} {g : Nat → Nat} {f f' : Nat → Nat → Int} (h : CanAt w lo C k v g f) (hK : Keeps g w w') (hO : OwnFr w' lo v g (siz k) f') : CanAt w' lo C k v g f' :=
  ⟨(hK.block C (Array.getElem?_eq_some_iff.1 h.there).1 (fun p hp => h.far p hp)).trans h.there, hO, h.low, h.far⟩
/-- One number of 16 bits. -/
def U16 (vs : List Value) : Prop := ∃ x : Nat, vs = [.int .u16 (x : Int)] ∧ x < 65536
theorem u16_row {H : Type} {enc : TypeId × Value → H} {P : Program} {w : World} {base : Nat} {sp : Nat → Bool} {held : Bool} {e : TypeId} (he : P.underlying e = some (.int .u16)) :
    ∀ k (vs : List Value) y, vs.length = 1 → DataW.trod enc P w base sp held k e vs = some y → U16 vs := by
  intro k vs y hl h
  match vs, hl with
  | [v0], _ =>
    obtain ⟨x0, q0, _, w0⟩ := DataW.trod_int he h
    injection q0 with q0
    have h' : (decide (IntKind.u16.min ≤ x0) && decide (x0 ≤ IntKind.u16.max)) = true := w0
    rw [Bool.and_eq_true, decide_eq_true_iff, decide_eq_true_iff] at h'
    have e1 : IntKind.u16.min = 0 := rfl
    have e2 : IntKind.u16.max = 65535 := rfl
    refine ⟨x0.toNat, ?_, by omega⟩
    rw [q0, show ((x0.toNat : Nat) : Int) = x0 by omega]

set_option maxRecDepth 1000000 in
set_option maxHeartbeats 8000000 in
theorem planesBack_walk (k : Int) (v : Nat → Value) (n : Nat → Nat) (f0 : Nat → Nat → Int) (op : Option Addr) (len cap : Nat) (w : World) (_ : (Lit.int .i64 k).wf = true) (hfr : FrAt w v n f0) (_ : ∀ p, p < 3 → n p ≤ maxLen) (hrow : RowsAt w U16 1 op len) (_ : len ≤ maxLen) :
    Calls Try.prog 6 #[.agg (frA k v), .slice op len cap] w fun e w' => e = .returned (.bool true) ∧ Below w.heap.size w w' := by
  obtain ⟨h, hf⟩ := hfr.cutTo
  generalize cutTo n f0 = f at h hf
  clear hfr
  obtain ⟨B, hB⟩ : ∃ B, w.heap.size = B := ⟨_, rfl⟩
  obtain ⟨wB, hwB⟩ : ∃ wB, w.alloc (.cells (frA k v) 25 (0, 0)) = wB := ⟨_, rfl⟩
  have hC0 : wB.heap[B]? = some (frO 25 k v) := by rw [← hwB, ← hB]; exact heap_alloc_new w _
  have hbC : Below B w wB := by rw [← hwB, ← hB]; exact (Below.refl _ w).alloc (Nat.le_refl _) _
  have hzB : wB.heap.size = B + 1 := by rw [← hwB, ← hB]; simp
  have hw : ∀ x, Below (B + 1) wB x → Below w.heap.size w x := fun x hx => by rw [hB]; exact hbC.trans (hx.mono (by omega))
  have K : ∀ (x y : World), Below (B + 1) wB x → Below x.heap.size x y → Below (B + 1) wB y := fun x y hx hy => hx.trans (hy.mono (by have := hx.size; omega))
  have HX0 := Lib.hid (fun (x : World) (hx : Below (B + 1) wB x) => ((hx.block B (by omega)).trans hC0 : x.heap[B]? = some (.cells (frA k v) 25 (0, 0))))
  have HK := Lib.hid (fun (x : World) (hx : Below (B + 1) wB x) => fr_cell0 (T := 25) (v := v) ((hx.block B (by omega)).trans hC0))
  have HF := Lib.hid (fun (x : World) (hx : Below (B + 1) wB x) => h.below (hw x hx))
  have L1 := Lib.hid (fun (x : World) => light_code k v n x h.slices)
  have L2 := Lib.hid (fun (x : World) => frright_code k v n x h.slices)
  have CL := Lib.hid (fun (x : World) (hx : Below (B + 1) wB x) => ((lives17 x).mono fun e y h => ⟨h.1, K x y hx h.2⟩ : Calls Try.prog 8 #[] x fun e y => e = .returned (.bool true) ∧ Below (B + 1) wB y))
  have hS0 : Below (B + 1) wB wB := Below.refl _ _
  have HSX := fr_sized fr_size k v
  have HW := Lib.hid hw
  have KK := Lib.hid K
  have HWB := Lib.hid hwB
  have HB := Lib.hid hB
  have HFF := Lib.hid hf
  have HRO := Lib.hid hrow
  have h00 := HX0.out wB hS0
  obtain ⟨X, hX⟩ : ∃ X, frA k v = X := ⟨_, rfl⟩
  rw [hX] at HX0 L1 L2 HSX HWB h00 ⊢
  have HXE := Lib.hid hX
  clear hw K hwB hB h hbC hC0 hzB hf hrow hX
  by_cases hquit : lightF n = false ∨ (lightF n = true ∧ rightF k n = false) ∨ (lightF n = true ∧ rightF k n = true ∧ 200 < len)
  case pos =>
    rcases hquit with hl | ⟨hl, hr⟩ | ⟨hl, hr, hg⟩
    case _ =>
      rw [hl] at L1
      go_enter Try.func6, Try.ntmps6
      go_wp2_with (rw [HWB.out, HB.out]; with_reducible refine wpList_load_row rfl 25 _ rfl B rfl 25 X (0, 0) _ h00 Try.underlying25 rfl HSX ?_)
      refine (L1.out _).mono ?_
      rintro e x ⟨rfl, hb⟩
      have hx := KK.out _ _ hS0 hb
      go_wp2_with fail
      refine (CL.out _ hx).mono ?_
      rintro e x2 ⟨rfl, hx2⟩
      go_wp2
      go_ret
      exact ⟨rfl, HW.out _ hx2⟩
    case _ =>
      rw [hl] at L1
      rw [hr] at L2
      go_enter Try.func6, Try.ntmps6
      go_wp2_with (rw [HWB.out, HB.out]; with_reducible refine wpList_load_row rfl 25 _ rfl B rfl 25 X (0, 0) _ h00 Try.underlying25 rfl HSX ?_)
      refine (L1.out _).mono ?_
      rintro e x ⟨rfl, hb⟩
      have hx := KK.out _ _ hS0 hb
      have h01 := HX0.out _ hx
      go_wp2_with (with_reducible refine wpList_wanted_load (by kernel_rfl) 25 _ rfl B rfl 25 X (0, 0) _ h01 Try.underlying25 rfl HSX ?_)
      refine (L2.out _).mono ?_
      rintro e x1 ⟨rfl, hb1⟩
      have hx1 := KK.out _ _ hx hb1
      go_wp2_with fail
      refine (CL.out _ hx1).mono ?_
      rintro e x2 ⟨rfl, hx2⟩
      go_wp2
      go_ret
      exact ⟨rfl, HW.out _ hx2⟩
    case _ =>
      rw [hl] at L1
      rw [hr] at L2
      have t3 : decide (200 < (len : Int)) = true := decide_eq_true (by omega)
      go_enter Try.func6, Try.ntmps6
      go_wp2_with (rw [HWB.out, HB.out]; with_reducible refine wpList_load_row rfl 25 _ rfl B rfl 25 X (0, 0) _ h00 Try.underlying25 rfl HSX ?_)
      refine (L1.out _).mono ?_
      rintro e x ⟨rfl, hb⟩
      have hx := KK.out _ _ hS0 hb
      have h01 := HX0.out _ hx
      go_wp2_with (with_reducible refine wpList_wanted_load (by kernel_rfl) 25 _ rfl B rfl 25 X (0, 0) _ h01 Try.underlying25 rfl HSX ?_)
      refine (L2.out _).mono ?_
      rintro e x1 ⟨rfl, hb1⟩
      have hx1 := KK.out _ _ hx hb1
      go_wp2_with fail
      refine (CL.out _ hx1).mono ?_
      rintro e x2 ⟨rfl, hx2⟩
      go_wp2
      go_ret
      exact ⟨rfl, HW.out _ hx2⟩
  case neg =>
  have hl : lightF n = true := by
    cases e : lightF n with
    | true => rfl
    | false => exact absurd (.inl e) hquit
  have hr : rightF k n = true := by
    cases e : rightF k n with
    | true => rfl
    | false => exact absurd (.inr (.inl ⟨hl, e⟩)) hquit
  have hg : len ≤ 200 := by
    rcases Nat.lt_or_ge 200 len with e | e
    · exact absurd (.inr (.inr ⟨hl, hr, e⟩)) hquit
    · exact e
  rw [hl] at L1
  rw [hr] at L2
  have t3 : decide (200 < (len : Int)) = false := decide_eq_false (by omega)
  have hk := (rightF_iff.1 hr).1
  have HRT := Lib.hid hr
  have HKF := Lib.hid hk
  clear hquit hl hr
  go_enter Try.func6, Try.ntmps6
  go_wp2_with (rw [HWB.out, HB.out]; with_reducible refine wpList_load_row rfl 25 _ rfl B rfl 25 X (0, 0) _ h00 Try.underlying25 rfl HSX ?_)
  refine (L1.out _).mono ?_
  rintro e x ⟨rfl, hb⟩
  have hx := KK.out _ _ hS0 hb
  have h01 := HX0.out _ hx
  go_wp2_with (with_reducible refine wpList_wanted_load (by kernel_rfl) 25 _ rfl B rfl 25 X (0, 0) _ h01 Try.underlying25 rfl HSX ?_)
  refine (L2.out _).mono ?_
  rintro e x1 ⟨rfl, hb1⟩
  have hx1 := KK.out _ _ hx hb1
  have ck := HK.out _ hx1
  go_wp2_with fail
  refine (on_code k _ hk).mono ?_
  rintro e x2 ⟨C, vc, g, rfl, hcan, hb2⟩
  have hx2 := KK.out _ _ hx1 hb2
  replace ck := HK.out _ hx2
  go_wp2_with fail
  refine (many_page k _).mono ?_
  rintro e x3 ⟨rfl, hb3⟩
  have hx3 := KK.out _ _ hx2 hb3
  have hcan3 := hcan.below hk hb3
  have hlo : B + 1 ≤ x1.heap.size := by have := hx1.size; have : wB.heap.size = B + 1 := by rw [← HWB.out, ← HB.out]; simp
                                        omega
  generalize x1.heap.size = lo at *
  clear hcan hb hb1 hb2 hb3 hx hx1 hx2 h01 h00 hS0 ck
  have hNm := cells_most k
  have hN0 : 0 < cells k := by have := acr_some hk; exact Nat.mul_pos this.1 this.2
  have hzp := pt_zero
  have HYS : (arn 384 fun _ => 0).size = 384 := arn_size _ _
  generalize (arn 384 fun _ => 0) = Y at *
  have HBB : wB.heap.size = B + 1 := by rw [← HWB.out, ← HB.out]; simp
  have HLC := Lib.hid (fun (m : Nat) (h : m < cells k) => h)
  generalize hNN : cells k = N at hNm hN0 HLC ⊢
  have HNN := Lib.hid hNN
  clear hNN hk
  go_wp2
  go_loopw [8] (fun z wr => ∃ (i : Nat) (cf : Nat → Nat → Int), i ≤ N + len ∧ z = .int .i64 i ∧ Hid (CanAt wr lo C k vc g cf) ∧ Below (B + 1) wB wr ∧ Hid (Good k f cf (min i N))) (fun z _ => N + len - (RowKit.intOf z).toNat)
  case atStart => exact ⟨0, _, by omega, rfl, hcan3, hx3, fun m hm => by omega⟩
  case round =>
    clear hcan3 hx3
    obtain ⟨i, cf, hi, rfl, HCAN, hS, HG⟩ := hrel
    by_cases hlt : i < N + len
    · have t0 : decide ((i : Int) < (N : Int) + (len : Int)) = true := decide_eq_true (by omega)
      by_cases hiN : i < N
      · have t4 : decide (N ≤ i) = false := decide_eq_false (by omega)
        have hkk : i < cells k := by rw [HNN.out]; exact hiN
        have hbx := KK.out _ _ hS (Below.refl _ _)
        have h0x := HX0.out _ hS
        go_wp2_with (with_reducible refine wpList_load_row rfl 25 _ rfl B rfl 25 X (0, 0) _ h0x Try.underlying25 rfl HSX ?_)
        have CC := cut_code k v n f (i) wr (HF.out _ hS) HRT.out hkk
        rw [HXE.out] at CC
        refine CC.mono ?_
        rintro e x4 ⟨rfl, hb4⟩
        have hx4 := KK.out _ _ hS hb4
        have hcan4 := HCAN.out.below HKF.out hb4
        obtain ⟨x5, hx5e⟩ : ∃ x5, x4.alloc (.cells (arn 384 (cutF k (i) f)) 37 (0, 0)) = x5 := ⟨_, rfl⟩
        have hb5 : Below x4.heap.size x4 x5 := by rw [← hx5e]; exact (Below.refl _ x4).alloc (Nat.le_refl _) _
        have h5 : x5.heap[x4.heap.size]? = some (.cells (arn 384 (cutF k (i) f)) 37 (0, 0)) := by rw [← hx5e]; exact heap_alloc_new x4 _
        have hx5 := KK.out _ _ hx4 hb5
        have hcan5 := hcan4.below HKF.out hb5
        have CY := lay_code k C lo vc g cf (i) (cutF k (i) f) x5 hcan5.there hcan5.own hcan5.far hkk
        have HSV := pt_sized (cutF k (i) f)
        have HOV := arn_one 384 (cutF k (i) f)
        have HVS : (arn 384 (cutF k (i) f)).size = 384 := arn_size _ _
        have HYV : Y.size = (arn 384 (cutF k (i) f)).size := by rw [HYS, HVS]
        have HW5 := Lib.hid hx5e
        have HC5 := Lib.hid hcan5
        generalize arn 384 (cutF k (i) f) = V at *
        clear hx5e hb4 hb5 hcan4 hcan5 h0x hbx CC
        go_wp2_with (first | (with_reducible refine wp_store_fresh rfl 37 _ _ rfl V Y 37 rfl rfl HSV HYV HOV ?_; rw [HW5.out]) | (with_reducible refine wpList_wanted_load (by kernel_rfl) 37 _ rfl x4.heap.size rfl 37 V (0, 0) _ h5 Try.underlying37 rfl HSV ?_))
        refine CY.mono ?_
        rintro e x6 ⟨rfl, hK6, hO6⟩
        have REL := Lib.hid (⟨HC5.out.laid hK6 hO6, hx5.trans (hK6.to_below (by have := hx5.size; omega) (fun p hp => by have := HC5.out.own.from_ p hp; omega)), by rw [show min (i + 1) N = i + 1 by omega]; have h := HG.out; rw [show min i N = i by omega] at h; exact h.next HFF.out⟩ : CanAt x6 lo C k vc g (layF k (i) (cutF k (i) f) cf 384) ∧ Below (B + 1) wB x6 ∧ Good k f (layF k (i) (cutF k (i) f) cf 384) (min (i + 1) N))
        clear hK6 hO6 hx4 hx5 h5 HSV HOV HVS HYV CY
        go_wp2
        go_roundw
        case rel => exact ⟨i + 1, _, by omega, by go_num, REL.out.1, REL.out.2.1, REL.out.2.2⟩
        case measure => simp [RowKit.intOf]; omega
      · have t4 : decide (N ≤ i) = true := decide_eq_true (by omega)
        obtain ⟨d, hd, hdl⟩ : ∃ d : Nat, (i : Int) - (N : Int) = (d : Int) ∧ d < len := ⟨i - N, by omega, by omega⟩
        rcases HRO.out with h0 | ⟨ob, oo, rfl, hob, hrows⟩
        · omega
        obtain ⟨vs, _, ⟨xx, rfl, hxx⟩, hcell⟩ := hrows d hdl
        have c0 := hcell 0 _ rfl
        rw [show oo + d * 1 + 0 = oo + d by omega] at c0
        have c1 := ((HW.out wr hS).cell (p := ⟨ob, oo + d, none⟩) hob).trans c0
        have r1 : (xx : Int).tmod (N : Int) = ((xx % N : Nat) : Int) := by rw [Int.tmod_eq_emod_of_nonneg (by omega)]; rfl
        have w1 : IntKind.i64.wrap (xx : Int) = (xx : Int) := wrapNat (by omega)
        have z0 : ((N : Int) == 0) = false := by simp; omega
        have hqN : xx % N < N := Nat.mod_lt _ hN0
        generalize xx % N = q at r1 hqN
        have hkk : q < cells k := by rw [HNN.out]; exact hqN
        clear hrows hcell c0
        have hbx := KK.out _ _ hS (Below.refl _ _)
        have h0x := HX0.out _ hS
        go_wp2_with (with_reducible refine wpList_load_row rfl 25 _ rfl B rfl 25 X (0, 0) _ h0x Try.underlying25 rfl HSX ?_)
        have CC := cut_code k v n f (q) wr (HF.out _ hS) HRT.out hkk
        rw [HXE.out] at CC
        refine CC.mono ?_
        rintro e x4 ⟨rfl, hb4⟩
        have hx4 := KK.out _ _ hS hb4
        have hcan4 := HCAN.out.below HKF.out hb4
        obtain ⟨x5, hx5e⟩ : ∃ x5, x4.alloc (.cells (arn 384 (cutF k (q) f)) 37 (0, 0)) = x5 := ⟨_, rfl⟩
        have hb5 : Below x4.heap.size x4 x5 := by rw [← hx5e]; exact (Below.refl _ x4).alloc (Nat.le_refl _) _
        have h5 : x5.heap[x4.heap.size]? = some (.cells (arn 384 (cutF k (q) f)) 37 (0, 0)) := by rw [← hx5e]; exact heap_alloc_new x4 _
        have hx5 := KK.out _ _ hx4 hb5
        have hcan5 := hcan4.below HKF.out hb5
        have CY := lay_code k C lo vc g cf (q) (cutF k (q) f) x5 hcan5.there hcan5.own hcan5.far hkk
        have HSV := pt_sized (cutF k (q) f)
        have HOV := arn_one 384 (cutF k (q) f)
        have HVS : (arn 384 (cutF k (q) f)).size = 384 := arn_size _ _
        have HYV : Y.size = (arn 384 (cutF k (q) f)).size := by rw [HYS, HVS]
        have HW5 := Lib.hid hx5e
        have HC5 := Lib.hid hcan5
        generalize arn 384 (cutF k (q) f) = V at *
        clear hx5e hb4 hb5 hcan4 hcan5 h0x hbx CC
        go_wp2_with (first | (with_reducible refine wp_store_fresh rfl 37 _ _ rfl V Y 37 rfl rfl HSV HYV HOV ?_; rw [HW5.out]) | (with_reducible refine wpList_wanted_load (by kernel_rfl) 37 _ rfl x4.heap.size rfl 37 V (0, 0) _ h5 Try.underlying37 rfl HSV ?_))
        refine CY.mono ?_
        rintro e x6 ⟨rfl, hK6, hO6⟩
        have REL := Lib.hid (⟨HC5.out.laid hK6 hO6, hx5.trans (hK6.to_below (by have := hx5.size; omega) (fun p hp => by have := HC5.out.own.from_ p hp; omega)), by rw [show min (i + 1) N = min i N by omega]; exact HG.out.lay HFF.out q⟩ : CanAt x6 lo C k vc g (layF k (q) (cutF k (q) f) cf 384) ∧ Below (B + 1) wB x6 ∧ Good k f (layF k (q) (cutF k (q) f) cf 384) (min (i + 1) N))
        clear hK6 hO6 hx4 hx5 h5 HSV HOV HVS HYV CY
        go_wp2
        go_roundw
        case rel => exact ⟨i + 1, _, by omega, by go_num, REL.out.1, REL.out.2.1, REL.out.2.2⟩
        case measure => simp [RowKit.intOf]; omega
    · obtain rfl : i = N + len := by omega
      have t0 : decide (((N + len : Nat) : Int) < (N : Int) + (len : Int)) = false := decide_eq_false (by omega)
      have HGA := Lib.hid (show Good k f cf (cells k) by rw [HNN.out]; have h := HG.out; rw [show min (N + len) N = N by omega] at h; exact h)
      have HSM := Lib.hid (show sameF k (siz k) cf k n f = true from sameF_congr (fun p hp => ((rightF_iff.1 HRT.out).2 p hp).symm) HGA.out.all)
      have HCD := HCAN.out.below HKF.out (Below.refl wr.heap.size wr).drew
      go_wp2
      refine wp_region_held_drew (S := (fun x => Below wr.heap.size wr x)) (by kernel_rfl) (Below.refl _ _).drew (fun hH => ?_)
      refine held_take 0 (some 77) (v := ?_) rfl rfl (by kernel_rfl) (by kernel_rfl) (by kernel_rfl) (fun _ _ _ h => h) hH (Or.inl ⟨by kernel_rfl, ?_⟩) ?_
      rotate_left
      · (intro x _; go_simp; try with_reducible rfl)
      rotate_right
      try simp only [Act.put, List.setIfInBounds_toArray, List.set_cons_zero, List.set_cons_succ]
      refine held_take 2 (some 79) (v := .agg X) rfl rfl (by kernel_rfl) (by kernel_rfl) (by kernel_rfl) (fun _ _ _ h => h) hH (Or.inl ⟨by kernel_rfl, fun x hx => exec_load (ty := 25) (x := .tmp 2) (ad := ⟨B, 0, none⟩) (by kernel_rfl) (by kernel_rfl) (run_loadVar_row x (B) _ _ X (0, 0) _ (HX0.out x (KK.out _ _ hS hx)) Try.underlying25 rfl HSX)⟩) ?_
      try simp only [Act.put, List.setIfInBounds_toArray, List.set_cons_zero, List.set_cons_succ]
      refine wpAnyH_ready (rs := [1]) (by kernel_rfl) (by simp) ?_
      refine AllReadyH.cons rfl (fun K hK => ?_) AllReadyH.nil
      go_simp
      go_wp2_with fail
      refine (frame_code k lo C vc g cf _ HKF.out HCD).mono ?_
      rintro e x6 ⟨v2, g2, rfl, hO2, hb6⟩
      refine hK.out _ _ (hH.trans (hb6.mono hH.size)) (fun hH2 => ?_)
      clear hK K hH
      have hH := hH2
      clear hH2
      try simp only [Act.put, List.setIfInBounds_toArray, List.set_cons_zero, List.set_cons_succ]
      refine wpAnyH_ready (rs := [3]) (by kernel_rfl) (by simp) ?_
      refine AllReadyH.cons rfl (fun K hK => ?_) AllReadyH.nil
      go_simp
      go_wp2_with fail
      have C6 := frsame_code k k v2 v (siz k) n cf f x6 hO2.at (HF.out _ (KK.out _ _ hS hH))
      rw [HXE.out, HSM.out] at C6
      refine C6.mono ?_
      rintro e x7 ⟨rfl, hb7⟩
      refine hK.out _ _ (hH.trans (hb7.mono hH.size)) (fun hH2 => ?_)
      clear hK K hH
      have hH := hH2
      clear hH2
      try simp only [Act.put, List.setIfInBounds_toArray, List.set_cons_zero, List.set_cons_succ]
      refine held_take 4 (some 81) (v := ?_) rfl rfl (by kernel_rfl) (by kernel_rfl) (by kernel_rfl) (fun _ _ _ h => h) hH (Or.inl ⟨by kernel_rfl, ?_⟩) ?_
      rotate_left
      · (intro x _; go_simp; try with_reducible rfl)
      rotate_right
      try simp only [Act.put, List.setIfInBounds_toArray, List.set_cons_zero, List.set_cons_succ]
      refine wpAnyH_ready (rs := [5]) (by kernel_rfl) (by simp) ?_
      refine AllReadyH.cons rfl (fun K hK => ?_) AllReadyH.nil
      go_simp
      go_wp2_with fail
      refine (lives17 _).mono ?_
      rintro e x8 ⟨rfl, hb8⟩
      refine hK.out _ _ (hH.trans (hb8.mono hH.size)) (fun hH2 => ?_)
      clear hK K hH
      have hH := hH2
      clear hH2
      try simp only [Act.put, List.setIfInBounds_toArray, List.set_cons_zero, List.set_cons_succ]
      refine held_take 6 (some 83) (v := ?_) rfl rfl (by kernel_rfl) (by kernel_rfl) (by kernel_rfl) (fun _ _ _ h => h) hH (Or.inl ⟨by kernel_rfl, ?_⟩) ?_
      rotate_left
      · (intro x _; go_simp; try with_reducible rfl)
      rotate_right
      try simp only [Act.put, List.setIfInBounds_toArray, List.set_cons_zero, List.set_cons_succ]
      refine held_take 7 (some 4) (v := ?_) rfl rfl (by kernel_rfl) (by kernel_rfl) (by kernel_rfl) (fun _ _ _ h => h) hH (Or.inl ⟨by kernel_rfl, ?_⟩) ?_
      rotate_left
      · (intro x _; go_simp; try with_reducible rfl)
      rotate_right
      try simp only [Act.put, List.setIfInBounds_toArray, List.set_cons_zero, List.set_cons_succ]
      refine wpAnyH_done (by kernel_rfl) ?_ _
      have hend := HW.out _ (KK.out _ _ hS hH)
      go_wp2
      go_ret
      exact ⟨rfl, hend⟩
end Go.Proofs.Ytmmgbnjfbapmcaa
