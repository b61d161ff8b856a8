/- bytes.Repeat of one byte: a slice of the call's own that holds it so many times. No condition. -/
import Derived.Test.YtnpmllbdpmkliaaPmul
import Derived.Test.YtnpmllbdpmkliaaPcode
import Derived.Lib.SlBuf
namespace Go.Proofs.Ytnpmllbdpmkliaa
open Go.RowKit Go.Lib

/-- A block of bytes, of which the first are x. -/
def BufAt (w : World) (g n m : Nat) (x : Int) : Prop := ∀ i, i < n → (w.cell? ⟨g, i, none⟩).isSome = true ∧ w.frozen? ⟨g, i, none⟩ = false ∧ (i < m → w.cell? ⟨g, i, none⟩ = some (.int .u8 x))
theorem BufAt.start {w : World} {cs : Array Value} {e : TypeId} {n : Nat} (x : Int) (hn : n ≤ cs.size) (q : Nat) : BufAt ((w.alloc (.cells cs e)).drewN q) w.heap.size n 0 x := by
  intro i hi
  rw [World.cell?_drewN, World.cell?_alloc_mark, Array.getElem?_eq_getElem (by omega), World.frozen?_drewN, World.frozen?_alloc_mark w cs e 0 0 i]
  exact ⟨rfl, by simp, fun h => by omega⟩
/-- What a copy of x's from place m on leaves. -/
theorem BufAt.more {w : World} {g n m : Nat} {x : Int} (h : BufAt w g n m x) (d : Nat) (hd : m + d ≤ n) : BufAt (w.setCells g m (List.replicate d (Value.int .u8 x))) g n (m + d) x := by
  have hl : (List.replicate d (Value.int .u8 x)).length = d := List.length_replicate
  intro i hi
  obtain ⟨h1, h2, h3⟩ := h i hi
  rw [World.frozen?_setCells]
  by_cases e : m ≤ i ∧ i < m + d
  · obtain ⟨j, rfl⟩ : ∃ j, i = m + j := ⟨i - m, by omega⟩
    rw [World.cell?_setCells_in g _ m w (fun j hj => by rw [hl] at hj; exact (h (m + j) (by omega)).1) j (by rw [hl]; omega)]
    exact ⟨rfl, h2, fun _ => by simp⟩
  · rw [World.cell?_setCells_out g _ m w _ (fun _ _ => by rw [hl]; show i < m ∨ m + d ≤ i; omega)]
    exact ⟨h1, h2, fun hlt => h3 (by omega)⟩
theorem BufAt.copy {w : World} {g n m c cd : Nat} {x : Int} {T e ty : TypeId} (h : BufAt w g n m x) (hT : Try.prog.underlying T = some (.slice e)) (hs : (Try.prog.info? e).map (·.size) = some 1) (hc : c ≤ m) (hm : m < n) (sc : Nat) :
    (Builtin.copy_ #[T, T] ty #[.slice (some ⟨g, m, none⟩) (n - m) cd, .slice (some ⟨g, 0, none⟩) c sc]).run Try.prog w = .ok (.int .i64 ((min c (n - m) : Nat) : Int)) (w.setCells g m (List.replicate (min c (n - m)) (Value.int .u8 x))) := by
  have hl : ∀ d, (List.replicate d (Value.int .u8 x)).length = d := fun d => List.length_replicate
  have hr := run_copy_cells (P := Try.prog) w T T ty e g m (n - m) cd ⟨g, 0, none⟩ c sc (List.replicate (min c (n - m)) (Value.int .u8 x)) hT hs (hl _)
    (fun j v hj => by
      have hj2 := (List.getElem?_eq_some_iff.1 hj).1
      rw [hl] at hj2
      have e1 : (⟨g, 0, none⟩ : Addr).add j = ⟨g, j, none⟩ := by unfold Addr.add; split <;> simp_all
      rw [e1, (h j (by omega)).2.2 (by omega)]
      simpa [List.getElem?_replicate, hj2] using hj)
    (fun j hj => by rw [hl] at hj; exact (h (m + j) (by omega)).1) (fun j hj => by rw [hl] at hj; exact (h (m + j) (by omega)).2.1)
    (fun u hu => by rw [List.eq_of_mem_replicate hu]; rfl)
  rw [hl] at hr
  exact hr
theorem BufAt.first {w : World} {g n b c : Nat} {x : Int} {T e ty : TypeId} (h : BufAt w g n 0 x) (hT : Try.prog.underlying T = some (.slice e)) (hs : (Try.prog.info? e).map (·.size) = some 1) (hn : 1 ≤ n) (hx : w.cell? ⟨b, 0, none⟩ = some (.int .u8 x)) (cd : Nat) :
    (Builtin.copy_ #[T, T] ty #[.slice (some ⟨g, 0, none⟩) n cd, .slice (some ⟨b, 0, none⟩) 1 c]).run Try.prog w = .ok (.int .i64 1) (w.setCells g 0 (List.replicate 1 (Value.int .u8 x))) :=
  run_copy_cells (P := Try.prog) w T T ty e g 0 n cd ⟨b, 0, none⟩ 1 c (List.replicate 1 (Value.int .u8 x)) hT hs (Nat.min_eq_left hn).symm
    (fun j v hj => by
      match j, hj with
      | 0, hj => cases hj; exact hx)
    (fun j hj => (h (0 + j) (by simp at hj; omega)).1) (fun j hj => (h (0 + j) (by simp at hj; omega)).2.1)
    (fun u hu => by rw [List.eq_of_mem_replicate hu]; rfl)
theorem u8_one : ∀ w, (Go.sizeOf 5).run Try.prog w = .ok 1 w := fun w => by
  have h : (Try.prog.info? 5).map (·.size) = some 1 := by kernel_rfl
  cases hq : Try.prog.info? 5 with
  | none => simp [hq] at h
  | some i =>
    simp [hq] at h
    simp [Go.sizeOf, typeInfo, hq, h]
theorem slice_tail (g n m : Nat) (h : m < n) (W : World) : (Instr.slice 26 (.slice (some ⟨g, 0, none⟩) n n) (some (.int .i64 (m : Int))) none none).run Try.prog W = .ok (.slice (some ⟨g, m, none⟩) (n - m) (n - m)) W := by
  have := Lib.run_slice_tailV (P := Try.prog) W 26 5 Try.underlying26 u8_one g n m (by omega)
  unfold Lib.tailV at this
  rwa [if_neg (by omega)] at this
theorem slice_head (g n m : Nat) (h : m ≤ n) (h0 : 1 ≤ n) (W : World) : (Instr.slice 26 (.slice (some ⟨g, 0, none⟩) n n) none (some (.int .i64 (m : Int))) none).run Try.prog W = .ok (.slice (some ⟨g, 0, none⟩) m n) W := by
  have ht' : Try.prog.underlying 26 = some (.slice (Try.prog.elem 26)) := by simp [Program.elem, Try.underlying26]
  have he : Try.prog.elem 26 = 5 := by simp [Program.elem, Try.underlying26]
  rw [run_slice_h W 26 _ _ _ ht' .i64 _ (by omega) (by omega), he, u8_one]
  have hne : ¬ n = 0 := by omega
  simp [Result.andThen, sliced, hne, Addr.add]
theorem u8_size : (Try.prog.info? 5).map (·.size) = some 1 := by kernel_rfl

set_option maxRecDepth 1000000 in
set_option maxHeartbeats 8000000 in
theorem repeat_code (b c n : Nat) (x : Int) (w : World) (hx : w.cell? ⟨b, 0, none⟩ = some (.int .u8 x)) (hr : 0 ≤ x ∧ x ≤ 255) (h1 : 1 ≤ n) (hn : n < 1073741824) :
    Calls Try.prog 38 #[.slice (some ⟨b, 0, none⟩) 1 c, .int .i64 (n : Int)] w fun e w' => ∃ v, e = .returned v ∧ OwnPl w' v w.heap.size n (fun _ => x) ∧ Below w.heap.size w w' := by
  have cm := fun w => mul_one_code n (by omega) w
  have t0 : ((n : Int) == 0) = false := by simp; omega
  obtain ⟨cs, hrunM, hle, _⟩ := Lib.run_makeNoZero (P := Try.prog) w #[3] 26 5 Try.underlying26 n (by omega)
  have hcall : (callFunc 46 #[.int .i64 (n : Int)]).run Try.prog w = .ok (.value (.slice (some ⟨w.heap.size, 0, none⟩) n cs.size)) ((w.alloc (.cells cs 5)).drewN 2) := by
    rw [run_callFunc_extern Try.func46 (by kernel_rfl) (by kernel_rfl) (by kernel_rfl) (e := Extern.BytealgMakeNoZero.makeNoZero #[3] #[26]) (by kernel_rfl), hrunM]
    rfl
  clear hrunM
  have i0 : (0 : Int) ≤ (n : Int) := by omega
  have i1 : (n : Int) ≤ (cs.size : Int) := by omega
  have B0 := Lib.hid (BufAt.start (w := w) (e := 5) x hle 2)
  have hxx : ((w.alloc (.cells cs 5)).drewN 2).cell? ⟨b, 0, none⟩ = some (.int .u8 x) := by
    rw [World.cell?_drewN]
    exact ((((Below.refl w.heap.size w).alloc (Nat.le_refl _) (.cells cs 5)).cell (p := ⟨b, 0, none⟩) (World.block_lt_of_cell? w ⟨b, 0, none⟩ hx))).trans hx
  have hr1 := fun ty => B0.out.first (ty := ty) (c := c) Try.underlying26 u8_size h1 hxx n
  have B1 := Lib.hid (B0.out.more 1 (by omega))
  have hbe : Below w.heap.size w (((w.alloc (.cells cs 5)).drewN 2).setCells w.heap.size 0 (List.replicate 1 (Value.int .u8 x))) :=
    (show Below w.heap.size w ((w.alloc (.cells cs 5)).drewN 2) from ⟨rfl, rfl, rfl, by simp, fun k hk => heap_alloc_old w _ hk⟩).grown (setCells_grown _ _ _ _) (by simp) (fun k hk => by injection hk with hk; omega)
  have hR := Lib.hid hr
  generalize hw0 : (w.alloc (.cells cs 5)).drewN 2 = w0 at *
  generalize hw1 : w0.setCells w.heap.size 0 (List.replicate 1 (Value.int .u8 x)) = w1 at *
  clear hw0 hw1 B0 hxx hr hx
  by_cases hbig : 8192 < n
  case pos =>
    have tb : decide ((8192 : Int) < (n : Int)) = true := by simp; omega
    go_enter Try.func38, Try.ntmps38
    go_wp2_with (first | (with_reducible refine (cm _).mono ?_; rintro e w1 ⟨rfl, rfl⟩) | (at_builtin; refine Lib.wpList_copy_run _ rfl _ _ 26 26 rfl _ _ rfl rfl (hr1 _) ?_))
    clear hr1 hcall i0 i1 tb
    go_loopw [10] (fun z wr => ∃ m : Nat, 1 ≤ m ∧ m ≤ n ∧ z = .int .i64 m ∧ Hid (BufAt wr w.heap.size n m x) ∧ Below w.heap.size w wr) (fun z _ => n - (RowKit.intOf z).toNat)
    case atStart => exact ⟨1, by omega, h1, rfl, B1.out, hbe⟩
    case round =>
      clear B1 hbe
      obtain ⟨m, hm1, hmn, rfl, HB, hb⟩ := hrel
      by_cases hlt : m < n
      · have t1 : decide ((m : Int) < (n : Int)) = true := by simp; omega
        obtain ⟨ch, hch, hc1, hc2⟩ : ∃ ch : Nat, min (m : Int) (8192 : Int) = (ch : Int) ∧ 1 ≤ ch ∧ ch ≤ m := ⟨min m 8192, by omega, by omega, by omega⟩
        have hsl1 := fun W => slice_tail w.heap.size n m hlt W
        have hsl2 := fun W => slice_head w.heap.size n ch (by omega) (by omega) W
        have HBd : BufAt wr.drew w.heap.size n m x := HB.out
        have hcp := fun ty => HBd.copy (ty := ty) (cd := n - m) Try.underlying26 u8_size hc2 hlt n
        have hmo := HBd.more (min ch (n - m)) (by omega)
        have hbn : Below w.heap.size w (wr.drew.setCells w.heap.size m (List.replicate (min ch (n - m)) (Value.int .u8 x))) := hb.drew.grown (setCells_grown _ _ _ _) hb.size (fun k hk => by injection hk with hk; omega)
        have hd : 1 ≤ min ch (n - m) ∧ m + min ch (n - m) ≤ n := by omega
        generalize min ch (n - m) = d at hcp hmo hbn hd
        generalize hwn : wr.drew.setCells w.heap.size m (List.replicate d (Value.int .u8 x)) = wn at hcp hmo hbn
        have HBN := Lib.hid hmo
        clear hwn hmo HBd
        go_wp2
        refine wp_region_any (by kernel_rfl) ?_
        change wpAny _ _ _ _ _ _ _ (World.drew _)
        refine any_take 0 (some 67) (v := ?_) rfl rfl (by kernel_rfl) (by kernel_rfl) (by kernel_rfl) (fun _ _ _ h => h) (Or.inl ⟨by rfl, ?_⟩) ?_
        rotate_left
        · (intro w; go_simp; try with_reducible rfl)
        rotate_right
        refine any_take 1 (some 68) (v := ?_) rfl rfl (by kernel_rfl) (by kernel_rfl) (by kernel_rfl) (fun _ _ _ h => h) (Or.inl ⟨by rfl, ?_⟩) ?_
        rotate_left
        · (intro w; go_simp; try with_reducible rfl)
        rotate_right
        refine any_take 2 (some 69) (v := ?_) rfl rfl (by kernel_rfl) (by kernel_rfl) (by kernel_rfl) (fun _ _ _ h => h) (Or.inl ⟨by rfl, ?_⟩) ?_
        rotate_left
        · (intro w; go_simp; try with_reducible rfl)
        rotate_right
        refine any_take 3 (some 70) (v := .slice (some ⟨w.heap.size, m, none⟩) (n - m) (n - m)) rfl rfl (by kernel_rfl) (by kernel_rfl) (by kernel_rfl) (fun _ _ _ h => h) (Or.inl ⟨by rfl, ?_⟩) ?_
        · (intro w; go_simp; try with_reducible rfl)
        refine any_take 4 (some 71) (v := ?_) rfl rfl (by kernel_rfl) (by kernel_rfl) (by kernel_rfl) (fun _ _ _ h => h) (Or.inl ⟨by rfl, ?_⟩) ?_
        rotate_left
        · (intro w; go_simp; try with_reducible rfl)
        rotate_right
        refine any_take 5 (some 72) (v := ?_) rfl rfl (by kernel_rfl) (by kernel_rfl) (by kernel_rfl) (fun _ _ _ h => h) (Or.inl ⟨by rfl, ?_⟩) ?_
        rotate_left
        · (intro w; go_simp; try with_reducible rfl)
        rotate_right
        refine any_take 6 (some 73) (v := .slice (some ⟨w.heap.size, 0, none⟩) ch n) rfl rfl (by kernel_rfl) (by kernel_rfl) (by kernel_rfl) (fun _ _ _ h => h) (Or.inl ⟨by rfl, ?_⟩) ?_
        · (intro w; go_simp; try with_reducible rfl)
        refine wpAny_tail 7 (by kernel_rfl) (by kernel_rfl) ?_
        go_wp2_with (at_builtin; refine Lib.wpList_copy_run _ rfl _ _ 26 26 rfl _ _ rfl rfl (hcp _) ?_)
        go_roundw
        case rel => exact ⟨m + d, by omega, by omega, by go_num, HBN.out, hbn⟩
        case measure => simp [RowKit.intOf]; omega
      · obtain rfl : m = n := by omega
        have t1 : decide ((m : Int) < (m : Int)) = false := by simp
        go_wp2
        go_ret
        exact ⟨_, rfl, ⟨m, rfl, Nat.le_refl _, fun i hi => ⟨(HB.out i hi).2.2 hi, (HB.out i hi).2.1, hR.out⟩⟩, hb⟩
  case neg =>
    have tb : decide ((8192 : Int) < (n : Int)) = false := by simp; omega
    go_enter Try.func38, Try.ntmps38
    go_wp2_with (first | (with_reducible refine (cm _).mono ?_; rintro e w1 ⟨rfl, rfl⟩) | (at_builtin; refine Lib.wpList_copy_run _ rfl _ _ 26 26 rfl _ _ rfl rfl (hr1 _) ?_))
    clear hr1 hcall i0 i1 tb
    go_loopw [10] (fun z wr => ∃ m : Nat, 1 ≤ m ∧ m ≤ n ∧ z = .int .i64 m ∧ Hid (BufAt wr w.heap.size n m x) ∧ Below w.heap.size w wr) (fun z _ => n - (RowKit.intOf z).toNat)
    case atStart => exact ⟨1, by omega, h1, rfl, B1.out, hbe⟩
    case round =>
      clear B1 hbe
      obtain ⟨m, hm1, hmn, rfl, HB, hb⟩ := hrel
      by_cases hlt : m < n
      · have t1 : decide ((m : Int) < (n : Int)) = true := by simp; omega
        obtain ⟨ch, hch, hc1, hc2⟩ : ∃ ch : Nat, min (m : Int) (n : Int) = (ch : Int) ∧ 1 ≤ ch ∧ ch ≤ m := ⟨min m n, by omega, by omega, by omega⟩
        have hsl1 := fun W => slice_tail w.heap.size n m hlt W
        have hsl2 := fun W => slice_head w.heap.size n ch (by omega) (by omega) W
        have HBd : BufAt wr.drew w.heap.size n m x := HB.out
        have hcp := fun ty => HBd.copy (ty := ty) (cd := n - m) Try.underlying26 u8_size hc2 hlt n
        have hmo := HBd.more (min ch (n - m)) (by omega)
        have hbn : Below w.heap.size w (wr.drew.setCells w.heap.size m (List.replicate (min ch (n - m)) (Value.int .u8 x))) := hb.drew.grown (setCells_grown _ _ _ _) hb.size (fun k hk => by injection hk with hk; omega)
        have hd : 1 ≤ min ch (n - m) ∧ m + min ch (n - m) ≤ n := by omega
        generalize min ch (n - m) = d at hcp hmo hbn hd
        generalize hwn : wr.drew.setCells w.heap.size m (List.replicate d (Value.int .u8 x)) = wn at hcp hmo hbn
        have HBN := Lib.hid hmo
        clear hwn hmo HBd
        go_wp2
        refine wp_region_any (by kernel_rfl) ?_
        change wpAny _ _ _ _ _ _ _ (World.drew _)
        refine any_take 0 (some 67) (v := ?_) rfl rfl (by kernel_rfl) (by kernel_rfl) (by kernel_rfl) (fun _ _ _ h => h) (Or.inl ⟨by rfl, ?_⟩) ?_
        rotate_left
        · (intro w; go_simp; try with_reducible rfl)
        rotate_right
        refine any_take 1 (some 68) (v := ?_) rfl rfl (by kernel_rfl) (by kernel_rfl) (by kernel_rfl) (fun _ _ _ h => h) (Or.inl ⟨by rfl, ?_⟩) ?_
        rotate_left
        · (intro w; go_simp; try with_reducible rfl)
        rotate_right
        refine any_take 2 (some 69) (v := ?_) rfl rfl (by kernel_rfl) (by kernel_rfl) (by kernel_rfl) (fun _ _ _ h => h) (Or.inl ⟨by rfl, ?_⟩) ?_
        rotate_left
        · (intro w; go_simp; try with_reducible rfl)
        rotate_right
        refine any_take 3 (some 70) (v := .slice (some ⟨w.heap.size, m, none⟩) (n - m) (n - m)) rfl rfl (by kernel_rfl) (by kernel_rfl) (by kernel_rfl) (fun _ _ _ h => h) (Or.inl ⟨by rfl, ?_⟩) ?_
        · (intro w; go_simp; try with_reducible rfl)
        refine any_take 4 (some 71) (v := ?_) rfl rfl (by kernel_rfl) (by kernel_rfl) (by kernel_rfl) (fun _ _ _ h => h) (Or.inl ⟨by rfl, ?_⟩) ?_
        rotate_left
        · (intro w; go_simp; try with_reducible rfl)
        rotate_right
        refine any_take 5 (some 72) (v := ?_) rfl rfl (by kernel_rfl) (by kernel_rfl) (by kernel_rfl) (fun _ _ _ h => h) (Or.inl ⟨by rfl, ?_⟩) ?_
        rotate_left
        · (intro w; go_simp; try with_reducible rfl)
        rotate_right
        refine any_take 6 (some 73) (v := .slice (some ⟨w.heap.size, 0, none⟩) ch n) rfl rfl (by kernel_rfl) (by kernel_rfl) (by kernel_rfl) (fun _ _ _ h => h) (Or.inl ⟨by rfl, ?_⟩) ?_
        · (intro w; go_simp; try with_reducible rfl)
        refine wpAny_tail 7 (by kernel_rfl) (by kernel_rfl) ?_
        go_wp2_with (at_builtin; refine Lib.wpList_copy_run _ rfl _ _ 26 26 rfl _ _ rfl rfl (hcp _) ?_)
        go_roundw
        case rel => exact ⟨m + d, by omega, by omega, by go_num, HBN.out, hbn⟩
        case measure => simp [RowKit.intOf]; omega
      · obtain rfl : m = n := by omega
        have t1 : decide ((m : Int) < (m : Int)) = false := by simp
        go_wp2
        go_ret
        exact ⟨_, rfl, ⟨m, rfl, Nat.le_refl _, fun i hi => ⟨(HB.out i hi).2.2 hi, (HB.out i hi).2.1, hR.out⟩⟩, hb⟩
end Go.Proofs.Ytnpmllbdpmkliaa
