/- Texts that SoundSame's proof stands on, part 41 of 48. No condition of its own. -/
import Derived.Test.YthmmpjecmapajaaDoorSoundSameMr
import Derived.Test.YthmmpjecmapajaaDoorSoundSameMbm
import Derived.Test.YthmmpjecmapajaaDoorSoundSameMbn
import Derived.Deep.CutRange
import Derived.Deep.DeepCutAuto
namespace Go.Proofs.YthmmpjecmapajaaDoor
open Go.RowKit Go.Lib
theorem head_is (H : Bool) (i : Nat) (I Q : Int) : (if H then decide (i ≠ 0 ∧ 0 ≤ I ∧ I ≤ 3 ∧ 1 ≤ Q ∧ Q ≤ 31) else decide (I = 0 ∧ Q = 0)) = headB (i : Int) H I Q := by
 unfold headB
 cases H
 ·rfl
 ·rw [if_pos rfl, if_pos rfl]
  simp
def AsksCell (w : World) (inter : Bool) : Prop := ∀ (c : Cel) (p : Nat → Option Addr) (n k : Nat → Nat) (x : World), Below w.heap.size w x → CelIn x c p n →
 Calls Tryd.prog 37 #[.bool inter, .agg (celL c fun i => .slice (p i) (n i) (k i)).toArray] x fun e y => e = .returned (.bool (celMay inter c)) ∧ Below x.heap.size x y
theorem AsksCell.below {w x : World} {inter : Bool} (h : AsksCell w inter) (hb : Below w.heap.size w x) : AsksCell x inter :=
 fun c p n k y hy hc => h c p n k y (hb.trans (hy.mono hb.size)) hc
set_option maxRecDepth 100000 in
set_option maxHeartbeats 1000000 in
theorem rrow_code (S : ShP) (p b : Option Addr) (ca cb i : Nat) (w : World) (hi : i < S.rows.length) (hn : S.rows.length ≤ maxLen) (hr : RowsIn w b S.rows) (hc : ∀ c ∈ S.rows[i].cels, ∀ k, k < 6 → (c.ev k).length ≤ 1048576) (hR : AsksCell w S.hd.inter) :
  Calls Tryd.prog 19 #[.agg (sheetL S.hd (.slice p S.hd.supp.length ca) (.slice b S.rows.length cb) S.zeros).toArray, .int .i64 (i : Int)] w fun e w' => e = .returned (.bool (rowMay S.hd.inter (rowN S.hd.fmt) i S.rows[i])) ∧ Below w.heap.size w w' := by
 unfold maxLen at hn
 obtain ⟨b1, o1, rfl, hb1, hc1⟩ := rows_at hr (by omega)
 obtain ⟨r, cap, hq, hml, hcel, hat⟩ := hc1 i hi
 clear hc1 hr
 have cE := fun x => each_code S.hd (.slice p S.hd.supp.length ca) (.slice (some ⟨b1, o1, none⟩) S.rows.length cb) S.zeros x
 generalize S.rows[i] = R at hc hml hcel hat ⊢
 generalize S.rows.length = n at hi hn cE ⊢
 obtain ⟨H, I, Q, m⟩ := R
 dsimp only at *
 obtain ⟨zs, hZ⟩ : ∃ zs, sheetL S.hd (.slice p S.hd.supp.length ca) (.slice (some ⟨b1, o1, none⟩) n cb) S.zeros = zs := ⟨_, rfl⟩
 have z6 : zs[6]? = some (.slice (some ⟨b1, o1, none⟩) n cb) := by rw [← hZ]; rfl
 have z3 : zs[3]? = some (.bool S.hd.inter) := by rw [← hZ]; rfl
 have HSZ : (Tryd.prog.info? 46).map (·.size) = some zs.toArray.size := by rw [show zs.toArray.size = 8 by rw [← hZ]; rfl]; kernel_rfl
 rw [hZ] at cE ⊢
 clear hZ
 have hNr := rowN_most S.hd.fmt
 generalize rowN S.hd.fmt = N at *
 generalize S.hd.inter = inter at *
 obtain ⟨rs, hrs⟩ : ∃ rs, [Value.bool H, .int .i64 I, .int .i64 Q, .slice r m.length cap] = rs := ⟨_, rfl⟩
 have r3 : rs[3]? = some (.slice r m.length cap) := by rw [← hrs]; rfl
 have rl : rs.length = 4 := by rw [← hrs]; rfl
 have ro : rs.toArray.all (·.oneCell') = true := by rw [← hrs]; simp [Value.oneCell']
 have cH := fun x => rhead_code (i : Int) (by omega) H I Q (.slice r m.length cap) x
 rw [show (#[Value.bool H, .int .i64 I, .int .i64 Q, .slice r m.length cap] : Array Value) = rs.toArray by rw [← hrs]] at cH
 have hrg : ∀ x, Below w.heap.size w x → x.rangeAt b1 (o1 + i * 4) rs := fun x hx k v hk => by
  obtain ⟨a0, a1, a2, a3⟩ := hat x hx
  rw [← hrs] at hk
  match k, hk with
  | 0, hk => injection hk with hk; subst hk; exact a0
  | 1, hk => injection hk with hk; subst hk; exact a1
  | 2, hk => injection hk with hk; subst hk; exact a2
  | 3, hk => injection hk with hk; subst hk; exact a3
 clear hat hrs
 obtain ⟨Yr, HYRS, hzr⟩ := rows_zero
 obtain ⟨Y, HYS, hzv⟩ := cels_zero
 obtain ⟨B, wA, wB, hB, hwA, hwB, hsA, hsB, hhA, hhR, hbB⟩ := laid2 w (.cells zs.toArray 46 (0, 0)) (.cells rs.toArray 45 (0, 0))
 have hbA : Below w.heap.size w wA := by rw [← hwA]; exact (Below.refl _ w).alloc (Nat.le_refl _) _
 have hrgA := hrg wA hbA
 have CL : Hid (∀ x, Below (B + 2) wB x → x.cell? ⟨B, 3, none⟩ = some (.bool inter) ∧ x.cell? ⟨B + 1, 3, none⟩ = some (.slice r m.length cap) ∧ Below w.heap.size w x) := Lib.hid fun x hx => by
  have h1 := (hx.block B (by omega)).trans hhA
  have h2 := (hx.block (B + 1) (by omega)).trans hhR
  exact ⟨part_cells h1 z3, part_cells h2 r3, by rw [hB]; exact hbB.trans (hx.mono (by omega))⟩
 have HA := Lib.hid (fun (x : World) (hx : Below (B + 2) wB x) => (hx.block B (by omega)).trans hhA)
 have HR := Lib.hid (fun (x : World) (hx : Below (B + 2) wB x) => (hx.block (B + 1) (by omega)).trans hhR)
 have K : ∀ (x y : World), Below (B + 2) wB x → Below x.heap.size x y → Below (B + 2) wB y := fun x y hx hy => hx.trans (hy.mono (by have := hx.size; omega))
 have C1 := Lib.hid (fun (x : World) (hx : Below (B + 2) wB x) => ((cH x).mono fun e y h => ⟨h.1, K x y hx h.2⟩ : Calls Tryd.prog 35 #[.int .i64 (i : Int), .agg rs.toArray] x fun e y => e = .returned (.bool (headB (i : Int) H I Q)) ∧ Below (B + 2) wB y))
 have C2 := Lib.hid (fun (x : World) (hx : Below (B + 2) wB x) => ((cE x).mono fun e y h => ⟨h.1, K x y hx h.2⟩ : Calls Tryd.prog 36 #[.agg zs.toArray] x fun e y => e = .returned (.int .i64 N) ∧ Below (B + 2) wB y))
 have HSR : (Tryd.prog.info? 45).map (·.size) = some rs.toArray.size := by rw [show rs.toArray.size = 4 from rl]; kernel_rfl
 have HYR : Yr.size = rs.toArray.size := by rw [HYRS]; exact rl.symm
 have t1 : decide ((i : Int) < (n : Int)) = true := by simp; omega
 have hS0 : Below (B + 2) wB wB := Below.refl _ _
 have HWA := Lib.hid hwA
 have HWB := Lib.hid hwB
 have HB := Lib.hid hB
 have HS := Lib.hid hsB
 have HSA := Lib.hid hsA
 have HM := Lib.hid hml
 have HCEL := Lib.hid hcel
 have HCR := Lib.hid hR
 have HKK := Lib.hid K
 unfold rowMay
 dsimp only
 rw [head_is]
 generalize headB (i : Int) H I Q = G at *
 clear hwA hwB hB hsA hsB hhA hhR hbB hbA z3 r3 hrg cE cH hcel hR hml K
 go_enter Tryd.func19, Tryd.ntmps19
 go_wp2_with (first | (rw [HWA.out, HB.out]; with_reducible refine wpList_load_rw rfl _ rfl b1 (o1 + i * 4) rfl rs hrgA rl ?_) | (with_reducible refine wp_store_fresh rfl 45 _ _ rfl rs.toArray Yr 45 rfl rfl HSR HYR ro ?_; rw [HWB.out, HSA.out]))
 cases G with
 | false =>
  refine wp_region_calm (S := fun x => Below (B + 2) wB x) 12 (by kernel_rfl) (by kernel_rfl) hS0.drew ?_
  simp only [List.take_succ_cons, List.take_zero, List.drop_succ_cons, List.drop_zero]
  refine calm_value (by kernel_rfl) (fun x _ => by go_simp; try with_reducible rfl) ?_; simp only [Act.put, List.setIfInBounds_toArray, List.set_cons_zero, List.set_cons_succ]
  refine calm_load 45 _ (B + 1) 45 rs.toArray (0, 0) _ (by kernel_rfl) rfl rfl (fun x hx => HR.out x hx) Tryd.underlying45 rfl HSR ?_; simp only [Act.put, List.setIfInBounds_toArray, List.set_cons_zero, List.set_cons_succ]
  refine calm_call (by kernel_rfl) C1.out (fun _ => by kernel_rfl) ?_; simp only [Act.put, List.setIfInBounds_toArray, List.set_cons_zero, List.set_cons_succ]
  iterate 2 (refine calm_value (by kernel_rfl) (fun x _ => by go_simp; try with_reducible rfl) ?_; simp only [Act.put, List.setIfInBounds_toArray, List.set_cons_zero, List.set_cons_succ])
  iterate 6 (refine calm_not (by kernel_rfl) ?_; simp only [Act.put, List.setIfInBounds_toArray, List.set_cons_zero, List.set_cons_succ])
  refine calm_value (by kernel_rfl) (fun x _ => by go_simp; try with_reducible rfl) ?_; simp only [Act.put, List.setIfInBounds_toArray, List.set_cons_zero, List.set_cons_succ]
  refine calm_nil fun x hx => ?_
  have HE := (CL.out x hx).2.2
  go_wp2
  go_ret
  exact ⟨ret_bool (by rw [Bool.false_and, Bool.and_false]), by first | exact HE | (rw [← HB.out]; exact HE)⟩
 | true =>
 refine wp_region_calm (S := fun x => Below (B + 2) wB x) 12 (by kernel_rfl) (by kernel_rfl) hS0.drew ?_
 simp only [List.take_succ_cons, List.take_zero, List.drop_succ_cons, List.drop_zero]
 refine calm_value (by kernel_rfl) (fun x _ => by go_simp; try with_reducible rfl) ?_; simp only [Act.put, List.setIfInBounds_toArray, List.set_cons_zero, List.set_cons_succ]
 refine calm_load 45 _ (B + 1) 45 rs.toArray (0, 0) _ (by kernel_rfl) rfl rfl (fun x hx => HR.out x hx) Tryd.underlying45 rfl HSR ?_; simp only [Act.put, List.setIfInBounds_toArray, List.set_cons_zero, List.set_cons_succ]
 refine calm_call (by kernel_rfl) C1.out (fun _ => by kernel_rfl) ?_; simp only [Act.put, List.setIfInBounds_toArray, List.set_cons_zero, List.set_cons_succ]
 iterate 3 (refine calm_value (by kernel_rfl) (fun x _ => by go_simp; try with_reducible rfl) ?_; simp only [Act.put, List.setIfInBounds_toArray, List.set_cons_zero, List.set_cons_succ])
 refine calm_cell 31 _ ⟨(B + 1), 3, none⟩ (.slice r m.length cap) (by kernel_rfl) rfl rfl (fun x hx => by have c0 := (CL.out x hx).2.1; go_simp) ?_; simp only [Act.put, List.setIfInBounds_toArray, List.set_cons_zero, List.set_cons_succ]
 refine calm_value (by kernel_rfl) (fun x _ => by go_simp; try with_reducible rfl) ?_; simp only [Act.put, List.setIfInBounds_toArray, List.set_cons_zero, List.set_cons_succ]
 refine calm_load 46 _ B 46 zs.toArray (0, 0) _ (by kernel_rfl) rfl rfl (fun x hx => HA.out x hx) Tryd.underlying46 rfl HSZ ?_; simp only [Act.put, List.setIfInBounds_toArray, List.set_cons_zero, List.set_cons_succ]
 refine calm_call (by kernel_rfl) C2.out (fun _ => by kernel_rfl) ?_; simp only [Act.put, List.setIfInBounds_toArray, List.set_cons_zero, List.set_cons_succ]
 iterate 2 (refine calm_value (by kernel_rfl) (fun x _ => by go_simp; try with_reducible rfl) ?_; simp only [Act.put, List.setIfInBounds_toArray, List.set_cons_zero, List.set_cons_succ])
 refine calm_nil fun x hx => ?_
 obtain ⟨-, k3, HE⟩ := CL.out x hx
 by_cases e0 : (m.length : Int) = N
 case neg =>
  have t0 : ((m.length : Int) != N) = true := by rw [bne_iff_ne]; exact e0
  have F := Lib.hid (decide_eq_false e0)
  clear e0
  go_wp2
  go_ret
  exact ⟨ret_bool (by rw [F.out]; rfl), by first | exact HE | (rw [← HB.out]; exact HE)⟩
 have t0 : ((m.length : Int) != N) = false := by rw [e0]; simp
 have F := Lib.hid (decide_eq_true e0)
 have hm4 : m.length ≤ 10000 := by omega
 clear e0
 rw [t0]
 go_wp2
 clear k3 t0
 go_loopw [28] (fun z wr => ∃ j : Nat, z = .int .i64 (j : Int) ∧ j ≤ m.length ∧ Hid ((m.take j).all (celMay inter) = true) ∧ Below (B + 2) wB wr) (fun z _ => m.length - (intOf z).toNat)
 case atStart => exact ⟨0, rfl, Nat.zero_le _, Lib.hid rfl, hx⟩
 case round =>
  clear hx HE
  obtain ⟨j, rfl, hj, ha, hb⟩ := hrel
  obtain ⟨-, -, hbw⟩ := CL.out wr hb
  by_cases hlt : j < m.length
  ·have t1 : decide ((j : Int) < (m.length : Int)) = true := by simp; omega
   obtain ⟨b2, o2, rfl, hb2, hcv⟩ := ManyIn.each HCEL.out (by omega)
   obtain ⟨vs, hV, hvc⟩ := hcv j hlt
   have hl18 := hV.shape.1
   have hone := one_cells hV
   obtain ⟨p3, cap3, hvs, -, hev⟩ := hV
   have hrg : wr.rangeAt b2 (o2 + j * 18) vs := fun k v hk => hvc wr hbw k v hk
   have NX := Lib.hid (fun h => all_step hlt ha.out (f := celMay inter) h)
   have NF := Lib.hid (fun h => all_stop (f := celMay inter) hlt h)
   obtain ⟨wC, hwC⟩ : ∃ wC, wr.alloc (.cells vs.toArray 42 (0, 0)) = wC := ⟨_, rfl⟩
   obtain ⟨C, hC⟩ : ∃ C, wr.heap.size = C := ⟨_, rfl⟩
   have hhC : wC.heap[C]? = some (.cells vs.toArray 42 (0, 0)) := by rw [← hwC, ← hC]; exact heap_alloc_new wr _
   have hbC : Below (B + 2) wB wC := by rw [← hwC]; exact hb.alloc (by have := hb.size; have := HS.out; omega) _
   obtain ⟨k3, -, hwx⟩ := CL.out wC hbC
   have hsC : wC.heap.size = C + 1 := by rw [← hwC, ← hC]; simp
   have HSV : (Tryd.prog.info? 42).map (·.size) = some vs.toArray.size := by rw [show vs.toArray.size = 18 from hl18]; kernel_rfl
   have HYV : Y.size = vs.toArray.size := by rw [HYS]; exact hl18.symm
   have C3 := HCR.out m[j] p3 (fun i => (m[j].ev i).length) cap3 wC hwx (fun i hi => ⟨rfl, hc _ (List.getElem_mem hlt) i hi, (hev i hi).2.below hwx⟩)
   rw [← hvs] at C3
   have HWC := Lib.hid hwC
   have HSC := Lib.hid hsC
   have HC := Lib.hid hC
   clear hvs hvc hcv ha hwC hsC hev hC
   generalize celMay inter m[j] = y at *
   go_wp2_with (first | (with_reducible refine wpList_load_cel rfl _ rfl b2 (o2 + j * 18) rfl vs hrg hl18 ?_) | (with_reducible refine wp_store_fresh rfl 42 _ _ rfl vs.toArray Y 42 rfl rfl HSV HYV hone ?_; rw [HWC.out]) | (rw [HC.out]; with_reducible refine wpList_load_row rfl 42 _ rfl C rfl 42 vs.toArray (0, 0) _ hhC Tryd.underlying42 rfl HSV ?_))
   refine C3.mono ?_
   rintro e w2 ⟨rfl, hb2'⟩
   have hx2 : Below (B + 2) wB w2 := hbC.trans (hb2'.mono (by have := hbC.size; have := HS.out; omega))
   have hw2 := (CL.out w2 hx2).2.2
   clear hb2' hhC hrg hbC k3 hwx
   cases y with
   | true =>
    have N1 := Lib.hid (NX.out rfl)
    clear NX NF
    go_wp2
    go_roundw
    case rel => exact ⟨j + 1, by go_num, by omega, N1, hx2⟩
    case measure => simp [intOf]; omega
   | false =>
    have N1 := Lib.hid (NF.out rfl)
    clear NX NF
    go_wp2
    go_ret
    exact ⟨ret_bool (by rw [F.out, N1.out]; rfl), by first | exact hw2 | (rw [← HB.out]; exact hw2)⟩
  ·obtain rfl : m.length = j := by omega
   have t1 : decide ((m.length : Int) < (m.length : Int)) = false := by simp
   have AA := Lib.hid (show m.all (celMay inter) = true by have := ha.out; rwa [List.take_length] at this)
   go_wp2
   go_ret
   exact ⟨ret_bool (by rw [F.out, AA.out]; rfl), by first | exact hbw | (rw [← HB.out]; exact hbw)⟩
end Go.Proofs.YthmmpjecmapajaaDoor

namespace Go.Proofs.YthmmpjecmapajaaDoor
open Go.RowKit Go.Lib
theorem grown_lowS {w x : World} {b N : Nat} (h : w.grownBy x (some b)) (hN : N ≤ b) (hz : N ≤ w.heap.size) : Below N w x :=
 ⟨h.os, h.tape, h.output, h.size, fun k hk => h.block k (by omega) (fun e => by injection e with e; omega)⟩
def partsMay (h : Shd) (z : Int) (n : Nat) : Bool := shdMay h && (decide (0 ≤ z) && (decide (z ≤ 262144) && ((n : Int) == fmtR h.fmt)))
set_option maxRecDepth 100000 in
set_option maxHeartbeats 1000000 in
theorem rparts_code (h : Shd) (p b : Option Addr) (ca cb n : Nat) (z : Int) (w : World) (hl : h.supp.length ≤ maxLen) (hs : IntsL w p h.supp) :
  Calls Tryd.prog 17 #[.agg (sheetL h (.slice p h.supp.length ca) (.slice b n cb) z).toArray] w fun e w' => e = .returned (.bool (partsMay h z n)) ∧ Below w.heap.size w w' := by
 have hnot := fun x a (hx : Below w.heap.size w x) (hm : shdMay h = false) => sput_not a h p ca (.slice b n cb) z hl x (hs.below hx) hm
 have hok := fun (x : World) (hx : Below w.heap.size w x) (hm : shdMay h = true) => sput_ok (x.alloc newWr) (x.heap.size + 1) x.heap.size [] h p ca (.slice b n cb) z (fun y hy => hs.below (hx.trans ((((Below.refl _ x).alloc (Nat.le_refl _) newWr).trans (grown_lowS hy (Nat.le_refl _) (by simp))).mono hx.size))) hm (IsWr.fresh rfl (Nat.lt_succ_self _)) (by simp) (by simp)
 obtain ⟨zs, hZ⟩ : ∃ zs, sheetL h (.slice p h.supp.length ca) (.slice b n cb) z = zs := ⟨_, rfl⟩
 have z2 : zs[2]? = some (.int .i64 h.fmt) := by rw [← hZ]; rfl
 have z6 : zs[6]? = some (.slice b n cb) := by rw [← hZ]; rfl
 have z7 : zs[7]? = some (.int .i64 z) := by rw [← hZ]; rfl
 have HSZ : (Tryd.prog.info? 46).map (·.size) = some zs.toArray.size := by rw [show zs.toArray.size = 8 by rw [← hZ]; rfl]; kernel_rfl
 simp only [hZ] at hnot hok ⊢
 obtain ⟨B, hB⟩ : ∃ B, w.heap.size = B := ⟨_, rfl⟩
 obtain ⟨wA, hwA⟩ : ∃ wA, w.alloc (.cells zs.toArray 46 (0, 0)) = wA := ⟨_, rfl⟩
 have hhA : wA.heap[B]? = some (.cells zs.toArray 46 (0, 0)) := by rw [← hwA, ← hB]; exact heap_alloc_new w _
 have hbA : Below B w wA := by rw [← hB, ← hwA]; exact (Below.refl _ w).alloc (Nat.le_refl _) _
 have hsA : wA.heap.size = B + 1 := by rw [← hwA, ← hB]; simp
 obtain ⟨ev, hev⟩ : ∃ ev : Int, (if shdMay h = true then 0 else 12) = ev := ⟨_, rfl⟩
 have HPUT : Hid (∀ x, (Below B w x ∧ x.heap[B]? = some (.cells zs.toArray 46 (0, 0))) → Calls Tryd.prog 33 #[.pointer (some ⟨x.heap.size, 0, none⟩), .agg zs.toArray] (x.alloc newWr) fun e y => e = .returned (.int .i64 ev) ∧ Below B w y ∧ y.heap[B]? = some (.cells zs.toArray 46 (0, 0))) := Lib.hid (by
  intro x hx
  have hxb : B < x.heap.size := (Array.getElem?_eq_some_iff.1 hx.2).1
  have hfin : ∀ y, Below x.heap.size x y → Below B w y ∧ y.heap[B]? = some (.cells zs.toArray 46 (0, 0)) := fun y h3 => ⟨hx.1.trans (h3.mono (by omega)), (h3.block B hxb).trans hx.2⟩
  have hal : Below x.heap.size x (x.alloc newWr) := (Below.refl _ x).alloc (Nat.le_refl _) newWr
  cases hm : shdMay h with
  | false =>
   refine (hnot (x.alloc newWr) ⟨x.heap.size, 0, none⟩ (by rw [hB]; exact hx.1.trans (hal.mono (by omega))) hm).mono ?_
   rintro e y ⟨rfl, h2⟩
   exact ⟨by rw [← hev, hm]; rfl, hfin y (hal.trans (h2.mono (by simp)))⟩
  | true =>
   refine (hok x (by rw [hB]; exact hx.1) hm).mono ?_
   rintro e y ⟨rfl, _, hg⟩
   exact ⟨by rw [← hev, hm]; rfl, hfin y (hal.trans (grown_lowS hg (Nat.le_refl _) (by simp)))⟩)
 have HEV : Hid (∀ b, shdMay h = b → (ev == 0) = b) := Lib.hid (by intro b hb; rw [← hev, hb]; cases b <;> rfl)
 have c2 := fun w => frows_code h.fmt w
 have HW := Lib.hid hwA
 have HB := Lib.hid hB
 have hH0 : Below B w wA.drew ∧ wA.drew.heap[B]? = some (.cells zs.toArray 46 (0, 0)) := ⟨hbA.drew, hhA⟩
 clear hZ hwA hB hnot hok hev hhA hs
 unfold partsMay
 generalize shdMay h = sm at *
 generalize h.fmt = fmt at *
 generalize fmtL fmt = Lf at *
 obtain ⟨Rf, hRf⟩ : ∃ k, fmtR fmt = k := ⟨_, rfl⟩
 rw [hRf]
 simp only [hRf] at c2
 clear hRf
 have hev1 := HEV.out sm rfl
 clear HEV
 obtain ⟨d2, h2⟩ : ∃ d, decide (0 ≤ z) = d := ⟨_, rfl⟩
 obtain ⟨d3, h3⟩ : ∃ d, decide (z ≤ 262144) = d := ⟨_, rfl⟩
 rw [h2, h3]
 obtain ⟨d4, h4⟩ : ∃ d, ((n : Int) == Rf) = d := ⟨_, rfl⟩
 rw [h4]
 have hB4 : sm = false ∨ (sm = true ∧ d2 = false) ∨ (sm = true ∧ d2 = true ∧ d3 = false) ∨ (sm = true ∧ d2 = true ∧ d3 = true) := by
  clear hev1 h2 h3 h4
  cases sm <;> cases d2 <;> cases d3 <;> simp
 go_enter Tryd.func17, Tryd.ntmps17
 go_wp2_with fail
 refine (c2 _).mono ?_
 rintro e w1 ⟨rfl, rfl⟩
 go_wp2
 rw [HW.out, HB.out]
 refine wp_region_held_drew (S := fun x => Below B w x ∧ x.heap[B]? = some (.cells zs.toArray 46 (0, 0))) (by kernel_rfl) hH0 (fun hH => ?_)
 refine held_take 1 (some 12) (v := .agg zs.toArray) rfl rfl (by kernel_rfl) (by kernel_rfl) (by kernel_rfl) (fun _ _ _ h => h) hH (Or.inl ⟨by kernel_rfl, fun x hx => exec_load (ty := 46) (x := .tmp 1) (ad := ⟨B, 0, none⟩) (by kernel_rfl) (by kernel_rfl) (run_loadVar_row x (B) _ _ zs.toArray (0, 0) _ (hx.2) Tryd.underlying46 rfl HSZ)⟩) ?_
 try simp only [Act.put, List.setIfInBounds_toArray, List.set_cons_zero, List.set_cons_succ]
 refine wpAnyH_ready (rs := [0]) (by kernel_rfl) (by simp) ?_
 refine AllReadyH.cons rfl (fun K hK => ?_) AllReadyH.nil
 go_simp
 go_wp2_with fail
 obtain ⟨x0, hx0⟩ : ∃ x0, wA.drew = x0 := ⟨_, rfl⟩
 rw [hx0] at hH ⊢
 have hxz : B < x0.heap.size := (Array.getElem?_eq_some_iff.1 hH.2).1
 have hX := hH
 refine (new_code _).mono ?_
 rintro e w2 ⟨rfl, rfl⟩
 refine hK.out _ _ (⟨hH.1.alloc (Nat.le_of_lt hxz) _, heap_keep hH.2⟩) (fun hH2 => ?_)
 clear hK K hH
 have hH := hH2
 clear hH2
 try simp only [Act.put, List.setIfInBounds_toArray, List.set_cons_zero, List.set_cons_succ]
 refine wpAnyH_ready (rs := [2]) (by kernel_rfl) (by simp) ?_
 refine AllReadyH.cons rfl (fun K hK => ?_) AllReadyH.nil
 go_simp
 go_wp2_with fail
 refine (HPUT.out x0 hX).mono ?_
 rintro e w3 ⟨rfl, hb3, hk3⟩
 refine hK.out _ _ (⟨hb3, hk3⟩) (fun hH2 => ?_)
 clear hK K hH
 have hH := hH2
 clear hH2
 try simp only [Act.put, List.setIfInBounds_toArray, List.set_cons_zero, List.set_cons_succ]
 rcases hB4 with rfl | ⟨rfl, rfl⟩ | ⟨rfl, rfl, rfl⟩ | ⟨rfl, rfl, rfl⟩
 ·refine held_take 3 (some 14) (v := ?_) rfl rfl (by kernel_rfl) (by kernel_rfl) (by kernel_rfl) (fun _ _ _ h => h) hH (Or.inl ⟨by kernel_rfl, ?_⟩) ?_
  rotate_left
  ·(intro x _; go_simp; try with_reducible rfl)
  rotate_right
  try simp only [Act.put, List.setIfInBounds_toArray, List.set_cons_zero, List.set_cons_succ]
  refine held_take 4 (some 15) (v := ?_) rfl rfl (by kernel_rfl) (by kernel_rfl) (by kernel_rfl) (fun _ _ _ h => h) hH (Or.inl ⟨by kernel_rfl, ?_⟩) ?_
  rotate_left
  ·(intro x _; go_simp; try with_reducible rfl)
  rotate_right
  try simp only [Act.put, List.setIfInBounds_toArray, List.set_cons_zero, List.set_cons_succ]
  refine held_take 5 (some 16) (v := undef) rfl rfl (by kernel_rfl) (by kernel_rfl) (by kernel_rfl) (fun _ _ _ h => h) hH (Or.inr ⟨by kernel_rfl, rfl⟩) ?_
  try simp only [Act.put, List.setIfInBounds_toArray, List.set_cons_zero, List.set_cons_succ]
  refine held_take 6 (some 17) (v := undef) rfl rfl (by kernel_rfl) (by kernel_rfl) (by kernel_rfl) (fun _ _ _ h => h) hH (Or.inr ⟨by kernel_rfl, rfl⟩) ?_
  try simp only [Act.put, List.setIfInBounds_toArray, List.set_cons_zero, List.set_cons_succ]
  refine held_take 7 (some 18) (v := undef) rfl rfl (by kernel_rfl) (by kernel_rfl) (by kernel_rfl) (fun _ _ _ h => h) hH (Or.inr ⟨by kernel_rfl, rfl⟩) ?_
  try simp only [Act.put, List.setIfInBounds_toArray, List.set_cons_zero, List.set_cons_succ]
  refine held_take 8 (some 19) (v := ?_) rfl rfl (by kernel_rfl) (by kernel_rfl) (by kernel_rfl) (fun _ _ _ h => h) hH (Or.inl ⟨by kernel_rfl, ?_⟩) ?_
  rotate_left
  ·(intro x _; go_simp; try with_reducible rfl)
  rotate_right
  try simp only [Act.put, List.setIfInBounds_toArray, List.set_cons_zero, List.set_cons_succ]
  refine held_take 9 (some 20) (v := ?_) rfl rfl (by kernel_rfl) (by kernel_rfl) (by kernel_rfl) (fun _ _ _ h => h) hH (Or.inl ⟨by kernel_rfl, ?_⟩) ?_
  rotate_left
  ·(intro x _; go_simp; try with_reducible rfl)
  rotate_right
  try simp only [Act.put, List.setIfInBounds_toArray, List.set_cons_zero, List.set_cons_succ]
  refine held_take 10 (some 21) (v := undef) rfl rfl (by kernel_rfl) (by kernel_rfl) (by kernel_rfl) (fun _ _ _ h => h) hH (Or.inr ⟨by kernel_rfl, rfl⟩) ?_
  try simp only [Act.put, List.setIfInBounds_toArray, List.set_cons_zero, List.set_cons_succ]
  refine held_take 11 (some 22) (v := undef) rfl rfl (by kernel_rfl) (by kernel_rfl) (by kernel_rfl) (fun _ _ _ h => h) hH (Or.inr ⟨by kernel_rfl, rfl⟩) ?_
  try simp only [Act.put, List.setIfInBounds_toArray, List.set_cons_zero, List.set_cons_succ]
  refine held_take 12 (some 23) (v := undef) rfl rfl (by kernel_rfl) (by kernel_rfl) (by kernel_rfl) (fun _ _ _ h => h) hH (Or.inr ⟨by kernel_rfl, rfl⟩) ?_
  try simp only [Act.put, List.setIfInBounds_toArray, List.set_cons_zero, List.set_cons_succ]
  refine held_take 13 (some 24) (v := ?_) rfl rfl (by kernel_rfl) (by kernel_rfl) (by kernel_rfl) (fun _ _ _ h => h) hH (Or.inl ⟨by kernel_rfl, ?_⟩) ?_
  rotate_left
  ·(intro x _; go_simp; try with_reducible rfl)
  rotate_right
  try simp only [Act.put, List.setIfInBounds_toArray, List.set_cons_zero, List.set_cons_succ]
  refine held_take 14 (some 25) (v := ?_) rfl rfl (by kernel_rfl) (by kernel_rfl) (by kernel_rfl) (fun _ _ _ h => h) hH (Or.inl ⟨by kernel_rfl, ?_⟩) ?_
  rotate_left
  ·(intro x _; go_simp; try with_reducible rfl)
  rotate_right
  try simp only [Act.put, List.setIfInBounds_toArray, List.set_cons_zero, List.set_cons_succ]
  refine held_take 15 (some 26) (v := undef) rfl rfl (by kernel_rfl) (by kernel_rfl) (by kernel_rfl) (fun _ _ _ h => h) hH (Or.inr ⟨by kernel_rfl, rfl⟩) ?_
  try simp only [Act.put, List.setIfInBounds_toArray, List.set_cons_zero, List.set_cons_succ]
  refine held_take 16 (some 27) (v := undef) rfl rfl (by kernel_rfl) (by kernel_rfl) (by kernel_rfl) (fun _ _ _ h => h) hH (Or.inr ⟨by kernel_rfl, rfl⟩) ?_
  try simp only [Act.put, List.setIfInBounds_toArray, List.set_cons_zero, List.set_cons_succ]
  refine held_take 17 (some 28) (v := undef) rfl rfl (by kernel_rfl) (by kernel_rfl) (by kernel_rfl) (fun _ _ _ h => h) hH (Or.inr ⟨by kernel_rfl, rfl⟩) ?_
  try simp only [Act.put, List.setIfInBounds_toArray, List.set_cons_zero, List.set_cons_succ]
  refine held_take 18 (some 29) (v := undef) rfl rfl (by kernel_rfl) (by kernel_rfl) (by kernel_rfl) (fun _ _ _ h => h) hH (Or.inr ⟨by kernel_rfl, rfl⟩) ?_
  try simp only [Act.put, List.setIfInBounds_toArray, List.set_cons_zero, List.set_cons_succ]
  refine held_take 19 (some 30) (v := undef) rfl rfl (by kernel_rfl) (by kernel_rfl) (by kernel_rfl) (fun _ _ _ h => h) hH (Or.inr ⟨by kernel_rfl, rfl⟩) ?_
  try simp only [Act.put, List.setIfInBounds_toArray, List.set_cons_zero, List.set_cons_succ]
  refine held_take 20 (some 31) (v := ?_) rfl rfl (by kernel_rfl) (by kernel_rfl) (by kernel_rfl) (fun _ _ _ h => h) hH (Or.inl ⟨by kernel_rfl, ?_⟩) ?_
  rotate_left
  ·(intro x _; go_simp; try with_reducible rfl)
  rotate_right
  try simp only [Act.put, List.setIfInBounds_toArray, List.set_cons_zero, List.set_cons_succ]
  refine held_take 21 (some 2) (v := ?_) rfl rfl (by kernel_rfl) (by kernel_rfl) (by kernel_rfl) (fun _ _ _ h => h) hH (Or.inl ⟨by kernel_rfl, ?_⟩) ?_
  rotate_left
  ·(intro x _; go_simp; try with_reducible rfl)
  rotate_right
  try simp only [Act.put, List.setIfInBounds_toArray, List.set_cons_zero, List.set_cons_succ]
  refine wpAnyH_done (by kernel_rfl) ?_ _
  go_wp2
  go_ret
  exact ⟨ret_bool (by rfl), by rw [HB.out]; exact hH.1⟩
 ·refine held_take 3 (some 14) (v := ?_) rfl rfl (by kernel_rfl) (by kernel_rfl) (by kernel_rfl) (fun _ _ _ h => h) hH (Or.inl ⟨by kernel_rfl, ?_⟩) ?_
  rotate_left
  ·(intro x _; go_simp; try with_reducible rfl)
  rotate_right
  try simp only [Act.put, List.setIfInBounds_toArray, List.set_cons_zero, List.set_cons_succ]
  refine held_take 4 (some 15) (v := ?_) rfl rfl (by kernel_rfl) (by kernel_rfl) (by kernel_rfl) (fun _ _ _ h => h) hH (Or.inl ⟨by kernel_rfl, ?_⟩) ?_
  rotate_left
  ·(intro x _; go_simp; try with_reducible rfl)
  rotate_right
  try simp only [Act.put, List.setIfInBounds_toArray, List.set_cons_zero, List.set_cons_succ]
  refine held_take 5 (some 16) (v := ?_) rfl rfl (by kernel_rfl) (by kernel_rfl) (by kernel_rfl) (fun _ _ _ h => h) hH (Or.inl ⟨by kernel_rfl, ?_⟩) ?_
  rotate_left
  ·(intro x _; go_simp; try with_reducible rfl)
  rotate_right
  try simp only [Act.put, List.setIfInBounds_toArray, List.set_cons_zero, List.set_cons_succ]
  refine held_take 6 (some 17) (v := .int .i64 z) rfl rfl (by kernel_rfl) (by kernel_rfl) (by kernel_rfl) (fun _ _ _ h => h) hH (Or.inl ⟨by kernel_rfl, ?_⟩) ?_
  ·(intro x hx; have c0 := part_cells hx.2 z7; go_simp)
  try simp only [Act.put, List.setIfInBounds_toArray, List.set_cons_zero, List.set_cons_succ]
  refine held_take 7 (some 18) (v := ?_) rfl rfl (by kernel_rfl) (by kernel_rfl) (by kernel_rfl) (fun _ _ _ h => h) hH (Or.inl ⟨by kernel_rfl, ?_⟩) ?_
  rotate_left
  ·(intro x _; go_simp; try with_reducible rfl)
  rotate_right
  try simp only [Act.put, List.setIfInBounds_toArray, List.set_cons_zero, List.set_cons_succ]
  refine held_take 8 (some 19) (v := ?_) rfl rfl (by kernel_rfl) (by kernel_rfl) (by kernel_rfl) (fun _ _ _ h => h) hH (Or.inl ⟨by kernel_rfl, ?_⟩) ?_
  rotate_left
  ·(intro x _; go_simp; try with_reducible rfl)
  rotate_right
  try simp only [Act.put, List.setIfInBounds_toArray, List.set_cons_zero, List.set_cons_succ]
  refine held_take 9 (some 20) (v := ?_) rfl rfl (by kernel_rfl) (by kernel_rfl) (by kernel_rfl) (fun _ _ _ h => h) hH (Or.inl ⟨by kernel_rfl, ?_⟩) ?_
  rotate_left
  ·(intro x _; go_simp; try with_reducible rfl)
  rotate_right
  try simp only [Act.put, List.setIfInBounds_toArray, List.set_cons_zero, List.set_cons_succ]
  refine held_take 10 (some 21) (v := undef) rfl rfl (by kernel_rfl) (by kernel_rfl) (by kernel_rfl) (fun _ _ _ h => h) hH (Or.inr ⟨by kernel_rfl, rfl⟩) ?_
  try simp only [Act.put, List.setIfInBounds_toArray, List.set_cons_zero, List.set_cons_succ]
  refine held_take 11 (some 22) (v := undef) rfl rfl (by kernel_rfl) (by kernel_rfl) (by kernel_rfl) (fun _ _ _ h => h) hH (Or.inr ⟨by kernel_rfl, rfl⟩) ?_
  try simp only [Act.put, List.setIfInBounds_toArray, List.set_cons_zero, List.set_cons_succ]
  refine held_take 12 (some 23) (v := undef) rfl rfl (by kernel_rfl) (by kernel_rfl) (by kernel_rfl) (fun _ _ _ h => h) hH (Or.inr ⟨by kernel_rfl, rfl⟩) ?_
  try simp only [Act.put, List.setIfInBounds_toArray, List.set_cons_zero, List.set_cons_succ]
  refine held_take 13 (some 24) (v := ?_) rfl rfl (by kernel_rfl) (by kernel_rfl) (by kernel_rfl) (fun _ _ _ h => h) hH (Or.inl ⟨by kernel_rfl, ?_⟩) ?_
  rotate_left
  ·(intro x _; go_simp; try with_reducible rfl)
  rotate_right
  try simp only [Act.put, List.setIfInBounds_toArray, List.set_cons_zero, List.set_cons_succ]
  refine held_take 14 (some 25) (v := ?_) rfl rfl (by kernel_rfl) (by kernel_rfl) (by kernel_rfl) (fun _ _ _ h => h) hH (Or.inl ⟨by kernel_rfl, ?_⟩) ?_
  rotate_left
  ·(intro x _; go_simp; try with_reducible rfl)
  rotate_right
  try simp only [Act.put, List.setIfInBounds_toArray, List.set_cons_zero, List.set_cons_succ]
  refine held_take 15 (some 26) (v := undef) rfl rfl (by kernel_rfl) (by kernel_rfl) (by kernel_rfl) (fun _ _ _ h => h) hH (Or.inr ⟨by kernel_rfl, rfl⟩) ?_
  try simp only [Act.put, List.setIfInBounds_toArray, List.set_cons_zero, List.set_cons_succ]
  refine held_take 16 (some 27) (v := undef) rfl rfl (by kernel_rfl) (by kernel_rfl) (by kernel_rfl) (fun _ _ _ h => h) hH (Or.inr ⟨by kernel_rfl, rfl⟩) ?_
  try simp only [Act.put, List.setIfInBounds_toArray, List.set_cons_zero, List.set_cons_succ]
  refine held_take 17 (some 28) (v := undef) rfl rfl (by kernel_rfl) (by kernel_rfl) (by kernel_rfl) (fun _ _ _ h => h) hH (Or.inr ⟨by kernel_rfl, rfl⟩) ?_
  try simp only [Act.put, List.setIfInBounds_toArray, List.set_cons_zero, List.set_cons_succ]
  refine held_take 18 (some 29) (v := undef) rfl rfl (by kernel_rfl) (by kernel_rfl) (by kernel_rfl) (fun _ _ _ h => h) hH (Or.inr ⟨by kernel_rfl, rfl⟩) ?_
  try simp only [Act.put, List.setIfInBounds_toArray, List.set_cons_zero, List.set_cons_succ]
  refine held_take 19 (some 30) (v := undef) rfl rfl (by kernel_rfl) (by kernel_rfl) (by kernel_rfl) (fun _ _ _ h => h) hH (Or.inr ⟨by kernel_rfl, rfl⟩) ?_
  try simp only [Act.put, List.setIfInBounds_toArray, List.set_cons_zero, List.set_cons_succ]
  refine held_take 20 (some 31) (v := ?_) rfl rfl (by kernel_rfl) (by kernel_rfl) (by kernel_rfl) (fun _ _ _ h => h) hH (Or.inl ⟨by kernel_rfl, ?_⟩) ?_
  rotate_left
  ·(intro x _; go_simp; try with_reducible rfl)
  rotate_right
  try simp only [Act.put, List.setIfInBounds_toArray, List.set_cons_zero, List.set_cons_succ]
  refine held_take 21 (some 2) (v := ?_) rfl rfl (by kernel_rfl) (by kernel_rfl) (by kernel_rfl) (fun _ _ _ h => h) hH (Or.inl ⟨by kernel_rfl, ?_⟩) ?_
  rotate_left
  ·(intro x _; go_simp; try with_reducible rfl)
  rotate_right
  try simp only [Act.put, List.setIfInBounds_toArray, List.set_cons_zero, List.set_cons_succ]
  refine wpAnyH_done (by kernel_rfl) ?_ _
  go_wp2
  go_ret
  exact ⟨ret_bool (by rfl), by rw [HB.out]; exact hH.1⟩
 ·refine held_take 3 (some 14) (v := ?_) rfl rfl (by kernel_rfl) (by kernel_rfl) (by kernel_rfl) (fun _ _ _ h => h) hH (Or.inl ⟨by kernel_rfl, ?_⟩) ?_
  rotate_left
  ·(intro x _; go_simp; try with_reducible rfl)
  rotate_right
  try simp only [Act.put, List.setIfInBounds_toArray, List.set_cons_zero, List.set_cons_succ]
  refine held_take 4 (some 15) (v := ?_) rfl rfl (by kernel_rfl) (by kernel_rfl) (by kernel_rfl) (fun _ _ _ h => h) hH (Or.inl ⟨by kernel_rfl, ?_⟩) ?_
  rotate_left
  ·(intro x _; go_simp; try with_reducible rfl)
  rotate_right
  try simp only [Act.put, List.setIfInBounds_toArray, List.set_cons_zero, List.set_cons_succ]
  refine held_take 5 (some 16) (v := ?_) rfl rfl (by kernel_rfl) (by kernel_rfl) (by kernel_rfl) (fun _ _ _ h => h) hH (Or.inl ⟨by kernel_rfl, ?_⟩) ?_
  rotate_left
  ·(intro x _; go_simp; try with_reducible rfl)
  rotate_right
  try simp only [Act.put, List.setIfInBounds_toArray, List.set_cons_zero, List.set_cons_succ]
  refine held_take 6 (some 17) (v := .int .i64 z) rfl rfl (by kernel_rfl) (by kernel_rfl) (by kernel_rfl) (fun _ _ _ h => h) hH (Or.inl ⟨by kernel_rfl, ?_⟩) ?_
  ·(intro x hx; have c0 := part_cells hx.2 z7; go_simp)
  try simp only [Act.put, List.setIfInBounds_toArray, List.set_cons_zero, List.set_cons_succ]
  refine held_take 7 (some 18) (v := ?_) rfl rfl (by kernel_rfl) (by kernel_rfl) (by kernel_rfl) (fun _ _ _ h => h) hH (Or.inl ⟨by kernel_rfl, ?_⟩) ?_
  rotate_left
  ·(intro x _; go_simp; try with_reducible rfl)
  rotate_right
  try simp only [Act.put, List.setIfInBounds_toArray, List.set_cons_zero, List.set_cons_succ]
  refine held_take 8 (some 19) (v := ?_) rfl rfl (by kernel_rfl) (by kernel_rfl) (by kernel_rfl) (fun _ _ _ h => h) hH (Or.inl ⟨by kernel_rfl, ?_⟩) ?_
  rotate_left
  ·(intro x _; go_simp; try with_reducible rfl)
  rotate_right
  try simp only [Act.put, List.setIfInBounds_toArray, List.set_cons_zero, List.set_cons_succ]
  refine held_take 9 (some 20) (v := ?_) rfl rfl (by kernel_rfl) (by kernel_rfl) (by kernel_rfl) (fun _ _ _ h => h) hH (Or.inl ⟨by kernel_rfl, ?_⟩) ?_
  rotate_left
  ·(intro x _; go_simp; try with_reducible rfl)
  rotate_right
  try simp only [Act.put, List.setIfInBounds_toArray, List.set_cons_zero, List.set_cons_succ]
  refine held_take 10 (some 21) (v := ?_) rfl rfl (by kernel_rfl) (by kernel_rfl) (by kernel_rfl) (fun _ _ _ h => h) hH (Or.inl ⟨by kernel_rfl, ?_⟩) ?_
  rotate_left
  ·(intro x _; go_simp; try with_reducible rfl)
  rotate_right
  try simp only [Act.put, List.setIfInBounds_toArray, List.set_cons_zero, List.set_cons_succ]
  refine held_take 11 (some 22) (v := .int .i64 z) rfl rfl (by kernel_rfl) (by kernel_rfl) (by kernel_rfl) (fun _ _ _ h => h) hH (Or.inl ⟨by kernel_rfl, ?_⟩) ?_
  ·(intro x hx; have c0 := part_cells hx.2 z7; go_simp)
  try simp only [Act.put, List.setIfInBounds_toArray, List.set_cons_zero, List.set_cons_succ]
  refine held_take 12 (some 23) (v := ?_) rfl rfl (by kernel_rfl) (by kernel_rfl) (by kernel_rfl) (fun _ _ _ h => h) hH (Or.inl ⟨by kernel_rfl, ?_⟩) ?_
  rotate_left
  ·(intro x _; go_simp; try with_reducible rfl)
  rotate_right
  try simp only [Act.put, List.setIfInBounds_toArray, List.set_cons_zero, List.set_cons_succ]
  refine held_take 13 (some 24) (v := ?_) rfl rfl (by kernel_rfl) (by kernel_rfl) (by kernel_rfl) (fun _ _ _ h => h) hH (Or.inl ⟨by kernel_rfl, ?_⟩) ?_
  rotate_left
  ·(intro x _; go_simp; try with_reducible rfl)
  rotate_right
  try simp only [Act.put, List.setIfInBounds_toArray, List.set_cons_zero, List.set_cons_succ]
  refine held_take 14 (some 25) (v := ?_) rfl rfl (by kernel_rfl) (by kernel_rfl) (by kernel_rfl) (fun _ _ _ h => h) hH (Or.inl ⟨by kernel_rfl, ?_⟩) ?_
  rotate_left
  ·(intro x _; go_simp; try with_reducible rfl)
  rotate_right
  try simp only [Act.put, List.setIfInBounds_toArray, List.set_cons_zero, List.set_cons_succ]
  refine held_take 15 (some 26) (v := undef) rfl rfl (by kernel_rfl) (by kernel_rfl) (by kernel_rfl) (fun _ _ _ h => h) hH (Or.inr ⟨by kernel_rfl, rfl⟩) ?_
  try simp only [Act.put, List.setIfInBounds_toArray, List.set_cons_zero, List.set_cons_succ]
  refine held_take 16 (some 27) (v := undef) rfl rfl (by kernel_rfl) (by kernel_rfl) (by kernel_rfl) (fun _ _ _ h => h) hH (Or.inr ⟨by kernel_rfl, rfl⟩) ?_
  try simp only [Act.put, List.setIfInBounds_toArray, List.set_cons_zero, List.set_cons_succ]
  refine held_take 17 (some 28) (v := undef) rfl rfl (by kernel_rfl) (by kernel_rfl) (by kernel_rfl) (fun _ _ _ h => h) hH (Or.inr ⟨by kernel_rfl, rfl⟩) ?_
  try simp only [Act.put, List.setIfInBounds_toArray, List.set_cons_zero, List.set_cons_succ]
  refine held_take 18 (some 29) (v := undef) rfl rfl (by kernel_rfl) (by kernel_rfl) (by kernel_rfl) (fun _ _ _ h => h) hH (Or.inr ⟨by kernel_rfl, rfl⟩) ?_
  try simp only [Act.put, List.setIfInBounds_toArray, List.set_cons_zero, List.set_cons_succ]
  refine held_take 19 (some 30) (v := undef) rfl rfl (by kernel_rfl) (by kernel_rfl) (by kernel_rfl) (fun _ _ _ h => h) hH (Or.inr ⟨by kernel_rfl, rfl⟩) ?_
  try simp only [Act.put, List.setIfInBounds_toArray, List.set_cons_zero, List.set_cons_succ]
  refine held_take 20 (some 31) (v := ?_) rfl rfl (by kernel_rfl) (by kernel_rfl) (by kernel_rfl) (fun _ _ _ h => h) hH (Or.inl ⟨by kernel_rfl, ?_⟩) ?_
  rotate_left
  ·(intro x _; go_simp; try with_reducible rfl)
  rotate_right
  try simp only [Act.put, List.setIfInBounds_toArray, List.set_cons_zero, List.set_cons_succ]
  refine held_take 21 (some 2) (v := ?_) rfl rfl (by kernel_rfl) (by kernel_rfl) (by kernel_rfl) (fun _ _ _ h => h) hH (Or.inl ⟨by kernel_rfl, ?_⟩) ?_
  rotate_left
  ·(intro x _; go_simp; try with_reducible rfl)
  rotate_right
  try simp only [Act.put, List.setIfInBounds_toArray, List.set_cons_zero, List.set_cons_succ]
  refine wpAnyH_done (by kernel_rfl) ?_ _
  go_wp2
  go_ret
  exact ⟨ret_bool (by rfl), by rw [HB.out]; exact hH.1⟩
 ·refine held_take 3 (some 14) (v := ?_) rfl rfl (by kernel_rfl) (by kernel_rfl) (by kernel_rfl) (fun _ _ _ h => h) hH (Or.inl ⟨by kernel_rfl, ?_⟩) ?_
  rotate_left
  ·(intro x _; go_simp; try with_reducible rfl)
  rotate_right
  try simp only [Act.put, List.setIfInBounds_toArray, List.set_cons_zero, List.set_cons_succ]
  refine held_take 4 (some 15) (v := ?_) rfl rfl (by kernel_rfl) (by kernel_rfl) (by kernel_rfl) (fun _ _ _ h => h) hH (Or.inl ⟨by kernel_rfl, ?_⟩) ?_
  rotate_left
  ·(intro x _; go_simp; try with_reducible rfl)
  rotate_right
  try simp only [Act.put, List.setIfInBounds_toArray, List.set_cons_zero, List.set_cons_succ]
  refine held_take 5 (some 16) (v := ?_) rfl rfl (by kernel_rfl) (by kernel_rfl) (by kernel_rfl) (fun _ _ _ h => h) hH (Or.inl ⟨by kernel_rfl, ?_⟩) ?_
  rotate_left
  ·(intro x _; go_simp; try with_reducible rfl)
  rotate_right
  try simp only [Act.put, List.setIfInBounds_toArray, List.set_cons_zero, List.set_cons_succ]
  refine held_take 6 (some 17) (v := .int .i64 z) rfl rfl (by kernel_rfl) (by kernel_rfl) (by kernel_rfl) (fun _ _ _ h => h) hH (Or.inl ⟨by kernel_rfl, ?_⟩) ?_
  ·(intro x hx; have c0 := part_cells hx.2 z7; go_simp)
  try simp only [Act.put, List.setIfInBounds_toArray, List.set_cons_zero, List.set_cons_succ]
  refine held_take 7 (some 18) (v := ?_) rfl rfl (by kernel_rfl) (by kernel_rfl) (by kernel_rfl) (fun _ _ _ h => h) hH (Or.inl ⟨by kernel_rfl, ?_⟩) ?_
  rotate_left
  ·(intro x _; go_simp; try with_reducible rfl)
  rotate_right
  try simp only [Act.put, List.setIfInBounds_toArray, List.set_cons_zero, List.set_cons_succ]
  refine held_take 8 (some 19) (v := ?_) rfl rfl (by kernel_rfl) (by kernel_rfl) (by kernel_rfl) (fun _ _ _ h => h) hH (Or.inl ⟨by kernel_rfl, ?_⟩) ?_
  rotate_left
  ·(intro x _; go_simp; try with_reducible rfl)
  rotate_right
  try simp only [Act.put, List.setIfInBounds_toArray, List.set_cons_zero, List.set_cons_succ]
  refine held_take 9 (some 20) (v := ?_) rfl rfl (by kernel_rfl) (by kernel_rfl) (by kernel_rfl) (fun _ _ _ h => h) hH (Or.inl ⟨by kernel_rfl, ?_⟩) ?_
  rotate_left
  ·(intro x _; go_simp; try with_reducible rfl)
  rotate_right
  try simp only [Act.put, List.setIfInBounds_toArray, List.set_cons_zero, List.set_cons_succ]
  refine held_take 10 (some 21) (v := ?_) rfl rfl (by kernel_rfl) (by kernel_rfl) (by kernel_rfl) (fun _ _ _ h => h) hH (Or.inl ⟨by kernel_rfl, ?_⟩) ?_
  rotate_left
  ·(intro x _; go_simp; try with_reducible rfl)
  rotate_right
  try simp only [Act.put, List.setIfInBounds_toArray, List.set_cons_zero, List.set_cons_succ]
  refine held_take 11 (some 22) (v := .int .i64 z) rfl rfl (by kernel_rfl) (by kernel_rfl) (by kernel_rfl) (fun _ _ _ h => h) hH (Or.inl ⟨by kernel_rfl, ?_⟩) ?_
  ·(intro x hx; have c0 := part_cells hx.2 z7; go_simp)
  try simp only [Act.put, List.setIfInBounds_toArray, List.set_cons_zero, List.set_cons_succ]
  refine held_take 12 (some 23) (v := ?_) rfl rfl (by kernel_rfl) (by kernel_rfl) (by kernel_rfl) (fun _ _ _ h => h) hH (Or.inl ⟨by kernel_rfl, ?_⟩) ?_
  rotate_left
  ·(intro x _; go_simp; try with_reducible rfl)
  rotate_right
  try simp only [Act.put, List.setIfInBounds_toArray, List.set_cons_zero, List.set_cons_succ]
  refine held_take 13 (some 24) (v := ?_) rfl rfl (by kernel_rfl) (by kernel_rfl) (by kernel_rfl) (fun _ _ _ h => h) hH (Or.inl ⟨by kernel_rfl, ?_⟩) ?_
  rotate_left
  ·(intro x _; go_simp; try with_reducible rfl)
  rotate_right
  try simp only [Act.put, List.setIfInBounds_toArray, List.set_cons_zero, List.set_cons_succ]
  refine held_take 14 (some 25) (v := ?_) rfl rfl (by kernel_rfl) (by kernel_rfl) (by kernel_rfl) (fun _ _ _ h => h) hH (Or.inl ⟨by kernel_rfl, ?_⟩) ?_
  rotate_left
  ·(intro x _; go_simp; try with_reducible rfl)
  rotate_right
  try simp only [Act.put, List.setIfInBounds_toArray, List.set_cons_zero, List.set_cons_succ]
  refine held_take 15 (some 26) (v := ?_) rfl rfl (by kernel_rfl) (by kernel_rfl) (by kernel_rfl) (fun _ _ _ h => h) hH (Or.inl ⟨by kernel_rfl, ?_⟩) ?_
  rotate_left
  ·(intro x _; go_simp; try with_reducible rfl)
  rotate_right
  try simp only [Act.put, List.setIfInBounds_toArray, List.set_cons_zero, List.set_cons_succ]
  refine held_take 16 (some 27) (v := .slice b n cb) rfl rfl (by kernel_rfl) (by kernel_rfl) (by kernel_rfl) (fun _ _ _ h => h) hH (Or.inl ⟨by kernel_rfl, ?_⟩) ?_
  ·(intro x hx; have c0 := part_cells hx.2 z6; go_simp)
  try simp only [Act.put, List.setIfInBounds_toArray, List.set_cons_zero, List.set_cons_succ]
  refine held_take 17 (some 28) (v := ?_) rfl rfl (by kernel_rfl) (by kernel_rfl) (by kernel_rfl) (fun _ _ _ h => h) hH (Or.inl ⟨by kernel_rfl, ?_⟩) ?_
  rotate_left
  ·(intro x _; go_simp; try with_reducible rfl)
  rotate_right
  try simp only [Act.put, List.setIfInBounds_toArray, List.set_cons_zero, List.set_cons_succ]
  refine held_take 18 (some 29) (v := ?_) rfl rfl (by kernel_rfl) (by kernel_rfl) (by kernel_rfl) (fun _ _ _ h => h) hH (Or.inl ⟨by kernel_rfl, ?_⟩) ?_
  rotate_left
  ·(intro x _; go_simp; try with_reducible rfl)
  rotate_right
  try simp only [Act.put, List.setIfInBounds_toArray, List.set_cons_zero, List.set_cons_succ]
  refine held_take 19 (some 30) (v := ?_) rfl rfl (by kernel_rfl) (by kernel_rfl) (by kernel_rfl) (fun _ _ _ h => h) hH (Or.inl ⟨by kernel_rfl, ?_⟩) ?_
  rotate_left
  ·(intro x _; go_simp; try with_reducible rfl)
  rotate_right
  try simp only [Act.put, List.setIfInBounds_toArray, List.set_cons_zero, List.set_cons_succ]
  refine held_take 20 (some 31) (v := ?_) rfl rfl (by kernel_rfl) (by kernel_rfl) (by kernel_rfl) (fun _ _ _ h => h) hH (Or.inl ⟨by kernel_rfl, ?_⟩) ?_
  rotate_left
  ·(intro x _; go_simp; try with_reducible rfl)
  rotate_right
  try simp only [Act.put, List.setIfInBounds_toArray, List.set_cons_zero, List.set_cons_succ]
  refine held_take 21 (some 2) (v := ?_) rfl rfl (by kernel_rfl) (by kernel_rfl) (by kernel_rfl) (fun _ _ _ h => h) hH (Or.inl ⟨by kernel_rfl, ?_⟩) ?_
  rotate_left
  ·(intro x _; go_simp; try with_reducible rfl)
  rotate_right
  try simp only [Act.put, List.setIfInBounds_toArray, List.set_cons_zero, List.set_cons_succ]
  refine wpAnyH_done (by kernel_rfl) ?_ _
  go_wp2
  go_ret
  exact ⟨ret_bool (by rfl), by rw [HB.out]; exact hH.1⟩
end Go.Proofs.YthmmpjecmapajaaDoor

namespace Go.Proofs.YthmmpjecmapajaaDoor
open Go.RowKit Go.Lib
theorem allN_same {α : Type} {f g : Nat → α → Bool} : ∀ (s : Nat) (l : List α), (∀ n, ∀ a ∈ l, f n a = g n a) → allN f s l = allN g s l
 | _, [], _ => rfl
 | s, a :: l, h => by rw [allN, allN, h s a List.mem_cons_self, allN_same (s + 1) l fun n b hb => h n b (List.mem_cons_of_mem _ hb)]
theorem allN_flat {f : Nat → Cel → Bool} {N : Nat} : ∀ (s : Nat) (l : List RowP), (∀ r ∈ l, r.cels.length = N) → allN f (s * N) (l.flatMap (·.cels)) = allN (fun i (r : RowP) => allN f (i * N) r.cels) s l
 | _, [], _ => rfl
 | s, r :: l, h => by
  rw [List.flatMap_cons, allN_append, h r List.mem_cons_self, allN, ← allN_flat (s + 1) l fun x hx => h x (List.mem_cons_of_mem _ hx), Nat.add_mul, Nat.one_mul]
theorem pred_is {inter : Bool} {c : Cel} (h : celMay inter c = true) : intraK c.kind = !predK c := by
 unfold celMay at h
 rw [Bool.and_eq_true] at h
 have h2 := h.2
 unfold predK
 cases hs : c.skip with
 | true =>
  rw [hs, if_pos rfl, Bool.and_eq_true] at h2
  have h3 := h2.2
  unfold zeroC at h3
  simp only [Bool.and_eq_true, beq_iff_eq] at h3
  rw [h3.1.1.1]
  rfl
 | false =>
  rw [hs, if_neg (by decide)] at h2
  simp only [Bool.and_eq_true] at h2
  have h3 := h2.1.1
  unfold kinOk at h3
  have h4 : c.kind = 3 ∨ c.kind = 4 ∨ c.kind = 0 ∨ c.kind = 1 := by
   simp only [Bool.or_eq_true, Bool.and_eq_true, beq_iff_eq] at h3
   omega
  rcases h4 with e | e | e | e <;> (rw [e]; rfl)
theorem tree_parts (S : ShP) : shTree S = (partsMay S.hd S.zeros S.rows.length && allN (rowMay S.hd.inter (rowN S.hd.fmt)) 0 S.rows) := by
 unfold shTree partsMay
 rw [show decide (0 ≤ S.zeros ∧ S.zeros ≤ 262144) = (decide (0 ≤ S.zeros) && decide (S.zeros ≤ 262144)) by rw [Bool.eq_iff_iff]; simp,
  show decide ((S.rows.length : Int) = fmtR S.hd.fmt) = ((S.rows.length : Int) == fmtR S.hd.fmt) by rw [Bool.eq_iff_iff]; simp]
 simp only [Bool.and_assoc]
theorem tree_rows {S : ShP} (h : shTree S = true) : S.rows.length ≤ 1000 ∧ ∃ N : Nat, (0 < S.rows.length → rowN S.hd.fmt = (N : Int)) ∧ (∀ r ∈ S.rows, r.cels.length = N) ∧ ∀ c ∈ celsP S, celMay S.hd.inter c = true := by
 rw [tree_parts, Bool.and_eq_true] at h
 obtain ⟨h1, h2⟩ := h
 have hall : ∀ r ∈ S.rows, (r.cels.length : Int) = rowN S.hd.fmt ∧ r.cels.all (celMay S.hd.inter) = true := fun r hr => by
  obtain ⟨i, hi, rfl⟩ := List.mem_iff_getElem.1 hr
  have h3 := allN_iff.1 h2 i hi
  unfold rowMay at h3
  simp only [Bool.and_eq_true, decide_eq_true_iff] at h3
  exact ⟨h3.1, h3.2.2⟩
 refine ⟨?_, (rowN S.hd.fmt).toNat, fun h0 => ?_, fun r hr => ?_, fun c hc => ?_⟩
 ·unfold partsMay at h1
  simp only [Bool.and_eq_true, beq_iff_eq] at h1
  have h4 := h1.2.2.2
  rcases fmt_cases S.hd.fmt with e | e | e | e | e | e | ⟨_, e⟩
  case _ | _ | _ | _ | _ | _ =>
   rw [e] at h4
   have h5 : (S.rows.length : Int) ≤ 1000 := by rw [h4]; decide +kernel
   omega
  unfold fmtR at h4
  rw [e] at h4
  have h5 : (S.rows.length : Int) = 0 := h4
  omega
 ·have := (hall _ (List.getElem_mem h0)).1
  omega
 ·have := (hall r hr).1
  omega
 ·obtain ⟨r, hr, hc⟩ := List.mem_flatMap.1 hc
  exact List.all_eq_true.1 (hall r hr).2 c hc
theorem tree_vectors {S : ShP} (h : shTree S = true) {N : Nat} (hN : ∀ r ∈ S.rows, r.cels.length = N) : allN (vecMay S.hd.fmt) 0 (celsP S) = allN (fun i (r : RowP) => allN (predMay S.hd.fmt) (i * N) r.cels) 0 S.rows := by
 obtain ⟨-, -, -, -, h1⟩ := tree_rows h
 rw [← allN_flat 0 S.rows hN, Nat.zero_mul]
 refine allN_same 0 _ fun n c hc => ?_
 unfold vecMay predMay
 rw [pred_is (h1 c hc)]
theorem allN_each {α : Type} [Inhabited α] {f : Nat → α → Bool} {l : List α} {n : Nat} (hn : l.length = n) : ((∀ i, i < n → f i (l[i]!) = true) → allN f 0 l = true) ∧ ∀ i, i < n → f i (l[i]!) = false → allN f 0 l = false := by
 subst hn
 refine ⟨fun h => allN_iff.2 fun j hj => ?_, fun i hi h => ?_⟩
 ·have := h j hj
  rw [getElem!_pos l j hj] at this
  rwa [Nat.zero_add]
 ·rw [getElem!_pos l i hi] at h
  exact allN_fail hi h
theorem fn_enterS {f : FuncId} {fn : Func} {c : Code} (hf : Tryd.prog.funcs[f]? = some fn) (hname : (fn.name == "runtime.NumGoroutine") = false) (hb : fn.body = some c) (args : Array Value) (w : World) : (callFunc f args).run Tryd.prog w = .ok (.enter f args) w := by
 have h1 : fn.name ≠ "runtime.NumGoroutine" := by simpa using hname
 simp [callFunc, hf, h1, hb]
theorem rrow_enter : ∀ args x, (callFunc 19 args).run Tryd.prog x = .ok (.enter 19 args) x := fn_enterS Tryd.func19 (by kernel_rfl) rfl
theorem rvec_enter : ∀ args x, (callFunc 20 args).run Tryd.prog x = .ok (.enter 20 args) x := fn_enterS Tryd.func20 (by kernel_rfl) rfl
theorem sheets_zero : ∃ Y : Array Value, Y.size = 8 ∧ ∀ w, (zeroValue 46).run Tryd.prog w = .ok (.agg Y) w := ⟨#[.int .i64 0, .int .i64 0, .int .i64 0, .bool false, .int .i64 0, .slice none 0 0, .slice none 0 0, .int .i64 0], rfl, agg_zero (by kernel_rfl)⟩
set_option maxRecDepth 100000 in
set_option maxHeartbeats 1000000 in
theorem sncheck_code (S : ShP) (p b : Option Addr) (ca cb : Nat) (w : World) (hl : S.hd.supp.length ≤ maxLen) (hn : S.rows.length ≤ 4611686018427387904) (hs : IntsL w p S.hd.supp) (hr : RowsIn w b S.rows) (hc : ∀ c ∈ celsP S, ∀ k, k < 6 → (c.ev k).length ≤ 1048576) (hR : AsksCell w S.hd.inter) :
  Calls Tryd.prog 7 #[.agg (sheetL S.hd (.slice p S.hd.supp.length ca) (.slice b S.rows.length cb) S.zeros).toArray] w fun e w' => e = .returned (.int .i64 (shErr S)) ∧ Below w.heap.size w w' := by
 have n1 : ∀ i (h : i < S.rows.length), ∀ c ∈ S.rows[i].cels, c ∈ celsP S := fun i h c hc => List.mem_flatMap.2 ⟨_, List.getElem_mem h, hc⟩
 obtain ⟨zs, hZ⟩ : ∃ zs, sheetL S.hd (.slice p S.hd.supp.length ca) (.slice b S.rows.length cb) S.zeros = zs := ⟨_, rfl⟩
 have z6 : zs[6]? = some (.slice b S.rows.length cb) := by rw [← hZ]; rfl
 have hone : zs.toArray.all (·.oneCell') = true := by rw [← hZ]; exact sheet_one ..
 have HSS : (Tryd.prog.info? 46).map (·.size) = some zs.toArray.size := by rw [show zs.toArray.size = 8 by rw [← hZ]; rfl]; kernel_rfl
 have HSZ : (Tryd.prog.info? 25).map (·.size) = some zs.toArray.size := by rw [show zs.toArray.size = 8 by rw [← hZ]; rfl]; kernel_rfl
 obtain ⟨Y, HYS, hzs⟩ := sheets_zero
 have HYZ : Y.size = zs.toArray.size := by rw [HYS, ← hZ]; rfl
 have hmf : ∀ (fn : Fn) (first cap : Array Value) (w : World), (Instr.makeFunc fn first cap).run Tryd.prog w = .ok (.func fn first cap) w := fun _ _ _ _ => rfl
 obtain ⟨B, wA, wB, hB, hwA, hwB, hsA, hsB, hhA, hhB, hbB⟩ := laid2 w (.cells zs.toArray 25 (0, 0)) (.cells zs.toArray 46 (0, 0))
 have hh0 : wA.heap[B]? = some (.cells zs.toArray 25 (0, 0)) := by rw [← hwA, ← hB]; exact heap_alloc_new w _
 have W0 : ∀ x, Below (B + 2) wB x → Below w.heap.size w x := fun x hx => by rw [hB]; exact hbB.trans (hx.mono (by omega))
 have CL : Hid (∀ x, Below (B + 2) wB x → x.heap[B + 1]? = some (.cells zs.toArray 46 (0, 0)) ∧ x.cell? ⟨B, 6, none⟩ = some (.slice b S.rows.length cb) ∧ Below w.heap.size w x) := Lib.hid fun x hx =>
  ⟨(hx.block (B + 1) (by omega)).trans hhB, part_cells ((hx.block B (by omega)).trans hhA) z6, W0 x hx⟩
 have KK : ∀ (x y : World), Below (B + 2) wB x → Below x.heap.size x y → Below (B + 2) wB y := fun x y hx hy => hx.trans (hy.mono (by have := hx.size; omega))
 have C1 := Lib.hid (fun (x : World) (hx : Below (B + 2) wB x) => (by
  rw [← hZ]
  exact (rparts_code S.hd p b ca cb S.rows.length S.zeros x hl (hs.below (W0 x hx))).mono fun e y h => ⟨h.1, KK x y hx h.2⟩ : Calls Tryd.prog 17 #[.agg zs.toArray] x fun e y => e = .returned (.bool (partsMay S.hd S.zeros S.rows.length)) ∧ Below (B + 2) wB y))
 have C2 := Lib.hid (fun (x : World) (hx : Below (B + 2) wB x) => ((every_code 19 zs.toArray S.rows.length (fun i => rowMay S.hd.inter (rowN S.hd.fmt) i (S.rows[i]!)) (allN (rowMay S.hd.inter (rowN S.hd.fmt)) 0 S.rows) x hn rrow_enter
  (fun i hi _ y hy => by
   have hy0 := (W0 x hx).trans (hy.mono (W0 x hx).size)
   rw [getElem!_pos S.rows i hi, ← hZ]
   exact rrow_code S p b ca cb i y hi (by unfold maxLen; omega) (hr.below hy0) (fun c h k hk => hc c (n1 i hi c h) k hk) (hR.below hy0))
  (allN_each rfl).1 (allN_each rfl).2).mono fun e y h => ⟨h.1, KK x y hx h.2⟩ : Calls Tryd.prog 18 #[.int .i64 (S.rows.length : Int), .func (.func 19) #[.agg zs.toArray] #[]] x fun e y => e = .returned (.bool (allN (rowMay S.hd.inter (rowN S.hd.fmt)) 0 S.rows)) ∧ Below (B + 2) wB y))
 have C3 := Lib.hid (fun (hT : shTree S = true) (x : World) (hx : Below (B + 2) wB x) => (by
  obtain ⟨hm, N, hN, hNl, -⟩ := tree_rows hT
  rw [tree_vectors hT hNl]
  exact (every_code 20 zs.toArray S.rows.length (fun i => allN (predMay S.hd.fmt) (i * N) (S.rows[i]!).cels) (allN (fun i (r : RowP) => allN (predMay S.hd.fmt) (i * N) r.cels) 0 S.rows) x hn rvec_enter
   (fun i hi _ y hy => by
    have hy0 := (W0 x hx).trans (hy.mono (W0 x hx).size)
    rw [getElem!_pos S.rows i hi, ← hZ]
    exact rvec_code S p b ca cb i N y hi hm (hN (by omega)) (hNl _ (List.getElem_mem hi)) (hr.below hy0))
   (allN_each (f := fun i (r : RowP) => allN (predMay S.hd.fmt) (i * N) r.cels) (l := S.rows) rfl).1 (allN_each (f := fun i (r : RowP) => allN (predMay S.hd.fmt) (i * N) r.cels) (l := S.rows) rfl).2).mono fun e y h => ⟨h.1, KK x y hx h.2⟩ : Calls Tryd.prog 18 #[.int .i64 (S.rows.length : Int), .func (.func 20) #[.agg zs.toArray] #[]] x fun e y => e = .returned (.bool (allN (vecMay S.hd.fmt) 0 (celsP S))) ∧ Below (B + 2) wB y))
 have TP := Lib.hid (tree_parts S)
 have T4 := Lib.hid (fun (h : shTree S = false) => shErr_tree h)
 have T6 := Lib.hid (fun h (h1 : allN (vecMay S.hd.fmt) 0 (celsP S) = false) => shErr_vector h h1)
 have T7 := Lib.hid (fun h (h1 : allN (vecMay S.hd.fmt) 0 (celsP S) = true) => shErr_ok h h1)
 have hS0 : Below (B + 2) wB wB := Below.refl _ _
 have HWA := Lib.hid hwA
 have HWB := Lib.hid hwB
 have HB := Lib.hid hB
 have HSA := Lib.hid hsA
 rw [hZ]
 obtain ⟨E, hE⟩ : ∃ E, shErr S = E := ⟨_, rfl⟩
 rw [hE] at T4 T6 T7 ⊢
 clear hE
 clear hwA hwB hB hsA hsB hhA hhB hbB W0 KK z6 hZ n1 hs hr hc hR hl
 generalize S.rows.length = n at *
 generalize allN (vecMay S.hd.fmt) 0 (celsP S) = vm at *
 generalize allN (rowMay S.hd.inter (rowN S.hd.fmt)) 0 S.rows = rm at *
 generalize partsMay S.hd S.zeros n = pm at *
 generalize shTree S = tr at *
 go_enter Tryd.func7, Tryd.ntmps7
 have h1B := (CL.out _ hS0).1
 go_wp2_with (first | (rw [HWA.out, HB.out]; with_reducible refine wpList_load_row rfl 25 _ rfl B rfl 25 zs.toArray (0, 0) _ hh0 Tryd.underlying25 rfl HSZ ?_) | (with_reducible refine wp_store_fresh rfl 46 _ _ rfl zs.toArray Y 46 rfl rfl HSS HYZ hone ?_; rw [HWB.out, HSA.out]) | (with_reducible refine wpList_load_row rfl 46 _ rfl (B + 1) rfl 46 zs.toArray (0, 0) _ h1B Tryd.underlying46 rfl HSS ?_))
 refine (C1.out _ hS0).mono ?_
 rintro e w1 ⟨rfl, hx1⟩
 obtain ⟨h11, k61, HE1⟩ := CL.out w1 hx1
 clear h1B hh0
 cases pm with
 | false =>
  have E1 := Lib.hid (T4.out (by rw [TP.out]; rfl))
  go_wp2
  go_ret
  exact ⟨by rw [E1.out]; rfl, by first | exact HE1 | (rw [← HB.out]; exact HE1)⟩
 | true =>
  have TP2 := Lib.hid (show tr = rm from TP.out)
  go_wp2_with (with_reducible refine wpList_wanted_load (by kernel_rfl) 46 _ rfl (B + 1) rfl 46 zs.toArray (0, 0) _ h11 Tryd.underlying46 rfl HSS ?_)
  refine (C2.out _ hx1).mono ?_
  rintro e w2 ⟨rfl, hx2⟩
  obtain ⟨h12, k62, HE2⟩ := CL.out w2 hx2
  clear h11 k61 HE1
  cases rm with
  | false =>
   have E1 := Lib.hid (T4.out TP2.out)
   go_wp2
   go_ret
   exact ⟨by rw [E1.out]; rfl, by first | exact HE2 | (rw [← HB.out]; exact HE2)⟩
  | true =>
   have c3 := C3.out TP2.out w2 hx2
   go_wp2_with (with_reducible refine wpList_load_row rfl 46 _ rfl (B + 1) rfl 46 zs.toArray (0, 0) _ h12 Tryd.underlying46 rfl HSS ?_)
   refine c3.mono ?_
   rintro e w3 ⟨rfl, hx3⟩
   have HE3 := (CL.out w3 hx3).2.2
   cases vm with
   | false =>
    have E1 := Lib.hid (T6.out TP2.out rfl)
    go_wp2
    go_ret
    exact ⟨by rw [E1.out]; rfl, by first | exact HE3 | (rw [← HB.out]; exact HE3)⟩
   | true =>
    have E1 := Lib.hid (T7.out TP2.out rfl)
    go_wp2
    go_ret
    exact ⟨by rw [E1.out]; rfl, by first | exact HE3 | (rw [← HB.out]; exact HE3)⟩
end Go.Proofs.YthmmpjecmapajaaDoor

namespace Go.Proofs.YthmmpjecmapajaaDoor
open Go.RowKit Go.Lib
def CopyAt (N : Nat) (w0 : World) (xs ys : List Value) (v u : Value) (w : World) : Prop := ∃ X X' : Nat, v = .pointer (some ⟨X, 0, none⟩) ∧ u = .pointer (some ⟨X', 0, none⟩) ∧ w.heap[X]? = some (.cells xs.toArray 45 (0, 0)) ∧ w.heap[X']? = some (.cells ys.toArray 45 (0, 0)) ∧ Below N w0 w
theorem row_set2 {w w0 : World} {N X X' : Nat} {T : TypeId} {Y Z : Array Value} {o : Obj} (h : w.heap[X]? = some (.cells Y T (0, 0))) (h' : w.heap[X']? = some o) (hne : X' ≠ X) (hb : Below N w0 w) (hX : N ≤ X) (hN : N ≤ w.heap.size) :
  ∃ w', w.setRow X Z = w' ∧ w'.heap[X]? = some (.cells Z T (0, 0)) ∧ w'.heap[X']? = some o ∧ Below N w0 w' := by
 have hg : w.grownBy (w.setRow X Z) (some X) := ⟨rfl, rfl, rfl, by simp, fun k _ hk => setRow_other _ _ _ _ (by intro e; exact hk (by rw [e]))⟩
 exact ⟨_, rfl, setRow_heap _ _ _ _ _ _ h, (setRow_other _ _ _ _ hne).trans h', hb.grown hg hN (fun k hk => by injection hk with hk; omega)⟩
set_option maxRecDepth 100000 in
set_option maxHeartbeats 4000000 in
theorem snsame_page (S S' : ShP) (p b p' b' : Option Addr) (ca cb ca' cb' : Nat) (w : World) (hl : S.hd.supp.length ≤ maxLen) (hn : S.rows.length ≤ maxLen) (hs : IntsL w p S.hd.supp) (hs' : IntsL w p' S'.hd.supp) (hr : RowsIn w b S.rows) (hr' : RowsIn w b' S'.rows)
  (hc : ∀ c ∈ celsP S, ∀ k, k < 6 → (c.ev k).length ≤ 1048576) (hc' : ∀ c ∈ celsP S', ∀ k, k < 6 → (c.ev k).length ≤ 1048576) :
  Calls Tryd.prog 16 #[.agg (sheetL S.hd (.slice p S.hd.supp.length ca) (.slice b S.rows.length cb) S.zeros).toArray, .agg (sheetL S'.hd (.slice p' S'.hd.supp.length ca') (.slice b' S'.rows.length cb') S'.zeros).toArray] w fun e w' => e = .returned (.bool (shB S S')) ∧ Below w.heap.size w w' := by
 have hcR : ∀ r ∈ S.rows, ∀ c ∈ r.cels, ∀ k, k < 6 → (c.ev k).length ≤ 1048576 := fun r h c h2 => hc c (List.mem_flatMap.2 ⟨r, h, h2⟩)
 have hcR' : ∀ r ∈ S'.rows, ∀ c ∈ r.cels, ∀ k, k < 6 → (c.ev k).length ≤ 1048576 := fun r h c h2 => hc' c (List.mem_flatMap.2 ⟨r, h, h2⟩)
 have hD := fun x (hx : Below w.heap.size w x) => sdsame_page S.hd S'.hd p p' ca ca' (.slice b S.rows.length cb) (.slice b' S'.rows.length cb') S.zeros S'.zeros hl x (hs.below hx) (hs'.below hx)
 unfold maxLen at hn
 obtain ⟨zs, hZ⟩ : ∃ zs, sheetL S.hd (.slice p S.hd.supp.length ca) (.slice b S.rows.length cb) S.zeros = zs := ⟨_, rfl⟩
 obtain ⟨ys, hY⟩ : ∃ ys, sheetL S'.hd (.slice p' S'.hd.supp.length ca') (.slice b' S'.rows.length cb') S'.zeros = ys := ⟨_, rfl⟩
 have z6 : zs[6]? = some (.slice b S.rows.length cb) := by rw [← hZ]; rfl
 have z7 : zs[7]? = some (.int .i64 S.zeros) := by rw [← hZ]; rfl
 have y6 : ys[6]? = some (.slice b' S'.rows.length cb') := by rw [← hY]; rfl
 have y7 : ys[7]? = some (.int .i64 S'.zeros) := by rw [← hY]; rfl
 have HSZ : (Tryd.prog.info? 25).map (·.size) = some zs.toArray.size := by rw [show zs.toArray.size = 8 by rw [← hZ]; rfl]; kernel_rfl
 have HSY : (Tryd.prog.info? 25).map (·.size) = some ys.toArray.size := by rw [show ys.toArray.size = 8 by rw [← hY]; rfl]; kernel_rfl
 rw [hZ, hY]
 simp only [hZ, hY] at hD
 obtain ⟨A, wA, wB, hA, hwA, hwB, hsA, hsB, hhA, hhB, hbB⟩ := laid2 w (.cells zs.toArray 25 (0, 0)) (.cells ys.toArray 25 (0, 0))
 have W0 : ∀ x, Below (A + 2) wB x → Below w.heap.size w x := fun x hx => by rw [hA]; exact hbB.trans (hx.mono (by omega))
 have KK : ∀ (x y : World), Below (A + 2) wB x → Below x.heap.size x y → Below (A + 2) wB y := fun x y hx hy => hx.trans (hy.mono (by have := hx.size; omega))
 have CL : Hid (∀ x, Below (A + 2) wB x → (x.cell? ⟨A, 6, none⟩ = some (.slice b S.rows.length cb) ∧ x.cell? ⟨A, 7, none⟩ = some (.int .i64 S.zeros) ∧ x.cell? ⟨A + 1, 6, none⟩ = some (.slice b' S'.rows.length cb') ∧ x.cell? ⟨A + 1, 7, none⟩ = some (.int .i64 S'.zeros)) ∧ Below w.heap.size w x) := Lib.hid fun x hx => by
  have h1 := (hx.block A (by omega)).trans hhA
  have h2 := (hx.block (A + 1) (by omega)).trans hhB
  exact ⟨⟨part_cells h1 z6, part_cells h1 z7, part_cells h2 y6, part_cells h2 y7⟩, W0 x hx⟩
 have C1 := Lib.hid (fun (x : World) (hx : Below (A + 2) wB x) => ((hD x (W0 x hx)).mono fun e y h => ⟨h.1, KK x y hx h.2⟩ : Calls Tryd.prog 31 #[.agg zs.toArray, .agg ys.toArray] x fun e y => e = .returned (.bool (shdB S.hd S'.hd)) ∧ Below (A + 2) wB y))
 obtain ⟨R, hR⟩ : ∃ r, shB S S' = r := ⟨_, rfl⟩
 have hsh : R = (shdB S.hd S'.hd && (S.zeros == S'.zeros && (decide (S.rows.length = S'.rows.length) && (S.rows.zip S'.rows).all fun p => rwB p.1 p.2))) := hR.symm
 rw [hR]
 have HP := Lib.hid hr
 have HQ := Lib.hid hr'
 have HCL := Lib.hid hcR
 have HCM := Lib.hid hcR'
 generalize shdB S.hd S'.hd = sd at *
 generalize S.zeros = z at *
 generalize S'.zeros = z' at *
 clear hc hc' hZ hY
 generalize S.rows = l at *
 generalize S'.rows = m at *
 have HKK := Lib.hid KK
 have HWA := Lib.hid hwA
 have HWB := Lib.hid hwB
 have HA := Lib.hid hA
 have HSA := Lib.hid hsA
 have HSB := Lib.hid hsB
 have hS0 : Below (A + 2) wB wB := Below.refl _ _
 obtain ⟨⟨k6, k7, q6, q7⟩, hE0⟩ := CL.out _ hS0
 clear hwA hwB hA hsA hsB hbB W0 KK z6 z7 y6 y7 hs hs' hr hr' hcR hcR' hD hR hl
 go_enter Tryd.func16, Tryd.ntmps16
 go_wp2_with (first | (rw [HWA.out, HA.out, HWB.out]; with_reducible refine wpList_load_row rfl 25 _ rfl A rfl 25 zs.toArray (0, 0) _ hhA Tryd.underlying25 rfl HSZ ?_) | (with_reducible refine wpList_load_row rfl 25 _ rfl (A + 1) rfl 25 ys.toArray (0, 0) _ hhB Tryd.underlying25 rfl HSY ?_))
 refine (C1.out _ hS0).mono ?_
 rintro e w1 ⟨rfl, hx1⟩
 clear k6 k7 q6 q7 hE0 hhA hhB
 obtain ⟨⟨k6, k7, q6, q7⟩, hE1⟩ := CL.out _ hx1
 cases sd with
 | false =>
  have F := Lib.hid (show R = false from hsh)
  go_wp2
  go_ret
  exact ⟨by rw [F.out]; rfl, hE1⟩
 | true =>
 by_cases ez : z = z'
 case neg =>
  have t1 : (z != z') = true := by rw [bne_iff_ne]; exact ez
  have F := Lib.hid (show R = false by rw [hsh, beq_eq_false_iff_ne.2 ez]; rfl)
  clear hsh ez
  go_wp2
  go_ret
  exact ⟨by rw [F.out]; rfl, hE1⟩
 subst ez
 have t1 : (z != z) = false := by simp
 by_cases el : l.length = m.length
 case neg =>
  have t2 : ((l.length : Int) != (m.length : Int)) = true := by rw [bne_iff_ne]; omega
  have F := Lib.hid (show R = false by rw [hsh, decide_eq_false el]; simp)
  clear hsh el
  go_wp2
  go_ret
  exact ⟨by rw [F.out]; rfl, hE1⟩
 have t2 : ((l.length : Int) != (m.length : Int)) = false := by rw [el]; simp
 have HR := Lib.hid (show R = (l.zip m).all (fun p => rwB p.1 p.2) by rw [hsh, decide_eq_true el]; simp)
 have HL := Lib.hid el
 clear hsh el
 obtain ⟨n, hln⟩ : ∃ n, l.length = n := ⟨_, rfl⟩
 obtain ⟨n', hmn⟩ : ∃ n, m.length = n := ⟨_, rfl⟩
 rw [hln] at hn CL k6 t2
 rw [hmn] at CL q6 t2
 have HN := Lib.hid hln
 have HM := Lib.hid hmn
 clear hln hmn
 go_wp2
 clear t1 t2 k6 k7 q6 q7 hE1
 go_loopw [5] (fun z wr => ∃ i : Nat, i ≤ n ∧ z = .int .i64 (i : Int) ∧ Hid ((((l.take i).zip (m.take i)).all fun p => rwB p.1 p.2) = true) ∧ Below (A + 2) wB wr) (fun z _ => n - (intOf z).toNat)
 case atStart => exact ⟨0, Nat.zero_le _, rfl, Lib.hid rfl, hx1⟩
 case round =>
  clear hx1
  obtain ⟨i, hi, rfl, ha, hb⟩ := hrel
  obtain ⟨⟨k6, -, q6, -⟩, hE⟩ := CL.out _ hb
  by_cases hlt : i < n
  ·have t0 : decide ((i : Int) < (n : Int)) = true := by simp; omega
   have hil : i < l.length := by rw [HN.out]; exact hlt
   have him : i < m.length := by rw [← HL.out]; exact hil
   have him' : i < n' := by rw [← HM.out]; exact him
   obtain ⟨b1, o1, rfl, hb1, hcb1⟩ := rows_at HP.out (by omega)
   obtain ⟨rx, kx, hqx, hmx, hcelx, hatx⟩ := hcb1 i hil
   obtain ⟨xs, hxs⟩ : ∃ rs, [Value.bool l[i].head, .int .i64 l[i].id, .int .i64 l[i].quant, .slice rx l[i].cels.length kx] = rs := ⟨_, rfl⟩
   have hxl : xs.length = 4 := by rw [← hxs]; rfl
   have hxo : xs.toArray.all (·.oneCell') = true := by rw [← hxs]; simp [Value.oneCell']
   have hx0 : xs[0]? = some (.bool l[i].head) := by rw [← hxs]; rfl
   have hx1 : xs[1]? = some (.int .i64 l[i].id) := by rw [← hxs]; rfl
   have hx2 : xs[2]? = some (.int .i64 l[i].quant) := by rw [← hxs]; rfl
   have hx3 : xs[3]? = some (.slice rx l[i].cels.length kx) := by rw [← hxs]; rfl
   have hxc : ∀ x, Below w.heap.size w x → x.rangeAt b1 (o1 + i * 4) xs := fun x hx k v hk => by
    obtain ⟨a0, a1, a2, a3⟩ := hatx x hx
    rw [← hxs] at hk
    match k, hk with
    | 0, hk => injection hk with hk; subst hk; exact a0
    | 1, hk => injection hk with hk; subst hk; exact a1
    | 2, hk => injection hk with hk; subst hk; exact a2
    | 3, hk => injection hk with hk; subst hk; exact a3
   have hxn := HCL.out l[i] (List.getElem_mem hil)
   clear hcb1 hatx hxs
   obtain ⟨b2, o2, rfl, hb2, hcb2⟩ := rows_at HQ.out (by omega)
   obtain ⟨ry, ky, hqy, hmy, hcely, haty⟩ := hcb2 i him
   obtain ⟨us, hus⟩ : ∃ rs, [Value.bool m[i].head, .int .i64 m[i].id, .int .i64 m[i].quant, .slice ry m[i].cels.length ky] = rs := ⟨_, rfl⟩
   have hyl : us.length = 4 := by rw [← hus]; rfl
   have hyo : us.toArray.all (·.oneCell') = true := by rw [← hus]; simp [Value.oneCell']
   have hy0 : us[0]? = some (.bool m[i].head) := by rw [← hus]; rfl
   have hy1 : us[1]? = some (.int .i64 m[i].id) := by rw [← hus]; rfl
   have hy2 : us[2]? = some (.int .i64 m[i].quant) := by rw [← hus]; rfl
   have hy3 : us[3]? = some (.slice ry m[i].cels.length ky) := by rw [← hus]; rfl
   have hyc : ∀ x, Below w.heap.size w x → x.rangeAt b2 (o2 + i * 4) us := fun x hx k v hk => by
    obtain ⟨a0, a1, a2, a3⟩ := haty x hx
    rw [← hus] at hk
    match k, hk with
    | 0, hk => injection hk with hk; subst hk; exact a0
    | 1, hk => injection hk with hk; subst hk; exact a1
    | 2, hk => injection hk with hk; subst hk; exact a2
    | 3, hk => injection hk with hk; subst hk; exact a3
   have hyn := HCM.out m[i] (List.getElem_mem him)
   clear hcb2 haty hus
   have NX := Lib.hid (fun h => zip_take (f := rwB) hil him ha.out h)
   have NF := Lib.hid (fun h => zip_fail (f := rwB) hil him h)
   have HSX : (Tryd.prog.info? 45).map (·.size) = some xs.length := by rw [hxl]; kernel_rfl
   have HSU : (Tryd.prog.info? 45).map (·.size) = some us.length := by rw [hyl]; kernel_rfl
   obtain ⟨Y, HYS, hzv⟩ := rows_zero
   generalize hga : l[i] = ra at *
   generalize hgb : m[i] = rb at *
   clear hga hgb
   go_upto_region 6 with fail
   go_cut [6, 7] from 36 to 45 (fun v u wx => CopyAt (A + 2) wB xs us v u wx)
   case first =>
    obtain ⟨D, hD⟩ : ∃ D, wr.heap.size = D := ⟨_, rfl⟩
    have HD := Lib.hid hD
    clear hD
    have HSXA : (Tryd.prog.info? 45).map (·.size) = some xs.toArray.size := HSX
    have HSUA : (Tryd.prog.info? 45).map (·.size) = some us.toArray.size := HSU
    have HYX : Y.size = xs.toArray.size := by rw [HYS]; exact hxl.symm
    have HYU : Y.size = us.toArray.size := by rw [HYS]; exact hyl.symm
    refine wp_region_held_drew (S := fun x => Below (A + 2) wB x) (by kernel_rfl) hb.drew (fun hH => ?_)
    refine held_take 0 (some 36) (v := ?_) rfl rfl (by kernel_rfl) (by kernel_rfl) (by kernel_rfl) (fun _ _ _ h => h) hH (Or.inl ⟨by kernel_rfl, ?_⟩) ?_
    rotate_left
    ·(intro x _; go_simp; try with_reducible rfl)
    rotate_right
    try simp only [Act.put, List.setIfInBounds_toArray, List.set_cons_zero, List.set_cons_succ]
    refine held_take 1 (some 37) (v := .slice (some ⟨b1, o1, none⟩) n cb) rfl rfl (by kernel_rfl) (by kernel_rfl) (by kernel_rfl) (fun _ _ _ h => h) hH (Or.inl ⟨by kernel_rfl, ?_⟩) ?_
    ·(intro x hx; have c0 := (CL.out x hx).1.1; go_simp)
    try simp only [Act.put, List.setIfInBounds_toArray, List.set_cons_zero, List.set_cons_succ]
    refine held_take 2 (some 38) (v := ?_) rfl rfl (by kernel_rfl) (by kernel_rfl) (by kernel_rfl) (fun _ _ _ h => h) hH (Or.inl ⟨by kernel_rfl, ?_⟩) ?_
    rotate_left
    ·(intro x _; go_simp; try with_reducible rfl)
    rotate_right
    try simp only [Act.put, List.setIfInBounds_toArray, List.set_cons_zero, List.set_cons_succ]
    refine held_take 3 (some 39) (v := ?_) rfl rfl (by kernel_rfl) (by kernel_rfl) (by kernel_rfl) (fun _ _ _ h => h) hH (Or.inl ⟨by kernel_rfl, ?_⟩) ?_
    rotate_left
    ·(intro x _; go_simp; try with_reducible rfl)
    rotate_right
    try simp only [Act.put, List.setIfInBounds_toArray, List.set_cons_zero, List.set_cons_succ]
    refine held_take 4 (some 40) (v := .agg xs.toArray) rfl rfl (by kernel_rfl) (by kernel_rfl) (by kernel_rfl) (fun _ _ _ h => h) hH (yieldsIf_load_mid (by kernel_rfl) 45 _ rfl b1 (o1 + i * 4) (by kernel_rfl) xs _ (fun x hx => hxc x (CL.out x hx).2) Tryd.underlying45 rfl HSX) ?_
    try simp only [Act.put, List.setIfInBounds_toArray, List.set_cons_zero, List.set_cons_succ]
    refine held_take 5 (some 41) (v := ?_) rfl rfl (by kernel_rfl) (by kernel_rfl) (by kernel_rfl) (fun _ _ _ h => h) hH (Or.inl ⟨by kernel_rfl, ?_⟩) ?_
    rotate_left
    ·(intro x _; go_simp; try with_reducible rfl)
    rotate_right
    try simp only [Act.put, List.setIfInBounds_toArray, List.set_cons_zero, List.set_cons_succ]
    refine held_take 6 (some 42) (v := .slice (some ⟨b2, o2, none⟩) n' cb') rfl rfl (by kernel_rfl) (by kernel_rfl) (by kernel_rfl) (fun _ _ _ h => h) hH (Or.inl ⟨by kernel_rfl, ?_⟩) ?_
    ·(intro x hx; have c0 := (CL.out x hx).1.2.2.1; go_simp)
    try simp only [Act.put, List.setIfInBounds_toArray, List.set_cons_zero, List.set_cons_succ]
    refine held_take 7 (some 43) (v := ?_) rfl rfl (by kernel_rfl) (by kernel_rfl) (by kernel_rfl) (fun _ _ _ h => h) hH (Or.inl ⟨by kernel_rfl, ?_⟩) ?_
    rotate_left
    ·(intro x _; go_simp; try with_reducible rfl)
    rotate_right
    try simp only [Act.put, List.setIfInBounds_toArray, List.set_cons_zero, List.set_cons_succ]
    refine held_take 8 (some 44) (v := ?_) rfl rfl (by kernel_rfl) (by kernel_rfl) (by kernel_rfl) (fun _ _ _ h => h) hH (Or.inl ⟨by kernel_rfl, ?_⟩) ?_
    rotate_left
    ·(intro x _; go_simp; try with_reducible rfl)
    rotate_right
    try simp only [Act.put, List.setIfInBounds_toArray, List.set_cons_zero, List.set_cons_succ]
    refine held_take 9 (some 45) (v := .agg us.toArray) rfl rfl (by kernel_rfl) (by kernel_rfl) (by kernel_rfl) (fun _ _ _ h => h) hH (yieldsIf_load_mid (by kernel_rfl) 45 _ rfl b2 (o2 + i * 4) (by kernel_rfl) us _ (fun x hx => hyc x (CL.out x hx).2) Tryd.underlying45 rfl HSU) ?_
    try simp only [Act.put, List.setIfInBounds_toArray, List.set_cons_zero, List.set_cons_succ]
    refine wpAnyH_ready (rs := [10, 11]) (by kernel_rfl) (by simp) ?_
    refine AllReadyH.cons rfl (fun K hK => ?_) (AllReadyH.cons rfl (fun K hK => ?_) AllReadyH.nil)
    ·go_simp
     rw [HD.out]
     have hk1 : Below (A + 2) wB (wr.alloc (.cells Y 45 (0, 0))).drew := (hb.alloc (by have := hb.size; have := HSB.out; omega) _).drew
     refine hK.out _ _ hk1 (fun hH2 => ?_)
     clear hK K hH hH2
     have hH := hk1
     try simp only [Act.put, List.setIfInBounds_toArray, List.set_cons_zero, List.set_cons_succ]
     obtain ⟨v1, hv1⟩ : ∃ v1, (wr.alloc (.cells Y 45 (0, 0))).drew = v1 := ⟨_, rfl⟩
     have g1 : v1.heap[D]? = some (.cells Y 45 (0, 0)) := by rw [← hv1, ← HD.out]; exact heap_alloc_new wr _
     have s1 : v1.heap.size = D + 1 := by rw [← hv1, ← HD.out]; show (wr.alloc _).heap.size = _; simp
     rw [hv1] at hk1 hH ⊢
     clear hv1
     refine wpAnyH_ready (rs := [11]) (by kernel_rfl) (by simp) ?_
     refine AllReadyH.cons rfl (fun K hK => ?_) AllReadyH.nil
     go_simp
     have hk2 : Below (A + 2) wB (v1.alloc (.cells Y 45 (0, 0))) := hk1.alloc (by have := hb.size; have := HSB.out; have := HD.out; omega) _
     refine hK.out _ _ hk2 (fun hH2 => ?_)
     clear hK K hH hH2
     have hH := hk2
     try simp only [Act.put, List.setIfInBounds_toArray, List.set_cons_zero, List.set_cons_succ]
     obtain ⟨v2, hv2⟩ : ∃ v2, v1.alloc (.cells Y 45 (0, 0)) = v2 := ⟨_, rfl⟩
     have g2 : v2.heap[D + 1]? = some (.cells Y 45 (0, 0)) := by rw [← hv2, ← s1]; exact heap_alloc_new v1 _
     have g3 : v2.heap[D]? = some (.cells Y 45 (0, 0)) := by rw [← hv2]; exact heap_keep g1
     rw [hv2] at hk2 hH ⊢
     clear hv2 hk1 g1 s1
     refine wpAnyH_ready (rs := [12]) (by kernel_rfl) (by simp) ?_
     refine AllReadyH.cons rfl (fun K hK => ?_) AllReadyH.nil
     refine (if_pos (by kernel_rfl)).mpr ?_
     obtain ⟨v3, hv3, e3, e3', hk3⟩ := row_set2 (Z := xs.toArray) g3 g2 (by omega) hk2 (by have := hb.size; have := HSB.out; have := HD.out; omega) (by have := hk2.size; have := HSB.out; omega)
     refine wp_store_row 45 _ _ rfl (D) xs.toArray rfl rfl 45 Y g3 HSXA HYX hxo ?_
     rw [hv3]
     refine hK.out _ _ hk3 (fun hH2 => ?_)
     clear hK K hH hH2 hv3 hk2 g2 g3
     have hH := hk3
     try simp only [Act.put]
     refine wpAnyH_ready (rs := [13]) (by kernel_rfl) (by simp) ?_
     refine AllReadyH.cons rfl (fun K hK => ?_) AllReadyH.nil
     refine (if_pos (by kernel_rfl)).mpr ?_
     obtain ⟨v4, hv4, e4, e4', hk4⟩ := row_set2 (Z := us.toArray) e3' e3 (by omega) hk3 (by have := hb.size; have := HSB.out; have := HD.out; omega) (by have := hk3.size; have := HSB.out; omega)
     refine wp_store_row 45 _ _ rfl (D + 1) us.toArray rfl rfl 45 Y e3' HSUA HYU hyo ?_
     rw [hv4]
     refine hK.out _ _ hk4 (fun hH2 => ?_)
     clear hK K hH hH2 hv4 hk3 e3 e3'
     have hH := hk4
     try simp only [Act.put]
     refine wpAnyH_done (by kernel_rfl) ?_ _
     go_wp2
     go_meet
     case rel => exact ⟨D, D + 1, rfl, rfl, e4', e4, hk4⟩
    ·go_simp
     rw [HD.out]
     have hk1 : Below (A + 2) wB (wr.alloc (.cells Y 45 (0, 0))).drew := (hb.alloc (by have := hb.size; have := HSB.out; omega) _).drew
     refine hK.out _ _ hk1 (fun hH2 => ?_)
     clear hK K hH hH2
     have hH := hk1
     try simp only [Act.put, List.setIfInBounds_toArray, List.set_cons_zero, List.set_cons_succ]
     obtain ⟨v1, hv1⟩ : ∃ v1, (wr.alloc (.cells Y 45 (0, 0))).drew = v1 := ⟨_, rfl⟩
     have g1 : v1.heap[D]? = some (.cells Y 45 (0, 0)) := by rw [← hv1, ← HD.out]; exact heap_alloc_new wr _
     have s1 : v1.heap.size = D + 1 := by rw [← hv1, ← HD.out]; show (wr.alloc _).heap.size = _; simp
     rw [hv1] at hk1 hH ⊢
     clear hv1
     refine wpAnyH_ready (rs := [10]) (by kernel_rfl) (by simp) ?_
     refine AllReadyH.cons rfl (fun K hK => ?_) AllReadyH.nil
     go_simp
     have hk2 : Below (A + 2) wB (v1.alloc (.cells Y 45 (0, 0))) := hk1.alloc (by have := hb.size; have := HSB.out; have := HD.out; omega) _
     refine hK.out _ _ hk2 (fun hH2 => ?_)
     clear hK K hH hH2
     have hH := hk2
     try simp only [Act.put, List.setIfInBounds_toArray, List.set_cons_zero, List.set_cons_succ]
     obtain ⟨v2, hv2⟩ : ∃ v2, v1.alloc (.cells Y 45 (0, 0)) = v2 := ⟨_, rfl⟩
     have g2 : v2.heap[D + 1]? = some (.cells Y 45 (0, 0)) := by rw [← hv2, ← s1]; exact heap_alloc_new v1 _
     have g3 : v2.heap[D]? = some (.cells Y 45 (0, 0)) := by rw [← hv2]; exact heap_keep g1
     rw [hv2] at hk2 hH ⊢
     clear hv2 hk1 g1 s1
     refine wpAnyH_ready (rs := [12]) (by kernel_rfl) (by simp) ?_
     refine AllReadyH.cons rfl (fun K hK => ?_) AllReadyH.nil
     refine (if_pos (by kernel_rfl)).mpr ?_
     obtain ⟨v3, hv3, e3, e3', hk3⟩ := row_set2 (Z := xs.toArray) g2 g3 (by omega) hk2 (by have := hb.size; have := HSB.out; have := HD.out; omega) (by have := hk2.size; have := HSB.out; omega)
     refine wp_store_row 45 _ _ rfl (D + 1) xs.toArray rfl rfl 45 Y g2 HSXA HYX hxo ?_
     rw [hv3]
     refine hK.out _ _ hk3 (fun hH2 => ?_)
     clear hK K hH hH2 hv3 hk2 g2 g3
     have hH := hk3
     try simp only [Act.put]
     refine wpAnyH_ready (rs := [13]) (by kernel_rfl) (by simp) ?_
     refine AllReadyH.cons rfl (fun K hK => ?_) AllReadyH.nil
     refine (if_pos (by kernel_rfl)).mpr ?_
     obtain ⟨v4, hv4, e4, e4', hk4⟩ := row_set2 (Z := us.toArray) e3' e3 (by omega) hk3 (by have := hb.size; have := HSB.out; have := HD.out; omega) (by have := hk3.size; have := HSB.out; omega)
     refine wp_store_row 45 _ _ rfl (D) us.toArray rfl rfl 45 Y e3' HSUA HYU hyo ?_
     rw [hv4]
     refine hK.out _ _ hk4 (fun hH2 => ?_)
     clear hK K hH hH2 hv4 hk3 e3 e3'
     have hH := hk4
     try simp only [Act.put]
     refine wpAnyH_done (by kernel_rfl) ?_ _
     go_wp2
     go_meet
     case rel => exact ⟨D + 1, D, rfl, rfl, e4', e4, hk4⟩
   case rest =>
    obtain ⟨X, X', rfl, rfl, e1, e2, hb2⟩ := hcut
    generalize wr = wo at *
    obtain ⟨H, I, Q, lc⟩ := ra
    obtain ⟨H', I', Q', mc⟩ := rb
    dsimp only at *
    have a0 := part_cells e1 hx0
    have a1 := part_cells e1 hx1
    have a2 := part_cells e1 hx2
    have a3 := part_cells e1 hx3
    have f0 := part_cells e2 hy0
    have f1 := part_cells e2 hy1
    have f2 := part_cells e2 hy2
    have f3 := part_cells e2 hy3
    have hEc := (CL.out _ hb2).2
    have LX : Hid (∀ x, Below wc.heap.size wc x → x.cell? ⟨X, 3, none⟩ = some (.slice rx lc.length kx) ∧ x.cell? ⟨X', 3, none⟩ = some (.slice ry mc.length ky) ∧ Below (A + 2) wB x ∧ Below w.heap.size w x) := Lib.hid fun x hx => by
     have h1 := (hx.block X (Array.getElem?_eq_some_iff.1 e1).1).trans e1
     have h2 := (hx.block X' (Array.getElem?_eq_some_iff.1 e2).1).trans e2
     have h3 : Below (A + 2) wB x := hb2.trans (hx.mono (by have := hb2.size; have := HSB.out; omega))
     exact ⟨part_cells h1 hx3, part_cells h2 hy3, h3, (CL.out x h3).2⟩
    have hrb : rwB ⟨H, I, Q, lc⟩ ⟨H', I', Q', mc⟩ = ((H == H' && (I == I' && Q == Q')) && (decide (lc.length = mc.length) && (lc.zip mc).all fun p => celB p.1 p.2)) := rfl
    generalize rwB ⟨H, I, Q, lc⟩ ⟨H', I', Q', mc⟩ = rr at *
    have HCX := Lib.hid hcelx
    have HCY := Lib.hid hcely
    have HXN := Lib.hid hxn
    have HYN := Lib.hid hyn
    have HMX := Lib.hid hmx
    clear e1 e2 hx0 hx1 hx2 hx3 hy0 hy1 hy2 hy3 hcelx hcely hxn hyn hmx hmy hqx hqy hxc hyc hxo hyo hxl hyl hb hE ha HSX HSU hzv HYS
    have hHH : H' = H ∨ H' = !H := by cases H <;> cases H' <;> simp
    rcases hHH with rfl | rfl
    case inr =>
     have F := Lib.hid (NF.out (by rw [hrb]; cases H <;> rfl))
     clear NX NF hrb
     cases H <;>
     (go_wp2
      go_ret
      exact ⟨by rw [HR.out, F.out]; rfl, hEc⟩)
    have tH : (H' != H') = false := by simp
    by_cases eI : I = I'
    case neg =>
     have tI : (I != I') = true := by rw [bne_iff_ne]; exact eI
     have F := Lib.hid (NF.out (by rw [hrb, beq_eq_false_iff_ne.2 eI]; simp))
     clear NX NF hrb eI tH
     cases H' <;>
     (go_wp2
      go_ret
      exact ⟨by rw [HR.out, F.out]; rfl, hEc⟩)
    subst eI
    have tI : (I != I) = false := by simp
    by_cases eQ : Q = Q'
    case neg =>
     have tQ : (Q != Q') = true := by rw [bne_iff_ne]; exact eQ
     have F := Lib.hid (NF.out (by rw [hrb, beq_eq_false_iff_ne.2 eQ]; simp))
     clear NX NF hrb eQ tH
     cases H' <;>
     (go_wp2
      go_ret
      exact ⟨by rw [HR.out, F.out]; rfl, hEc⟩)
    subst eQ
    have tQ : (Q != Q) = false := by simp
    by_cases eL : lc.length = mc.length
    case neg =>
     have tL : ((lc.length : Int) != (mc.length : Int)) = true := by rw [bne_iff_ne]; omega
     have F := Lib.hid (NF.out (by rw [hrb, decide_eq_false eL]; simp))
     clear NX NF hrb eL tH
     cases H' <;>
     (go_wp2
      go_ret
      exact ⟨by rw [HR.out, F.out]; rfl, hEc⟩)
    have tL : ((lc.length : Int) != (mc.length : Int)) = false := by rw [eL]; simp
    have RR := Lib.hid (show rr = (lc.zip mc).all (fun p => celB p.1 p.2) by rw [hrb, decide_eq_true eL]; simp)
    have HLL := Lib.hid eL
    have hS1 : Below wc.heap.size wc wc := Below.refl _ _
    clear hrb eL tH
    cases H'
    all_goals
     go_wp2
     clear a0 a1 a2 a3 f0 f1 f2 f3 tI tQ tL
     go_loopw [8] (fun z wr => ∃ j : Nat, j ≤ lc.length ∧ z = .int .i64 (j : Int) ∧ Hid ((((lc.take j).zip (mc.take j)).all fun p => celB p.1 p.2) = true) ∧ Below wc.heap.size wc wr) (fun z _ => lc.length - (intOf z).toNat)
     case atStart => exact ⟨0, Nat.zero_le _, rfl, Lib.hid rfl, hS1⟩
     case round =>
      obtain ⟨j, hj, rfl, ha, hb⟩ := hrel
      have hlm : lc.length ≤ 9223372036854775807 := by have := HMX.out; unfold maxLen at this; omega
      by_cases hjl : j < lc.length
      ·have t3 : decide ((j : Int) < (lc.length : Int)) = true := by simp; omega
       have hjm : j < mc.length := by rw [← HLL.out]; exact hjl
       have t4 : j < mc.length := hjm
       obtain ⟨a3, -, -, -⟩ := LX.out _ hb
       obtain ⟨d1, g1, rfl, hd1, hcv⟩ := ManyIn.each HCX.out (by omega)
       obtain ⟨d2, g2, rfl, hd2, hcw⟩ := ManyIn.each HCY.out (by omega)
       obtain ⟨vs, hV, hvc⟩ := hcv j hjl
       obtain ⟨us2, hU, huc⟩ := hcw j hjm
       have hl18 := hV.shape.1
       have hu18 := hU.shape.1
       obtain ⟨p3, cap3, hvs, -, hev⟩ := hV
       obtain ⟨p4, cap4, hus, -, heu⟩ := hU
       have HSV : (Tryd.prog.info? 42).map (·.size) = some vs.length := by rw [hl18]; kernel_rfl
       have HSW : (Tryd.prog.info? 42).map (·.size) = some us2.length := by rw [hu18]; kernel_rfl
       have VS := Lib.hid hvc
       have US := Lib.hid huc
       have CS := Lib.hid (fun (x : World) (hx : Below wc.heap.size wc x) => (by
        rw [hvs, hus]
        exact (celsame_page lc[j] mc[j] p3 p4 (fun i => (lc[j].ev i).length) (fun i => (mc[j].ev i).length) cap3 cap4 x (fun i hi => ⟨rfl, HXN.out _ (List.getElem_mem hjl) i hi, (hev i hi).2.below (LX.out x hx).2.2.2⟩) (fun i hi => ⟨rfl, HYN.out _ (List.getElem_mem hjm) i hi, (heu i hi).2.below (LX.out x hx).2.2.2⟩)).mono fun e y h => ⟨h.1, hx.trans (h.2.mono hx.size)⟩ : Calls Tryd.prog 13 #[.agg vs.toArray, .agg us2.toArray] x fun e y => e = .returned (.bool (celB lc[j] mc[j])) ∧ Below wc.heap.size wc y))
       have NX2 := Lib.hid (fun h => zip_take (f := celB) hjl hjm ha.out h)
       have NF2 := Lib.hid (fun h => zip_fail (f := celB) hjl hjm h)
       clear hcv hcw hvc huc hvs hus hev heu ha
       generalize celB lc[j] mc[j] = y at CS NX2 NF2
       go_wp2
       refine wp_region_calm (S := fun x => Below wc.heap.size wc x) 12 (by kernel_rfl) (by kernel_rfl) hb.drew ?_
       simp only [List.take_succ_cons, List.take_zero, List.drop_succ_cons, List.drop_zero]
       refine calm_value (by kernel_rfl) (fun x _ => by go_simp; try with_reducible rfl) ?_; simp only [Act.put, List.setIfInBounds_toArray, List.set_cons_zero, List.set_cons_succ]
       refine calm_cell 31 _ ⟨X, 3, none⟩ (.slice (some ⟨d1, g1, none⟩) lc.length kx) (by kernel_rfl) rfl rfl (fun x hx => by have c0 := (LX.out x hx).1; go_simp) ?_; simp only [Act.put, List.setIfInBounds_toArray, List.set_cons_zero, List.set_cons_succ]
       iterate 2 (refine calm_value (by kernel_rfl) (fun x _ => by go_simp; try with_reducible rfl) ?_; simp only [Act.put, List.setIfInBounds_toArray, List.set_cons_zero, List.set_cons_succ])
       refine calm_cell 42 _ ⟨d1, g1 + j * 18, none⟩ (.agg vs.toArray) (by kernel_rfl) rfl rfl (fun x hx => run_load_list x d1 (g1 + j * 18) 42 vs _ (VS.out x (LX.out x hx).2.2.2) Tryd.underlying42 rfl HSV) ?_; simp only [Act.put, List.setIfInBounds_toArray, List.set_cons_zero, List.set_cons_succ]
       refine calm_value (by kernel_rfl) (fun x _ => by go_simp; try with_reducible rfl) ?_; simp only [Act.put, List.setIfInBounds_toArray, List.set_cons_zero, List.set_cons_succ]
       refine calm_cell 31 _ ⟨X', 3, none⟩ (.slice (some ⟨d2, g2, none⟩) mc.length ky) (by kernel_rfl) rfl rfl (fun x hx => by have c0 := (LX.out x hx).2.1; go_simp) ?_; simp only [Act.put, List.setIfInBounds_toArray, List.set_cons_zero, List.set_cons_succ]
       iterate 2 (refine calm_value (by kernel_rfl) (fun x _ => by go_simp; try with_reducible rfl) ?_; simp only [Act.put, List.setIfInBounds_toArray, List.set_cons_zero, List.set_cons_succ])
       refine calm_cell 42 _ ⟨d2, g2 + j * 18, none⟩ (.agg us2.toArray) (by kernel_rfl) rfl rfl (fun x hx => run_load_list x d2 (g2 + j * 18) 42 us2 _ (US.out x (LX.out x hx).2.2.2) Tryd.underlying42 rfl HSW) ?_; simp only [Act.put, List.setIfInBounds_toArray, List.set_cons_zero, List.set_cons_succ]
       refine calm_call (by kernel_rfl) CS.out (fun _ => by kernel_rfl) ?_; simp only [Act.put, List.setIfInBounds_toArray, List.set_cons_zero, List.set_cons_succ]
       refine calm_value (by kernel_rfl) (fun x _ => by go_simp; try with_reducible rfl) ?_; simp only [Act.put, List.setIfInBounds_toArray, List.set_cons_zero, List.set_cons_succ]
       refine calm_nil fun x hx => ?_
       cases y with
       | true =>
        have N := Lib.hid (NX2.out rfl)
        clear NX2 NF2
        go_wp2
        go_roundw
        case rel => exact ⟨j + 1, by omega, by go_num, N, hx⟩
        case measure => simp [intOf]; omega
       | false =>
        have N := Lib.hid (NF.out (by rw [RR.out]; exact NF2.out rfl))
        have hEx := (LX.out _ hx).2.2.2
        clear NX2 NF2
        go_wp2
        go_ret
        exact ⟨by rw [HR.out, N.out]; rfl, hEx⟩
      ·obtain rfl : lc.length = j := by omega
       have t3 : decide ((lc.length : Int) < (lc.length : Int)) = false := by simp
       obtain ⟨a3, -, hbo, -⟩ := LX.out _ hb
       have N := Lib.hid (NX.out (by
        rw [RR.out]
        have h := ha.out
        rw [List.take_of_length_le (Nat.le_refl _), List.take_of_length_le (by have := HLL.out; omega)] at h
        exact h))
       go_wp2
       go_roundw
       case rel => exact ⟨i + 1, by omega, by go_num, N, hbo⟩
       case measure => simp [intOf]; omega
  ·obtain rfl : n = i := by omega
   have t0 : decide ((n : Int) < (n : Int)) = false := by simp
   have N := Lib.hid (show (l.zip m).all (fun p => rwB p.1 p.2) = true by
    have h := ha.out
    rw [List.take_of_length_le (by have := HN.out; omega), List.take_of_length_le (by have := HN.out; have := HL.out; omega)] at h
    exact h)
   go_wp2
   go_ret
   exact ⟨by rw [HR.out, N.out]; rfl, hE⟩
end Go.Proofs.YthmmpjecmapajaaDoor
