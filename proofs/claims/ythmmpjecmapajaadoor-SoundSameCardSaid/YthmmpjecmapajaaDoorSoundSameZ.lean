/- Whether any two sheets are the same, and the cells and vectors of any, is what the document's own answer says; of one that may be there are as many cells as its format has; and the chapter's examples come out. Conditions: none but the law's own (up to 200 cells, 30 rows, 100 events a block), and the card's: what the listed variables hold when the call begins. -/
import Derived.Test.YthmmpjecmapajaaDoorSoundSameMe
import Derived.Test.YthmmpjecmapajaaDoorSoundSameMq
import Derived.Test.YthmmpjecmapajaaDoorSoundSameMbe
import Derived.Test.YthmmpjecmapajaaDoorSoundSameMbm
import Derived.Test.YthmmpjecmapajaaDoorSoundSameMbo
import Derived.Test.YthmmpjecmapajaaDoorSoundSameMbv
import Derived.Test.YthmmpjecmapajaaDoorCards
import Derived.Test.YthmmpjecmapajaaDoorTie
import Derived.Lay
namespace Go.Proofs.YthmmpjecmapajaaDoor
open Go.RowKit Go.Lib Go.ChangeShapes Go.WideShapes Go.ChangeAt
structure ThreeAt (w : World) (q1 q2 q3 : Option Addr) (l : List Cel) : Prop where
 c1 : CelsIn w q1 l
 c2 : CelsIn w q2 l
 c3 : VecsAt w q3 l.length (fun i => (l.map fun c => (c.mx, c.my)).getD i (0, 0))
theorem ThreeAt.below {w x : World} {q1 q2 q3 : Option Addr} {l : List Cel} (h : ThreeAt w q1 q2 q3 l) (hb : Below w.heap.size w x) : ThreeAt x q1 q2 q3 l := ⟨CelsIn.below h.c1 hb, CelsIn.below h.c2 hb, h.c3.mono hb⟩
set_option maxRecDepth 100000 in
set_option maxHeartbeats 4000000 in
theorem soundSame_walk (S : ShP) (vs : List Value) (S' : ShP) (vs' : List Value) (w : World) (hS : ShV w S vs) (hS' : ShV w S' vs') (hL : HasT w ∧ HasSteps w) : Calls Tryd.prog 4 #[.agg vs.toArray, .agg vs'.toArray] w fun e w' => e = .returned (.bool true) ∧ Below w.heap.size w w' := by
 obtain ⟨p, b, ca, cb, rfl, hl, hn, hs, hr⟩ := hS
 obtain ⟨p', b', ca', cb', rfl, hl', hn', hs', hr'⟩ := hS'
 obtain ⟨ht, hst⟩ := hL
 obtain ⟨zs, hZ⟩ : ∃ zs, sheetL S.hd (.slice p S.hd.supp.length ca) (.slice b S.rows.length cb) S.zeros = zs := ⟨_, rfl⟩
 obtain ⟨ys, hY⟩ : ∃ ys, sheetL S'.hd (.slice p' S'.hd.supp.length ca') (.slice b' S'.rows.length cb') S'.zeros = ys := ⟨_, rfl⟩
 have z2 : zs[2]? = some (.int .i64 S.hd.fmt) := by rw [← hZ]; rfl
 have HSZ : (Tryd.prog.info? 25).map (·.size) = some zs.toArray.size := by rw [show zs.toArray.size = 8 by rw [← hZ]; rfl]; kernel_rfl
 have HSY : (Tryd.prog.info? 25).map (·.size) = some ys.toArray.size := by rw [show ys.toArray.size = 8 by rw [← hY]; rfl]; kernel_rfl
 obtain ⟨A, wA, wB, hA, hwA, hwB, hsA, hsB, hhA, hhB, hbB⟩ := laid2 w (.cells zs.toArray 25 (0, 0)) (.cells ys.toArray 25 (0, 0))
 have W0 : ∀ x, Below (A + 2) wB x → Below w.heap.size w x := fun x hx => by rw [hA]; exact hbB.trans (hx.mono (by omega))
 have K : ∀ (x y : World), Below (A + 2) wB x → Below x.heap.size x y → Below (A + 2) wB y := fun x y hx hy => hx.trans (hy.mono (by have := hx.size; omega))
 have HLA := Lib.hid (fun (x : World) (hx : Below (A + 2) wB x) => (hx.block A (by omega)).trans hhA)
 have HLB := Lib.hid (fun (x : World) (hx : Below (A + 2) wB x) => (hx.block (A + 1) (by omega)).trans hhB)
 have CL1 := Lib.hid (fun (x : World) (hx : Below (A + 2) wB x) => (by
  rw [← hZ]
  exact (light_law S p b ca cb x hl hn (hr.below (W0 x hx))).mono fun e y h => ⟨h.1, K x y hx h.2⟩ : Calls Tryd.prog 5 #[.agg zs.toArray] x fun e y => (∃ y, e = .returned (.bool y) ∧ (y = true → LightP S)) ∧ Below (A + 2) wB y))
 have CL2 := Lib.hid (fun (x : World) (hx : Below (A + 2) wB x) => (by
  rw [← hY]
  exact (light_law S' p' b' ca' cb' x hl' hn' (hr'.below (W0 x hx))).mono fun e y h => ⟨h.1, K x y hx h.2⟩ : Calls Tryd.prog 5 #[.agg ys.toArray] x fun e y => (∃ y, e = .returned (.bool y) ∧ (y = true → LightP S')) ∧ Below (A + 2) wB y))
 have CLV := Lib.hid (fun (x : World) (hx : Below (A + 2) wB x) => ((lives25 x (ht.below (W0 x hx)) (hst.below (W0 x hx))).mono fun e y h => ⟨h.1, K x y hx h.2⟩ : Calls Tryd.prog 6 #[] x fun e y => e = .returned (.bool true) ∧ Below (A + 2) wB y))
 have CC := Lib.hid (fun (hP : LightP S) (x : World) (hx : Below (A + 2) wB x) => (by
  rw [← hZ]
  exact (sncheck_code S p b ca cb x hl (by have := hP.rows; omega) (hs.below (W0 x hx)) (hr.below (W0 x hx)) (fun c hc k hk => by have := hP.mem c hc k hk; omega) (fun c p n k y hy hc => cright_code S.hd.inter c p n k y hc (ht.below ((W0 x hx).trans (hy.mono (W0 x hx).size))) (hst.below ((W0 x hx).trans (hy.mono (W0 x hx).size))))) : Calls Tryd.prog 7 #[.agg zs.toArray] x fun e y => e = .returned (.int .i64 (shErr S)) ∧ Below x.heap.size x y))
 have CE := Lib.hid (fun (hP : LightP S) (x : World) (hx : Below (A + 2) wB x) => (by
  rw [← hZ]
  exact (sncells_code S p b ca cb x hn (hr.below (W0 x hx)) (by have := hP.all; omega) (fun c hc k hk => by have := hP.mem c hc k hk; omega)).mono fun e y ⟨v, h, ho, hb⟩ => by
   obtain ⟨q, cap, rfl, hm⟩ := OwnM.many ho (V' := CelV) CelW.cel
   exact ⟨q, cap, h, hm, hb⟩ : Calls Tryd.prog 9 #[.agg zs.toArray] x fun e y => ∃ q cap, e = .returned (.slice q (celsP S).length cap) ∧ CelsIn y q (celsP S) ∧ Below x.heap.size x y))
 have CF := Lib.hid (fun (hP : LightP S) (x : World) (hx : Below (A + 2) wB x) => (by
  rw [← hZ]
  exact (scells_page S p b ca cb x hn (hr.below (W0 x hx)) (by have := hP.all; omega)).mono fun e y ⟨v, h, ho, hb⟩ => by
   obtain ⟨q, cap, rfl, hm⟩ := OwnM.many ho (V' := CelV) (fun c vs hv => CelV.below hb c vs hv)
   exact ⟨q, cap, h, hm, hb⟩ : Calls Tryd.prog 10 #[.agg zs.toArray] x fun e y => ∃ q cap, e = .returned (.slice q (celsP S).length cap) ∧ CelsIn y q (celsP S) ∧ Below x.heap.size x y))
 have CV := Lib.hid (fun (hP : LightP S) (x : World) (hx : Below (A + 2) wB x) => (by
  rw [← hZ]
  exact (snvecs_code S p b ca cb x hn (hr.below (W0 x hx)) (by have := hP.all; omega)).mono fun e y ⟨v, h, ho, hb⟩ => by
   unfold OwnVecs at ho
   obtain ⟨q, cap, rfl, hm⟩ := vecs_own (l := (celsP S).map fun c => (c.mx, c.my)) (List.length_map _) ho
   exact ⟨q, cap, h, hm, hb⟩ : Calls Tryd.prog 11 #[.agg zs.toArray] x fun e y => ∃ q cap, e = .returned (.slice q (celsP S).length cap) ∧ VecsAt y q (celsP S).length (fun i => ((celsP S).map fun c => (c.mx, c.my)).getD i (0, 0)) ∧ Below x.heap.size x y))
 have CS := Lib.hid (fun (hP : LightP S) (hP' : LightP S') (x : World) (hx : Below (A + 2) wB x) => (by
  rw [← hZ, ← hY]
  exact (snsame_code S S' p b p' b' ca cb ca' cb' x hl hn (hs.below (W0 x hx)) (hs'.below (W0 x hx)) (hr.below (W0 x hx)) (hr'.below (W0 x hx)) (fun c hc k hk => by have := hP.mem c hc k hk; omega) (fun c hc k hk => by have := hP'.mem c hc k hk; omega)).mono fun e y h => ⟨h.1, K x y hx h.2⟩ : Calls Tryd.prog 15 #[.agg zs.toArray, .agg ys.toArray] x fun e y => e = .returned (.bool (shB S S')) ∧ Below (A + 2) wB y))
 have CR := Lib.hid (fun (hP : LightP S) (hP' : LightP S') (x : World) (hx : Below (A + 2) wB x) => (by
  rw [← hZ, ← hY]
  exact (snsame_page S S' p b p' b' ca cb ca' cb' x hl hn (hs.below (W0 x hx)) (hs'.below (W0 x hx)) (hr.below (W0 x hx)) (hr'.below (W0 x hx)) (fun c hc k hk => by have := hP.mem c hc k hk; omega) (fun c hc k hk => by have := hP'.mem c hc k hk; omega)).mono fun e y h => ⟨h.1, K x y hx h.2⟩ : Calls Tryd.prog 16 #[.agg zs.toArray, .agg ys.toArray] x fun e y => e = .returned (.bool (shB S S')) ∧ Below (A + 2) wB y))
 have CT := Lib.hid (fun (hP : LightP S) (x : World) (hx : Below (A + 2) wB x) => (by
  rw [← hZ]
  exact (snsame_code S S p b p b ca cb ca cb x hl hn (hs.below (W0 x hx)) (hs.below (W0 x hx)) (hr.below (W0 x hx)) (hr.below (W0 x hx)) (fun c hc k hk => by have := hP.mem c hc k hk; omega) (fun c hc k hk => by have := hP.mem c hc k hk; omega)).mono fun e y h => ⟨h.1.trans (by rw [shB_self]), K x y hx h.2⟩ : Calls Tryd.prog 15 #[.agg zs.toArray, .agg zs.toArray] x fun e y => e = .returned (.bool true) ∧ Below (A + 2) wB y))
 have CM := Lib.hid (fun (x : World) => many_page S.hd.fmt x)
 have ZN := Lib.hid (fun (h : shErr S = 0) => cels_many (shErr_zero h).1)
 have MEM := Lib.hid (fun (hP : LightP S) => hP.mem)
 have ALL := Lib.hid (fun (hP : LightP S) => hP.all)
 have HE := Lib.hid (fun (x : World) (hx : Below (A + 2) wB x) => W0 x hx)
 have C2 := Lib.hid (fun (x : World) (hx : Below (A + 2) wB x) => (part_cells ((hx.block A (by omega)).trans hhA) z2 : x.cell? ⟨A, 2, none⟩ = some (.int .i64 S.hd.fmt)))
 have HKK := Lib.hid K
 have HWA := Lib.hid hwA
 have HWB := Lib.hid hwB
 have HA := Lib.hid hA
 have HSB := Lib.hid hsB
 have hS0 : Below (A + 2) wB wB := Below.refl _ _
 rw [hZ, hY]
 clear hwA hwB hA hsA hsB hbB W0 K hZ hY hs hs' hr hr' hl hn hl' hn' ht hst z2
 go_enter Tryd.func4, Tryd.ntmps4
 go_wp2_with (rw [HWA.out, HA.out, HWB.out]; with_reducible refine wpList_load_row rfl 25 _ rfl A rfl 25 zs.toArray (0, 0) _ hhA Tryd.underlying25 rfl HSZ ?_)
 refine (CL1.out _ hS0).mono ?_
 rintro e w1 ⟨⟨y, rfl, hy⟩, hx1⟩
 clear hhA hhB
 cases y with
 | false =>
  clear hy
  go_wp2_with fail
  refine (CLV.out _ hx1).mono ?_
  rintro e w2 ⟨rfl, hx2⟩
  have hE := HE.out _ hx2
  go_wp2
  go_ret
  exact ⟨rfl, hE⟩
 | true =>
 have hP := Lib.hid (hy rfl)
 have hB1 := HLB.out _ hx1
 clear hy
 go_wp2_with (with_reducible refine wpList_wanted_load (by kernel_rfl) 25 _ rfl (A + 1) rfl 25 ys.toArray (0, 0) _ hB1 Tryd.underlying25 rfl HSY ?_)
 refine (CL2.out _ hx1).mono ?_
 rintro e w2 ⟨⟨y, rfl, hy⟩, hx2⟩
 clear hB1 hx1
 cases y with
 | false =>
  clear hy
  go_wp2_with fail
  refine (CLV.out _ hx2).mono ?_
  rintro e w3 ⟨rfl, hx3⟩
  have hE := HE.out _ hx3
  go_wp2
  go_ret
  exact ⟨rfl, hE⟩
 | true =>
 have hP' := Lib.hid (hy rfl)
 clear hy
 have cCC := Lib.hid (CC.out hP.out)
 have cCE := Lib.hid (CE.out hP.out)
 have cCF := Lib.hid (CF.out hP.out)
 have cCV := Lib.hid (CV.out hP.out)
 have cCS := Lib.hid (CS.out hP.out hP'.out)
 have cCR := Lib.hid (CR.out hP.out hP'.out)
 have cCT := Lib.hid (CT.out hP.out)
 have MEM := Lib.hid (MEM.out hP.out)
 have hlen := ALL.out hP.out
 clear CC CE CF CV CS CR CT ALL hP hP' CL1 CL2
 generalize shErr S = E at *
 generalize S.hd.fmt = fmt at *
 generalize celsP S = l at *
 generalize shB S S' = R at *
 go_wp2
 refine wp_region_held_drew (S := fun x => Below (A + 2) wB x) (by kernel_rfl) hx2.drew (fun hH => ?_)
 refine held_take 0 (some 18) (v := .agg zs.toArray) rfl rfl (by kernel_rfl) (by kernel_rfl) (by kernel_rfl) (fun _ _ _ h => h) hH (Or.inl ⟨by kernel_rfl, fun x hx => exec_load (ty := 25) (x := .tmp 2) (ad := ⟨A, 0, none⟩) (by kernel_rfl) (by kernel_rfl) (run_loadVar_row x (A) _ _ zs.toArray (0, 0) _ (HLA.out x hx) Tryd.underlying25 rfl HSZ)⟩) ?_
 try simp only [Act.put, List.setIfInBounds_toArray, List.set_cons_zero, List.set_cons_succ]
 refine held_take 2 (some 20) (v := .agg zs.toArray) rfl rfl (by kernel_rfl) (by kernel_rfl) (by kernel_rfl) (fun _ _ _ h => h) hH (Or.inl ⟨by kernel_rfl, fun x hx => exec_load (ty := 25) (x := .tmp 2) (ad := ⟨A, 0, none⟩) (by kernel_rfl) (by kernel_rfl) (run_loadVar_row x (A) _ _ zs.toArray (0, 0) _ (HLA.out x hx) Tryd.underlying25 rfl HSZ)⟩) ?_
 try simp only [Act.put, List.setIfInBounds_toArray, List.set_cons_zero, List.set_cons_succ]
 refine wpAnyH_ready (rs := [1]) (by kernel_rfl) (by simp) ?_
 refine AllReadyH.cons rfl (fun K hK => ?_) AllReadyH.nil
 go_simp
 go_wp2_with fail
 refine (cCE.out _ hH).mono ?_
 rintro e w3 ⟨q1, cap1, rfl, hq1, hb3⟩
 have hx3 := HKK.out _ _ hH hb3
 refine hK.out _ _ hx3 (fun hH2 => ?_)
 clear hK K hH hb3 hH2
 have hH := hx3
 try simp only [Act.put, List.setIfInBounds_toArray, List.set_cons_zero, List.set_cons_succ]
 refine wpAnyH_ready (rs := [3]) (by kernel_rfl) (by simp) ?_
 refine AllReadyH.cons rfl (fun K hK => ?_) AllReadyH.nil
 go_simp
 go_wp2_with fail
 refine (cCF.out _ hH).mono ?_
 rintro e w4 ⟨q2, cap2, rfl, hq2, hb4⟩
 have hx4 := HKK.out _ _ hH hb4
 have hq1 := CelsIn.below hq1 hb4
 refine hK.out _ _ hx4 (fun hH2 => ?_)
 clear hK K hH hb4 hH2 hx3
 have hH := hx4
 try simp only [Act.put, List.setIfInBounds_toArray, List.set_cons_zero, List.set_cons_succ]
 refine held_take 4 (some 5) (v := ?_) rfl rfl (by kernel_rfl) (by kernel_rfl) (by kernel_rfl) (fun _ _ _ h => h) hH (Or.inl ⟨by kernel_rfl, ?_⟩) ?_
 rotate_left
 ·(intro x _; go_simp; try with_reducible rfl)
 rotate_right
 try simp only [Act.put, List.setIfInBounds_toArray, List.set_cons_zero, List.set_cons_succ]
 refine held_take 5 (some 6) (v := ?_) rfl rfl (by kernel_rfl) (by kernel_rfl) (by kernel_rfl) (fun _ _ _ h => h) hH (Or.inl ⟨by kernel_rfl, ?_⟩) ?_
 rotate_left
 ·(intro x _; go_simp; try with_reducible rfl)
 rotate_right
 try simp only [Act.put, List.setIfInBounds_toArray, List.set_cons_zero, List.set_cons_succ]
 refine wpAnyH_done (by kernel_rfl) ?_ _
 clear hH
 have hA4 := HLA.out _ hx4
 go_wp2_with (with_reducible refine wpList_load_row rfl 25 _ rfl A rfl 25 zs.toArray (0, 0) _ hA4 Tryd.underlying25 rfl HSZ ?_)
 refine (cCV.out _ hx4).mono ?_
 rintro e w5 ⟨q3, cap3, rfl, hq3, hb5⟩
 have hx5 := HKK.out _ _ hx4 hb5
 have TH : Hid (ThreeAt w5 q1 q2 q3 l) := Lib.hid ⟨hq1.below hb5, hq2.below hb5, hq3⟩
 clear hA4 hq1 hq2 hq3 hb5 hx4 cCE cCF cCV
 obtain ⟨n, hln⟩ : ∃ n, l.length = n := ⟨_, rfl⟩
 rw [hln] at hlen ZN ⊢
 have HN := Lib.hid hln
 clear hln
 have g1 : ((n : Int) != (n : Int)) = false := by simp
 have hA5 := HLA.out _ hx5
 go_wp2_with (with_reducible refine wpList_wanted_load (by kernel_rfl) 25 _ rfl A rfl 25 zs.toArray (0, 0) _ hA5 Tryd.underlying25 rfl HSZ ?_)
 refine (cCC.out _ hx5).mono ?_
 rintro e w6 ⟨rfl, hb6⟩
 have hx6 := HKK.out _ _ hx5 hb6
 have TH := Lib.hid (TH.out.below hb6)
 clear hA5 hb6 hx5 cCC
 by_cases hE0 : E = 0
 case' pos =>
  subst hE0
  have hnm : n = cells fmt := ZN.out rfl
  have k2 := C2.out _ hx6
  have cm := CM.out w6
  rw [← hnm] at cm
  clear hnm
  go_wp2_with fail
  refine cm.mono ?_
  rintro e w7 ⟨rfl, hb7⟩
  have hx7 := HKK.out _ _ hx6 hb7
  have TH := Lib.hid (TH.out.below hb7)
  clear hb7 hx6 k2 cm
  go_wp2
  clear ZN CM C2
  generalize w7 = wz at *
 case' neg =>
  have tE : (E == 0) = false := by rw [beq_eq_false_iff_ne]; exact hE0
  go_wp2
  clear hE0 tE ZN CM C2
  generalize w6 = wz at *
  have hx7 := hx6
  clear hx6
 all_goals
  obtain ⟨W, hW⟩ : ∃ W, wz.heap.size = W := ⟨_, rfl⟩
  have HW := Lib.hid hW
  have hxW : Below W wz wz := Below.refl _ _
  have HZ : Hid (∀ x, Below W wz x → Below (A + 2) wB x) := Lib.hid fun x hx => hx7.trans (hx.mono (by have := hx7.size; have := HSB.out; omega))
  clear hW hx7
  go_loopw [8] (fun z wr => ∃ i : Nat, i ≤ n ∧ z = .int .i64 (i : Int) ∧ Below W wz wr) (fun z _ => n - (RowKit.intOf z).toNat)
  case atStart => exact ⟨0, Nat.zero_le _, rfl, hxW⟩
  case round =>
   clear hxW
   obtain ⟨i, hi, rfl, hb⟩ := hrel
   by_cases hlt : i < n
   ·have t0 : decide ((i : Int) < (n : Int)) = true := by simp; omega
    have hil : i < l.length := by rw [HN.out]; exact hlt
    obtain ⟨d1, o1, rfl, hd1, hcv⟩ := ManyIn.each TH.out.c1 (by omega)
    obtain ⟨d2, o2, rfl, hd2, hcw⟩ := ManyIn.each TH.out.c2 (by omega)
    obtain ⟨d3, o3, rfl, hvv⟩ := vecs_hold TH.out.c3 (by omega)
    obtain ⟨vs, hV, hvc⟩ := hcv i hil
    obtain ⟨us, hU, huc⟩ := hcw i hil
    have hl18 := hV.shape.1
    have hu18 := hU.shape.1
    obtain ⟨p3, cap4, hvs, -, hev⟩ := hV
    obtain ⟨p4, cap5, hus, -, heu⟩ := hU
    have hbz : ∀ x, Below W wz x → Below wz.heap.size wz x := fun x hx => by rw [HW.out]; exact hx
    have HSV : (Tryd.prog.info? 42).map (·.size) = some vs.length := by rw [hl18]; kernel_rfl
    have HSW : (Tryd.prog.info? 42).map (·.size) = some us.length := by rw [hu18]; kernel_rfl
    have VS := Lib.hid (fun x (hx : Below W wz x) => hvc x (hbz x hx))
    have US := Lib.hid (fun x (hx : Below W wz x) => huc x (hbz x hx))
    have hfi : (l.map fun c => (c.mx, c.my)).getD i (0, 0) = (l[i].mx, l[i].my) := by simp [List.getD, hil]
    have hmem := MEM.out l[i] (List.getElem_mem hil)
    have PV := Lib.hid (fun x (hx : Below W wz x) => (fun (k : Nat) v hk => by
     obtain ⟨a0, a1⟩ := hvv x (hbz x hx) i hil
     rw [hfi] at a0 a1
     match k, hk with
     | 0, hk => injection hk with hk; subst hk; exact a0
     | 1, hk => injection hk with hk; subst hk; exact a1 : ∀ (k : Nat) v, [Value.int .i64 l[i].mx, .int .i64 l[i].my][k]? = some v → x.cell? ⟨d3, o3 + i * 2 + k, none⟩ = some v))
    have PU := Lib.hid (fun x (hx : Below W wz x) => (fun (k : Nat) v hk => by
     have hk2 : us[4 + k]? = some v := by
      rw [hus]
      match k, hk with
      | 0, hk => injection hk with hk; subst hk; rfl
      | 1, hk => injection hk with hk; subst hk; rfl
     have := huc x (hbz x hx) (4 + k) v hk2
     rwa [← Nat.add_assoc] at this : ∀ (k : Nat) v, [Value.int .i64 l[i].mx, .int .i64 l[i].my][k]? = some v → x.cell? ⟨d2, o2 + i * 18 + 4 + k, none⟩ = some v))
    have KW : ∀ x y, Below W wz x → Below x.heap.size x y → Below W wz y := fun x y hx hy => hx.trans (hy.mono (by have := hx.size; have := HW.out; omega))
    have D1 := Lib.hid (fun (x : World) (hx : Below W wz x) => (by
     rw [hvs, hus]
     exact (celsame_page l[i] l[i] p3 p4 (fun i_1 => (l[i].ev i_1).length) (fun i_1 => (l[i].ev i_1).length) cap4 cap5 x (fun k hk => ⟨rfl, Nat.le_trans (hmem k hk) (by decide), (hev k hk).2.below (hbz x hx)⟩) (fun k hk => ⟨rfl, Nat.le_trans (hmem k hk) (by decide), (heu k hk).2.below (hbz x hx)⟩)).mono fun e y h => ⟨h.1.trans (by rw [celB_self]), KW x y hx h.2⟩ : Calls Tryd.prog 13 #[.agg vs.toArray, .agg us.toArray] x fun e y => e = .returned (.bool true) ∧ Below W wz y))
    have D2 := Lib.hid (fun (x : World) (hx : Below W wz x) => (by
     rw [hvs, hus]
     exact (celsame_code l[i] l[i] p3 p4 (fun i_1 => (l[i].ev i_1).length) (fun i_1 => (l[i].ev i_1).length) cap4 cap5 x (fun k hk => ⟨rfl, Nat.le_trans (hmem k hk) (by decide), (hev k hk).2.below (hbz x hx)⟩) (fun k hk => ⟨rfl, Nat.le_trans (hmem k hk) (by decide), (heu k hk).2.below (hbz x hx)⟩)).mono fun e y h => ⟨h.1.trans (by rw [celB_self]), KW x y hx h.2⟩ : Calls Tryd.prog 14 #[.agg vs.toArray, .agg us.toArray] x fun e y => e = .returned (.bool true) ∧ Below W wz y))
    generalize l[i].mx = mx at *
    generalize l[i].my = my at *
    have E2 := two_equal_self (mx, my)
    dsimp only at E2
    clear hcv hcw hvv hvc huc hvs hus hev heu hmem hbz KW hfi hl18 hu18
    go_wp2
    refine wp_region_calm (S := fun x => Below W wz x) 34 (by kernel_rfl) (by kernel_rfl) hb.drew ?_
    simp only [List.take_succ_cons, List.take_zero, List.drop_succ_cons, List.drop_zero]
    iterate 3 (refine calm_value (by kernel_rfl) (fun x _ => by go_simp; try with_reducible rfl) ?_; simp only [Act.put, List.setIfInBounds_toArray, List.set_cons_zero, List.set_cons_succ])
    refine calm_cell 42 _ ⟨d1, o1 + i * 18, none⟩ (.agg vs.toArray) (by kernel_rfl) rfl rfl (fun x hx => run_load_list x d1 (o1 + i * 18) 42 vs _ (VS.out x hx) Tryd.underlying42 rfl HSV) ?_; simp only [Act.put, List.setIfInBounds_toArray, List.set_cons_zero, List.set_cons_succ]
    iterate 3 (refine calm_value (by kernel_rfl) (fun x _ => by go_simp; try with_reducible rfl) ?_; simp only [Act.put, List.setIfInBounds_toArray, List.set_cons_zero, List.set_cons_succ])
    refine calm_cell 42 _ ⟨d2, o2 + i * 18, none⟩ (.agg us.toArray) (by kernel_rfl) rfl rfl (fun x hx => run_load_list x d2 (o2 + i * 18) 42 us _ (US.out x hx) Tryd.underlying42 rfl HSW) ?_; simp only [Act.put, List.setIfInBounds_toArray, List.set_cons_zero, List.set_cons_succ]
    refine calm_call (by kernel_rfl) D1.out (fun _ => by kernel_rfl) ?_; simp only [Act.put, List.setIfInBounds_toArray, List.set_cons_zero, List.set_cons_succ]
    iterate 5 (refine calm_value (by kernel_rfl) (fun x _ => by go_simp; try with_reducible rfl) ?_; simp only [Act.put, List.setIfInBounds_toArray, List.set_cons_zero, List.set_cons_succ])
    refine calm_cell 37 _ ⟨d3, o3 + i * 2, none⟩ (.agg #[.int .i64 mx, .int .i64 my]) (by kernel_rfl) rfl rfl (fun x hx => run_load_list x d3 (o3 + i * 2) 37 [.int .i64 mx, .int .i64 my] _ (PV.out x hx) Tryd.underlying37 rfl (by kernel_rfl)) ?_; simp only [Act.put, List.setIfInBounds_toArray, List.set_cons_zero, List.set_cons_succ]
    iterate 4 (refine calm_value (by kernel_rfl) (fun x _ => by go_simp; try with_reducible rfl) ?_; simp only [Act.put, List.setIfInBounds_toArray, List.set_cons_zero, List.set_cons_succ])
    refine calm_cell 37 _ ⟨d2, o2 + i * 18 + 4, none⟩ (.agg #[.int .i64 mx, .int .i64 my]) (by kernel_rfl) rfl rfl (fun x hx => run_load_list x d2 (o2 + i * 18 + 4) 37 [.int .i64 mx, .int .i64 my] _ (PU.out x hx) Tryd.underlying37 rfl (by kernel_rfl)) ?_; simp only [Act.put, List.setIfInBounds_toArray, List.set_cons_zero, List.set_cons_succ]
    iterate 6 (refine calm_value (by kernel_rfl) (fun x _ => by go_simp; try with_reducible rfl) ?_; simp only [Act.put, List.setIfInBounds_toArray, List.set_cons_zero, List.set_cons_succ])
    refine calm_cell 42 _ ⟨d1, o1 + i * 18, none⟩ (.agg vs.toArray) (by kernel_rfl) rfl rfl (fun x hx => run_load_list x d1 (o1 + i * 18) 42 vs _ (VS.out x hx) Tryd.underlying42 rfl HSV) ?_; simp only [Act.put, List.setIfInBounds_toArray, List.set_cons_zero, List.set_cons_succ]
    iterate 3 (refine calm_value (by kernel_rfl) (fun x _ => by go_simp; try with_reducible rfl) ?_; simp only [Act.put, List.setIfInBounds_toArray, List.set_cons_zero, List.set_cons_succ])
    refine calm_cell 42 _ ⟨d2, o2 + i * 18, none⟩ (.agg us.toArray) (by kernel_rfl) rfl rfl (fun x hx => run_load_list x d2 (o2 + i * 18) 42 us _ (US.out x hx) Tryd.underlying42 rfl HSW) ?_; simp only [Act.put, List.setIfInBounds_toArray, List.set_cons_zero, List.set_cons_succ]
    refine calm_call (by kernel_rfl) D2.out (fun _ => by kernel_rfl) ?_; simp only [Act.put, List.setIfInBounds_toArray, List.set_cons_zero, List.set_cons_succ]
    iterate 2 (refine calm_value (by kernel_rfl) (fun x _ => by go_simp; try with_reducible rfl) ?_; simp only [Act.put, List.setIfInBounds_toArray, List.set_cons_zero, List.set_cons_succ])
    refine calm_nil fun x hx => ?_
    go_wp2
    go_roundw
    case rel => exact ⟨i + 1, by omega, by go_num, hx⟩
    case measure => simp [RowKit.intOf]; omega
   ·obtain rfl : n = i := by omega
    have t0 : decide ((n : Int) < (n : Int)) = false := by simp
    have hxx := HZ.out _ hb
    have tR : (R == R) = true := by simp
    clear TH
    go_wp2
    refine wp_region_calm (S := fun x => Below (A + 2) wB x) 16 (by kernel_rfl) (by kernel_rfl) hxx.drew ?_
    simp only [List.take_succ_cons, List.take_zero, List.drop_succ_cons, List.drop_zero]
    refine calm_load 25 _ A 25 zs.toArray (0, 0) _ (by kernel_rfl) rfl rfl (fun x hx => HLA.out x hx) Tryd.underlying25 rfl HSZ ?_; simp only [Act.put, List.setIfInBounds_toArray, List.set_cons_zero, List.set_cons_succ]
    refine calm_load 25 _ (A + 1) 25 ys.toArray (0, 0) _ (by kernel_rfl) rfl rfl (fun x hx => HLB.out x hx) Tryd.underlying25 rfl HSY ?_; simp only [Act.put, List.setIfInBounds_toArray, List.set_cons_zero, List.set_cons_succ]
    refine calm_call (by kernel_rfl) cCS.out (fun _ => by kernel_rfl) ?_; simp only [Act.put, List.setIfInBounds_toArray, List.set_cons_zero, List.set_cons_succ]
    refine calm_load 25 _ A 25 zs.toArray (0, 0) _ (by kernel_rfl) rfl rfl (fun x hx => HLA.out x hx) Tryd.underlying25 rfl HSZ ?_; simp only [Act.put, List.setIfInBounds_toArray, List.set_cons_zero, List.set_cons_succ]
    refine calm_load 25 _ (A + 1) 25 ys.toArray (0, 0) _ (by kernel_rfl) rfl rfl (fun x hx => HLB.out x hx) Tryd.underlying25 rfl HSY ?_; simp only [Act.put, List.setIfInBounds_toArray, List.set_cons_zero, List.set_cons_succ]
    refine calm_call (by kernel_rfl) cCR.out (fun _ => by kernel_rfl) ?_; simp only [Act.put, List.setIfInBounds_toArray, List.set_cons_zero, List.set_cons_succ]
    refine calm_value (v := .bool true) (by kernel_rfl) (fun x hx => by go_simp; try with_reducible rfl) ?_; simp only [Act.put, List.setIfInBounds_toArray, List.set_cons_zero, List.set_cons_succ]
    refine calm_value (by kernel_rfl) (fun x _ => by go_simp; try with_reducible rfl) ?_; simp only [Act.put, List.setIfInBounds_toArray, List.set_cons_zero, List.set_cons_succ]
    iterate 2 (refine calm_load 25 _ A 25 zs.toArray (0, 0) _ (by kernel_rfl) rfl rfl (fun x hx => HLA.out x hx) Tryd.underlying25 rfl HSZ ?_; simp only [Act.put, List.setIfInBounds_toArray, List.set_cons_zero, List.set_cons_succ])
    refine calm_call (by kernel_rfl) cCT.out (fun _ => by kernel_rfl) ?_; simp only [Act.put, List.setIfInBounds_toArray, List.set_cons_zero, List.set_cons_succ]
    iterate 2 (refine calm_value (by kernel_rfl) (fun x _ => by go_simp; try with_reducible rfl) ?_; simp only [Act.put, List.setIfInBounds_toArray, List.set_cons_zero, List.set_cons_succ])
    refine calm_call (by kernel_rfl) CLV.out (fun _ => by kernel_rfl) ?_; simp only [Act.put, List.setIfInBounds_toArray, List.set_cons_zero, List.set_cons_succ]
    iterate 2 (refine calm_value (by kernel_rfl) (fun x _ => by go_simp; try with_reducible rfl) ?_; simp only [Act.put, List.setIfInBounds_toArray, List.set_cons_zero, List.set_cons_succ])
    refine calm_nil fun x hx => ?_
    have hE := HE.out _ hx
    go_wp2
    go_ret
    exact ⟨rfl, hE⟩
theorem soundSame_own : ownKnob Tryd.prog.godebug = none := by kernel_rfl
theorem soundSame_laid : laidOutB Tryd.prog = true := by kernel_rfl
theorem soundSame_reads : Tryd.f4.params.toList.all (fun t => Tryd.prog.readableRec t && decide (t < Tryd.prog.types.size)) = true := by kernel_rfl
set_option maxRecDepth 100000 in
theorem soundSame_lifted (os : Os) (started : os.Started) (H : Type) (enc : TypeId × Value → H) :
  ReturnsInHanded {} Tryd.checked os 4 .any (fun w args => (Rows.soundSameSpec.pre enc Tryd.prog Tryd.f4 Rows.soundSameRow.domain false w args ∧ laidMetH Tryd.prog Rows.soundSameRow.laid w) ∧ sizedMet enc Tryd.prog Tryd.f4 (OpenSpec.ofChange Rows.soundSameSpec) false w args)
   (Rows.soundSameSpec.post enc Tryd.prog Tryd.f4 false true false false) := by
 refine returnsInHanded_of_change_and (C := Tryd.checked) (X := fun w _ => laidMetH Tryd.prog Rows.soundSameRow.laid w) (fun _ _ _ hh h => h.of_heap hh) soundSame_own started (by kernel_rfl) Tryd.func4
  (ChangeSpec.witness_shaped (enc := enc) (C := Tryd.checked) (os := os) (X := fun w _ => laidMetH Tryd.prog Rows.soundSameRow.laid w) false (World.laidAll Tryd.prog os Rows.soundSameRow.laid) #[.agg (sheetL shdZ (.slice none 0 0) (.slice none 0 0) 0).toArray, .agg (sheetL shdZ (.slice none 0 0) (.slice none 0 0) 0).toArray] 8 (World.laidAll_os _ _ _)
   (World.shaped_of_ZipB (by kernel_rfl) (by kernel_rfl)) (by kernel_rfl) (by kernel_rfl) (by kernel_rfl)
   (by rw [MakeChecks.laidMetH_plain _ _ _ (by kernel_rfl)]; exact laidMet_laidAll _ (by kernel_rfl) (by kernel_rfl))) ?_
 intro W base args ds gs before hval0 hW _ hsz0 hL _
 have hval : ∀ (j : Nat) t v, Tryd.f4.params[j]? = some t → args[j]? = some v → Value.okWide Tryd.prog W .any base t v := hval0
 have hW' := hW
 obtain ⟨p, q, hA0, hV, rfl, hfz, hnd⟩ := hW
 have hA : DataW.TrodAll enc Tryd.prog W 0 (fun _ => true) true Tryd.f4.params.toList args.toList ds p := hA0
 rw [Tryd.params4] at hA hval
 obtain ⟨v0, vs0, d0, ds0, p0, q0, hargs, rfl, rfl, h0, r0⟩ := trodAll_cons hA
 obtain ⟨v1, vs1, d1, ds1, p1, q1, rfl, rfl, rfl, h1, r1⟩ := trodAll_cons r0
 obtain ⟨rfl, rfl, rfl⟩ := trodAll_nil r1
 obtain rfl : args = #[v0, v1] := by cases args; simp_all
 obtain ⟨rfl, rfl⟩ := trodVars_none hV
 obtain ⟨S0, vs0', rfl, x0⟩ := open_whole Tryd.underlying25 Tryd.underlying3 Tryd.underlying4 Tryd.underlying22 Tryd.underlying23 ⟨rfl, rfl, rfl, rfl, rfl, rfl, rfl, rfl⟩ ⟨rfl, rfl, rfl, rfl, rfl, rfl, rfl, rfl⟩ (by kernel_rfl) (by kernel_rfl) (by kernel_rfl) (by kernel_rfl) (by kernel_rfl) (by kernel_rfl) (row_row Tryd.underlying45 Tryd.underlying4 Tryd.underlying3 Tryd.underlying31 ⟨rfl, rfl, rfl, rfl⟩ ⟨rfl, rfl, rfl, rfl⟩ (by kernel_rfl) (by kernel_rfl) (by kernel_rfl) (by kernel_rfl) (cel_row Tryd.underlying42 Tryd.underlying4 Tryd.underlying3 Tryd.underlying37 Tryd.underlying38 Tryd.underlying40 Tryd.underlying39 ⟨rfl, rfl, rfl, rfl, rfl, rfl, rfl⟩ ⟨rfl, rfl, rfl, rfl, rfl, rfl, rfl⟩ (by kernel_rfl) (by kernel_rfl) (by kernel_rfl) (by kernel_rfl) (by kernel_rfl) (by kernel_rfl) (by kernel_rfl) (ev_struct Tryd.underlying55 Tryd.underlying4 Tryd.underlying3 rfl rfl rfl rfl rfl rfl (by kernel_rfl) (by kernel_rfl)))) (hval 0 25 v0 rfl rfl) h0
 obtain ⟨S1, vs1', rfl, x1⟩ := open_whole Tryd.underlying25 Tryd.underlying3 Tryd.underlying4 Tryd.underlying22 Tryd.underlying23 ⟨rfl, rfl, rfl, rfl, rfl, rfl, rfl, rfl⟩ ⟨rfl, rfl, rfl, rfl, rfl, rfl, rfl, rfl⟩ (by kernel_rfl) (by kernel_rfl) (by kernel_rfl) (by kernel_rfl) (by kernel_rfl) (by kernel_rfl) (row_row Tryd.underlying45 Tryd.underlying4 Tryd.underlying3 Tryd.underlying31 ⟨rfl, rfl, rfl, rfl⟩ ⟨rfl, rfl, rfl, rfl⟩ (by kernel_rfl) (by kernel_rfl) (by kernel_rfl) (by kernel_rfl) (cel_row Tryd.underlying42 Tryd.underlying4 Tryd.underlying3 Tryd.underlying37 Tryd.underlying38 Tryd.underlying40 Tryd.underlying39 ⟨rfl, rfl, rfl, rfl, rfl, rfl, rfl⟩ ⟨rfl, rfl, rfl, rfl, rfl, rfl, rfl⟩ (by kernel_rfl) (by kernel_rfl) (by kernel_rfl) (by kernel_rfl) (by kernel_rfl) (by kernel_rfl) (by kernel_rfl) (ev_struct Tryd.underlying55 Tryd.underlying4 Tryd.underlying3 rfl rfl rfl rfl rfl rfl (by kernel_rfl) (by kernel_rfl)))) (hval 1 25 v1 rfl rfl) h1
 clear hA0 hval0
 refine (soundSame_walk S0 vs0' S1 vs1' W x0 x1 (snd_laid hL ⟨by simp [Rows.soundSameRow], by kernel_rfl⟩)).mono fun e W' ⟨he, hb⟩ => ?_
 subst he
 exact ⟨_, rfl, law_end soundSame_laid soundSame_reads rfl Tryd.underlying4 rfl hW' rfl hb⟩
theorem soundSame_over : Rows.soundSameRow.holds Tryd.pinned (OpenSpec.ofChange Rows.soundSameSpec) :=
 OpenClaim.holds_of_wide 4 Tryd.f4 rfl rfl rfl rfl rfl rfl rfl ⟨rfl, rfl, rfl, rfl, rfl⟩ rfl rfl rfl rfl rfl (by kernel_rfl) Tryd.func4 (by kernel_rfl)
  (of_decide_eq_true (by kernel_rfl)) (by unfold Func.isWrapper; first | (rw [if_pos (by decide +kernel)]; kernel_rfl) | (rw [if_neg (by decide +kernel)]; exact ⟨rfl, rfl⟩))
  (fun os started H enc _ => soundSame_lifted os started H enc)
theorem soundSame_holds : Rows.SoundSameCardSaid :=
 Claim7.holds_tied_plain_at .later [] [.data, .data, .data, .data] true Rows.soundSameCard.stood.harness false soundSame_over (fun _ h => by cases h) (by kernel_rfl) (fun _ h => by cases h) soundSame_row_tie rfl ⟨rfl, rfl⟩ (by kernel_rfl) rfl
  (fun f fn hf hfn => by
   obtain rfl : f = 4 := Option.some.inj ((show Tryd.prog.funcNamed "overspill/overspilllaw25.SoundSame" = some 4 by kernel_rfl).symm.trans hf) |>.symm
   obtain rfl : fn = Tryd.f4 := (Option.some.inj (Tryd.func4.symm.trans hfn)).symm
   exact ⟨by kernel_rfl, fun j t ht => by
    rw [Tryd.params4] at ht
    have hm : t ∈ [25, 25] := by simpa using Array.mem_of_getElem? ht
    have hall : ([25, 25].all fun u => !Tryd.prog.wantsStandIn u) = true := by kernel_rfl
    exact (show Tryd.prog.wantsStandIn t = false by simpa using List.all_eq_true.1 hall t hm)⟩)
  (by kernel_rfl)
#print axioms soundSame_holds
end Go.Proofs.YthmmpjecmapajaaDoor
