/- The document's own answers of layer 15 (overspillref15). Conditions: slices of at most 2^47 events, rows of at most 2^20 digits. -/
import Derived.Test.YtologhgoojkpmaaDoorBk
import Derived.Test.YtologhgoojkpmaaDoorRlevr
import Derived.Test.YtologhgoojkpmaaDoorErow
import Derived.Test.YtologhgoojkpmaaDoorErtake
namespace Go.Proofs.YtologhgoojkpmaaDoor
open Go.RowKit Go.Lib

theorem bfrom_page (i : Bool) (w : World) : Calls Tryd.prog 27 #[.bool i] w fun e w' => e = .returned (.int .i64 (fromB i : Nat)) ∧ w = w' := by
  cases i
  all_goals
    go_enter Tryd.func27, Tryd.ntmps27
    go_wp2
    go_ret
    exact ⟨rfl, rfl⟩
set_option maxRecDepth 100000 in
set_option maxHeartbeats 1000000 in
theorem bmay_page (i : Bool) (d : Int) (p : Option Addr) (l : List Ev) (c : Nat) (w : World) (hp : EvsIn w p l) (hln : l.length ≤ 140737488355328) :
    Calls Tryd.prog 11 #[.bool i, .int .i64 d, .slice p l.length c] w fun e w' => e = .returned (.bool (mayB i d l)) ∧ Below w.heap.size w w' := by
  obtain ⟨B, hB⟩ : ∃ B, w.heap.size = B := ⟨_, rfl⟩
  have hfr := fun x => bfrom_page i x
  have hlv := levels_page p l c ((fromB i : Nat) : Int) w hp hln
  unfold LvGives at hlv
  have hor : ((lvG l ((fromB i : Nat) : Int)).2 = 0 ∧ badV (fromB i) l l.length = false) ∨ ((lvG l ((fromB i : Nat) : Int)).2 = 7 ∧ badV (fromB i) l l.length = true) := by
    cases hb : badV (fromB i) l l.length with
    | false => exact .inl ⟨lvG_ok hb, rfl⟩
    | true => exact .inr ⟨lvG_bad hb, rfl⟩
  have hmay : mayB i d l = (dcOk i d && !badV (fromB i) l l.length) := rfl
  rw [hmay]
  have HONE := arrA_one (lvG l ((fromB i : Nat) : Int)).1
  have HSZ : (Tryd.prog.info? 58).map (·.size) = some (arrA (lvG l ((fromB i : Nat) : Int)).1).size := arr_sized _
  obtain ⟨Y, hY⟩ : ∃ Y, arrA (fun _ => 0) = Y := ⟨_, rfl⟩
  have hzv : ∀ w, (zeroValue 58).run Tryd.prog w = .ok (.agg Y) w := by rw [← hY]; exact arr_zero
  have hYZ : Y.size = (arrA (lvG l ((fromB i : Nat) : Int)).1).size := by rw [← hY, arrA_size, arrA_size]
  generalize arrA (lvG l ((fromB i : Nat) : Int)).1 = Z at hlv HONE HSZ hYZ
  generalize (lvG l ((fromB i : Nat) : Int)).2 = f at hlv hor
  generalize badV (fromB i) l l.length = bv at hor ⊢
  generalize ((fromB i : Nat) : Int) = fr at hfr hlv
  have HB := Lib.hid hB
  generalize l.length = n at hlv ⊢
  obtain ⟨M, hM⟩ : ∃ M, (dcOk i d && !bv) = M := ⟨_, rfl⟩
  rw [hM]
  clear hp hY hB hln hmay
  go_enter Tryd.func11, Tryd.ntmps11
  go_wp2_with fail
  refine (hfr _).mono ?_
  rintro e w2 ⟨rfl, rfl⟩
  go_wp2_with fail
  refine hlv.mono ?_
  rintro e w2 ⟨rfl, hb2⟩
  rw [HB.out] at hb2
  have hz3 : B ≤ w2.heap.size := by rw [← HB.out]; exact (show Below w.heap.size w w2 by rw [HB.out]; exact hb2).size
  obtain ⟨X, hX⟩ : ∃ X, w2.heap.size = X := ⟨_, rfl⟩
  have hh4 := heap_alloc_new w2 (.cells Y 58 (0, 0))
  have hb4 := hb2.alloc hz3 (.cells Y 58 (0, 0))
  have hsz4 : (w2.alloc (.cells Y 58 (0, 0))).heap.size = X + 1 := by simp; omega
  rw [hX] at hh4
  generalize hw4 : w2.alloc (.cells Y 58 (0, 0)) = w4 at hh4 hb4 hsz4
  have HW4 := Lib.hid hw4
  have HX := Lib.hid hX
  have HXB := Lib.hid (show B ≤ X by omega)
  clear hw4 hX hb2 hz3 hlv hfr
  have FIN := Lib.hid (fun (r : Bool) (x : World) (hx : Below B w x) (h : M = r) => (⟨by rw [h], by rw [HB.out]; exact hx⟩ : Ending.returned (.bool r) = .returned (.bool M) ∧ Below w.heap.size w x))
  rcases hor with ⟨rfl, rfl⟩ | ⟨rfl, rfl⟩
  · cases i with
    | false =>
      obtain ⟨b0, h0⟩ : ∃ b0, (d == 0) = b0 := ⟨_, rfl⟩
      have R := Lib.hid (show M = b0 by rw [← hM, dcOk_false, h0]; simp)
      clear hM
      cases b0
      all_goals
        go_wp2_with (rw [HW4.out, HX.out]; with_reducible refine wp_store_arr rfl 58 _ _ rfl X Z Y rfl rfl 58 hh4 HSZ hYZ HONE ?_; intro w5 hh5 hg5; clear hzv)
        have hb6 := hb4.grown hg5 (by have := HXB.out; omega) (fun k hk => by injection hk with hk; have := HXB.out; omega)
        go_ret
        exact FIN.out _ _ hb6 R.out
    | true =>
      obtain ⟨b0, h0⟩ : ∃ b0, decide (1 ≤ d) = b0 := ⟨_, rfl⟩
      obtain ⟨b1, h1⟩ : ∃ b1, decide (d ≤ 254) = b1 := ⟨_, rfl⟩
      have R := Lib.hid (show M = (b0 && b1) by rw [← hM, dcOk_true, h0, h1]; simp)
      clear hM
      cases b0 <;> cases b1
      all_goals
        go_wp2_with (rw [HW4.out, HX.out]; with_reducible refine wp_store_arr rfl 58 _ _ rfl X Z Y rfl rfl 58 hh4 HSZ hYZ HONE ?_; intro w5 hh5 hg5; clear hzv)
        have hb6 := hb4.grown hg5 (by have := HXB.out; omega) (fun k hk => by injection hk with hk; have := HXB.out; omega)
        go_ret
        exact FIN.out _ _ hb6 R.out
  · have R := Lib.hid (show M = false by rw [← hM]; simp)
    clear hM
    cases i
    all_goals
      go_wp2_with (rw [HW4.out, HX.out]; with_reducible refine wp_store_arr rfl 58 _ _ rfl X Z Y rfl rfl 58 hh4 HSZ hYZ HONE ?_; intro w5 hh5 hg5; clear hzv)
      have hb6 := hb4.grown hg5 (by have := HXB.out; omega) (fun k hk => by injection hk with hk; have := HXB.out; omega)
      go_ret
      exact FIN.out _ _ hb6 R.out

/-! ### Row -/
def rowO (i : Bool) (d : Int) (l : List Ev) : ByteArray := ⟨(rowB i d l).toArray⟩
theorem rowO_size (i : Bool) (d : Int) (l : List Ev) : (rowO i d l).size ≤ 8 + 22 * l.length := by
  have := rowB_len i d l
  show (rowB i d l).toArray.size ≤ _
  simpa using this
theorem rowO_next (i : Bool) (d : Int) (l : List Ev) (x : Ev) : rowO i d l ++ rowE x = rowO i d (l ++ [x]) := by
  unfold rowO
  rw [show rowE x = ⟨(rowE x).data.toList.toArray⟩ by simp, bytes_append]
  unfold rowB
  rw [rowsB_snoc, List.append_assoc]
theorem rowE_size (x : Ev) : (rowE x).size ≤ 22 := rowE_len x
set_option maxRecDepth 100000 in
set_option maxHeartbeats 1000000 in
theorem brow_page (i : Bool) (d : Int) (p : Option Addr) (l : List Ev) (c : Nat) (w : World) (hp : EvsIn w p l) (hm : mayB i d l = true) :
    Calls Tryd.prog 13 #[.bool i, .int .i64 d, .slice p l.length c] w fun e w' => e = .returned (.string ⟨(rowB i d l).toArray⟩) ∧ Below w.heap.size w w' := by
  obtain ⟨hd, hbv⟩ := mayB_parts hm
  have hl64 := badV_len hbv
  have HP := Lib.hid (fun (x : World) (hx : Below w.heap.size w x) => (hp.below hx : EvsIn x p l))
  obtain ⟨n, hn⟩ : ∃ n, l.length = n := ⟨_, rfl⟩
  have HN := Lib.hid hn
  rw [hn] at hl64 ⊢
  have NXT := Lib.hid (fun (j : Nat) (h : j < l.length) => (by rw [List.take_succ_eq_append_getElem h, rowO_next] : rowO i d (l.take j) ++ rowE l[j] = rowO i d (l.take (j + 1))))
  have SZ := Lib.hid (fun (j : Nat) (h : j ≤ n) => (by have := rowO_size i d (l.take j); rw [List.length_take] at this; omega : (rowO i d (l.take j)).size ≤ 8 + 22 * j))
  have FIN := Lib.hid (show rowO i d (l.take n) = ⟨(rowB i d l).toArray⟩ by rw [← hn, List.take_length]; rfl)
  generalize (⟨(rowB i d l).toArray⟩ : ByteArray) = RB at FIN ⊢
  clear hbv hm hn hp
  have START : (i = false ∧ rowO i d (l.take 0) = ⟨#[]⟩) ∨ (i = true ∧ (d == 128) = true ∧ rowO i d (l.take 0) = ⟨(rowOf (255 : Int).toNat (8 : Int).toNat).toArray⟩) ∨ (i = true ∧ (d == 128) = false ∧ 1 ≤ d ∧ d ≤ 254 ∧ rowO i d (l.take 0) = ⟨(rowOf d.toNat (8 : Int).toNat).toArray⟩) := by
    cases i with
    | false => exact .inl ⟨rfl, rfl⟩
    | true =>
      have h0 : 1 ≤ d ∧ d ≤ 254 := by simpa [dcOk] using hd
      by_cases h128 : d = 128
      · subst h128
        exact .inr (.inl ⟨rfl, rfl, rfl⟩)
      · refine .inr (.inr ⟨rfl, by rw [beq_eq_false_iff_ne]; exact h128, h0.1, h0.2, ?_⟩)
        unfold rowO rowB dcB
        rw [if_pos rfl, if_neg h128, List.take_zero]
        simp [rowsB]
  clear hd
  obtain ⟨y0, hy0⟩ : ∃ y0, rowO i d (l.take 0) = y0 := ⟨_, rfl⟩
  have R0 := Lib.hid hy0
  rw [hy0] at START
  obtain ⟨R, hR⟩ : ∃ R : Nat → ByteArray, (fun j => rowO i d (l.take j)) = R := ⟨_, rfl⟩
  have eR : ∀ j, rowO i d (l.take j) = R j := fun j => by rw [← hR]
  have RZ : Hid (R 0 = y0) := Lib.hid (by rw [← eR]; exact R0.out)
  have NX := Lib.hid (fun (j : Nat) (h : j < l.length) => (by rw [← eR, ← eR]; exact NXT.out j h : R j ++ rowE l[j] = R (j + 1)))
  have SS := Lib.hid (fun (j : Nat) (h : j ≤ n) => (by rw [← eR]; exact SZ.out j h : (R j).size ≤ 8 + 22 * j))
  have FN := Lib.hid (show R n = RB by rw [← eR]; exact FIN.out)
  clear hy0 hR eR R0 NXT SZ FIN
  rcases START with ⟨rfl, rfl⟩ | ⟨rfl, h128, hrw⟩ | ⟨rfl, h128, h1, h2, hrw⟩
  case' inl =>
    go_enter Tryd.func13, Tryd.ntmps13
    go_wp2
  case' inr.inl =>
    have hrow := fun x => row_page 255 8 (by decide) (by decide) (by decide) (by decide) x
    rw [← hrw] at hrow
    clear hrw
    go_enter Tryd.func13, Tryd.ntmps13
    go_wp2_with fail
    refine (hrow _).mono ?_
    rintro e w1 ⟨rfl, rfl⟩
    go_wp2
  case' inr.inr =>
    have hrow := fun x => row_page d 8 (by omega) (by omega) (by decide) (by decide) x
    rw [← hrw] at hrow
    clear hrw
    go_enter Tryd.func13, Tryd.ntmps13
    go_wp2_with fail
    refine (hrow _).mono ?_
    rintro e w1 ⟨rfl, rfl⟩
    go_wp2
  all_goals
    go_loopw [7, 8] (fun v z wr => ∃ j : Nat, j ≤ n ∧ z = .int .i64 j ∧ v = .string (R j) ∧ Below w.heap.size w wr) (fun _ z _ => n - (RowKit.intOf z).toNat)
    case atStart => exact ⟨0, Nat.zero_le _, rfl, by rw [RZ.out], Below.refl _ _⟩
    case round =>
      obtain ⟨j, hj, rfl, rfl, hb⟩ := hrel
      by_cases hlt : j < n
      · have t0 : decide ((j : Int) < (n : Int)) = true := by simp; omega
        have t1 : decide (j < n) = true := by simpa using hlt
        have hjl : j < l.length := by rw [HN.out]; exact hlt
        obtain ⟨b, o, rfl, hbb, hc⟩ := (HP.out _ hb).at (by omega)
        obtain ⟨c0, c1, c2⟩ := hc j hjl
        have hnx := NX.out j hjl
        have hsz := SS.out j hj
        obtain ⟨⟨x0, x1, x2⟩, hxe⟩ : ∃ x, l[j] = x := ⟨_, rfl⟩
        rw [hxe] at c0 c1 c2 hnx
        simp only at c0 c1 c2
        have hsy := rowE_size (x0, x1, x2)
        rw [show rowE (x0, x1, x2) = eventAt x0 x1 x2 from rfl] at hnx hsy
        have hrow := fun x => errow_page x0 x1 x2 x
        generalize eventAt x0 x1 x2 = y at hrow hnx hsy
        obtain ⟨Y, hY⟩ : ∃ Y, R j = Y := ⟨_, rfl⟩
        rw [hY] at hnx hsz ⊢
        have N := Lib.hid hnx
        clear hc hbb hxe hnx hjl hY
        go_wp2_with fail
        refine (hrow _).mono ?_
        rintro e w2 ⟨rfl, hb2⟩
        have hb3 := hb.trans (hb2.mono hb.size)
        clear hrow c0 c1 c2 hb2
        go_wp2
        go_roundw
        case rel => exact ⟨j + 1, by omega, by go_num, by rw [N.out], hb3⟩
        case measure => simp [RowKit.intOf]; omega
      · obtain rfl : j = n := by omega
        have t0 : decide ((j : Int) < (j : Int)) = false := by simp
        have t1 : decide (j < j) = false := by simp
        rw [FN.out]
        go_wp2
        go_ret
        exact ⟨rfl, hb⟩

/-! ### Take -/
theorem results_tmp4B {fn : Func} {t u v x : Tmp} (h : fn.results = #[.tmp t, .tmp u, .tmp v, .tmp x]) (tmps : Array Value) (P : Program) (w : World) :
    (results fn tmps).run P w = .ok (.tuple #[tmps.getD t undef, tmps.getD u undef, tmps.getD v undef, tmps.getD x undef]) w := by
  simp [results, h]
def BRTake (S : List UInt8) (at_ : Nat) (i c : Bool) (w : World) (e : Ending) (w' : World) : Prop :=
  ∃ (d : Int) (L : List Ev) (f : Int) (t m : Nat) (q : Option Addr) (cap : Nat), btk S at_ i c = (d, L, t, f) ∧ e = .returned (.tuple #[.int .i64 d, .slice q m cap, .int .i64 (t : Int), .int .i64 f]) ∧ L.length = m ∧ EvsIn w' q L ∧ Below w.heap.size w w'
theorem brtake_none {S : List UInt8} {at_ : Nat} {i c : Bool} {w w' : World} {f : Int} (h : btk S at_ i c = (0, [], at_, f)) (hb : Below w.heap.size w w') : BRTake S at_ i c w (.returned (.tuple #[.int .i64 0, .slice none 0 0, .int .i64 (at_ : Int), .int .i64 f])) w' :=
  ⟨0, [], f, at_, 0, none, 0, h, rfl, rfl, .inl rfl, hb⟩
theorem brtake_all {S : List UInt8} {at_ t m cap : Nat} {i c : Bool} {w w' : World} {d : Int} {L : List Ev} {q : Option Addr} (h : btk S at_ i c = (d, L, t, 0)) (hm : L.length = m) (he : EvsIn w' q L) (hb : Below w.heap.size w w') : BRTake S at_ i c w (.returned (.tuple #[.int .i64 d, .slice q m cap, .int .i64 (t : Int), .int .i64 0])) w' :=
  ⟨d, L, 0, t, m, q, cap, h, rfl, hm, he, hb⟩
set_option maxRecDepth 100000 in
set_option maxHeartbeats 4000000 in
theorem brtake_page (s : ByteArray) (at_ : Nat) (i c : Bool) (w : World) (hs : s.size ≤ 1048576) (ha : at_ ≤ s.size) (hrow : isRow s.data.toList = true) :
    Calls Tryd.prog 19 #[.string s, .int .i64 (at_ : Int), .bool i, .bool c] w (BRTake s.data.toList at_ i c w) := by
  obtain ⟨i1, hj, kz0, kz1, kz2⟩ := info_parts info_ev
  obtain ⟨B, hB⟩ : ∃ B, w.heap.size = B := ⟨_, rfl⟩
  have HB := Lib.hid hB
  have hz0 : B ≤ w.heap.size := by omega
  have hfr := fun x => bfrom_page i x
  have hget := fun x (t : Nat) (ht : t ≤ s.size) => ertake_page s t x hs ht hrow
  unfold ERTake at hget
  have hbl : (s.data.toList.drop at_).length = s.size - at_ := by rw [List.length_drop]; rfl
  have hnum := fun (h : at_ + 8 ≤ s.size) => number_page (s.extract at_ (at_ + 8)) (by rw [ByteArray.size_extract]; omega) (by rw [cut_take]; exact isRow_take _ _ (isRow_drop _ _ hrow))
  rw [cut_take] at hnum
  have hsl : s.data.toList.length = s.size := rfl
  generalize s.data.toList = S at hget hbl hnum hsl hrow ⊢
  have START : (i = false ∧ dcT (S.drop at_) i = (0, 0, 0)) ∨ (i = true ∧ s.size < at_ + 8 ∧ dcT (S.drop at_) i = (0, 2, 0)) ∨ (i = true ∧ at_ + 8 ≤ s.size ∧ ∃ v : Nat, v < 256 ∧ num ((S.drop at_).take 8) = v ∧ (((v = 0 ∨ v = 128) ∧ dcT (S.drop at_) i = (0, 7, 0)) ∨ (v = 255 ∧ dcT (S.drop at_) i = (128, 0, 8)) ∨ (v ≠ 0 ∧ v ≠ 128 ∧ v ≠ 255 ∧ dcT (S.drop at_) i = ((v : Int), 0, 8)))) := by
    cases i with
    | false => exact .inl ⟨rfl, rfl⟩
    | true =>
      by_cases h8 : s.size < at_ + 8
      · exact .inr (.inl ⟨rfl, h8, dcT_short (by omega)⟩)
      · have hge : 8 ≤ (S.drop at_).length := by omega
        refine .inr (.inr ⟨rfl, by omega, num ((S.drop at_).take 8), ?_, rfl, ?_⟩)
        · exact num_lt (S.drop at_) (isRow_drop _ _ hrow) 8 hge
        · by_cases h0 : num ((S.drop at_).take 8) = 0 ∨ num ((S.drop at_).take 8) = 128
          · exact .inl ⟨h0, dcT_not hge h0⟩
          · by_cases h255 : num ((S.drop at_).take 8) = 255
            · exact .inr (.inl ⟨h255, dcT_mid hge h255⟩)
            · exact .inr (.inr ⟨fun h => h0 (.inl h), fun h => h0 (.inr h), h255, dcT_ok hge rfl (fun h => h0 (.inl h)) (fun h => h0 (.inr h)) h255⟩)
  obtain ⟨a, hfa⟩ : ∃ a, fromB i = a := ⟨_, rfl⟩
  have ha1 : a ≤ 1 := by rw [← hfa]; cases i <;> decide
  rw [hfa] at hfr
  have GET := Lib.hid hget
  have SL := Lib.hid hsl
  have FE := Lib.hid (fun (d : Int) (n : Nat) (f : Int) (L : List Ev) (e : Nat) (h : dcT (S.drop at_) i = (d, 0, n)) (hc : c = true) (he : eloop S (65 - a) [] (at_ + n) a = (L, f, e)) (hf : f ≠ 0) => (by subst hc; exact btk_ev h (by rw [hfa]; exact he) hf : btk S at_ i c = (0, [], at_, f)))
  have FB := Lib.hid (fun (d : Int) (n : Nat) (L : List Ev) (t : Nat) (h : dcT (S.drop at_) i = (d, 0, n)) (hc : (c = false ∧ L = [] ∧ t = at_ + n) ∨ (c = true ∧ eloop S (65 - a) [] (at_ + n) a = (L, 0, t))) => (by
    rcases hc with ⟨rfl, rfl, rfl⟩ | ⟨rfl, he⟩
    · exact btk_bare h
    · exact btk_all h (by rw [hfa]; exact he) : btk S at_ i c = (d, L, t, 0)))
  have FD := Lib.hid (fun (d f : Int) (n : Nat) (h : dcT (S.drop at_) i = (d, f, n)) (hf : f ≠ 0) => (btk_dc h hf : btk S at_ i c = (0, [], at_, f)))
  have BR := Lib.hid (fun (f : Int) (x : World) (h : btk S at_ i c = (0, [], at_, f)) (hb : Below B w x) => (brtake_none h (by rw [hB]; exact hb) : BRTake S at_ i c w (.returned (.tuple #[.int .i64 0, .slice none 0 0, .int .i64 (at_ : Int), .int .i64 f])) x))
  have BA := Lib.hid (fun (d : Int) (L : List Ev) (t m cap : Nat) (q : Option Addr) (x : World) (h : btk S at_ i c = (d, L, t, 0)) (hm : L.length = m) (he : EvsIn x q L) (hb : Below B w x) => (brtake_all h hm he (by rw [hB]; exact hb) : BRTake S at_ i c w (.returned (.tuple #[.int .i64 d, .slice q m cap, .int .i64 (t : Int), .int .i64 0])) x))
  have hb0 : Below B w w := Below.refl _ _
  obtain ⟨QQ, hQQ⟩ : ∃ QQ, BRTake S at_ i c w = QQ := ⟨_, rfl⟩
  rw [hQQ] at BR BA ⊢
  clear hget hfa hB hbl hrow hsl hQQ
  rcases START with ⟨rfl, h0⟩ | ⟨rfl, h8, h0⟩ | ⟨rfl, h8, v, hv, hnv, ⟨h7, h0⟩ | ⟨rfl, h0⟩ | ⟨n0, n128, n255, h0⟩⟩
  case inr.inl =>
    have F := Lib.hid (BR.out 2 w (FD.out _ _ _ h0 (by decide)) hb0)
    have t0 : decide ((s.size : Int) - (at_ : Int) < 8) = true := by simp; omega
    clear h0 h8 hnum
    go_enter Tryd.func19, Tryd.ntmps19
    go_wp2
    refine bodyPost_ret (results_tmp4B rfl _ _ _) rfl ?_
    exact F.out
  case inr.inr.inl =>
    have F := Lib.hid (BR.out 7 w (FD.out _ _ _ h0 (by decide)) hb0)
    have t0 : decide ((s.size : Int) - (at_ : Int) < 8) = false := by simp; omega
    have hnu := hnum h8
    rw [hnv] at hnu
    clear h0 hnum hnv hv
    rcases h7 with rfl | rfl
    all_goals
      go_enter Tryd.func19, Tryd.ntmps19
      go_wp2_with fail
      refine (hnu _).mono ?_
      rintro e w1 ⟨rfl, rfl⟩
      go_wp2
      refine bodyPost_ret (results_tmp4B rfl _ _ _) rfl ?_
      exact F.out
  case' inl =>
    obtain ⟨T, hT⟩ : ∃ T, at_ = T := ⟨_, rfl⟩
    have FBX := Lib.hid (fun L t => FB.out _ _ L t h0)
    have FEX := Lib.hid (fun f L e => FE.out _ _ f L e h0)
    rw [show at_ + 0 = T from hT] at FBX FEX
    have hTs : T ≤ s.size := by omega
    have TI := Lib.hid (show (at_ : Int) = (T : Int) by omega)
    clear hnum h0 hT
    go_enter Tryd.func19, Tryd.ntmps19
    go_wp2_with fail
    refine (hfr _).mono ?_
    rintro e w1 ⟨rfl, rfl⟩
    go_wp2
  case' inr.inr.inr.inl =>
    obtain ⟨T, hT⟩ : ∃ T, at_ + 8 = T := ⟨_, rfl⟩
    have FBX := Lib.hid (fun L t => FB.out _ _ L t h0)
    have FEX := Lib.hid (fun f L e => FE.out _ _ f L e h0)
    rw [hT] at FBX FEX
    have hTs : T ≤ s.size := by omega
    have TI := Lib.hid (show (at_ : Int) + 8 = (T : Int) by omega)
    have t0 : decide ((s.size : Int) - (at_ : Int) < 8) = false := by simp; omega
    have hnu := hnum h8
    rw [hnv] at hnu
    clear h0 hnum hnv hv hT
    go_enter Tryd.func19, Tryd.ntmps19
    go_wp2_with fail
    refine (hnu _).mono ?_
    rintro e w1 ⟨rfl, rfl⟩
    go_wp2_with fail
    refine (hfr _).mono ?_
    rintro e w1 ⟨rfl, rfl⟩
    go_wp2
  case' inr.inr.inr.inr =>
    obtain ⟨T, hT⟩ : ∃ T, at_ + 8 = T := ⟨_, rfl⟩
    have FBX := Lib.hid (fun L t => FB.out _ _ L t h0)
    have FEX := Lib.hid (fun f L e => FE.out _ _ f L e h0)
    rw [hT] at FBX FEX
    have hTs : T ≤ s.size := by omega
    have TI := Lib.hid (show (at_ : Int) + 8 = (T : Int) by omega)
    have t0 : decide ((s.size : Int) - (at_ : Int) < 8) = false := by simp; omega
    have g0 : ((v : Int) == 0) = false := by rw [beq_eq_false_iff_ne]; omega
    have g1 : ((v : Int) == 128) = false := by rw [beq_eq_false_iff_ne]; omega
    have g2 : ((v : Int) == 255) = false := by rw [beq_eq_false_iff_ne]; omega
    have hnu := hnum h8
    rw [hnv] at hnu
    clear h0 hnum hnv n0 n128 n255 hT
    go_enter Tryd.func19, Tryd.ntmps19
    go_wp2_with fail
    refine (hnu _).mono ?_
    rintro e w1 ⟨rfl, rfl⟩
    go_wp2_with fail
    refine (hfr _).mono ?_
    rintro e w1 ⟨rfl, rfl⟩
    go_wp2
  all_goals
    go_loopw [3, 13, 14, 15] (fun u3 u13 u14 u15 wr => ∃ (b : Bool) (acc : List Ev) (m t : Nat) (z : Int), u3 = .bool b ∧ u13 = .int .i64 (t : Int) ∧ u15 = .int .i64 z ∧ Hid (z + 1 = (m : Int)) ∧ -1 ≤ z ∧ z ≤ 63 ∧ t ≤ s.size ∧ acc.length ≤ m ∧ wr.ownsRow B 50 3 u14 acc.length (cellsV acc) ∧ Hid ((b = true → c = true ∧ EvR S a T acc m t) ∧ (b = false → (c = false ∧ acc = [] ∧ t = T) ∨ (c = true ∧ eloop S (65 - a) [] T a = (acc, 0, t)))) ∧ Below B w wr ∧ B ≤ wr.heap.size) (fun _ _ _ u15 _ => (64 - RowKit.intOf u15).toNat)
    case atStart => exact ⟨c, [], a, T, (a : Int) - 1, rfl, by rw [TI.out], rfl, Lib.hid (by omega), by omega, by omega, hTs, Nat.zero_le _, World.ownsRow_nil _ _ _ _, Lib.hid ⟨fun h => ⟨h, EvR.first _ _ _⟩, fun h => .inl ⟨h, rfl, rfl⟩⟩, hb0, hz0⟩
    case round =>
      clear hb0 hz0
      obtain ⟨b, acc, m, t, z, rfl, rfl, rfl, hzm, hz1, hz2, hts, hal, hown, hst, hb, hz⟩ := hrel
      have hm64 : m ≤ 64 := by have := hzm.out; omega
      obtain ⟨al, hal2⟩ : ∃ al, acc.length = al := ⟨_, rfl⟩
      have AL := Lib.hid hal2
      cases b with
      | false =>
        obtain ⟨q, cap, rfl, hev⟩ := owns_evs hown
        have F := Lib.hid (BA.out _ acc t al cap q wr (FBX.out acc t (hst.out.2 rfl)) hal2 hev hb)
        rw [hal2]
        clear hal2 hev hown hst hb hal
        go_wp2
        refine bodyPost_ret (results_tmp4B rfl _ _ _) rfl ?_
        exact F.out
      | true =>
        obtain ⟨hc, hst⟩ := hst.out.1 rfl
        obtain ⟨⟨l, r, v⟩, f, n, het⟩ : ∃ x f n, etk (S.drop t) = (x, f, n) := ⟨_, _, _, rfl⟩
        obtain ⟨hr63, hnl⟩ := etk_most het
        have hge := GET.out wr t hts
        rw [het] at hge
        simp only [evVal] at hge
        rw [hal2] at hown hal
        have HET := Lib.hid het
        have ST := Lib.hid hst
        have HC := Lib.hid hc
        have HB2 := Lib.hid (fun (x : World) (hx : Below wr.heap.size wr x) => (⟨hb.trans (hx.mono hz), Nat.le_trans hz hx.size, hown.kept (below_grownBy hx none) (Classical.em _)⟩ : Below B w x ∧ B ≤ x.heap.size ∧ x.ownsRow B 50 3 u14 al (cellsV acc)))
        have htn : t + n ≤ s.size := by rw [List.length_drop] at hnl; have := SL.out; omega
        obtain ⟨t2, ht2⟩ : ∃ t2, t + n = t2 := ⟨_, rfl⟩
        have HT2 := Lib.hid ht2
        rw [ht2] at hge htn
        clear het hnl hown hst hal2 hc ht2 hb hz
        go_wp2_with fail
        refine hge.mono ?_
        rintro e w1 ⟨rfl, hb1⟩
        obtain ⟨hb2, hz2', hown2⟩ := HB2.out _ hb1
        clear hb1 hge HB2
        by_cases hf : f = 0
        · have g0 : (f != 0) = false := by simpa using hf
          have het := HET.out
          rw [hf] at het
          have HET := Lib.hid het
          clear hf het
          obtain ⟨X, hX⟩ : ∃ X, w1.heap.size = X := ⟨_, rfl⟩
          obtain ⟨wx, hwx⟩ : ∃ wx, w1.alloc (.cells #[.bool l, .int .i64 (r : Int), .int .i64 v] 50 (0, 0)) = wx := ⟨_, rfl⟩
          have hzx : wx.heap.size = X + 1 := by rw [← hwx, ← hX]; simp
          have hhx : wx.heap[X]? = some (evObj l (r : Int) v) := by rw [← hwx, ← hX]; exact heap_alloc_new w1 _
          have hbx : Below B w wx := by rw [← hwx]; exact hb2.alloc hz2' _
          have hox : wx.ownsRow B 50 3 u14 al (cellsV acc) := by rw [← hwx]; exact hown2.alloc _
          have hoX : ∀ q, Value.ownBlock u14 = some q → B ≤ q ∧ q < X := fun q hq => by have := hown2.lt q hq; omega
          have HX := Lib.hid hX
          have HWX := Lib.hid hwx
          have HXB := Lib.hid (show B ≤ X by omega)
          have NEW := Lib.hid (fun (x : World) (o : Obj) (hx : (wx.alloc o).grownBy x (Value.ownBlock u14)) => (by
            have hb : Below B w x := (hbx.alloc (by have := HXB.out; omega) o).grown hx (by simp; have := HXB.out; omega) (fun q hq => (hoX q hq).1)
            have hbk : x.heap[X]? = some (evObj l (r : Int) v) := by
              rw [hx.block X (by simp; omega) (fun e => by have := (hoX X e.symm).2; omega)]
              exact heap_keep hhx
            have hsz : wx.heap.size + 1 ≤ x.heap.size := by have := hx.size; simpa using this
            exact ⟨hb, by have := HXB.out; omega, hbk⟩ : Below B w x ∧ B ≤ x.heap.size ∧ x.heap[X]? = some (evObj l (r : Int) v)))
          obtain ⟨c0, c1, c2, _, _, _⟩ := ev_cells hhx
          have hzB : B ≤ wx.heap.size := by omega
          by_cases h63 : 63 < m + r
          · have t3 : decide (63 < z + (r : Int) + 1) = true := by have := hzm.out; simp; omega
            have F := Lib.hid (BR.out 7 wx (FEX.out 7 _ _ HC.out (ST.out.far hm64 HET.out h63) (by decide)) hbx)
            clear h63 hwx hX hbx hhx hoX hb2 hown2 NEW hox
            go_wp2
            rw [HWX.out]
            refine bodyPost_ret (results_tmp4B rfl _ _ _) rfl ?_
            exact F.out
          · have t3 : decide (63 < z + (r : Int) + 1) = false := by have := hzm.out; simp; omega
            cases l with
            | true =>
              have EN := Lib.hid (ST.out.end hm64 HET.out (by omega))
              have HLEN := Lib.hid (show (acc ++ [(true, (r : Int), v)]).length = al + 1 by rw [List.length_append, AL.out]; rfl)
              have HCS := Lib.hid (cellsV_snoc acc (true, (r : Int), v))
              have HZ := Lib.hid (show z + (r : Int) + 1 + 1 = ((m + r + 1 : Nat) : Int) by have := hzm.out; omega)
              have hzr : z + (r : Int) + 1 ≤ 63 := by have := hzm.out; omega
              clear h63 hwx hX hbx hhx hoX hb2 hown2
              go_wp2_with (at_builtin; rw [HWX.out, HX.out, ← hzx]; refine wp_append_evA (y0 := true) (y1 := (r : Int)) (y2 := v) rfl rfl Tryd.underlying22 hj kz0 rfl kz1 kz2 rfl (hox.alloc _) rfl ?d1 ?d2 ?d3 ?d4 ?d5 ?_; (case d1 => go_cell); (case d2 => go_cell); (case d3 => go_cell); (case d4 => omega); (case d5 => (simp; omega)); intro v2 w2 ho3 hgrow hat; clear hat; obtain ⟨hb3, hz3, hh3⟩ := NEW.out _ _ hgrow; obtain ⟨e0, e1, e2, _, _, _⟩ := ev_cells hh3; clear hgrow)
              go_roundw
              case rel => exact ⟨false, acc ++ [(true, (r : Int), v)], m + r + 1, t2, z + (r : Int) + 1, rfl, rfl, rfl, HZ, by omega, hzr, htn, by rw [HLEN.out]; omega, by rw [HLEN.out, HCS.out]; exact ho3, Lib.hid ⟨fun h => (by cases h), fun _ => .inr ⟨HC.out, by rw [EN.out, HT2.out]⟩⟩, hb3, hz3⟩
              case measure => simp [RowKit.intOf]; omega
            | false =>
              have N := Lib.hid (ST.out.on hm64 HET.out (by omega))
              have HLEN := Lib.hid (show (acc ++ [(false, (r : Int), v)]).length = al + 1 by rw [List.length_append, AL.out]; rfl)
              have HCS := Lib.hid (cellsV_snoc acc (false, (r : Int), v))
              have HZ := Lib.hid (show z + (r : Int) + 1 + 1 = ((m + r + 1 : Nat) : Int) by have := hzm.out; omega)
              have hzr : z + (r : Int) + 1 ≤ 63 := by have := hzm.out; omega
              clear h63 hwx hX hbx hhx hoX hb2 hown2
              go_wp2_with (at_builtin; rw [HWX.out, HX.out, ← hzx]; refine wp_append_evA (y0 := false) (y1 := (r : Int)) (y2 := v) rfl rfl Tryd.underlying22 hj kz0 rfl kz1 kz2 rfl (hox.alloc _) rfl ?d1 ?d2 ?d3 ?d4 ?d5 ?_; (case d1 => go_cell); (case d2 => go_cell); (case d3 => go_cell); (case d4 => omega); (case d5 => (simp; omega)); intro v2 w2 ho3 hgrow hat; clear hat; obtain ⟨hb3, hz3, hh3⟩ := NEW.out _ _ hgrow; obtain ⟨e0, e1, e2, _, _, _⟩ := ev_cells hh3; clear hgrow)
              go_roundw
              case rel => exact ⟨true, acc ++ [(false, (r : Int), v)], m + r + 1, t2, z + (r : Int) + 1, rfl, rfl, rfl, HZ, by omega, hzr, htn, by rw [HLEN.out]; omega, by rw [HLEN.out, HCS.out]; exact ho3, Lib.hid ⟨fun _ => ⟨HC.out, by rw [← HT2.out]; exact N.out⟩, fun h => by cases h⟩, hb3, hz3⟩
              case measure => simp [RowKit.intOf]; omega
        · have g0 : (f != 0) = true := by simpa using hf
          have F := Lib.hid (fun (x : World) (hx : Below B w x) => BR.out f x (FEX.out f _ _ HC.out (ST.out.err hm64 HET.out hf) hf) hx)
          have hbx := hb2.alloc hz2' (.cells #[.bool l, .int .i64 (r : Int), .int .i64 v] 50 (0, 0))
          have HBX := Lib.hid hbx
          clear hf hbx hb2 hown2
          go_wp2
          refine bodyPost_ret (results_tmp4B rfl _ _ _) rfl ?_
          exact F.out _ HBX.out
end Go.Proofs.YtologhgoojkpmaaDoor
