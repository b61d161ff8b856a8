/- The document's own answers for layer 5 (overspillref05), and what the laws of layer 5 call beside them. Conditions: texts of an int's length; up to 300 codes. -/
import Derived.Test.YtmjpldoanfefgaaDoorSlots
import Derived.Test.YtmjpldoanfefgaaDoorRef2
import Derived.BigQuiet
import Derived.Deep.QuietTactic
import Derived.IntWalk
namespace Go.Proofs.YtmjpldoanfefgaaDoor
open Go.RowKit

def smallB (l : List (ByteArray × Int)) : Bool := (l.take 300).all (fun x => decide (x.1.size ≤ 60)) && decide (l.length ≤ 300)
set_option maxRecDepth 100000 in
set_option maxHeartbeats 1000000 in
theorem small_page (l : List (ByteArray × Int)) (p : Option Addr) (cap : Nat) (w : World) (hc : Cds w p l) (hm : l.length ≤ maxLen) :
    Calls Tryd.prog 7 #[.slice p l.length cap] w fun e w' => e = .returned (.bool (smallB l)) ∧ w = w' := by
  unfold maxLen at hm
  obtain ⟨n, hn⟩ : ∃ n, min l.length 300 = n := ⟨_, rfl⟩
  have hn1 : n ≤ l.length := by omega
  have hn3 : n ≤ 300 := by omega
  have HN := Lib.hid hn
  clear hn
  go_enter Tryd.func7, Tryd.ntmps7
  go_wp2
  go_loop [3] (fun i => ∃ j : Nat, j ≤ n ∧ i = .int .i64 j ∧ Hid ((l.take j).all (fun x => decide (x.1.size ≤ 60)) = true)) (fun i => n - (intOf i).toNat)
  case atStart => exact ⟨0, Nat.zero_le _, rfl, Lib.hid rfl⟩
  case round =>
    obtain ⟨j, hj, rfl, hr⟩ := hrel
    by_cases hlt : j < n
    · obtain ⟨b, o, rfl, _, hcells⟩ := hc.at (by omega)
      have c0 := (hcells j (by omega)).1
      have hst := all_snoc (fun x : ByteArray × Int => decide (x.1.size ≤ 60)) l j (by omega)
      have ST := Lib.hid hst
      have t0 : decide ((j : Int) < l.length) = true := by simp; omega
      have t1 : decide ((j : Int) < 300) = true := by simp; omega
      clear hcells hst
      obtain ⟨x, hx⟩ : ∃ x, l[j] = x := ⟨_, rfl⟩
      rw [hx] at c0
      have HX := Lib.hid hx
      clear hx
      by_cases h60 : 60 < x.1.size
      · have hf : smallB l = false := by
          unfold smallB
          rw [Bool.and_eq_false_iff]
          left
          rw [List.all_eq_false]
          refine ⟨x, ?_, by simp; omega⟩
          rw [← HX.out]
          exact List.mem_iff_getElem.2 ⟨j, by rw [List.length_take]; omega, by rw [List.getElem_take]⟩
        have F := Lib.hid hf
        clear hf
        go_wp2
        go_ret
        exact ⟨ret_bool F.out.symm, rfl⟩
      · have hall : Hid ((l.take (j + 1)).all (fun x => decide (x.1.size ≤ 60)) = true) := Lib.hid (by rw [ST.out, hr.out, Bool.true_and, HX.out]; simp; omega)
        go_wp2
        go_round
        case rel => exact ⟨j + 1, by omega, by go_num, hall⟩
        case measure => simp [intOf]; omega
    · obtain rfl : j = n := by omega
      by_cases h3 : l.length ≤ 300
      · have e : j = l.length := by rw [← HN.out]; omega
        subst e
        have hf : smallB l = true := by
          unfold smallB
          rw [List.take_of_length_le h3, Bool.and_eq_true]
          refine ⟨?_, by simpa using h3⟩
          have := hr.out
          rwa [List.take_length] at this
        have F := Lib.hid hf
        have t2 : decide ((l.length : Int) ≤ 300) = true := by simp; omega
        clear hf
        go_wp2
        go_ret
        exact ⟨ret_bool F.out.symm, rfl⟩
      · have e : j = 300 := by rw [← HN.out]; omega
        subst e
        have hf : smallB l = false := by
          unfold smallB
          rw [Bool.and_eq_false_iff]
          right
          simpa using h3
        have F := Lib.hid hf
        have t2 : decide ((l.length : Int) ≤ 300) = false := by simp; omega
        have t0 : decide (300 < (l.length : Int)) = true := by simp; omega
        clear hf
        go_wp2
        go_ret
        exact ⟨ret_bool F.out.symm, rfl⟩

theorem ba_eq {a b : ByteArray} : a = b ↔ a.data.toList = b.data.toList := by
  constructor
  · rintro rfl; rfl
  · intro h
    obtain ⟨⟨l⟩⟩ := a
    obtain ⟨⟨m⟩⟩ := b
    cases h; rfl
theorem cut_pre (s p : ByteArray) : ((s.extract 0 p.size).toList == p.toList) = p.data.toList.isPrefixOf s.data.toList := by
  rw [Bool.eq_iff_iff, beq_iff_eq, Lib.toList_data, Lib.toList_data, pre_take]
  rw [Lib.extract_data]
  rfl
set_option maxRecDepth 100000 in
set_option maxHeartbeats 1000000 in
theorem begins_page (s p : ByteArray) (w : World) :
    Calls Tryd.prog 23 #[.string s, .string p] w fun e w' => e = .returned (.bool (p.data.toList.isPrefixOf s.data.toList)) ∧ w = w' := by
  have e1 : s.data.toList.length = s.size := rfl
  have e2 : p.data.toList.length = p.size := rfl
  have E1 := Lib.hid e1
  have E2 := Lib.hid e2
  clear e1 e2
  by_cases h : p.size ≤ s.size
  · have HC := Lib.hid (cut_pre s p)
    have t0 : decide (p.size ≤ s.size) = true := by simp; omega
    go_enter Tryd.func23, Tryd.ntmps23
    go_wp2
    go_ret
    exact ⟨ret_bool (by rw [HC.out]), rfl⟩
  · have hf : p.data.toList.isPrefixOf s.data.toList = false := by
      cases hh : p.data.toList.isPrefixOf s.data.toList with
      | false => rfl
      | true =>
        have := pre_length hh
        rw [E1.out, E2.out] at this
        exact absurd this h
    have F := Lib.hid hf
    have t0 : decide (p.size ≤ s.size) = false := by simp; omega
    clear hf h
    go_enter Tryd.func23, Tryd.ntmps23
    go_wp2
    go_ret
    exact ⟨ret_bool F.out.symm, rfl⟩
theorem begins_same (s p : ByteArray) (r : Bool) (hr : p.data.toList.isPrefixOf s.data.toList = r) (w : World) :
    Calls Tryd.prog 23 #[.string s, .string p] w fun e w' => e = .returned (.bool r) ∧ w' = w :=
  (begins_page s p w).mono fun _ _ ⟨h1, h2⟩ => ⟨by rw [h1, hr], h2.symm⟩

/-- May rows be a table's? -/
def rightP (l : List ByteArray) : Prop := 1 ≤ l.length ∧ l.length ≤ 256 ∧ (∀ x ∈ l, okRow x.data.toList = true) ∧ free (l.map fun x => x.data.toList)
theorem right_free {l : List ByteArray} : free (l.map fun x => x.data.toList) ↔ ∀ i j, (hi : i < l.length) → (hj : j < l.length) → i ≠ j → (l[i].data.toList.isPrefixOf l[j].data.toList) = false := by
  rw [free_get]
  constructor
  · intro h i j hi hj hne
    have := h i j (by simpa using hi) (by simpa using hj) hne
    simpa using this
  · intro h i j hi hj hne
    have := h i j (by simpa using hi) (by simpa using hj) hne
    simpa using this
set_option maxRecDepth 100000 in
set_option maxHeartbeats 4000000 in
theorem right_page (l : List ByteArray) (p : Option Addr) (cap : Nat) (w : World) (r : Bool) (hr : r = true ↔ rightP l) (hc : Strs w p l) (hm : l.length ≤ 300) (hs : ∀ x ∈ l, x.size ≤ maxLen) :
    Calls Tryd.prog 10 #[.slice p l.length cap] w fun e w' => e = .returned (.bool r) ∧ Below w.heap.size w w' := by
  have R := Lib.hid hr
  have S := Lib.hid hs
  clear hr hs
  by_cases h0 : l.length = 0
  · have F := Lib.hid (show r = false by
      cases r with
      | false => rfl
      | true => have := (R.out.1 rfl).1; omega)
    have t0 : ((l.length : Int) == 0) = true := by rw [beq_iff_eq]; omega
    clear h0
    go_enter Tryd.func10, Tryd.ntmps10
    go_wp2
    go_ret
    exact ⟨ret_bool F.out.symm, Below.refl _ _⟩
  by_cases h1 : 256 < l.length
  · have F := Lib.hid (show r = false by
      cases r with
      | false => rfl
      | true => have := (R.out.1 rfl).2.1; omega)
    have t0 : ((l.length : Int) == 0) = false := by rw [beq_eq_false_iff_ne]; omega
    have t1 : decide (256 < (l.length : Int)) = true := by simp; omega
    clear h0
    go_enter Tryd.func10, Tryd.ntmps10
    go_wp2
    go_ret
    exact ⟨ret_bool F.out.symm, Below.refl _ _⟩
  obtain ⟨b, o, rfl, hblt, hcells⟩ := hc.at (by omega)
  have hE : ∀ x, Below w.heap.size w x → ∀ i, (h : i < l.length) → x.cell? ⟨b, o + i, none⟩ = some (.string l[i]) := fun x hx i hi => (World.cell?_of_block (a := ⟨b, o + i, none⟩) (hx.block b hblt)).trans (hcells i hi)
  have EE := Lib.hid hE
  obtain ⟨B, hB⟩ : ∃ B, w.heap.size = B := ⟨_, rfl⟩
  have hb0 : Below B w w := Below.refl _ _
  rw [hB] at EE ⊢
  clear hE hcells hblt hc
  have t0 : ((l.length : Int) == 0) = false := by rw [beq_eq_false_iff_ne]; omega
  have t1 : decide (256 < (l.length : Int)) = false := by simp; omega
  have hm2 : l.length ≤ 256 := by omega
  have h02 : 1 ≤ l.length := by omega
  clear h0 h1
  have HB := Lib.hid hB
  clear hB
  go_enter Tryd.func10, Tryd.ntmps10
  go_wp2
  go_loopw [3] (fun i wr => ∃ j : Nat, j ≤ l.length ∧ i = .int .i64 j ∧ Below B w wr ∧ Hid (∀ a, (ha : a < l.length) → a < j → okRow l[a].data.toList = true ∧ ∀ k, (hk : k < l.length) → k ≠ a → (l[k].data.toList.isPrefixOf l[a].data.toList) = false)) (fun i _ => l.length - (intOf i).toNat)
  case atStart => exact ⟨0, Nat.zero_le _, rfl, hb0, Lib.hid (fun a _ h => absurd h (Nat.not_lt_zero a))⟩
  case round =>
    clear hb0
    obtain ⟨j, hj, rfl, hb, hin⟩ := hrel
    by_cases hlt : j < l.length
    · have ci := EE.out wr hb j hlt
      obtain ⟨x, hx⟩ : ∃ x, l[j] = x := ⟨_, rfl⟩
      rw [hx] at ci
      have HX := Lib.hid hx
      clear hx
      have xs : x.size ≤ maxLen := S.out x (by rw [← HX.out]; exact List.getElem_mem hlt)
      have xl : x.data.toList.length = x.size := rfl
      have no : ¬ okRow x.data.toList = true → r = false := by
        intro h
        cases hrr : r with
        | false => rfl
        | true => exact absurd ((R.out.1 hrr).2.2.1 x (by rw [← HX.out]; exact List.getElem_mem hlt)) h
      have NO := Lib.hid no
      clear no
      by_cases x0 : x.data.toList = []
      · have F := Lib.hid (NO.out (fun h => (okRow_inv h).1 x0))
        have e0 : x.toList.isEmpty = true := by rw [Lib.toList_data, x0]; rfl
        have e1 : x.toList = [] := by rw [Lib.toList_data, x0]
        clear x0 xl
        go_wp2
        go_ret
        exact ⟨ret_bool F.out.symm, hb⟩
      have e0 : x.toList.isEmpty = false := by rw [Lib.toList_data]; simpa using x0
      by_cases x1 : 24 < x.size
      · have F := Lib.hid (NO.out (fun h => by have := (okRow_inv h).2.1; omega))
        have e1 : decide (24 < (x.size : Int)) = true := by simp; omega
        clear x0 xl x1
        go_wp2
        go_ret
        exact ⟨ret_bool F.out.symm, hb⟩
      have e1 : decide (24 < (x.size : Int)) = false := by simp; omega
      cases x2 : isRow x.data.toList with
      | false =>
        have F := Lib.hid (NO.out (fun h => by have := (okRow_inv h).2.2; rw [x2] at this; cases this))
        have X2 := Lib.hid x2
        clear x0 xl x1 x2
        go_wp2_with fail
        refine (plain_page x xs _).mono ?_
        rintro e w1 ⟨rfl, rfl⟩
        rw [X2.out]
        go_wp2
        go_ret
        exact ⟨ret_bool F.out.symm, hb⟩
      | true =>
        have OK := Lib.hid (okRow_parts x0 (by omega) x2)
        have X2 := Lib.hid x2
        clear x0 xl x1 x2
        go_wp2_with fail
        refine (plain_page x xs _).mono ?_
        rintro e w1 ⟨rfl, rfl⟩
        rw [X2.out]
        go_wp2
        obtain ⟨wo, rfl⟩ : ∃ wo : World, wo = wr := ⟨_, rfl⟩
        go_loopw [4] (fun i wr => ∃ k : Nat, k ≤ l.length ∧ i = .int .i64 k ∧ Below B w wr ∧ Hid (∀ c, (hc : c < l.length) → c < k → c ≠ j → (l[c].data.toList.isPrefixOf x.data.toList) = false)) (fun i _ => l.length - (intOf i).toNat)
        case atStart => exact ⟨0, Nat.zero_le _, rfl, hb, Lib.hid (fun c _ h => absurd h (Nat.not_lt_zero c))⟩
        case round =>
          clear hb ci
          obtain ⟨k, hk, rfl, hb, hin2⟩ := hrel
          have ci := EE.out wr hb j hlt
          rw [HX.out] at ci
          by_cases hlt2 : k < l.length
          · by_cases hkj : k = j
            · subst hkj
              have g0 : ((k : Int) != (k : Int)) = false := by simp
              go_wp2_with fail
              go_quiet (fail)
              go_wp2
              go_roundw
              case rel => exact ⟨k + 1, by omega, by go_num, below_drewN hb _, Lib.hid (fun c hc h hne => hin2.out c hc (by omega) hne)⟩
              case measure => simp [intOf]; omega
            · have g0 : ((k : Int) != (j : Int)) = true := by rw [bne_iff_ne]; omega
              have ck := EE.out wr hb k hlt2
              obtain ⟨y, hy⟩ : ∃ y, l[k] = y := ⟨_, rfl⟩
              rw [hy] at ck
              have HY := Lib.hid hy
              have hkj' : k ≠ j := hkj
              have KJ := Lib.hid hkj'
              clear hy hkj hkj'
              cases hpre : y.data.toList.isPrefixOf x.data.toList with
              | true =>
                have F := Lib.hid (show r = false by
                  cases hrr : r with
                  | false => rfl
                  | true =>
                    have := right_free.1 (R.out.1 hrr).2.2.2 k j hlt2 hlt KJ.out
                    rw [HX.out, HY.out, hpre] at this
                    cases this)
                have PR := Lib.hid hpre
                clear hpre
                go_wp2_with fail
                go_quiet ((go_at_call 23; exact Calls.quiet_of_same (begins_same _ _ _ PR.out _)))
                go_wp2
                go_ret
                exact ⟨ret_bool F.out.symm, below_drewN hb _⟩
              | false =>
                have PR := Lib.hid hpre
                clear hpre
                go_wp2_with fail
                go_quiet ((go_at_call 23; exact Calls.quiet_of_same (begins_same _ _ _ PR.out _)))
                go_wp2
                go_roundw
                case rel =>
                  refine ⟨k + 1, by omega, by go_num, below_drewN hb _, Lib.hid (fun c hc h hne => ?_)⟩
                  by_cases e : c = k
                  · subst e
                    rw [HY.out]
                    exact PR.out
                  · exact hin2.out c hc (by omega) hne
                case measure => simp [intOf]; omega
          · obtain rfl : k = l.length := by omega
            go_wp2
            go_roundw
            case rel =>
              refine ⟨j + 1, by omega, by go_num, hb, Lib.hid (fun a ha h => ?_)⟩
              by_cases e : a = j
              · subst e
                rw [HX.out]
                exact ⟨OK.out, fun c hc hne => hin2.out c hc hc hne⟩
              · exact hin.out a ha (by omega)
            case measure => simp [intOf]; omega
    · obtain rfl : j = l.length := by omega
      have F := Lib.hid (show r = true from R.out.2 ⟨h02, hm2, fun x hx => by
        obtain ⟨i, hi, rfl⟩ := List.getElem_of_mem hx
        exact (hin.out i hi hi).1, right_free.2 fun a c ha hc hne => (hin.out c hc hc).2 a ha hne⟩)
      go_wp2
      go_ret
      exact ⟨ret_bool F.out.symm, hb⟩

theorem code_take (l : List (ByteArray × Int)) (j : Nat) (h : j < l.length) : codeCells (l.take (j + 1)) = codeCells (l.take j) ++ [.string l[j].1, .int .i64 l[j].2] := by
  rw [List.take_succ_eq_append_getElem h, codeCells_snoc]
theorem str_take (l : List (ByteArray × Int)) (j : Nat) (h : j < l.length) : strCells ((l.take (j + 1)).map (·.1)) = strCells ((l.take j).map (·.1)) ++ [.string l[j].1] := by
  rw [List.take_succ_eq_append_getElem h, List.map_append, List.map_singleton, strCells_snoc]
/-- What 'of' gives. -/
def OfGives (l : List (ByteArray × Int)) (w : World) (e : Ending) (w' : World) : Prop :=
  ∃ q cq r cr, e = .returned (.tuple #[.slice q l.length cq, .slice r l.length cr]) ∧ Cds w' q l ∧ Strs w' r (l.map (·.1)) ∧ Below w.heap.size w w'
set_option maxRecDepth 100000 in
set_option maxHeartbeats 4000000 in
theorem of_page (l : List (ByteArray × Int)) (p : Option Addr) (cap : Nat) (w : World) (hc : Cds w p l) (hm : l.length ≤ 300) :
    Calls Tryd.prog 9 #[.slice p l.length cap] w (OfGives l w) := by
  obtain ⟨i0, hi, iz0, iz1, iz2⟩ := info_parts info_code
  obtain ⟨i1, hj, jz0, jz1, jz2⟩ := info_parts info_str
  obtain ⟨B, hB⟩ : ∃ B, w.heap.size = B := ⟨_, rfl⟩
  have hb0 : Below B w w := Below.refl _ _
  have hBz : B ≤ w.heap.size := by omega
  have HB := Lib.hid hB
  clear hB
  go_enter Tryd.func9, Tryd.ntmps9
  go_wp2
  go_loopw [4, 5, 6] (fun v u i wr => ∃ j : Nat, j ≤ l.length ∧ i = .int .i64 j ∧ wr.ownsRow B 55 2 v j (codeCells (l.take j)) ∧ wr.ownsRow B 9 1 u j (strCells ((l.take j).map (·.1))) ∧ Below B w wr ∧ B ≤ wr.heap.size) (fun _ _ i _ => l.length - (intOf i).toNat)
  case atStart => exact ⟨0, Nat.zero_le _, rfl, World.ownsRow_nil _ _ _ _, World.ownsRow_nil _ _ _ _, hb0, hBz⟩
  case round =>
    clear hb0 hBz
    obtain ⟨j, hjl, rfl, hv, hu, hb, hz⟩ := hrel
    by_cases hlt : j < l.length
    · obtain ⟨b, o, rfl, hblt, hcells⟩ := hc.at (by omega)
      obtain ⟨c0, c1⟩ := hcells j hlt
      rw [HB.out] at hblt
      have hE : ∀ x, Below B w x → x.cell? ⟨b, o + j * 2, none⟩ = some (.string l[j].1) ∧ x.cell? ⟨b, o + j * 2 + 1, none⟩ = some (.int .i64 l[j].2) := fun x hx =>
        ⟨(World.cell?_of_block (a := ⟨b, o + j * 2, none⟩) (hx.block b hblt)).trans c0, (World.cell?_of_block (a := ⟨b, o + j * 2 + 1, none⟩) (hx.block b hblt)).trans c1⟩
      have T1 := Lib.hid (code_take l j hlt)
      have T2 := Lib.hid (str_take l j hlt)
      obtain ⟨y, hy⟩ : ∃ y, l[j] = y := ⟨_, rfl⟩
      rw [hy] at hE T1 T2
      have EE := Lib.hid hE
      clear hE c0 c1 hcells hc hy
      obtain ⟨e0, e1⟩ := EE.out wr hb
      go_wp2_with fail
      have hl1 : (loadVar 9 ⟨b, o + j * 2, none⟩).run Tryd.prog wr.drew = .ok (.string y.1) wr.drew := by go_simp
      have hl2 : (loadVar 3 ⟨b, o + j * 2 + 1, none⟩).run Tryd.prog wr.drew = .ok (.int .i64 y.2) wr.drew := by go_simp
      have HL1 := Lib.hid hl1
      have HL2 := Lib.hid hl2
      clear hl1 hl2
      refine wp_region_any (by kernel_rfl) ?_
      change wpAny _ _ _ _ _ _ _ (World.drew _)
      refine any_take 0 (some 13) (v := ?_) rfl rfl (by kernel_rfl) (by kernel_rfl) (by kernel_rfl) (fun _ _ _ h => h) (Or.inl ⟨by rfl, ?_⟩) ?_
      rotate_left
      · (intro w; go_simp; try with_reducible rfl)
      rotate_right
      refine any_take 1 (some 14) (v := ?_) rfl rfl (by kernel_rfl) (by kernel_rfl) (by kernel_rfl) (fun _ _ _ h => h) (Or.inl ⟨by rfl, ?_⟩) ?_
      rotate_left
      · (intro w; go_simp; try with_reducible rfl)
      rotate_right
      refine any_take 2 (some 15) (v := ?_) rfl rfl (by kernel_rfl) (by kernel_rfl) (by kernel_rfl) (fun _ _ _ h => h) (Or.inl ⟨by rfl, ?_⟩) ?_
      rotate_left
      · (intro w; go_simp; try with_reducible rfl)
      rotate_right
      refine any_take 3 (some 16) (v := ?_) rfl rfl (by kernel_rfl) (by kernel_rfl) (by kernel_rfl) (fun _ _ _ h => h) (Or.inl ⟨by rfl, ?_⟩) ?_
      rotate_left
      · (intro w; go_simp; try with_reducible rfl)
      rotate_right
      refine any_take 4 (some 17) (v := ?_) rfl rfl (by kernel_rfl) (by kernel_rfl) (by kernel_rfl) (fun _ _ _ h => h) (Or.inl ⟨by rfl, ?_⟩) ?_
      rotate_left
      · (intro w; go_simp; try with_reducible rfl)
      rotate_right
      refine any_take 6 (some 19) (v := ?_) rfl rfl (by kernel_rfl) (by kernel_rfl) (by kernel_rfl) (fun _ _ _ h => h) (Or.inl ⟨by rfl, ?_⟩) ?_
      rotate_left
      · (intro w; go_simp; try with_reducible rfl)
      rotate_right
      refine any_take 7 (some 20) (v := ?_) rfl rfl (by kernel_rfl) (by kernel_rfl) (by kernel_rfl) (fun _ _ _ h => h) (Or.inl ⟨by rfl, ?_⟩) ?_
      rotate_left
      · (intro w; go_simp; try with_reducible rfl)
      rotate_right
      refine any_take 8 (some 21) (v := ?_) rfl rfl (by kernel_rfl) (by kernel_rfl) (by kernel_rfl) (fun _ _ _ h => h) (Or.inl ⟨by rfl, ?_⟩) ?_
      rotate_left
      · (intro w; go_simp; try with_reducible rfl)
      rotate_right
      refine any_take 9 (some 22) (v := ?_) rfl rfl (by kernel_rfl) (by kernel_rfl) (by kernel_rfl) (fun _ _ _ h => h) (Or.inl ⟨by rfl, ?_⟩) ?_
      rotate_left
      · (intro w; go_simp; try with_reducible rfl)
      rotate_right
      refine wpAny_pair (i := 5) (j := 10) (di := some 18) (dj := some 23) (vi := .string y.1) (vj := .int .i64 y.2) rfl rfl rfl rfl rfl rfl ?r1 ?r2 ?r3 (by decide) ?h1 ?h2 ?h3 ?h4 ?hc ?h
      case r1 => kernel_rfl
      case r2 => kernel_rfl
      case r3 => kernel_rfl
      case h1 => exact exec_load (ty := 9) (x := .tmp 17) (ad := ⟨b, o + j * 2, none⟩) (by kernel_rfl) (by kernel_rfl) HL1.out
      case h2 => exact exec_load (ty := 3) (x := .tmp 22) (ad := ⟨b, o + j * 2 + 1, none⟩) (by kernel_rfl) (by kernel_rfl) HL2.out
      case h3 => exact exec_load (ty := 3) (x := .tmp 22) (ad := ⟨b, o + j * 2 + 1, none⟩) (by kernel_rfl) (by kernel_rfl) HL2.out
      case h4 => exact exec_load (ty := 9) (x := .tmp 17) (ad := ⟨b, o + j * 2, none⟩) (by kernel_rfl) (by kernel_rfl) HL1.out
      case hc => kernel_rfl
      refine wpAny_tail 11 (by kernel_rfl) (by kernel_rfl) ?_
      simp only [List.drop_succ_cons, List.drop_zero, Act.put, List.setIfInBounds_toArray, List.set_cons_zero, List.set_cons_succ]
      have hv2 := hv.drew
      have hu2 := hu.drew
      have hb2 : Below B w wr.drew := hb.drew
      have hz2 : B ≤ wr.drew.heap.size := hz
      generalize wr.drew = x0 at hv2 hu2 hb2 hz2 ⊢
      clear hv hu hb hz e0 e1 HL1 HL2
      go_wp2_with (first
        | (at_builtin; refine wp_append_code (y0 := y.1) (y1 := y.2) rfl rfl Tryd.underlying25 hi iz0 rfl iz1 iz2 rfl (hv2.alloc _) rfl ?c1 ?c2 ?c3 ?c4 ?_; (case c1 => go_cell); (case c2 => go_cell); (case c3 => omega); (case c4 => (simp; omega)); intro v1 w1 hv3 hgrow; have hg3 : World.grownBy _ w1 (Value.ownBlock u4) := hgrow; have hu3 := owns_apart (hu2.alloc _) (hv2.alloc _) (by decide) hg3; have hb3 := (hb2.alloc (by omega) _).grown hg3 (by simp; omega) (owns_fresh hv2); have hz3 : B ≤ w1.heap.size := Nat.le_trans (by simp; omega) hg3.size; clear hgrow hv2 hu2 hb2; obtain ⟨e0, e1⟩ := EE.out w1 hb3)
        | (at_builtin; refine wp_append_str (y0 := y.1) rfl rfl Tryd.underlying26 hj jz0 rfl jz1 jz2 rfl (hu3.alloc _) rfl ?d1 ?d2 ?d3 ?_; (case d1 => go_cell); (case d2 => omega); (case d3 => (simp; omega)); intro v2 w2 hu4 hgrow; have hg4 : World.grownBy _ w2 (Value.ownBlock u5) := hgrow; have hv4 := owns_apart (hv3.alloc _) (hu3.alloc _) (by decide) hg4; have hb4 := (hb3.alloc (by omega) _).grown hg4 (by simp; omega) (owns_fresh hu3); have hz4 : B ≤ w2.heap.size := Nat.le_trans (by simp; omega) hg4.size; clear hgrow hv3 hu3 hb3))
      go_roundw
      case rel => exact ⟨j + 1, by omega, by go_num, by rw [T1.out]; exact hv4, by rw [T2.out]; exact hu4, hb4, hz4⟩
      case measure => simp [intOf]; omega
    · obtain rfl : j = l.length := by omega
      have hv' : wr.ownsRow B 55 2 u4 l.length (codeCells l) := by
        have := hv
        rwa [List.take_length] at this
      have hu' : wr.ownsRow B 9 1 u5 (l.map (·.1)).length (strCells (l.map (·.1))) := by
        have := hu
        rwa [List.take_length, ← List.length_map (f := fun x : ByteArray × Int => x.1)] at this
      obtain ⟨q, cq, rfl, hq⟩ := owns_codes hv'
      obtain ⟨r, cr, rfl, hr⟩ := owns_strs hu'
      rw [List.length_map]
      go_wp2
      go_ret2
      exact ⟨q, cq, r, cr, rfl, hq, hr, by rw [HB.out]; exact hb⟩


/-- What the document's Take gives. -/
def TakeGives (l : List ByteArray) (b : List UInt8) (at_ : Nat) (w : World) (e : Ending) (w' : World) : Prop :=
  ∃ i : Nat, e = .returned (.tuple #[.int .i64 (i : Int), .int .i64 ((at_ + (tk (l.map fun x => x.data.toList) b 25 1).2 : Nat) : Int), .int .i64 (tk (l.map fun x => x.data.toList) b 25 1).1]) ∧
    ((tk (l.map fun x => x.data.toList) b 25 1).1 = 0 → ∃ h : i < l.length, l[i].data.toList = b.take (tk (l.map fun x => x.data.toList) b 25 1).2) ∧ Below w.heap.size w w'
theorem gives_at {l : List ByteArray} {b : List UInt8} {at_ : Nat} {w w' : World} {i n to : Nat} {f : Int} (h : tk (l.map fun x => x.data.toList) b 25 1 = (f, n)) (hto : at_ + n = to) (h0 : f = 0 → ∃ h : i < l.length, l[i].data.toList = b.take n) (hb : Below w.heap.size w w') :
    TakeGives l b at_ w (.returned (.tuple #[.int .i64 (i : Int), .int .i64 (to : Int), .int .i64 f])) w' := by
  subst hto
  refine ⟨i, ?_, ?_, hb⟩
  · rw [h]
  · rw [h]; exact h0
theorem cut_take (s : ByteArray) (p n : Nat) : (s.extract p (p + n)).data.toList = (s.data.toList.drop p).take n := by
  rw [Lib.extract_data, Nat.add_sub_cancel_left]
set_option maxRecDepth 100000 in
set_option maxHeartbeats 8000000 in
theorem tref_page (l : List ByteArray) (p : Option Addr) (cap : Nat) (s : ByteArray) (at_ : Nat) (w : World) (hc : Strs w p l) (hm : l.length ≤ 300) (hs : s.size ≤ 1048576) (ha : at_ ≤ s.size) :
    Calls Tryd.prog 17 #[.slice p l.length cap, .string s, .int .i64 (at_ : Int)] w (TakeGives l (s.data.toList.drop at_) at_ w) := by
  obtain ⟨bs, hbs⟩ : ∃ bs, s.data.toList.drop at_ = bs := ⟨_, rfl⟩
  have hbl : bs.length = s.size - at_ := by rw [← hbs, List.length_drop]; rfl
  have hq : ∀ n, (s.extract at_ (at_ + n)).data.toList = bs.take n := fun n => by rw [cut_take, hbs]
  have Q := Lib.hid hq
  have BL := Lib.hid hbl
  rw [hbs]
  have HBS := Lib.hid hbs
  obtain ⟨rows, hrows⟩ : ∃ rows, (l.map fun x => x.data.toList) = rows := ⟨_, rfl⟩
  have HR := Lib.hid hrows
  obtain ⟨B, hB⟩ : ∃ B, w.heap.size = B := ⟨_, rfl⟩
  have hE : ∀ x, Below B w x → ∀ i, (h : i < l.length) → ∃ b o, p = some ⟨b, o, none⟩ ∧ x.cell? ⟨b, o + i, none⟩ = some (.string l[i]) := by
    intro x hx i hi
    obtain ⟨b, o, rfl, hblt, hcells⟩ := hc.at (by omega)
    exact ⟨b, o, rfl, (World.cell?_of_block (a := ⟨b, o + i, none⟩) (hx.block b (by omega))).trans (hcells i hi)⟩
  have EE := Lib.hid hE
  have hb0 : Below B w w := Below.refl _ _
  have HB := Lib.hid hB
  clear hE hc hB hrows hbs hq hbl
  go_enter Tryd.func17, Tryd.ntmps17
  go_wp2
  go_loopw [9] (fun v wr => ∃ n : Nat, 1 ≤ n ∧ n ≤ 26 ∧ v = .int .i64 n ∧ Below B w wr ∧ Hid (tk rows bs 25 1 = tk rows bs (26 - n) n)) (fun v _ => 26 - (intOf v).toNat)
  case atStart => exact ⟨1, Nat.le_refl _, by omega, rfl, hb0, Lib.hid rfl⟩
  case round =>
    clear hb0
    obtain ⟨n, hn1, hn2, rfl, hb, hn⟩ := hrel
    by_cases hlt : n ≤ 25
    · have hunf : tk rows bs (26 - n) n = if bs.length < n then (2, 0) else if bs.take n ∈ rows then (0, n) else if rows.any (fun r => (bs.take n).isPrefixOf r) = true then tk rows bs (25 - n) (n + 1) else (3, 0) := by
        rw [show 26 - n = (25 - n) + 1 by omega, tk]
      have U := Lib.hid (hn.out.trans hunf)
      clear hunf
      have t25 : decide ((n : Int) ≤ 25) = true := by simp; omega
      by_cases hsh : bs.length < n
      · have t0 : decide ((s.size : Int) - at_ < n) = true := by simp; rw [BL.out] at hsh; omega
        have F := Lib.hid (U.out.trans (if_pos hsh))
        clear hsh
        go_wp2
        go_ret3
        exact gives_at (i := 0) (by rw [HR.out]; exact F.out) (Nat.add_zero _) (fun h => by cases h) (by rw [HB.out]; exact hb)
      · have t0 : decide ((s.size : Int) - at_ < n) = false := by simp; rw [BL.out] at hsh; omega
        have U2 := Lib.hid (U.out.trans (if_neg hsh))
        have hfit : at_ + n ≤ s.size := by rw [BL.out] at hsh; omega
        clear U hsh
        go_wp2_with fail
        obtain ⟨wo, rfl⟩ : ∃ wo : World, wo = wr := ⟨_, rfl⟩
        go_loopw [10, 11] (fun v i wr => ∃ (k : Nat) (sm : Bool), k ≤ l.length ∧ i = .int .i64 k ∧ v = .bool sm ∧ Below B w wr ∧ Hid (sm = (rows.take k).any (fun r => (bs.take n).isPrefixOf r)) ∧ Hid (∀ c, (hc : c < l.length) → c < k → l[c].data.toList ≠ bs.take n)) (fun _ i _ => l.length - (intOf i).toNat)
        case atStart => exact ⟨0, false, Nat.zero_le _, rfl, rfl, hb, Lib.hid (by simp), Lib.hid (fun c _ h => absurd h (Nat.not_lt_zero c))⟩
        case round =>
          clear hb
          obtain ⟨k, sm, hk, rfl, rfl, hb, hsm, hno⟩ := hrel
          by_cases hlt2 : k < l.length
          · obtain ⟨b, o, rfl, ck⟩ := EE.out wr hb k hlt2
            obtain ⟨y, hy⟩ : ∃ y, l[k] = y := ⟨_, rfl⟩
            rw [hy] at ck
            have HY := Lib.hid hy
            clear hy
            go_wp2_with fail
            by_cases he : y.data.toList = bs.take n
            · have g0 : (y.toList == (s.extract at_ (at_ + n)).toList) = true := by rw [Lib.toList_data, Lib.toList_data, beq_iff_eq, Q.out]; exact he
              have F := Lib.hid (U2.out.trans (if_pos (show bs.take n ∈ rows by rw [← HR.out, ← he, ← HY.out]; exact List.mem_map_of_mem (List.getElem_mem hlt2))))
              have HE := Lib.hid he
              clear he
              go_quiet (fail)
              go_wp2
              go_ret3
              exact gives_at (by rw [HR.out]; exact F.out) rfl (fun _ => ⟨hlt2, by rw [HY.out]; exact HE.out⟩) (by rw [HB.out]; exact below_drewN hb _)
            · have g0 : (y.toList == (s.extract at_ (at_ + n)).toList) = false := by
                rw [Lib.toList_data, Lib.toList_data, beq_eq_false_iff_ne, Q.out]; exact he
              have HE := Lib.hid he
              have ST : Hid ((rows.take (k + 1)).any (fun r => (bs.take n).isPrefixOf r) = (sm || (bs.take n).isPrefixOf y.data.toList)) := Lib.hid (by
                rw [← HR.out] at hsm ⊢
                rw [hsm.out, List.take_succ_eq_append_getElem (by rw [List.length_map]; exact hlt2), List.any_append, List.getElem_map, HY.out]
                simp)
              have NO2 : Hid (∀ c, (hc : c < l.length) → c < k + 1 → l[c].data.toList ≠ bs.take n) := Lib.hid (fun c hc h => by
                by_cases e : c = k
                · subst e
                  rw [HY.out]; exact HE.out
                · exact hno.out c hc (by omega))
              clear he hsm hno
              go_quiet (fail)
              have ck2 : (wr.drewN nq).cell? ⟨b, o + k, none⟩ = some (.string y) := ck
              have hb2 := below_drewN hb nq
              generalize wr.drewN nq = wq at ck2 hb2 ⊢
              clear ck hb
              go_wp2_with fail
              cases sm with
              | true =>
                go_quiet (fail)
                go_wp2
                go_roundw
                case rel => exact ⟨k + 1, true, by omega, by go_num, rfl, below_drewN hb2 _, Lib.hid (by rw [ST.out]; rfl), NO2⟩
                case measure => simp [intOf]; omega
              | false =>
                have hbg : (s.extract at_ (at_ + n)).data.toList.isPrefixOf y.data.toList = (bs.take n).isPrefixOf y.data.toList := by rw [Q.out]
                generalize hr : (bs.take n).isPrefixOf y.data.toList = r at hbg ST
                have BG := Lib.hid hbg
                clear hbg hr
                have s1 := Lib.hid (show (at_ : Int) + n ≤ s.size by omega)
                have s2 := Lib.hid (show (at_ : Int) ≤ (at_ : Int) + n by omega)
                have s3 : (0 : Int) ≤ (at_ : Int) + n := by omega
                have s4 : ((at_ : Int) + n).toNat = at_ + n := by omega
                have s5 : IntKind.i64.wrap ((at_ : Int) + n) = (at_ : Int) + n := IntWalk.i64_in _ (by omega)
                go_quiet ((first | (go_at_call 23; exact Calls.quiet_of_same (begins_same _ _ _ BG.out _)) | (rw [if_pos s1.out, if_pos s2.out]; exact ⟨rfl, rfl⟩)))
                clear s1 s2 s3 s4 s5
                go_wp2
                go_roundw
                case rel => exact ⟨k + 1, r, by omega, by go_num, rfl, below_drewN hb2 _, Lib.hid (by rw [ST.out]; rfl), NO2⟩
                case measure => simp [intOf]; omega
          · obtain rfl : k = l.length := by omega
            have hnot : ¬ bs.take n ∈ rows := by
              rw [← HR.out, List.mem_map]
              rintro ⟨x, hx, he⟩
              obtain ⟨i, hi, rfl⟩ := List.getElem_of_mem hx
              exact hno.out i hi hi he
            have hall : sm = rows.any (fun r => (bs.take n).isPrefixOf r) := by
              rw [hsm.out, List.take_of_length_le (by rw [← HR.out, List.length_map]; exact Nat.le_refl _)]
            have U3 := Lib.hid (U2.out.trans (if_neg hnot))
            have HA := Lib.hid hall
            clear hnot hall hsm U2
            cases sm with
            | false =>
              have F := Lib.hid (U3.out.trans (if_neg (by rw [← HA.out]; decide)))
              go_wp2
              go_ret3
              exact gives_at (i := 0) (by rw [HR.out]; exact F.out) (Nat.add_zero _) (fun h => by cases h) (by rw [HB.out]; exact hb)
            | true =>
              have F := Lib.hid (U3.out.trans (if_pos (by rw [← HA.out])))
              go_wp2
              go_roundw
              case rel => exact ⟨n + 1, by omega, by omega, by go_num, hb, Lib.hid (by rw [F.out, show 26 - (n + 1) = 25 - n by omega])⟩
              case measure => simp [intOf]; omega
    · obtain rfl : n = 26 := by omega
      have F := Lib.hid (hn.out.trans (show tk rows bs (26 - 26) 26 = (3, 0) from rfl))
      go_wp2
      go_ret3
      exact gives_at (i := 0) (by rw [HR.out]; exact F.out) (Nat.add_zero _) (fun h => by cases h) (by rw [HB.out]; exact hb)

end Go.Proofs.YtmjpldoanfefgaaDoor
