/- Numbers that a Writer of package outbits took are taken again by a Reader of package inbits of its text, by the same widths, and fewer than eight noughts stand behind them; and the chapter's example comes out. Conditions: none but the law's own (up to 100 numbers). -/
import Derived.Test.YtekpilodicnncaaRows
import Derived.Test.YtekpilodicnncaaRef3
import Derived.Test.YtekpilodicnncaaText
import Derived.Test.YtekpilodicnncaaPairs
import Derived.Test.YtekpilodicnncaaOpen
import Derived.ChangeMaps5
import Derived.Deep.DeepCutAuto
namespace Go.Proofs.Ytekpilodicnncaa
open Go.ChangeShapes Go.WideShapes Go.ChangeAt Go.RowKit
set_option linter.unusedVariables false

/-- A Writer's blocks are of its own types: what grows a row of another type leaves it as it is. -/
theorem Chain.other {w w' : World} {B : Nat} {r : List UInt8} (h : ∀ (g : Nat) (cs : Array Value), w.heap[g]? = some (.cells cs 62 (0, 0)) → w'.heap[g]? = some (.cells cs 62 (0, 0))) : ∀ {k : Nat} {v : Value}, Chain w B r k v → Chain w' B r k v
  | 0, _, c => c
  | _ + 1, _, ⟨g, v', e, hg, hh, c⟩ => ⟨g, v', e, hg, h g _ hh, c.other h⟩
theorem IsWr.other {w w' : World} {B b : Nat} {r : List UInt8} {base e size n : Nat} {v : Value} {xs : List Value} (h : IsWr w B b r) (ho : w.ownsRow base e size v n xs) (e1 : e ≠ 62) (e2 : e ≠ 57) (hg : w.grownBy w' v.ownBlock) : IsWr w' B b r := by
  have keep : ∀ (g : Nat) (cs : Array Value) (T : TypeId), T ≠ e → w.heap[g]? = some (.cells cs T (0, 0)) → w'.heap[g]? = some (.cells cs T (0, 0)) := by
    intro g cs T hT hh
    rw [hg.block g (Array.getElem?_eq_some_iff.1 hh).1 ?_]
    · exact hh
    · intro hk
      rcases ho.2 with ⟨rfl, _⟩ | ⟨g', cap, cur, rfl, _, hgg, _⟩
      · cases hk
      · injection hk with hk
        obtain rfl : g = g' := hk
        rw [hgg] at hh
        injection hh with hh
        injection hh with _ hh
        exact hT hh.symm
  obtain ⟨h1, h2, u, h3, h4⟩ := h
  exact ⟨h1, h2, u, keep _ _ _ (Ne.symm e2) h3, h4.other fun g cs hh => keep g cs _ (Ne.symm e1) hh⟩
theorem owns_from {w : World} {base e size n : Nat} {v : Value} {xs : List Value} (h : w.ownsRow base e size v n xs) : ∀ k, v.ownBlock = some k → base ≤ k := by
  intro k hk
  rcases h.2 with ⟨rfl, _⟩ | ⟨g, cap, cur, rfl, hg, _⟩
  · cases hk
  · cases hk; exact hg
theorem owns_put {w w' : World} {base e size n b : Nat} {v : Value} {xs : List Value} (h : w.ownsRow base e size v n xs) (hg : w.grownBy w' (some b)) (hb : b < base) : w'.ownsRow base e size v n xs := by
  refine h.kept hg ?_
  cases hv : v.ownBlock with
  | none => exact .inl rfl
  | some k => exact .inr (by intro hk; injection hk with hk; have := owns_from h k hv; omega)
theorem owns_pairs {w : World} {base e : Nat} {v : Value} {ps : List (Int × Int)} (h : w.ownsRow base e 2 v ps.length (pairCells ps)) :
    ∃ (q : Option Addr) (cap : Nat), v = .slice q ps.length cap ∧ ∀ i, (hi : i < ps.length) → ∃ g, q = some ⟨g, 0, none⟩ ∧ g < w.heap.size ∧ w.cell? ⟨g, i * 2, none⟩ = some (.int .i64 ps[i].1) ∧ w.cell? ⟨g, i * 2 + 1, none⟩ = some (.int .i64 ps[i].2) := by
  have h0 := h
  rcases h.2 with ⟨rfl, h1⟩ | ⟨g, cap, cur, rfl, _, hg, _⟩
  · exact ⟨none, 0, by rw [h1], fun i hi => by omega⟩
  · refine ⟨_, cap, rfl, fun i hi => ⟨g, rfl, (Array.getElem?_eq_some_iff.1 hg).1, ?_, ?_⟩⟩
    · have := World.ownsRow.cells (g := g) h0 rfl (i * 2) _ (pairCells_get ps i hi).1
      rwa [Addr.add_mid, Nat.zero_add] at this
    · have := World.ownsRow.cells (g := g) h0 rfl (i * 2 + 1) _ (pairCells_get ps i hi).2
      rwa [Addr.add_mid, Nat.zero_add] at this
theorem owns_drew {w : World} {base e size n : Nat} {v : Value} {xs : List Value} (h : w.ownsRow base e size v n xs) : w.drew.ownsRow base e size v n xs := h
/-- 'append' of one row of two cells, which lie in a block of their own. -/
theorem wp_append_two {P : Program} {w : World} {ops : Array Oper} {rest : List Oper} {o : Oper} {a : Act} {Q : Exit → Act → World → Prop} {sl x : Operand} {t base e c : Nat} {i : TypeInfo} {z v : Value} {n : Nat} {xs : List Value} {K : Nat} {y0 y1 : Int}
    (hgd : o.guard = none) (ho : o.op = .call { callee := .builtin .append, args := #[sl, x], argTypes := #[t, t] })
    (ht : P.underlying t = some (.slice e)) (hi : P.info? e = some i) (hz : i.zero = some z) (hzs : z.cells.size = 2) (hsize : i.size = 2) (hby : i.bytes = 16)
    (hs : a.eval sl = v) (hown : w.ownsRow base e 2 v n xs) (hx : a.eval x = .slice (some ⟨K, 0, none⟩) 1 c) (c0 : w.cell? ⟨K, 0, none⟩ = some (.int .i64 y0)) (c1 : w.cell? ⟨K, 1, none⟩ = some (.int .i64 y1)) (hn : n ≤ 1048576) (hbase : base ≤ w.heap.size)
    (h : ∀ v' w', w'.ownsRow base e 2 v' (n + 1) (xs ++ [.int .i64 y0, .int .i64 y1]) → w.grownBy w' v.ownBlock → wpList P ops Q rest (a.put o.dst v') w') : wpList P ops Q (o :: rest) a w :=
  wpList_append_own w hgd sl x t ho base e i z 2 16 ht hi hz hsize hby hzs (by decide) v n xs hs hown ⟨K, 0, none⟩ 1 c [.int .i64 y0, .int .i64 y1] hx rfl
    (fun j u hj => by
      match j, hj with
      | 0, hj => cases hj; exact c0
      | 1, hj => cases hj; exact c1)
    (by intro u hu; simp only [List.mem_cons, List.not_mem_nil, or_false] at hu; rcases hu with rfl | rfl <;> rfl) (by unfold maxLen; omega) (by omega) hbase
    fun v' w' h1 h2 _ => h v' w' h1 h2
theorem info_two : (Try.prog.info? 44).map (fun i => (i.zero, i.size, i.bytes)) = some (some (.agg #[.int .i64 0, .int .i64 0]), 2, 16) := by kernel_rfl

theorem no_fit {v n : Int} : fitsIn v n = true ∨ fitsIn v n = false := by cases fitsIn v n <;> simp
set_option maxRecDepth 100000 in
set_option maxHeartbeats 8000000 in
theorem inbitsBack_walk (p : Option Addr) (len cap : Nat) (w : World) (ha : RowsAt w TwoInts 2 p len) (hm : len ≤ maxLen) :
    Calls Try.prog 4 #[.slice p len cap] w fun e w' => e = .returned (.bool true) ∧ Below w.heap.size w w' := by
  unfold maxLen at hm
  obtain ⟨i0, hi, iz0, iz1, iz2⟩ := info_parts info_two
  by_cases hl : 100 < len
  · go_enter Try.func4, Try.ntmps4
    go_wp2_with (go_at_call 6; refine (lives3 _).mono ?_; rintro e w' ⟨rfl, hb⟩)
    go_ret
    exact ⟨rfl, hb⟩
  · obtain ⟨b, hb⟩ : ∃ b, w.heap.size = b := ⟨_, rfl⟩
    have hw0 : IsWr (w.alloc newWr) (b + 1) b [] := IsWr.fresh hb (Nat.lt_succ_self _)
    have hb0 : Below b w (w.alloc newWr) := by rw [← hb]; exact (Below.refl _ w).alloc (Nat.le_refl _) _
    have hz0' : b + 1 ≤ (w.alloc newWr).heap.size := by simp; omega
    have HB := Lib.hid hb
    rw [hb]
    go_enter Try.func4, Try.ntmps4
    go_wp2_with fail
    refine (new_code _).mono ?_
    rintro e w1 ⟨rfl, rfl⟩
    rw [HB.out]
    go_wp2_with fail
    go_loopw [4, 5] (fun v i wr => ∃ (j : Nat) (ps : List (Int × Int)), j ≤ len ∧ i = .int .i64 j ∧ ps.length ≤ j ∧ Hid (allFit ps) ∧ IsWr wr (b + 1) b (rowsOf ps) ∧ wr.ownsRow (b + 1) 44 2 v ps.length (pairCells ps) ∧ Below b w wr ∧ b + 1 ≤ wr.heap.size) (fun _ i _ => len - (intOf i).toNat)
    case atStart => exact ⟨0, [], Nat.zero_le _, rfl, Nat.le_refl _, Lib.hid (fun q hq => by cases hq), hw0, World.ownsRow_nil _ _ _ _, hb0, hz0'⟩
    case round =>
      clear hw0 hb0 hz0'
      obtain ⟨j, ps, hj, rfl, hpl, hfit, hwr, hown, hbw, hz⟩ := hrel
      by_cases hlt : j < len
      · obtain ⟨c, o, rfl, hblt, hrows⟩ : ∃ c o, p = some ⟨c, o, none⟩ ∧ c < w.heap.size ∧ ∀ i, i < len → ∃ vs : List Value, vs.length = 2 ∧ TwoInts vs ∧ ∀ (j : Nat) v, vs[j]? = some v → w.cell? ⟨c, o + i * 2 + j, none⟩ = some v := by
          rcases ha with h | h
          · omega
          · exact h
        obtain ⟨_, _, ⟨v, n, rfl, wv, _⟩, hvs⟩ := hrows j hlt
        have c0 : w.cell? ⟨c, o + j * 2, none⟩ = some (.int .i64 v) := hvs 0 _ rfl
        have c1 : w.cell? ⟨c, o + j * 2 + 1, none⟩ = some (.int .i64 n) := hvs 1 _ rfl
        have hcb : c < b := by rw [← HB.out]; exact hblt
        have hv := (i64_most wv).2
        have hE : ∀ x, Below b w x → x.cell? ⟨c, o + j * 2, none⟩ = some (.int .i64 v) ∧ x.cell? ⟨c, o + j * 2 + 1, none⟩ = some (.int .i64 n) := fun x hx =>
          ⟨(World.cell?_of_block (a := ⟨c, o + j * 2, none⟩) (hx.block c hcb)).trans c0, (World.cell?_of_block (a := ⟨c, o + j * 2 + 1, none⟩) (hx.block c hcb)).trans c1⟩
        have EE := Lib.hid hE
        clear c0 c1 hE hrows hvs ha hblt wv
        obtain ⟨e0, e1⟩ := EE.out wr hbw
        have hrl : (rowsOf ps).length ≤ 3200 := by have := rowsOf_most ps hfit.out; omega
        go_wp2_with fail
        go_still_tail 11, (by kernel_rfl)
        change wpList _ _ _ _ _ wr.drew
        have hwr2 : IsWr wr.drew (b + 1) b (rowsOf ps) := hwr.below ((Below.refl _ wr).drew)
        have hown2 := owns_drew hown
        have hbw2 : Below b w wr.drew := hbw.drew
        have hz2 : b + 1 ≤ wr.drew.heap.size := hz
        generalize wr.drew = x0 at hwr2 hown2 hbw2 hz2 ⊢
        clear hwr hown hbw hz e0 e1
        cases hf : fitsIn v n with
        | false =>
          have F := Lib.hid hf
          clear hf
          go_wp2_with fail
          refine (put_not _ _ v n hv F.out).mono ?_
          rintro e w' ⟨rfl, rfl⟩
          go_wp2_with fail
          go_roundw
          case rel => exact ⟨j + 1, ps, by omega, by go_num, by omega, hfit, hwr2, hown2, hbw2, hz2⟩
          case measure => simp [intOf]; omega
        | true =>
          have F := Lib.hid hf
          clear hf
          go_wp2_with fail
          refine (put_fits _ _ _ _ v n hwr2 hv F.out (by omega) hz2).mono ?_
          rintro e x1 ⟨rfl, hw1, hg1⟩
          have hown1 := owns_put hown2 hg1 (Nat.lt_succ_self _)
          have hz1 : b + 1 ≤ x1.heap.size := Nat.le_trans hz2 hg1.size
          have hb1 : Below b w x1 := hbw2.grown hg1 (by omega) (by intro k hk; injection hk with hk; omega)
          clear hwr2 hown2 hbw2 hz2
          obtain ⟨e0, e1⟩ := EE.out x1 hb1
          have hfit2 := Lib.hid (allFit_snoc hfit.out F.out)
          have hpn := pairCells_snoc ps v n
          have PN := Lib.hid hpn
          clear hpn
          have hw2 : ∀ o, IsWr (x1.alloc o) (b + 1) b (rowsOf ps ++ rowOf v.toNat n.toNat) := fun o => hw1.below ((Below.refl _ _).alloc (Nat.le_refl _) _)
          go_wp2_with (at_builtin; refine wp_append_two (y0 := v) (y1 := n) rfl rfl Try.underlying40 hi iz0 rfl iz1 iz2 rfl (hown1.alloc _) rfl ?c1 ?c2 ?c3 ?c4 ?_; (case c1 => go_cell); (case c2 => go_cell); (case c3 => omega); (case c4 => (simp; omega)); intro v1 w1 hown3 hgrow)
          have hw3 := (hw2 _).other (hown1.alloc _) (by decide) (by decide) hgrow
          have hb3 := (hb1.alloc (by omega) _).grown hgrow (by simp; omega) (fun k hk => Nat.le_trans (Nat.le_succ b) (owns_from hown1 k hk))
          have hz3 : b + 1 ≤ w1.heap.size := Nat.le_trans (by simp; omega) hgrow.size
          go_roundw
          case rel => exact ⟨j + 1, ps ++ [(v, n)], by omega, by go_num, by simp; omega, hfit2, by rw [rowsOf_snoc]; exact hw3, by rw [PN.out, List.length_append]; exact hown3, hb3, hz3⟩
          case measure => simp [intOf]; omega
      · obtain rfl : j = len := by omega
        clear hi iz0 iz1 iz2 ha
        have hrl : (rowsOf ps).length ≤ 3200 := by have := rowsOf_most ps hfit.out; omega
        have hrow := rowsOf_row ps
        obtain ⟨r, hr⟩ : ∃ r, rowsOf ps = r := ⟨_, rfl⟩
        have HR := Lib.hid hr
        rw [hr] at hwr hrl hrow
        obtain ⟨q, cap2, rfl, hcell⟩ := owns_pairs hown
        have hpb := fun k hk => pair_back ps hfit.out k hk (packL r) (by rw [HR.out])
        have hpf := pair_fill ps (packL r) (by rw [HR.out])
        have hpl100 : ps.length ≤ 100 := by omega
        have PB := Lib.hid hpb
        have PF := Lib.hid hpf
        have HC := Lib.hid hcell
        obtain ⟨T, hT⟩ : ∃ T : ByteArray, (⟨(packL r).toArray⟩ : ByteArray) = T := ⟨_, rfl⟩
        have hTl : T.data.toList = packL r := by rw [← hT]
        have hTs : T.size ≤ 1099511627776 := by rw [← hT, size_mk, packL_length]; omega
        have hT8 : T.size = (packL r).length := by rw [← hT, size_mk]
        have TL := Lib.hid hTl
        have T8 := Lib.hid hT8
        have TT := Lib.hid hT
        clear hpb hpf hcell hown hr hrow hpl hlt hj hl hTl hT8 hT
        go_wp2_with fail
        refine (text_code _ _ _ _ hwr (by omega)).mono ?_
        rintro e x1 ⟨rfl, hb1⟩
        rw [TT.out]
        have hbw1 : Below b w x1 := hbw.trans (hb1.mono (by omega))
        have hz1 := hb1.size
        go_wp2_with fail
        refine (rnew_code _ _).mono ?_
        rintro e x2 ⟨rfl, hx2⟩
        obtain ⟨R, hR⟩ : ∃ R, x1.heap.size = R := ⟨_, rfl⟩
        have hrd : IsRd x2 R T 0 := by rw [← hx2]; exact IsRd.fresh hR hTs
        have hbw2 : Below b w x2 := by rw [← hx2]; exact hbw1.alloc (by omega) _
        have hz2 : R + 1 ≤ x2.heap.size := by rw [← hx2]; simp; omega
        have hcell2 : ∀ y, Below R x2 y → ∀ i, (h : i < ps.length) → ∃ g, q = some ⟨g, 0, none⟩ ∧ y.cell? ⟨g, i * 2, none⟩ = some (.int .i64 ps[i].1) ∧ y.cell? ⟨g, i * 2 + 1, none⟩ = some (.int .i64 ps[i].2) := by
          intro y hy i hi
          obtain ⟨g, h1, h2, h3, h4⟩ := HC.out i hi
          have k1 : x1.heap[g]? = wr.heap[g]? := hb1.block g h2
          have k2 : x2.heap[g]? = x1.heap[g]? := by rw [← hx2]; exact Below.heap_alloc x1 _ g (by omega)
          have k3 : y.heap[g]? = wr.heap[g]? := (hy.block g (by omega)).trans (k2.trans k1)
          exact ⟨g, h1, (World.cell?_of_block (a := ⟨g, i * 2, none⟩) k3).trans h3, (World.cell?_of_block (a := ⟨g, i * 2 + 1, none⟩) k3).trans h4⟩
        have HC2 := Lib.hid hcell2
        have hbR : b ≤ R := by omega
        rw [hR]
        clear hcell2 HC hb1 hbw hz hbw1 hz1 hwr hx2 hR
        go_wp2_with fail
        go_loopw [7, 8, 9] (fun i _ _ wx => ∃ k : Nat, k ≤ ps.length ∧ i = .int .i64 k ∧ IsRd wx R T (rowsOf (ps.take k)).length ∧ Below R x2 wx ∧ R + 1 ≤ wx.heap.size) (fun i _ _ _ => ps.length - (intOf i).toNat)
        case atStart => exact ⟨0, Nat.zero_le _, rfl, hrd, Below.refl _ _, hz2⟩
        case round =>
          clear hrd hz2
          obtain ⟨k, hk, rfl, hrd, hbx, hz⟩ := hrel
          by_cases hlt : k < ps.length
          · obtain ⟨g, rfl, e0, e1⟩ := HC2.out wr hbx k hlt
            obtain ⟨a1, a2⟩ := PB.out k hlt
            obtain ⟨v, n, hvn⟩ : ∃ v n : Int, ps[k] = (v, n) := ⟨_, _, rfl⟩
            rw [hvn] at e0 e1 a1 a2
            have VN := Lib.hid hvn
            have A1 := Lib.hid a1
            have A2 := Lib.hid a2
            clear hvn a1 a2
            go_wp2_with fail
            refine (take_code _ _ _ _ _ hrd).mono ?_
            rintro e x3 ⟨rfl, hr3, hg3⟩
            rw [TL.out] at hr3 ⊢
            rw [A1.out]
            rw [A2.out] at hr3
            have hb3 : Below R x2 x3 := hbx.grown hg3 (by omega) (by intro k hk; injection hk with hk; omega)
            have hz3 : R + 1 ≤ x3.heap.size := Nat.le_trans hz hg3.size
            obtain ⟨g', hgg, f0, f1⟩ := HC2.out x3 hb3 k hlt
            injection hgg with hgg
            injection hgg with hgg
            subst hgg
            rw [VN.out] at f0 f1
            clear e0 e1
            go_wp2_with fail
            go_roundw
            case rel => exact ⟨k + 1, by omega, by go_num, hr3, hb3, hz3⟩
            case measure => simp [intOf]; omega
          · obtain rfl : k = ps.length := by omega
            obtain ⟨p1, p2⟩ := PF.out
            rw [List.take_of_length_le (Nat.le_refl _)] at hrd
            have hg7 := gap_lt (rowsOf ps).length
            obtain ⟨gp, hgp⟩ : ∃ gp, gap (rowsOf ps).length = gp := ⟨_, rfl⟩
            rw [hgp] at p1 hg7
            have P1 := Lib.hid p1
            have P2 := Lib.hid p2
            have d8 : decide ((gp : Int) < 8) = true := by simp; omega
            clear p1 p2 hgp
            go_wp2_with fail
            refine (rfill_code _ _ _ _ hrd).mono ?_
            rintro e x3 ⟨rfl, hr3, hg3⟩
            rw [TL.out] at hr3 ⊢
            rw [P1.out]
            rw [P2.out, ← T8.out] at hr3
            have hb3 : Below R x2 x3 := hbx.grown hg3 (by omega) (by intro k hk; injection hk with hk; omega)
            have hz3 : R + 1 ≤ x3.heap.size := Nat.le_trans hz hg3.size
            go_wp2_with fail
            refine (left_code _ _ _ _ hr3).mono ?_
            rintro e x4 ⟨rfl, hb4⟩
            rw [show (8 * (T.size : Int) - ((8 * T.size : Nat) : Int)) = 0 by omega]
            have hb4' : Below b w x4 := hbw2.trans ((hb3.mono hbR).trans (hb4.mono (by omega)))
            have hz4 : b ≤ x4.heap.size := by have := hb4.size; omega
            go_wp2_with fail
            refine (lives3 _).mono ?_
            rintro e x5 ⟨rfl, hb5⟩
            go_wp2
            go_ret
            exact ⟨rfl, hb4'.trans (hb5.mono hz4)⟩

theorem inbitsBack_own : ownKnob Try.prog.godebug = none := by kernel_rfl
theorem inbitsBack_laid : laidOutB Try.prog = true := by kernel_rfl
theorem inbitsBack_reads : Try.f4.params.toList.all (fun t => Try.prog.readableRec t && decide (t < Try.prog.types.size)) = true := by kernel_rfl

set_option maxRecDepth 100000 in
theorem inbitsBack_lifted (os : Os) (started : os.Started) (H : Type) (enc : TypeId × Value → H) :
    ReturnsInHanded {} Try.checked os 4 .any (Rows.inbitsBackSpec.pre6 enc Try.prog Try.f4 Rows.inbitsBackRow.domain false) (Rows.inbitsBackSpec.post enc Try.prog Try.f4 false true false false) := by
  refine returnsInHanded_of_change (C := Try.checked) inbitsBack_own started (by kernel_rfl) Try.func4
    (ChangeSpec.witness6 (enc := enc) (C := Try.checked) false ⟨#[], #[.slice none 0 0], []⟩ 8 (by kernel_rfl) (by kernel_rfl) (by kernel_rfl) (by kernel_rfl)) ?_
  intro W base args ds gs before hval0 hW hcnd _
  have hval : ∀ (j : Nat) t v, Try.f4.params[j]? = some t → args[j]? = some v → Value.okWide Try.prog W .any base t v := hval0
  have hW' := hW
  obtain ⟨p, q, hA0, hV, rfl, hfz, hnd⟩ := hW
  have hA : DataW.TrodAll enc Try.prog W 0 (fun _ => true) true Try.f4.params.toList args.toList ds p := hA0
  rw [Try.params4] at hA hval
  obtain ⟨v0, vs0, d0, ds0, p0, q0, hargs, rfl, rfl, h0, r0⟩ := trodAll_cons hA
  obtain ⟨rfl, rfl, rfl⟩ := trodAll_nil r0
  obtain rfl : args = #[v0] := by cases args; simp_all
  obtain ⟨rfl, rfl⟩ := trodVars_none hV
  obtain ⟨p0, l0, c0, rfl, w0, x0⟩ := open_rows 2 _ Try.underlying40 (by kernel_rfl) (by decide) (two_array Try.underlying44 Try.underlying3 (by kernel_rfl)) (hval 0 40 v0 rfl rfl) h0
  clear hA0 hval0
  refine (inbitsBack_walk p0 l0 c0 W x0 w0).mono fun e W' ⟨he, hb⟩ => ?_
  subst he
  exact ⟨_, rfl, law_end inbitsBack_laid inbitsBack_reads rfl Try.underlying4 rfl hW' rfl hb⟩

theorem inbitsBack_over : Rows.inbitsBackRow.holds Try.pinned (OpenSpec.ofChange Rows.inbitsBackSpec) :=
  OpenClaim.holds_of_wide 4 Try.f4 rfl rfl rfl rfl rfl rfl rfl ⟨rfl, rfl, rfl, rfl, rfl⟩ rfl rfl rfl rfl rfl (by kernel_rfl) Try.func4 (by kernel_rfl)
    (of_decide_eq_true (by kernel_rfl)) (by unfold Func.isWrapper; first | (rw [if_pos (by decide +kernel)]; kernel_rfl) | (rw [if_neg (by decide +kernel)]; exact ⟨rfl, rfl⟩))
    (fun os started H enc _ => inbitsBack_lifted os started H enc)

theorem inbitsBack_holds : Rows.InbitsBackSaid :=
  inbitsBack_over
#print axioms inbitsBack_holds
end Go.Proofs.Ytekpilodicnncaa
