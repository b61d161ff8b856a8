/- The document's own answer for layer 5's Take (overspillref05): which of some rows stands at a place. Conditions: texts of an int's length; up to 300 rows. -/
import Derived.Test.YtologhgoojkpmaaDoorStrs
import Derived.Test.YtologhgoojkpmaaDoorRef2
import Derived.BigQuiet
import Derived.Deep.QuietTactic
import Derived.IntWalk
namespace Go.Proofs.YtologhgoojkpmaaDoor
open Go.RowKit

theorem ba_eq {a b : ByteArray} : a = b ↔ a.data.toList = b.data.toList := by
  constructor
  · rintro rfl; rfl
  · intro h
    obtain ⟨⟨l⟩⟩ := a
    obtain ⟨⟨m⟩⟩ := b
    cases h; rfl
theorem cut_pre (s p : ByteArray) : ((s.extract 0 p.size).toList == p.toList) = p.data.toList.isPrefixOf s.data.toList := by
  rw [Bool.eq_iff_iff, beq_iff_eq, Lib.toList_data, Lib.toList_data, pre_take]
  rw [Lib.extract_data]
  rfl
set_option maxRecDepth 100000 in
set_option maxHeartbeats 1000000 in
theorem begins_page (s p : ByteArray) (w : World) :
    Calls Tryd.prog 58 #[.string s, .string p] w fun e w' => e = .returned (.bool (p.data.toList.isPrefixOf s.data.toList)) ∧ w = w' := by
  have e1 : s.data.toList.length = s.size := rfl
  have e2 : p.data.toList.length = p.size := rfl
  have E1 := Lib.hid e1
  have E2 := Lib.hid e2
  clear e1 e2
  by_cases h : p.size ≤ s.size
  · have HC := Lib.hid (cut_pre s p)
    have t0 : decide (p.size ≤ s.size) = true := by simp; omega
    go_enter Tryd.func58, Tryd.ntmps58
    go_wp2
    go_ret
    exact ⟨ret_bool (by rw [HC.out]), rfl⟩
  · have hf : p.data.toList.isPrefixOf s.data.toList = false := by
      cases hh : p.data.toList.isPrefixOf s.data.toList with
      | false => rfl
      | true =>
        have := pre_length hh
        rw [E1.out, E2.out] at this
        exact absurd this h
    have F := Lib.hid hf
    have t0 : decide (p.size ≤ s.size) = false := by simp; omega
    clear hf h
    go_enter Tryd.func58, Tryd.ntmps58
    go_wp2
    go_ret
    exact ⟨ret_bool F.out.symm, rfl⟩
theorem begins_same (s p : ByteArray) (r : Bool) (hr : p.data.toList.isPrefixOf s.data.toList = r) (w : World) :
    Calls Tryd.prog 58 #[.string s, .string p] w fun e w' => e = .returned (.bool r) ∧ w' = w :=
  (begins_page s p w).mono fun _ _ ⟨h1, h2⟩ => ⟨by rw [h1, hr], h2.symm⟩

/-- What the document's Take gives. -/
def TakeGives (l : List ByteArray) (b : List UInt8) (at_ : Nat) (w : World) (e : Ending) (w' : World) : Prop :=
  ∃ i : Nat, e = .returned (.tuple #[.int .i64 (i : Int), .int .i64 ((at_ + (tk (l.map fun x => x.data.toList) b 25 1).2 : Nat) : Int), .int .i64 (tk (l.map fun x => x.data.toList) b 25 1).1]) ∧
    ((tk (l.map fun x => x.data.toList) b 25 1).1 = 0 → ∃ h : i < l.length, l[i].data.toList = b.take (tk (l.map fun x => x.data.toList) b 25 1).2) ∧ Below w.heap.size w w'
/-- And nothing is nought where something is wrong. -/
def TakeGives0 (l : List ByteArray) (b : List UInt8) (at_ : Nat) (w : World) (e : Ending) (w' : World) : Prop :=
  ∃ i : Nat, e = .returned (.tuple #[.int .i64 (i : Int), .int .i64 ((at_ + (tk (l.map fun x => x.data.toList) b 25 1).2 : Nat) : Int), .int .i64 (tk (l.map fun x => x.data.toList) b 25 1).1]) ∧
    ((tk (l.map fun x => x.data.toList) b 25 1).1 = 0 → ∃ h : i < l.length, l[i].data.toList = b.take (tk (l.map fun x => x.data.toList) b 25 1).2) ∧ ((tk (l.map fun x => x.data.toList) b 25 1).1 ≠ 0 → i = 0) ∧ Below w.heap.size w w'
theorem gives_at {l : List ByteArray} {b : List UInt8} {at_ : Nat} {w w' : World} {i n to : Nat} {f : Int} (h : tk (l.map fun x => x.data.toList) b 25 1 = (f, n)) (hto : at_ + n = to) (h0 : f = 0 → ∃ h : i < l.length, l[i].data.toList = b.take n) (h1 : f ≠ 0 → i = 0) (hb : Below w.heap.size w w') :
    TakeGives0 l b at_ w (.returned (.tuple #[.int .i64 (i : Int), .int .i64 (to : Int), .int .i64 f])) w' := by
  subst hto
  refine ⟨i, ?_, ?_, ?_, hb⟩
  · rw [h]
  · rw [h]; exact h0
  · rw [h]; exact h1
theorem cut_take (s : ByteArray) (p n : Nat) : (s.extract p (p + n)).data.toList = (s.data.toList.drop p).take n := by
  rw [Lib.extract_data, Nat.add_sub_cancel_left]
set_option maxRecDepth 100000 in
set_option maxHeartbeats 8000000 in
theorem tref0_page (l : List ByteArray) (p : Option Addr) (cap : Nat) (s : ByteArray) (at_ : Nat) (w : World) (hc : Strs w p l) (hm : l.length ≤ 300) (hs : s.size ≤ 1048576) (ha : at_ ≤ s.size) :
    Calls Tryd.prog 45 #[.slice p l.length cap, .string s, .int .i64 (at_ : Int)] w (TakeGives0 l (s.data.toList.drop at_) at_ w) := by
  obtain ⟨bs, hbs⟩ : ∃ bs, s.data.toList.drop at_ = bs := ⟨_, rfl⟩
  have hbl : bs.length = s.size - at_ := by rw [← hbs, List.length_drop]; rfl
  have hq : ∀ n, (s.extract at_ (at_ + n)).data.toList = bs.take n := fun n => by rw [cut_take, hbs]
  have Q := Lib.hid hq
  have BL := Lib.hid hbl
  rw [hbs]
  have HBS := Lib.hid hbs
  obtain ⟨rows, hrows⟩ : ∃ rows, (l.map fun x => x.data.toList) = rows := ⟨_, rfl⟩
  have HR := Lib.hid hrows
  obtain ⟨B, hB⟩ : ∃ B, w.heap.size = B := ⟨_, rfl⟩
  have hE : ∀ x, Below B w x → ∀ i, (h : i < l.length) → ∃ b o, p = some ⟨b, o, none⟩ ∧ x.cell? ⟨b, o + i, none⟩ = some (.string l[i]) := by
    intro x hx i hi
    obtain ⟨b, o, rfl, hblt, hcells⟩ := hc.at (by omega)
    exact ⟨b, o, rfl, (World.cell?_of_block (a := ⟨b, o + i, none⟩) (hx.block b (by omega))).trans (hcells i hi)⟩
  have EE := Lib.hid hE
  have hb0 : Below B w w := Below.refl _ _
  have HB := Lib.hid hB
  clear hE hc hB hrows hbs hq hbl
  go_enter Tryd.func45, Tryd.ntmps45
  go_wp2
  go_loopw [9] (fun v wr => ∃ n : Nat, 1 ≤ n ∧ n ≤ 26 ∧ v = .int .i64 n ∧ Below B w wr ∧ Hid (tk rows bs 25 1 = tk rows bs (26 - n) n)) (fun v _ => 26 - (intOf v).toNat)
  case atStart => exact ⟨1, Nat.le_refl _, by omega, rfl, hb0, Lib.hid rfl⟩
  case round =>
    clear hb0
    obtain ⟨n, hn1, hn2, rfl, hb, hn⟩ := hrel
    by_cases hlt : n ≤ 25
    · have hunf : tk rows bs (26 - n) n = if bs.length < n then (2, 0) else if bs.take n ∈ rows then (0, n) else if rows.any (fun r => (bs.take n).isPrefixOf r) = true then tk rows bs (25 - n) (n + 1) else (3, 0) := by
        rw [show 26 - n = (25 - n) + 1 by omega, tk]
      have U := Lib.hid (hn.out.trans hunf)
      clear hunf
      have t25 : decide ((n : Int) ≤ 25) = true := by simp; omega
      by_cases hsh : bs.length < n
      · have t0 : decide ((s.size : Int) - at_ < n) = true := by simp; rw [BL.out] at hsh; omega
        have F := Lib.hid (U.out.trans (if_pos hsh))
        clear hsh
        go_wp2
        go_ret3
        exact gives_at (i := 0) (by rw [HR.out]; exact F.out) (Nat.add_zero _) (fun h => by cases h) (fun _ => rfl) (by rw [HB.out]; exact hb)
      · have t0 : decide ((s.size : Int) - at_ < n) = false := by simp; rw [BL.out] at hsh; omega
        have U2 := Lib.hid (U.out.trans (if_neg hsh))
        have hfit : at_ + n ≤ s.size := by rw [BL.out] at hsh; omega
        clear U hsh
        go_wp2_with fail
        obtain ⟨wo, rfl⟩ : ∃ wo : World, wo = wr := ⟨_, rfl⟩
        go_loopw [10, 11] (fun v i wr => ∃ (k : Nat) (sm : Bool), k ≤ l.length ∧ i = .int .i64 k ∧ v = .bool sm ∧ Below B w wr ∧ Hid (sm = (rows.take k).any (fun r => (bs.take n).isPrefixOf r)) ∧ Hid (∀ c, (hc : c < l.length) → c < k → l[c].data.toList ≠ bs.take n)) (fun _ i _ => l.length - (intOf i).toNat)
        case atStart => exact ⟨0, false, Nat.zero_le _, rfl, rfl, hb, Lib.hid (by simp), Lib.hid (fun c _ h => absurd h (Nat.not_lt_zero c))⟩
        case round =>
          clear hb
          obtain ⟨k, sm, hk, rfl, rfl, hb, hsm, hno⟩ := hrel
          by_cases hlt2 : k < l.length
          · obtain ⟨b, o, rfl, ck⟩ := EE.out wr hb k hlt2
            obtain ⟨y, hy⟩ : ∃ y, l[k] = y := ⟨_, rfl⟩
            rw [hy] at ck
            have HY := Lib.hid hy
            clear hy
            go_wp2_with fail
            by_cases he : y.data.toList = bs.take n
            · have g0 : (y.toList == (s.extract at_ (at_ + n)).toList) = true := by rw [Lib.toList_data, Lib.toList_data, beq_iff_eq, Q.out]; exact he
              have F := Lib.hid (U2.out.trans (if_pos (show bs.take n ∈ rows by rw [← HR.out, ← he, ← HY.out]; exact List.mem_map_of_mem (List.getElem_mem hlt2))))
              have HE := Lib.hid he
              clear he
              go_quiet (fail)
              go_wp2
              go_ret3
              exact gives_at (by rw [HR.out]; exact F.out) rfl (fun _ => ⟨hlt2, by rw [HY.out]; exact HE.out⟩) (fun h => absurd rfl h) (by rw [HB.out]; exact below_drewN hb _)
            · have g0 : (y.toList == (s.extract at_ (at_ + n)).toList) = false := by
                rw [Lib.toList_data, Lib.toList_data, beq_eq_false_iff_ne, Q.out]; exact he
              have HE := Lib.hid he
              have ST : Hid ((rows.take (k + 1)).any (fun r => (bs.take n).isPrefixOf r) = (sm || (bs.take n).isPrefixOf y.data.toList)) := Lib.hid (by
                rw [← HR.out] at hsm ⊢
                rw [hsm.out, List.take_succ_eq_append_getElem (by rw [List.length_map]; exact hlt2), List.any_append, List.getElem_map, HY.out]
                simp)
              have NO2 : Hid (∀ c, (hc : c < l.length) → c < k + 1 → l[c].data.toList ≠ bs.take n) := Lib.hid (fun c hc h => by
                by_cases e : c = k
                · subst e
                  rw [HY.out]; exact HE.out
                · exact hno.out c hc (by omega))
              clear he hsm hno
              go_quiet (fail)
              have ck2 : (wr.drewN nq).cell? ⟨b, o + k, none⟩ = some (.string y) := ck
              have hb2 := below_drewN hb nq
              generalize wr.drewN nq = wq at ck2 hb2 ⊢
              clear ck hb
              go_wp2_with fail
              cases sm with
              | true =>
                go_quiet (fail)
                go_wp2
                go_roundw
                case rel => exact ⟨k + 1, true, by omega, by go_num, rfl, below_drewN hb2 _, Lib.hid (by rw [ST.out]; rfl), NO2⟩
                case measure => simp [intOf]; omega
              | false =>
                have hbg : (s.extract at_ (at_ + n)).data.toList.isPrefixOf y.data.toList = (bs.take n).isPrefixOf y.data.toList := by rw [Q.out]
                generalize hr : (bs.take n).isPrefixOf y.data.toList = r at hbg ST
                have BG := Lib.hid hbg
                clear hbg hr
                have s1 := Lib.hid (show (at_ : Int) + n ≤ s.size by omega)
                have s2 := Lib.hid (show (at_ : Int) ≤ (at_ : Int) + n by omega)
                have s3 : (0 : Int) ≤ (at_ : Int) + n := by omega
                have s4 : ((at_ : Int) + n).toNat = at_ + n := by omega
                have s5 : IntKind.i64.wrap ((at_ : Int) + n) = (at_ : Int) + n := IntWalk.i64_in _ (by omega)
                go_quiet ((first | (go_at_call 58; exact Calls.quiet_of_same (begins_same _ _ _ BG.out _)) | (rw [if_pos s1.out, if_pos s2.out]; exact ⟨rfl, rfl⟩)))
                clear s1 s2 s3 s4 s5
                go_wp2
                go_roundw
                case rel => exact ⟨k + 1, r, by omega, by go_num, rfl, below_drewN hb2 _, Lib.hid (by rw [ST.out]; rfl), NO2⟩
                case measure => simp [intOf]; omega
          · obtain rfl : k = l.length := by omega
            have hnot : ¬ bs.take n ∈ rows := by
              rw [← HR.out, List.mem_map]
              rintro ⟨x, hx, he⟩
              obtain ⟨i, hi, rfl⟩ := List.getElem_of_mem hx
              exact hno.out i hi hi he
            have hall : sm = rows.any (fun r => (bs.take n).isPrefixOf r) := by
              rw [hsm.out, List.take_of_length_le (by rw [← HR.out, List.length_map]; exact Nat.le_refl _)]
            have U3 := Lib.hid (U2.out.trans (if_neg hnot))
            have HA := Lib.hid hall
            clear hnot hall hsm U2
            cases sm with
            | false =>
              have F := Lib.hid (U3.out.trans (if_neg (by rw [← HA.out]; decide)))
              go_wp2
              go_ret3
              exact gives_at (i := 0) (by rw [HR.out]; exact F.out) (Nat.add_zero _) (fun h => by cases h) (fun _ => rfl) (by rw [HB.out]; exact hb)
            | true =>
              have F := Lib.hid (U3.out.trans (if_pos (by rw [← HA.out])))
              go_wp2
              go_roundw
              case rel => exact ⟨n + 1, by omega, by omega, by go_num, hb, Lib.hid (by rw [F.out, show 26 - (n + 1) = 25 - n by omega])⟩
              case measure => simp [intOf]; omega
    · obtain rfl : n = 26 := by omega
      have F := Lib.hid (hn.out.trans (show tk rows bs (26 - 26) 26 = (3, 0) from rfl))
      go_wp2
      go_ret3
      exact gives_at (i := 0) (by rw [HR.out]; exact F.out) (Nat.add_zero _) (fun h => by cases h) (fun _ => rfl) (by rw [HB.out]; exact hb)
theorem tref_page (l : List ByteArray) (p : Option Addr) (cap : Nat) (s : ByteArray) (at_ : Nat) (w : World) (hc : Strs w p l) (hm : l.length ≤ 300) (hs : s.size ≤ 1048576) (ha : at_ ≤ s.size) :
    Calls Tryd.prog 45 #[.slice p l.length cap, .string s, .int .i64 (at_ : Int)] w (TakeGives l (s.data.toList.drop at_) at_ w) := by
  refine (tref0_page l p cap s at_ w hc hm hs ha).mono ?_
  rintro e w' ⟨i, h1, h2, _, h3⟩
  exact ⟨i, h1, h2, h3⟩
end Go.Proofs.YtologhgoojkpmaaDoor
