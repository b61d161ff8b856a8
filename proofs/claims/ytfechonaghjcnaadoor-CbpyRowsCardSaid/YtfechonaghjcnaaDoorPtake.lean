/- What package cbpy takes from a Reader, or what is wrong. Conditions: a Reader of a text of at most 2^47 bytes; the variable holds its table. -/
import Derived.Test.YtfechonaghjcnaaDoorPtk
namespace Go.Proofs.YtfechonaghjcnaaDoor
open Go.RowKit Go.Lib

/-- What Take gives. -/
def PTake (intra : Bool) (s : ByteArray) (rb p : Nat) (w : World) (e : Ending) (w' : World) : Prop :=
  e = .returned (.tuple #[.int .i64 (ptk intra ((showL s.data.toList).drop p)).1, .int .i64 (ptk intra ((showL s.data.toList).drop p)).2.1]) ∧
    IsRd w' rb s (p + (ptk intra ((showL s.data.toList).drop p)).2.2) ∧ w.grownBy w' (some rb)
theorem ptake_at {intra : Bool} {s : ByteArray} {rb p n : Nat} {w w' : World} {a f : Int} (h : ptk intra ((showL s.data.toList).drop p) = (a, f, n)) (hr : IsRd w' rb s (p + n)) (hg : w.grownBy w' (some rb)) :
    PTake intra s rb p w (.returned (.tuple #[.int .i64 a, .int .i64 f])) w' := by
  unfold PTake
  rw [h]
  exact ⟨rfl, hr, hg⟩
theorem first_bitP (s : ByteArray) (p : Nat) (h : p + 1 ≤ 8 * s.size) : ∃ t : Nat, tell s.data.toList p 1 = t ∧ (t = 0 ∨ t = 1) ∧ ((showL s.data.toList).drop p).take 1 = [UInt8.ofNat (48 + t)] := by
  obtain ⟨hn, hd⟩ := tell_last s.data.toList p 0 h
  have hlt := tell_lt s.data.toList p 1
  have hlt : tell s.data.toList p 1 < 2 := hlt
  have h01 : tell s.data.toList p (0 + 1) = tell s.data.toList p 1 := rfl
  rw [h01] at hd
  have hb : ((showL s.data.toList).drop p).take 1 = [((showL s.data.toList).drop p)[0]] := by
    rw [List.take_succ_eq_append_getElem hn]; rfl
  rcases hd with ⟨h1, h2⟩ | ⟨h1, h2⟩
  · have ht : tell s.data.toList p 1 = 0 := by omega
    exact ⟨0, ht, .inl rfl, by rw [hb, h1]; rfl⟩
  · have ht : tell s.data.toList p 1 = 1 := by omega
    exact ⟨1, ht, .inr rfl, by rw [hb, h1]; rfl⟩
theorem uptoP_rows (intra : Bool) (c : UInt8) : ∀ x ∈ uptoP intra [c] 16, x.1.size ≤ maxLen ∧ (Lit.int .i64 x.2).wf = true := fun x hx => by
  rw [uptoP_all] at hx
  have hm := (List.mem_filter.1 hx).1
  have h := (okRow_inv (allP_ok intra x hm)).2.1
  have e : (rowC x).length = x.1.size := rfl
  refine ⟨?_, allP_wf intra x hm⟩
  unfold maxLen
  omega
theorem made_freeP {l ds : List (ByteArray × Int)} (h : mkP l) (hp : ds.Perm l) : free (ds.map rowC) ∧ ∀ x ∈ ds, okRow (rowC x) = true :=
  ⟨(free_perm (hp.map rowC)).2 h.2.2.2.1, fun x hx => h.2.2.1 x (hp.mem_iff.1 hx)⟩
theorem ptake_nil (intra : Bool) (w : World) : Calls Tryd.prog 11 #[.pointer none, .bool intra] w fun e w' => e = .returned (.tuple #[.int .i64 0, .int .i64 1]) ∧ Below w.heap.size w w' := by
  go_enter Tryd.func11, Tryd.ntmps11
  go_wp2_with fail
  refine (peek_nil _ _).mono ?_
  rintro e w1 ⟨rfl, rfl⟩
  go_wp2
  go_ret2
  exact ⟨rfl, Below.refl _ _⟩
set_option maxRecDepth 100000 in
set_option maxHeartbeats 1000000 in
theorem ptake_code (intra : Bool) (w : World) (rb : Nat) (s : ByteArray) (p : Nat) (hp : HasPats w) (hr : IsRd w rb s p) :
    Calls Tryd.prog 11 #[.pointer (some ⟨rb, 0, none⟩), .bool intra] w (PTake intra s rb p w) := by
  obtain ⟨bs, hbs⟩ : ∃ bs, (showL s.data.toList).drop p = bs := ⟨_, rfl⟩
  have hbl : bs.length = 8 * s.size - p := by rw [← hbs, List.length_drop, showL_length]; rfl
  have hpl := hr.2.1
  have hrlt := hr.lt
  have HBS := Lib.hid hbs
  by_cases hsh : 8 * s.size < p + 1
  · have hask : ask s.data.toList p 1 = (0, 2) := ask_short (by omega) (by have : s.data.toList.length = s.size := rfl; omega)
    have F := Lib.hid (ptk_not intra (b := bs) (n := 0) (f := 2) (by
      cases bs with
      | nil => rfl
      | cons a l => simp at hbl; omega) (by decide))
    clear hsh hbl hbs
    go_enter Tryd.func11, Tryd.ntmps11
    go_wp2_with fail
    refine (peek_code _ _ _ _ 1 hr).mono ?_
    rintro e w1 ⟨rfl, hb1⟩
    rw [hask]
    have hr1 := hr.below hb1
    have hg1 : w.grownBy w1 (some rb) := ⟨hb1.os, hb1.tape, hb1.output, hb1.size, fun k hk _ => hb1.block k hk⟩
    go_wp2
    go_ret2
    exact ptake_at (n := 0) (by rw [HBS.out]; exact F.out) hr1 hg1
  obtain ⟨t, ht, ht2, hb1⟩ := first_bitP s p (by omega)
  have hask : ask s.data.toList p 1 = ((t : Int), 0) := by
    have := ask_ok (l := s.data.toList) (p := p) (n := 1) (by omega) (by have : s.data.toList.length = s.size := rfl; omega)
    rw [this, show (1 : Int).toNat = 1 from rfl, ht]
  rw [hbs] at hb1
  have hc : UInt8.ofNat (48 + t) = 48 ∨ UInt8.ofNat (48 + t) = 49 := by rcases ht2 with rfl | rfl <;> simp
  obtain ⟨L, hL⟩ : ∃ L, uptoP intra [UInt8.ofNat (48 + t)] 16 = L := ⟨_, rfl⟩
  have hmk := uptoP_mk intra hc
  have hrow := uptoP_rows intra (UInt8.ofNat (48 + t))
  have hll := uptoP_len intra [UInt8.ofNat (48 + t)] 16
  have htu := fun (ds : List (ByteArray × Int)) (hp : ds.Perm L) => tk_uptoP intra hb1 (ds := ds) (by rw [hL]; exact hp)
  have hin : ∀ x ∈ L, x ∈ allP intra := fun x hx => by
    rw [← hL, uptoP_all] at hx
    exact (List.mem_filter.1 hx).1
  have hcon := fun x hx => codes_code intra t ht2 x hx
  rw [hL] at hmk hrow hll hcon
  have MK := Lib.hid hmk
  have HT := Lib.hid htu
  have HIN := Lib.hid hin
  clear hmk htu hin hL hb1 hc ht ht2 hsh hbl hbs
  go_enter Tryd.func11, Tryd.ntmps11
  go_wp2_with fail
  refine (peek_code _ _ _ _ 1 hr).mono ?_
  rintro e w1 ⟨rfl, hb1⟩
  rw [hask]
  have hr1 := hr.below hb1
  have hp1 := hp.below hb1
  go_wp2_with fail
  refine (hcon _ hp1).mono ?_
  rintro e w2 ⟨v, rfl, hown, hb2⟩
  obtain ⟨q, cap, rfl, hcds⟩ := owns_codes hown
  have hr2 := hr1.below hb2
  have hbw2 : Below w.heap.size w w2 := hb1.trans (hb2.mono hb1.size)
  have hrl2 : rb < w2.heap.size := hr2.lt
  clear hown hb2 hr1 hb1 hr hask hp1 hp
  go_wp2_with fail
  refine (make_code L q cap _ hcds (by unfold maxLen; omega) hrow).mono ?_
  rintro e w3 ⟨hy, _, hb3⟩
  obtain ⟨tb, ds, rfl, ht, hp, hs⟩ := hy MK.out
  obtain ⟨hf, ho⟩ := made_freeP MK.out hp
  have hr3 := hr2.below hb3
  have hbw3 : Below w.heap.size w w3 := hbw2.trans (hb3.mono hbw2.size)
  have HS := Lib.hid hs
  have HF := Lib.hid hf
  have HO := Lib.hid ho
  have HP := Lib.hid hp
  have IT := Lib.hid ht
  clear hy hs hf ho hp ht hr2 hb3 hbw2 hcds hrow hll
  go_wp2_with fail
  refine (ttake_low _ _ _ tb rb ds _ s p IT.out hr3 (.inl hrl2) HS.out HF.out HO.out).mono ?_
  rintro e w4 ⟨v, rfl, hv0, hv1, hr4, hg4⟩
  rw [HBS.out, HT.out ds HP.out] at hv0 hv1 hr4 ⊢
  obtain ⟨f, n, hk⟩ : ∃ f n, tk ((allP intra).map rowC) bs 25 1 = (f, n) := ⟨_, _, rfl⟩
  rw [hk] at hv0 hv1 hr4 ⊢
  have hcd := tk_codes ((allP intra).map rowC) bs 25 1
  rw [hk] at hcd
  have hgw4 : w.grownBy w4 (some rb) := by
    refine ⟨hg4.os.trans hbw3.os, hg4.tape.trans hbw3.tape, hg4.output.trans hbw3.output, Nat.le_trans hbw3.size hg4.size, fun k hk hn => ?_⟩
    exact (hg4.block k (Nat.lt_of_lt_of_le hk hbw3.size) hn).trans (hbw3.block k hk)
  have F0 : ptk intra bs = (v, f, n) := by
    by_cases h0 : f = 0
    · subst h0
      obtain ⟨x, hx, hxr, hxv⟩ := hv0 rfl
      rw [ptk_yes intra hk (HIN.out x (HP.out.mem_iff.1 hx)) hxr, hxv]
    · obtain rfl := hv1 h0
      have hn : n = 0 := by
        rcases hcd with h | h | h
        · exact absurd h h0
        · exact h.2
        · exact h.2
      rw [ptk_not intra hk h0, hn]
  have F := Lib.hid F0
  clear F0 hk hv0 hv1 hg4 hr3 hbw3 hcd
  go_wp2
  go_ret2
  exact ptake_at (by rw [HBS.out]; exact F.out) hr4 hgw4
end Go.Proofs.YtfechonaghjcnaaDoor
