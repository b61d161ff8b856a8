/- Texts that CelloutBack's proof stands on, part 39 of 45. No condition of its own. -/
import Derived.Test.YtekjgcchnmnplaaGreatDoorCelloutBackMn
import Derived.Test.YtekjgcchnmnplaaGreatDoorCelloutBackMbi
import Derived.Test.YtekjgcchnmnplaaGreatDoorCelloutBackMbj
import Derived.Test.YtekjgcchnmnplaaGreatDoorCelloutBackMbl
import Derived.Laws.MakeOwn
import Derived.WalkMore
import Derived.IntWalk
namespace Go.Proofs.YtekjgcchnmnplaaGreatDoor
def allC (inter : Bool) : List (ByteArray × Sym) := ((List.range 24).map (cellC inter)).filter fun x => !(rowCY x).isEmpty
def mtk (inter : Bool) (b : List UInt8) : Int × Int × Int × Nat :=
 if (tk ((allC inter).map rowCY) b 25 1).1 = 0 then
  match (allC inter).find? (fun x => rowCY x == b.take (tk ((allC inter).map rowCY) b 25 1).2) with
  | some x => if sA x.2 = 2 then (0, 0, 6, 0) else (sA x.2, sB x.2, 0, (tk ((allC inter).map rowCY) b 25 1).2)
  | none => (0, 0, 0, 0)
 else (0, 0, (tk ((allC inter).map rowCY) b 25 1).1, 0)
theorem all_free (inter : Bool) : free ((allC inter).map rowCY) := by
 cases inter <;> (unfold free; decide +kernel)
theorem all_ok (inter : Bool) : ∀ x ∈ allC inter, okRow (rowCY x) = true := by
 cases inter <;> decide +kernel
theorem upto_all (inter : Bool) (c : UInt8) : upto inter [c] 24 = (allC inter).filter fun x => [c].isPrefixOf (rowCY x) := by
 unfold upto allC
 rw [List.filter_filter]
 apply List.filter_congr
 intro x _
 cases h : [c].isPrefixOf (rowCY x) with
 | false => rfl
 | true =>
  cases hr : rowCY x with
  | nil => rw [hr] at h; cases h
  | cons a l => rfl
theorem upto_mk (inter : Bool) {c : UInt8} (hc : c = 48 ∨ c = 49) : mkPY (upto inter [c] 24) := by
 have hf : free ((upto inter [c] 24).map rowCY) := by
  rw [upto_all]
  exact (all_free inter).sublist ((List.filter_sublist).map rowCY)
 have ho : ∀ x ∈ upto inter [c] 24, okRow (rowCY x) = true := fun x hx => by
  rw [upto_all] at hx
  exact all_ok inter x (List.mem_filter.1 hx).1
 refine ⟨?_, Nat.le_trans (upto_len inter [c] 24) (by omega), ho, hf, ?_⟩
 ·rcases hc with rfl | rfl <;> cases inter <;> decide +kernel
 ·rcases hc with rfl | rfl <;> cases inter <;> decide +kernel
theorem tk_upto (inter : Bool) {b : List UInt8} {c : UInt8} (h : b.take 1 = [c]) {ds : List (ByteArray × Sym)} (hp : ds.Perm (upto inter [c] 24)) : tk (ds.map rowCY) b 25 1 = tk ((allC inter).map rowCY) b 25 1 := by
 have hl : 1 ≤ b.length := by
  cases b with
  | nil => cases h
  | cons a l => simp
 rw [tk_perm (hp.map rowCY), tk_first ((allC inter).map rowCY) b hl 25 1 (Nat.le_refl _), upto_all, List.filter_map, h]
 rfl
theorem all_one (inter : Bool) {x y : ByteArray × Sym} (hx : x ∈ allC inter) (hy : y ∈ allC inter) (h : rowCY x = rowCY y) : x = y := by
 obtain ⟨i, hi, rfl⟩ := List.getElem_of_mem hx
 obtain ⟨j, hj, rfl⟩ := List.getElem_of_mem hy
 by_cases hij : i = j
 ·subst hij; rfl
 ·exfalso
  have := free_get.1 (all_free inter) i j (by simpa using hi) (by simpa using hj) hij
  rw [List.getElem_map, List.getElem_map, h, pre_refl] at this
  cases this
theorem all_find (inter : Bool) {x : ByteArray × Sym} (hx : x ∈ allC inter) {q : List UInt8} (hq : rowCY x = q) : (allC inter).find? (fun y => rowCY y == q) = some x := by
 cases h : (allC inter).find? (fun y => rowCY y == q) with
 | none =>
  have := List.find?_eq_none.1 h x hx
  rw [hq] at this
  simp at this
 | some y =>
  have h1 := List.find?_some h
  have h2 := List.mem_of_find?_eq_some h
  rw [all_one inter h2 hx ((beq_iff_eq.1 h1).trans hq.symm)]
theorem mtk_yes (inter : Bool) {b : List UInt8} {n : Nat} {x : ByteArray × Sym} (ht : tk ((allC inter).map rowCY) b 25 1 = (0, n)) (hx : x ∈ allC inter) (hq : rowCY x = b.take n) :
  mtk inter b = if sA x.2 = 2 then (0, 0, 6, 0) else (sA x.2, sB x.2, 0, n) := by
 unfold mtk
 rw [ht, if_pos rfl, all_find inter hx hq]
theorem mtk_not (inter : Bool) {b : List UInt8} {n : Nat} {f : Int} (ht : tk ((allC inter).map rowCY) b 25 1 = (f, n)) (hf : f ≠ 0) : mtk inter b = (0, 0, f, 0) := by
 unfold mtk
 rw [ht, if_neg hf]
end Go.Proofs.YtekjgcchnmnplaaGreatDoor

namespace Go.Proofs.YtekjgcchnmnplaaGreatDoor
open Go.RowKit Go.Lib
theorem codes_code (inter : Bool) (f : ByteArray) (w : World) :
  Calls Tryz.prog 94 #[.bool inter, .string f] w fun e w' => e = .returned (.func (.func 111) #[] #[.pointer (some ⟨w.heap.size, 0, none⟩), .pointer (some ⟨w.heap.size + 1, 0, none⟩)]) ∧ w' = (w.alloc (.cells #[.bool inter] 4)).alloc (.cells #[.string f] 9) := by
 go_enter Tryz.func94, Tryz.ntmps94
 go_wp2
 go_ret
 exact ⟨rfl, rfl⟩
def roomObj (n : Nat) : Obj := .cells (madeCells (Value.agg #[.string ⟨#[]⟩, .int .i64 0, .int .i64 0]).cells (n * 3)) 158 (0, 0)
theorem run_room (w : World) : (Instr.makeSlice 153 (.int .i64 0) (.int .i64 24)).run Tryz.prog w = .ok (.slice (some ⟨w.heap.size, 0, none⟩) 0 24) (w.alloc (roomObj 24)) := by
 obtain ⟨i0, hi, hz0, hz1, hz2⟩ := info_parts info_codeY
 have := run_make (P := Tryz.prog) w 153 158 i0 _ Tryz.underlying153 hi hz0 .i64 .i64 0 24 (by omega) (by omega) (by rw [hz2]; omega) (by omega)
 rw [hz1] at this
 exact this
theorem room_own (w : World) {base : Nat} (h : base ≤ w.heap.size) : (w.alloc (roomObj 24)).ownsRow base 158 3 (.slice (some ⟨w.heap.size, 0, none⟩) 0 24) 0 [] :=
 World.ownsRow_made w _ 24 h (by decide) (size_madeCells _ _)
def MTake (inter : Bool) (s : ByteArray) (rb p : Nat) (w : World) (e : Ending) (w' : World) : Prop :=
 e = .returned (.tuple #[.int .i64 (mtk inter ((showL s.data.toList).drop p)).1, .int .i64 (mtk inter ((showL s.data.toList).drop p)).2.1, .int .i64 (mtk inter ((showL s.data.toList).drop p)).2.2.1]) ∧
  IsRd w' rb s (p + (mtk inter ((showL s.data.toList).drop p)).2.2.2) ∧ w.grownBy w' (some rb)
theorem mtake_at {inter : Bool} {s : ByteArray} {rb p n : Nat} {w w' : World} {a b f : Int} (h : mtk inter ((showL s.data.toList).drop p) = (a, b, f, n)) (hr : IsRd w' rb s (p + n)) (hg : w.grownBy w' (some rb)) :
  MTake inter s rb p w (.returned (.tuple #[.int .i64 a, .int .i64 b, .int .i64 f])) w' := by
 unfold MTake
 rw [h]
 exact ⟨rfl, hr, hg⟩
def CodesMid (w : World) (l : List (ByteArray × Sym)) (v : Value) (x : World) : Prop :=
 x.ownsRow w.heap.size 158 3 v l.length (codeCellsY l) ∧ Below w.heap.size w x
theorem first_bit (s : ByteArray) (p : Nat) (h : p + 1 ≤ 8 * s.size) : ∃ (t : Nat) (c : UInt8), tell s.data.toList p 1 = t ∧ t < 2 ∧ Lib.decDigits t = [c] ∧ (c = 48 ∨ c = 49) ∧ ((showL s.data.toList).drop p).take 1 = [c] := by
 obtain ⟨hn, hd⟩ := tell_last s.data.toList p 0 h
 have hlt := tell_lt s.data.toList p 1
 have hlt : tell s.data.toList p 1 < 2 := hlt
 have h01 : tell s.data.toList p (0 + 1) = tell s.data.toList p 1 := rfl
 rw [h01] at hd
 have hb : ((showL s.data.toList).drop p).take 1 = [((showL s.data.toList).drop p)[0]] := by
  rw [List.take_succ_eq_append_getElem hn]; rfl
 rcases hd with ⟨h1, h2⟩ | ⟨h1, h2⟩
 ·have ht : tell s.data.toList p 1 = 0 := by omega
  exact ⟨0, 48, ht, by omega, by decide +kernel, .inl rfl, by rw [hb, h1]⟩
 ·have ht : tell s.data.toList p 1 = 1 := by omega
  exact ⟨1, 49, ht, by omega, by decide +kernel, .inr rfl, by rw [hb, h1]⟩
theorem upto_rows (inter : Bool) (c : UInt8) : ∀ x ∈ upto inter [c] 24, x.1.size ≤ maxLen := fun x hx => by
 rw [upto_all] at hx
 have h := (okRow_inv (all_ok inter x (List.mem_filter.1 hx).1)).2.1
 have e : (rowCY x).length = x.1.size := rfl
 unfold maxLen
 omega
theorem made_freeY {l ds : List (ByteArray × Sym)} (h : mkPY l) (hp : ds.Perm l) : free (ds.map rowCY) ∧ ∀ x ∈ ds, okRow (rowCY x) = true :=
 ⟨(free_perm (hp.map rowCY)).2 h.2.2.2.1, fun x hx => h.2.2.1 x (hp.mem_iff.1 hx)⟩
theorem grown_drewN {w x : World} {row : Option Nat} (h : w.grownBy x row) (n : Nat) : w.grownBy (x.drewN n) row := ⟨h.os, h.tape, h.output, h.size, h.block⟩
theorem grown_alloc {w x : World} {row : Option Nat} (h : w.grownBy x row) (o : Obj) : w.grownBy (x.alloc o) row := by
 have g := World.grownBy_alloc x o none
 refine ⟨g.os.trans h.os, g.tape.trans h.tape, g.output.trans h.output, Nat.le_trans h.size g.size, fun k hk hn => ?_⟩
 exact (g.block k (Nat.lt_of_lt_of_le hk h.size) (by simp)).trans (h.block k hk hn)
theorem mid_a (inter : Bool) (c : UInt8) (L : List (ByteArray × Sym)) (hL : upto inter [c] 24 = L) (w : World) :
  Calls Tryz.prog 93 #[.slice (some ⟨w.heap.size, 0, none⟩) 0 24, .func (.func 111) #[] #[.pointer (some ⟨w.heap.size + 1, 0, none⟩), .pointer (some ⟨w.heap.size + 1 + 1, 0, none⟩)]]
   (((w.alloc (roomObj 24)).alloc (.cells #[.bool inter] 4)).alloc (.cells #[.string ⟨#[c]⟩] 9)).drew fun e w' => ∃ v, e = .returned v ∧ CodesMid w L v w' := by
 have h1 := Boxed.new (w.alloc (roomObj 24)) 4 (.bool inter)
 have h2 := Boxed.new ((w.alloc (roomObj 24)).alloc (.cells #[.bool inter] 4)) 9 (.string ⟨#[c]⟩)
 have h3 := h1.alloc (.cells #[.string ⟨#[c]⟩] 9)
 rw [World.size_alloc] at h3 h2
 rw [World.size_alloc] at h2
 have hB : Below w.heap.size w (((w.alloc (roomObj 24)).alloc (.cells #[.bool inter] 4)).alloc (.cells #[.string ⟨#[c]⟩] 9)).drew := ((((Below.refl _ w).alloc (Nat.le_refl _) _).alloc (by simp) _).alloc (by simp; omega) _).drew
 refine (append_codes w.heap.size (w.heap.size + 1) (w.heap.size + 1 + 1) inter ⟨#[c]⟩ _ _ hB.size (((room_own w (Nat.le_refl _)).alloc _).alloc _) ⟨_, _, rfl⟩ h3 h2).mono ?_
 rintro e w' ⟨v, rfl, ho, hb⟩
 have e1 : (⟨#[c]⟩ : ByteArray).data.toList = [c] := rfl
 rw [e1, hL] at ho
 exact ⟨v, rfl, ho, hB.trans hb⟩
theorem mid_b (inter : Bool) (c : UInt8) (L : List (ByteArray × Sym)) (hL : upto inter [c] 24 = L) (w : World) :
  Calls Tryz.prog 93 #[.slice (some ⟨w.heap.size + 1 + 1, 0, none⟩) 0 24, .func (.func 111) #[] #[.pointer (some ⟨w.heap.size, 0, none⟩), .pointer (some ⟨w.heap.size + 1, 0, none⟩)]]
   (((w.alloc (.cells #[.bool inter] 4)).alloc (.cells #[.string ⟨#[c]⟩] 9)).alloc (roomObj 24)).drew fun e w' => ∃ v, e = .returned v ∧ CodesMid w L v w' := by
 have h1 := ((Boxed.new w 4 (.bool inter)).alloc (.cells #[.string ⟨#[c]⟩] 9)).alloc (roomObj 24)
 have h2 := (Boxed.new (w.alloc (.cells #[.bool inter] 4)) 9 (.string ⟨#[c]⟩)).alloc (roomObj 24)
 rw [World.size_alloc] at h2
 have hr := room_own ((w.alloc (.cells #[.bool inter] 4)).alloc (.cells #[.string ⟨#[c]⟩] 9)) (base := w.heap.size) (by simp; omega)
 rw [World.size_alloc, World.size_alloc] at hr
 have hB : Below w.heap.size w (((w.alloc (.cells #[.bool inter] 4)).alloc (.cells #[.string ⟨#[c]⟩] 9)).alloc (roomObj 24)).drew := ((((Below.refl _ w).alloc (Nat.le_refl _) _).alloc (by simp) _).alloc (by simp; omega) _).drew
 refine (append_codes w.heap.size w.heap.size (w.heap.size + 1) inter ⟨#[c]⟩ _ _ hB.size hr ⟨_, _, rfl⟩ h1 h2).mono ?_
 rintro e w' ⟨v, rfl, ho, hb⟩
 have e1 : (⟨#[c]⟩ : ByteArray).data.toList = [c] := rfl
 rw [e1, hL] at ho
 exact ⟨v, rfl, ho, hB.trans hb⟩
set_option maxRecDepth 100000 in
set_option maxHeartbeats 1000000 in
theorem mtake_code (inter : Bool) (w : World) (rb : Nat) (s : ByteArray) (p : Nat) (hr : IsRd w rb s p) :
  Calls Tryz.prog 81 #[.pointer (some ⟨rb, 0, none⟩), .bool inter] w (MTake inter s rb p w) := by
 obtain ⟨bs, hbs⟩ : ∃ bs, (showL s.data.toList).drop p = bs := ⟨_, rfl⟩
 have hbl : bs.length = 8 * s.size - p := by rw [← hbs, List.length_drop, showL_length]; rfl
 have hpl := hr.2.1
 have hrlt := hr.lt
 have HBS := Lib.hid hbs
 by_cases hsh : 8 * s.size < p + 1
 ·have hask : ask s.data.toList p 1 = (0, 2) := ask_short (by omega) (by have : s.data.toList.length = s.size := rfl; omega)
  have F := Lib.hid (mtk_not inter (b := bs) (n := 0) (f := 2) (by
   cases bs with
   | nil => rfl
   | cons a l => simp at hbl; omega) (by decide))
  clear hsh hbl hbs
  go_enter Tryz.func81, Tryz.ntmps81
  go_wp2_with fail
  refine (peek_code _ _ _ _ 1 hr).mono ?_
  rintro e w1 ⟨rfl, hb1⟩
  rw [hask]
  have hr1 := hr.below hb1
  have hg1 : w.grownBy w1 (some rb) := ⟨hb1.os, hb1.tape, hb1.output, hb1.size, fun k hk _ => hb1.block k hk⟩
  go_wp2
  go_ret3
  exact mtake_at (n := 0) (by rw [HBS.out]; exact F.out) hr1 hg1
 obtain ⟨t, c, ht, ht2, hdd, hc, hb1⟩ := first_bit s p (by omega)
 have hask : ask s.data.toList p 1 = ((t : Int), 0) := by
  have := ask_ok (l := s.data.toList) (p := p) (n := 1) (by omega) (by have : s.data.toList.length = s.size := rfl; omega)
  rw [this, show (1 : Int).toNat = 1 from rfl, ht]
 rw [hbs] at hb1
 obtain ⟨L, hL⟩ : ∃ L, upto inter [c] 24 = L := ⟨_, rfl⟩
 have hmk := upto_mk inter hc
 have hrow := upto_rows inter c
 have hll := upto_len inter [c] 24
 have htu := fun (ds : List (ByteArray × Sym)) (hp : ds.Perm L) => tk_upto inter hb1 (ds := ds) (by rw [hL]; exact hp)
 have hin : ∀ x ∈ L, x ∈ allC inter := fun x hx => by
  rw [← hL, upto_all] at hx
  exact (List.mem_filter.1 hx).1
 rw [hL] at hmk hrow hll
 have MK := Lib.hid hmk
 have HT := Lib.hid htu
 have HIN := Lib.hid hin
 have HLL := Lib.hid hL
 have hit := fun w => itoa_small t (by omega) w
 rw [hdd] at hit
 have hroom := fun w => run_room w
 clear hmk htu hin hL hb1 hdd hc ht hsh hbl hbs
 go_enter Tryz.func81, Tryz.ntmps81
 go_wp2_with fail
 refine (peek_code _ _ _ _ 1 hr).mono ?_
 rintro e w1 ⟨rfl, hb1⟩
 rw [hask]
 have hr1 := hr.below hb1
 go_upto_region 4 with (fail)
 go_cut [9] from 21 to 26 (fun v x => CodesMid w1 L v x)
 case first =>
  go_region_with (first
   | (go_at_call 95; refine (hit _).mono ?_; rintro e w' ⟨rfl, rfl⟩)
   | (go_at_call 94; refine (codes_code inter _ _).mono ?_; rintro e w' ⟨rfl, rfl⟩)
   | (go_at_call 93; (first | with_reducible refine (mid_a inter c L HLL.out _).mono ?_ | with_reducible refine (mid_b inter c L HLL.out _).mono ?_); rintro e w2 ⟨v, rfl, hm⟩))
  all_goals
   go_wp2
   go_meet
   case rel => exact hm
 case rest =>
  obtain ⟨hown, hb2⟩ := hcut
  obtain ⟨q, cap, rfl, hcds⟩ := owns_codesY hown
  have hr2 : IsRd wc rb s p := by
   have h := hr1.lt
   exact ⟨by rw [hb2.block rb h]; exact hr1.1, hr1.2⟩
  have hbw2 : Below w.heap.size w wc := hb1.trans (hb2.mono hb1.size)
  have hrl2 : rb < wc.heap.size := hr2.lt
  clear hown hb2 hr1 hb1 hit hroom hr hask
  go_wp2_with fail
  refine (make_codeY L q cap _ hcds (by unfold maxLen; omega) hrow).mono ?_
  rintro e w3 ⟨hy, _, hb3⟩
  obtain ⟨tb, ds, rfl, ht, hp, hs⟩ := hy MK.out
  obtain ⟨hf, ho⟩ := made_freeY MK.out hp
  have hr3 := hr2.below hb3
  have hbw3 : Below w.heap.size w w3 := hbw2.trans (hb3.mono hbw2.size)
  have HS := Lib.hid hs
  have HF := Lib.hid hf
  have HO := Lib.hid ho
  have HP := Lib.hid hp
  have IT := Lib.hid ht
  clear hy hs hf ho hp ht hr2 hb3 hbw2 hcds hrow hll
  go_wp2_with fail
  refine (at_code _ _ _ _ hr3).mono ?_
  rintro e w' ⟨rfl, rfl⟩
  go_wp2_with fail
  refine (ttake_codeY _ _ _ tb rb ds _ s p IT.out hr3 (.inl hrl2) HS.out HF.out HO.out).mono ?_
  rintro e w4 ⟨v, rfl, hv0, hv1, hr4, hg4⟩
  rw [HBS.out, HT.out ds HP.out] at hv0 hv1 hr4 ⊢
  obtain ⟨f, n, hk⟩ : ∃ f n, tk ((allC inter).map rowCY) bs 25 1 = (f, n) := ⟨_, _, rfl⟩
  rw [hk] at hv0 hv1 hr4 ⊢
  have HK := Lib.hid hk
  have V0 := Lib.hid hv0
  have V1 := Lib.hid hv1
  have hcd := tk_codes ((allC inter).map rowCY) bs 25 1
  rw [hk] at hcd
  have hgw4 : w.grownBy w4 (some rb) := by
   refine ⟨hg4.os.trans hbw3.os, hg4.tape.trans hbw3.tape, hg4.output.trans hbw3.output, Nat.le_trans hbw3.size hg4.size, fun k hk hn => ?_⟩
   exact (hg4.block k (Nat.lt_of_lt_of_le hk hbw3.size) hn).trans (hbw3.block k hk)
  have evs : valSy v = .agg #[.int .i64 (sA v), .int .i64 (sB v)] := rfl
  rw [evs]
  clear hk hv0 hv1 hg4 hr3 hbw3 evs
  by_cases h0 : f = 0
  ·subst h0
   obtain ⟨x, hx, hxr, hxv⟩ := V0.out rfl
   have hxa := HIN.out x (HP.out.mem_iff.1 hx)
   have F0 := mtk_yes inter HK.out hxa hxr
   rw [hxv] at F0
   by_cases h2 : sA v = 2
   ·rw [if_pos h2] at F0
    have F := Lib.hid F0
    have g2 : (sA v == 2) = true := by rw [h2]; rfl
    have hr5 : IsRd (w4.alloc (.cells #[.int .i64 0, .int .i64 0] 156)) rb s (p + n) := hr4.below ((Below.refl _ w4).alloc (Nat.le_refl _) _)
    have hg5 : w.grownBy (w4.alloc (.cells #[.int .i64 0, .int .i64 0] 156)) (some rb) := (grown_alloc hgw4 _)
    have hrl4 := hr4.lt
    clear F0 h2 hxv hxr hx hxa hr4 hgw4
    go_wp2_with fail
    refine (seek_code _ _ _ _ (p : Int) hr5 (by omega) (by omega)).mono ?_
    rintro e w6 ⟨rfl, hr6, hg6⟩
    have hbx : w6.heap[w4.heap.size]? = some (twoObj 0 0) := (hg6.block w4.heap.size (by simp) (by intro e; injection e with e; omega)).trans (heap_alloc_new w4 _)
    obtain ⟨n0, n1, _, _⟩ := two_cells hbx
    have hg7 := grown_trans hg5 hg6
    rw [Int.toNat_natCast] at hr6
    go_wp2_with fail
    go_quiet (fail)
    go_wp2
    go_ret3
    exact mtake_at (n := 0) (by rw [HBS.out]; exact F.out) hr6 (grown_drewN hg7 _)
   ·rw [if_neg h2] at F0
    have F := Lib.hid F0
    have g2 : (sA v == 2) = false := by rw [beq_eq_false_iff_ne]; exact h2
    clear F0 h2 hxv hxr hx hxa
    go_wp2
    go_quiet (fail)
    go_wp2
    go_ret3
    exact mtake_at (n := n) (by rw [HBS.out]; exact F.out) (hr4.below (below_drewN ((Below.refl _ w4).alloc (Nat.le_refl _) _) _)) (grown_drewN (grown_alloc hgw4 _) _)
  ·obtain rfl := V1.out h0
   have hn : n = 0 := by
    rcases hcd with h | h | h
    ·exact absurd h h0
    ·exact h.2
    ·exact h.2
   subst hn
   have F := Lib.hid (mtk_not inter HK.out h0)
   have g0 : (f == 0) = false := by rw [beq_eq_false_iff_ne]; exact h0
   clear h0 hcd
   go_wp2
   go_quiet (fail)
   go_wp2
   go_ret3
   exact mtake_at (n := 0) (by rw [HBS.out]; exact F.out) (hr4.below (below_drewN ((Below.refl _ w4).alloc (Nat.le_refl _) _) _)) (grown_drewN (grown_alloc hgw4 _) _)
end Go.Proofs.YtekjgcchnmnplaaGreatDoor

namespace Go.Proofs.YtekjgcchnmnplaaGreatDoor
open Go.RowKit Go.Lib
theorem cellC_all {inter : Bool} {i : Nat} (h : i < 24) (hr : (!(rowCY (cellC inter i)).isEmpty) = true) : cellC inter i ∈ allC inter :=
 List.mem_filter.2 ⟨List.mem_map_of_mem (List.mem_range.2 h), hr⟩
end Go.Proofs.YtekjgcchnmnplaaGreatDoor
