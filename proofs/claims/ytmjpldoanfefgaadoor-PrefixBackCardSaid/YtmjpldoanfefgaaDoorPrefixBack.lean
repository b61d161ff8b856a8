/- Symbols whose rows stand one behind the other are taken again by their table; and the chapter's example comes out. Conditions: none but the law's own (up to 300 codes, of up to 60 digits, and 100 symbols), and the card's: what the listed variables hold when the call begins, tied to the program's text. -/
import Derived.Test.YtmjpldoanfefgaaDoorCards
import Derived.Test.YtmjpldoanfefgaaDoorTie
import Derived.Test.YtmjpldoanfefgaaDoorLaw5
import Derived.Test.YtmjpldoanfefgaaDoorLaws
import Derived.ProofKit
import Derived.Deep.DeepCutAuto
import Derived.Deep.CutRange
import Derived.Deep.CutBlock
import Derived.LaidMore
import Derived.OpenShut
import Derived.Lay
import Derived.SizedLaws
import Derived.SevenTiedAt
import Derived.Stop.Joined
namespace Go.Proofs.YtmjpldoanfefgaaDoor
open Go.ChangeShapes Go.WideShapes Go.ChangeAt Go.RowKit
set_option linter.unusedVariables false



/-- The rows of some codes, one behind the other. -/
def rowsC (l : List (ByteArray × Int)) : List UInt8 := l.flatMap rowC
theorem rowsC_take (l : List (ByteArray × Int)) (j : Nat) (h : j < l.length) : rowsC (l.take (j + 1)) = rowsC (l.take j) ++ rowC l[j] := by
  unfold rowsC
  rw [List.take_succ_eq_append_getElem h, List.flatMap_append]
  simp
theorem rowsC_row {l : List (ByteArray × Int)} (h : ∀ x ∈ l, okRow (rowC x) = true) : isRow (rowsC l) = true := by
  unfold rowsC isRow
  rw [List.all_flatMap, List.all_eq_true]
  exact fun x hx => (okRow_inv (h x hx)).2.2
theorem rowsC_most {l : List (ByteArray × Int)} (h : ∀ x ∈ l, okRow (rowC x) = true) : (rowsC l).length ≤ 24 * l.length := by
  induction l with
  | nil => exact Nat.le_refl _
  | cons x l ih =>
    have e : rowsC (x :: l) = rowC x ++ rowsC l := by simp [rowsC]
    have h1 := ih fun y hy => h y (List.mem_cons_of_mem _ hy)
    have h2 := (okRow_inv (h x List.mem_cons_self)).2.1
    rw [e, List.length_append, List.length_cons]
    omega
/-- What stands at a pick's place in the bytes of all rows. -/
theorem pick_begins {l : List (ByteArray × Int)} (h : ∀ x ∈ l, okRow (rowC x) = true) (j : Nat) (hj : j < l.length) : (rowC l[j]).isPrefixOf ((showL (packL (rowsC l))).drop (rowsC (l.take j)).length) = true := by
  have e : rowsC l = rowsC (l.take j) ++ (rowC l[j] ++ rowsC (l.drop (j + 1))) := by
    rw [← List.append_assoc, ← rowsC_take l j hj]
    unfold rowsC
    rw [← List.flatMap_append, List.take_append_drop]
  rw [show_pack _ (rowsC_row h)]
  unfold padL
  conv => lhs; rw [e]
  rw [List.append_assoc, List.drop_left' rfl, List.append_assoc, List.isPrefixOf_iff_prefix]
  exact List.prefix_append _ _

/-- Bytes that come in. -/
theorem rows_bytes {w : World} {p : Option Addr} {len : Nat} (h : RowsAt w ByteVal 1 p len) : ∃ l : List Nat, l.length = len ∧ (∀ x ∈ l, x < 256) ∧ (len = 0 ∨ ∃ b o, p = some ⟨b, o, none⟩ ∧ b < w.heap.size ∧ ∀ i, (h : i < l.length) → w.cell? ⟨b, o + i, none⟩ = some (.int .u8 (l[i] : Int))) := by
  rcases h with rfl | ⟨b, o, rfl, hb, hv⟩
  · exact ⟨[], rfl, (fun x hx => by cases hx), .inl rfl⟩
  · suffices ∀ n, n ≤ len → ∃ l : List Nat, l.length = n ∧ (∀ x ∈ l, x < 256) ∧ ∀ i, (h : i < l.length) → w.cell? ⟨b, o + i, none⟩ = some (.int .u8 (l[i] : Int)) by
      obtain ⟨l, h1, h2, h3⟩ := this len (Nat.le_refl _)
      exact ⟨l, h1, h2, .inr ⟨b, o, rfl, hb, h3⟩⟩
    intro n
    induction n with
    | zero => exact fun _ => ⟨[], rfl, (fun x hx => by cases hx), fun i hi => absurd hi (Nat.not_lt_zero i)⟩
    | succ n ih =>
      intro hn
      obtain ⟨l, h1, h2, h3⟩ := ih (by omega)
      obtain ⟨vs, _, ⟨x, rfl, hx⟩, hc⟩ := hv n (by omega)
      refine ⟨l ++ [x], by simp [h1], fun y hy => ?_, fun i hi => ?_⟩
      · rcases List.mem_append.1 hy with hy | hy
        · exact h2 y hy
        · rw [List.mem_singleton] at hy; rw [hy]; exact hx
      · by_cases hin : i < l.length
        · rw [List.getElem_append_left hin]
          exact h3 i hin
        · obtain rfl : i = l.length := by rw [List.length_append, List.length_singleton] at hi; omega
          rw [List.getElem_concat_length rfl, h1]
          have := hc 0 _ rfl
          rw [Nat.mul_one] at this
          exact this
theorem opt_ba {a : ByteArray} {l : List UInt8} (h : a.data.toList = l) : a = ⟨l.toArray⟩ := by
  subst h
  obtain ⟨⟨l⟩⟩ := a
  rfl

/-- The pick at a place is taken there. -/
theorem pick_taken {l ds pk : List (ByteArray × Int)} (h : mkP l) (hp : ds.Perm l) (hin : ∀ x ∈ pk, x ∈ l) (j : Nat) (hj : j < pk.length) :
    tk (ds.map rowC) ((showL (packL (rowsC pk))).drop (rowsC (pk.take j)).length) 25 1 = (0, (rowC pk[j]).length) ∧
      ∀ v, (∃ x ∈ ds, rowC x = ((showL (packL (rowsC pk))).drop (rowsC (pk.take j)).length).take (rowC pk[j]).length ∧ x.2 = v) → v = pk[j].2 := by
  obtain ⟨hf, ho⟩ := made_free h hp
  have hok : ∀ x ∈ pk, okRow (rowC x) = true := fun x hx => h.2.2.1 x (hin x hx)
  have hm : pk[j] ∈ ds := hp.mem_iff.2 (hin _ (List.getElem_mem hj))
  have hb := pick_begins hok j hj
  have hr := okRow_inv (hok _ (List.getElem_mem hj))
  have h1 := List.length_pos_iff.2 hr.1
  refine ⟨tk_row hf (List.mem_map_of_mem hm) hb (by omega) (by omega), ?_⟩
  rintro v ⟨x, hx, he, rfl⟩
  rw [pre_take.1 hb] at he
  rw [free_one hf hx hm he]
set_option maxRecDepth 100000 in
set_option maxHeartbeats 16000000 in
theorem prefixBack_walk (p : Option Addr) (len cap : Nat) (pp : Option Addr) (plen pcap : Nat) (w : World) (hx0 : RowsAt w CodeVals 2 p len) (hm : len ≤ maxLen) (hx1 : RowsAt w ByteVal 1 pp plen) (hpm : plen ≤ maxLen) :
    Calls Tryd.prog 5 #[.slice p len cap, .slice pp plen pcap] w fun e w' => e = .returned (.bool true) ∧ Below w.heap.size w w' := by
  obtain ⟨l, rfl, hc, hl⟩ := rows_codes hx0
  obtain ⟨P, rfl, hP, hpc⟩ := rows_bytes hx1
  have hm' := hm
  unfold maxLen at hm hpm
  clear hx0 hx1
  cases hsm : smallB l with
  | false =>
    have SM := Lib.hid hsm
    clear hsm
    go_enter Tryd.func5, Tryd.ntmps5
    go_wp2_with fail
    refine (small_page l p cap _ hc hm').mono ?_
    rintro e w' ⟨rfl, rfl⟩
    rw [SM.out]
    go_wp2_with (go_at_call 8; refine (lives5 _).mono ?_; rintro e w' ⟨rfl, hb⟩)
    go_ret
    exact ⟨rfl, hb⟩
  | true =>
    obtain ⟨h300, h60⟩ := small_parts hsm
    have SM := Lib.hid hsm
    clear hsm
    by_cases h100 : 100 < P.length
    · have t0 : decide (100 < (P.length : Int)) = true := by simp; omega
      clear h100
      go_enter Tryd.func5, Tryd.ntmps5
      go_wp2_with fail
      refine (small_page l p cap _ hc hm').mono ?_
      rintro e w' ⟨rfl, rfl⟩
      rw [SM.out]
      go_wp2_with (go_at_call 8; refine (lives5 _).mono ?_; rintro e w' ⟨rfl, hb⟩)
      go_ret
      exact ⟨rfl, hb⟩
    have t0 : decide (100 < (P.length : Int)) = false := by simp; omega
    by_cases hl0 : l.length = 0
    · have t1 : ((l.length : Int) == 0) = true := by rw [beq_iff_eq]; omega
      clear hl0
      go_enter Tryd.func5, Tryd.ntmps5
      go_wp2_with fail
      refine (small_page l p cap _ hc hm').mono ?_
      rintro e w' ⟨rfl, rfl⟩
      rw [SM.out]
      go_wp2_with (go_at_call 8; refine (lives5 _).mono ?_; rintro e w' ⟨rfl, hb⟩)
      go_ret
      exact ⟨rfl, hb⟩
    have t1 : ((l.length : Int) == 0) = false := by rw [beq_eq_false_iff_ne]; omega
    obtain ⟨B, hB⟩ : ∃ B, w.heap.size = B := ⟨_, rfl⟩
    -- what stands at the picks, in whatever later world
    obtain ⟨b, o, rfl, hblt, hcells⟩ := hc.at (by omega)
    have hE : ∀ x, Below B w x → ∀ i, (h : i < l.length) → x.cell? ⟨b, o + i * 2 + 1, none⟩ = some (.int .i64 l[i].2) := fun x hx i hi => (World.cell?_of_block (a := ⟨b, o + i * 2 + 1, none⟩) (hx.block b (by omega))).trans (hcells i hi).2
    have hF : ∀ x, Below B w x → ∀ i, (h : i < P.length) → ∃ c d, pp = some ⟨c, d, none⟩ ∧ x.cell? ⟨c, d + i, none⟩ = some (.int .u8 (P[i] : Int)) := by
      intro x hx i hi
      rcases hpc with h | ⟨c, d, h1, h2, h3⟩
      · omega
      · exact ⟨c, d, h1, (World.cell?_of_block (a := ⟨c, d + i, none⟩) (hx.block c (by omega))).trans (h3 i hi)⟩
    have EE := Lib.hid hE
    have FF := Lib.hid hF
    have HC := Lib.hid hc
    have HL := Lib.hid hl
    have HB := Lib.hid hB
    have HP := Lib.hid hP
    rw [hB]
    clear hE hF hc hl h60 hB hP hpc hcells hblt
    go_enter Tryd.func5, Tryd.ntmps5
    go_wp2_with fail
    refine (small_page l _ cap _ HC.out hm').mono ?_
    rintro e w' ⟨rfl, rfl⟩
    rw [SM.out]
    go_wp2_with fail
    refine (of_page l _ cap _ HC.out h300).mono ?_
    rintro e w1 ⟨q, cq, r, cr, rfl, hq, _, hb1⟩
    rw [HB.out] at hb1
    have hz1 : B ≤ w1.heap.size := by have := hb1.size; rw [HB.out] at this; exact this
    go_wp2_with fail
    refine (make_code l q cq _ hq hm' HL.out).mono ?_
    rintro e w2 ⟨hy, hn, hb2⟩
    have hb3 : Below B w w2 := hb1.trans (hb2.mono hz1)
    have hz2 : B ≤ w2.heap.size := Nat.le_trans hz1 hb2.size
    clear hq hb1 hz1 hb2
    by_cases hmk : mkP l
    · obtain ⟨tb, ds, rfl, htb, hp, hso⟩ := hy hmk
      obtain ⟨hf, ho⟩ := made_free hmk hp
      clear hy hn
      have hlp : 0 < l.length := by omega
      obtain ⟨pk, hpk⟩ : ∃ pk : List (ByteArray × Int), pk = P.map fun x => l[x % l.length]'(Nat.mod_lt _ hlp) := ⟨_, rfl⟩
      have hpl : pk.length = P.length := by rw [hpk, List.length_map]
      have hpi : ∀ i, (h : i < P.length) → ∃ hk : i < pk.length, pk[i] = l[P[i] % l.length]'(Nat.mod_lt _ hlp) := by
        intro i hi
        refine ⟨by omega, ?_⟩
        subst hpk
        rw [List.getElem_map]
      have hpin : ∀ x ∈ pk, x ∈ l := by
        intro x hx
        rw [hpk] at hx
        obtain ⟨y, _, rfl⟩ := List.mem_map.1 hx
        exact List.getElem_mem _
      have hpok : ∀ x ∈ pk, okRow (rowC x) = true := fun x hx => hmk.2.2.1 x (hpin x hx)
      obtain ⟨N, hN⟩ : ∃ N, w2.heap.size = N := ⟨_, rfl⟩
      rw [hN] at htb hz2
      have htR : ∀ x, Below N w2 x → IsTb x N tb ds (longL l : Nat) := fun x hx => htb.below (by rw [hN]; exact hx)
      have hbR : ∀ x, Below N w2 x → Below B w x := fun x hx => hb3.trans (hx.mono hz2)
      have hb4 : Below N w2 w2 := by rw [← hN]; exact Below.refl _ _
      have TR := Lib.hid htR
      have BR := Lib.hid hbR
      have MK := Lib.hid hmk
      have HPE := Lib.hid hp
      have HS := Lib.hid hso
      have HFR := Lib.hid hf
      have HO := Lib.hid ho
      have HN := Lib.hid hN
      have PL := Lib.hid hpl
      have PI := Lib.hid hpi
      have PIN := Lib.hid hpin
      have POK := Lib.hid hpok
      clear htR hbR htb hb3 hmk hp hso hf ho hN hpk hpl hpi hpin hpok
      go_wp2_with fail
      go_loopw [9, 10] (fun t i wr => ∃ j : Nat, j ≤ P.length ∧ i = .int .i64 j ∧ t = .string ⟨(rowsC (pk.take j)).toArray⟩ ∧ Below N w2 wr) (fun _ i _ => P.length - (intOf i).toNat)
      case atStart => exact ⟨0, Nat.zero_le _, rfl, rfl, hb4⟩
      case round =>
        clear hb4
        obtain ⟨j, hj, rfl, rfl, hb⟩ := hrel
        by_cases hlt : j < P.length
        · obtain ⟨c, d, rfl, k0⟩ := FF.out _ (BR.out _ hb) j hlt
          obtain ⟨hjk, hpj⟩ := PI.out j hlt
          obtain ⟨y, hy⟩ : ∃ y, P[j] = y := ⟨_, rfl⟩
          have hy256 : y < 256 := by rw [← hy]; exact HP.out _ (List.getElem_mem hlt)
          have k1 := EE.out _ (BR.out _ hb) (y % l.length) (Nat.mod_lt _ hlp)
          rw [hy] at k0
          have hml : y % l.length < l.length := Nat.mod_lt _ hlp
          have hix : l[y % l.length] = pk[j] := by
            rw [hpj]
            congr 1
            rw [hy]
          rw [hix] at k1
          have hwf := (HL.out _ (PIN.out _ (List.getElem_mem hjk))).2
          have hin := HPE.out.mem_iff.2 (PIN.out _ (List.getElem_mem hjk))
          have RT := Lib.hid (rowsC_take pk j hjk)
          have hrl := rowsC_most (l := pk.take j) fun x hx => POK.out x (List.mem_of_mem_take hx)
          rw [List.length_take] at hrl
          have hrl2 : (rowsC (pk.take j)).length ≤ 2400 := by omega
          have hxl := (okRow_inv (POK.out _ (List.getElem_mem hjk))).2.1
          obtain ⟨x, hx⟩ : ∃ x, pk[j] = x := ⟨_, rfl⟩
          rw [hx] at k1 hwf hin RT hxl
          clear hix hpj hy hrl hx
          go_wp2_with fail
          refine (trow_code _ N tb ds _ x.2 (TR.out _ hb) hwf).mono ?_
          rintro e w' ⟨v, ok, rfl, rfl, _, hyes⟩
          obtain ⟨hv, rfl⟩ := hyes x hin rfl
          obtain rfl := opt_ba (l := rowC x) hv
          clear hyes hv
          go_wp2_with fail
          go_roundw
          case rel => exact ⟨j + 1, by omega, by go_num, by rw [RT.out, bytes_append], hb⟩
          case measure => simp [intOf]; omega
        · obtain rfl : j = P.length := by omega
          have hpa : pk.take P.length = pk := List.take_of_length_le (by rw [PL.out]; exact Nat.le_refl _)
          rw [hpa]
          have hrow : isRow (rowsC pk) = true := rowsC_row POK.out
          have hmost := rowsC_most POK.out
          rw [PL.out] at hmost
          have hal : (rowsC pk).length ≤ 2400 := by omega
          have TK := Lib.hid (fun k (hk : k < pk.length) => pick_taken MK.out HPE.out PIN.out k hk)
          have RTK := Lib.hid (fun k (hk : k < pk.length) => rowsC_take pk k hk)
          obtain ⟨all, hall⟩ : ∃ all, rowsC pk = all := ⟨_, rfl⟩
          have RA := Lib.hid hall
          rw [hall] at hrow hal TK ⊢
          have hz5 : N ≤ wr.heap.size := by have := hb.size; rw [HN.out] at this; exact this
          clear hall hmost hpa
          go_wp2_with fail
          refine (pack_page ⟨all.toArray⟩ (by rw [size_mk]; omega) hrow _).mono ?_
          rintro e x0 ⟨rfl, hb5⟩
          have hb6 : Below N w2 x0 := hb.trans (hb5.mono hz5)
          have hz6 : N ≤ x0.heap.size := Nat.le_trans hz5 hb5.size
          rw [show (⟨all.toArray⟩ : ByteArray).data.toList = all from rfl]
          obtain ⟨R, hR⟩ : ∃ R, x0.heap.size = R := ⟨_, rfl⟩
          obtain ⟨T, hT⟩ : ∃ T : ByteArray, (⟨(packL all).toArray⟩ : ByteArray) = T := ⟨_, rfl⟩
          have hTl : T.data.toList = packL all := by rw [← hT]
          have hTs : T.size ≤ 140737488355328 := by rw [← hT, size_mk, packL_length]; omega
          rw [hT]
          rw [hR] at hz6
          have hrd0 : IsRd (x0.alloc (rdObj T 0)) R T 0 := IsRd.fresh hR hTs
          have hb7 : Below N w2 (x0.alloc (rdObj T 0)) := hb6.alloc (by omega) _
          have hz7 : R < (x0.alloc (rdObj T 0)).heap.size := by simp; omega
          have HR := Lib.hid hR
          have TL := Lib.hid hTl
          clear hb hz5 hb5 hb6 hR hT hTl hrow
          go_wp2_with fail
          refine (rnew_code _ _).mono ?_
          rintro e w3 ⟨rfl, rfl⟩
          rw [HR.out]
          generalize x0.alloc (rdObj T 0) = x1 at hrd0 hb7 hz7 ⊢
          go_wp2_with fail
          go_loopw [14, 15, 16] (fun i _ _ wx => ∃ k : Nat, k ≤ P.length ∧ i = .int .i64 k ∧ IsRd wx R T (rowsC (pk.take k)).length ∧ Below N w2 wx ∧ R < wx.heap.size) (fun i _ _ _ => P.length - (intOf i).toNat)
          case atStart => exact ⟨0, Nat.zero_le _, rfl, hrd0, hb7, hz7⟩
          case round =>
            clear hrd0 hb7 hz7
            obtain ⟨k, hk, rfl, hrd, hb, hz⟩ := hrel
            by_cases hlt2 : k < P.length
            · obtain ⟨c, d, rfl, k0⟩ := FF.out _ (BR.out _ hb) k hlt2
              obtain ⟨hjk, hpj⟩ := PI.out k hlt2
              obtain ⟨y, hy⟩ : ∃ y, P[k] = y := ⟨_, rfl⟩
              have hy256 : y < 256 := by rw [← hy]; exact HP.out _ (List.getElem_mem hlt2)
              have hml : y % l.length < l.length := Nat.mod_lt _ hlp
              have hix : l[y % l.length] = pk[k] := by
                rw [hpj]
                congr 1
                rw [hy]
              obtain ⟨t1, t2⟩ := TK.out k hjk
              have RT := Lib.hid (RTK.out k hjk)
              have T1 := Lib.hid t1
              have T2 := Lib.hid t2
              have IX := Lib.hid hix
              have HY := Lib.hid hy
              clear hpj hy t1 t2 hix k0
              go_wp2_with fail
              refine (ttake_code _ N tb R ds _ T _ (TR.out _ hb) hrd hz6 HS.out HFR.out HO.out).mono ?_
              rintro e x2 ⟨v, rfl, hv, _, hrd2, hg⟩
              rw [TL.out, T1.out] at hv hrd2 ⊢
              obtain rfl := T2.out v (hv rfl)
              have hb2 : Below N w2 x2 := hb.grown hg (by omega) (by intro q hq; injection hq with hq; omega)
              have hz2' : R < x2.heap.size := Nat.lt_of_lt_of_le hz hg.size
              have hrd3 : IsRd x2 R T (rowsC (pk.take (k + 1))).length := by rw [RT.out, List.length_append]; exact hrd2
              obtain ⟨_, _, e, k0⟩ := FF.out _ (BR.out _ hb2) k hlt2
              cases e
              have k1 := EE.out _ (BR.out _ hb2) (y % l.length) hml
              rw [HY.out] at k0
              rw [IX.out] at k1
              clear hv hrd2 hg hrd hb hz
              go_wp2_with fail
              go_roundw
              case rel => exact ⟨k + 1, by omega, by go_num, hrd3, hb2, hz2'⟩
              case measure => simp [intOf]; omega
            · obtain rfl : k = P.length := by omega
              have hpa : pk.take P.length = pk := List.take_of_length_le (by rw [PL.out]; exact Nat.le_refl _)
              rw [hpa, RA.out] at hrd
              have hbB := BR.out _ hb
              have hzB : B ≤ wr.heap.size := by omega
              clear hpa
              go_wp2_with (first
                | (go_at_call 20; refine (at_code _ _ _ _ hrd).mono ?_; rintro e w' ⟨rfl, rfl⟩)
                | (go_at_call 8; refine (lives5 _).mono ?_; rintro e w' ⟨rfl, hb8⟩))
              go_ret
              exact ⟨rfl, hbB.trans (hb8.mono hzB)⟩
    · obtain rfl := hn hmk
      clear hy hn hmk
      go_wp2_with (go_at_call 8; refine (lives5 _).mono ?_; rintro e w' ⟨rfl, hb⟩)
      go_ret
      exact ⟨rfl, hb3.trans (hb.mono hz2)⟩
theorem prefixBack_own : ownKnob Tryd.prog.godebug = none := by kernel_rfl
theorem prefixBack_laid : laidOutB Tryd.prog = true := by kernel_rfl
theorem prefixBack_reads : Tryd.f5.params.toList.all (fun t => Tryd.prog.readableRec t && decide (t < Tryd.prog.types.size)) = true := by kernel_rfl

set_option maxRecDepth 100000 in
theorem prefixBack_lifted (os : Os) (started : os.Started) (H : Type) (enc : TypeId × Value → H) :
    ReturnsInHanded {} Tryd.checked os 5 .any (fun w args => (Rows.prefixBackSpec.pre enc Tryd.prog Tryd.f5 Rows.prefixBackRow.domain false w args ∧ laidMetH Tryd.prog Rows.prefixBackRow.laid w) ∧ sizedMet enc Tryd.prog Tryd.f5 (OpenSpec.ofChange Rows.prefixBackSpec) false w args)
      (Rows.prefixBackSpec.post enc Tryd.prog Tryd.f5 false true false false) := by
  refine returnsInHanded_of_change_and (C := Tryd.checked) (X := fun w _ => laidMetH Tryd.prog Rows.prefixBackRow.laid w) (fun _ _ _ hh h => h.of_heap hh) prefixBack_own started (by kernel_rfl) Tryd.func5
    (ChangeSpec.witness_shaped (enc := enc) (C := Tryd.checked) (os := os) (X := fun w _ => laidMetH Tryd.prog Rows.prefixBackRow.laid w) false (World.laidAll Tryd.prog os Rows.prefixBackRow.laid) #[.slice none 0 0, .slice none 0 0] 8 (World.laidAll_os _ _ _)
      (World.shaped_of_ZipB (by kernel_rfl) (by kernel_rfl)) (by kernel_rfl) (by kernel_rfl) (by kernel_rfl)
      (by rw [MakeChecks.laidMetH_plain _ _ _ (by kernel_rfl)]; exact laidMet_laidAll _ (by kernel_rfl) (by kernel_rfl))) ?_
  intro W base args ds gs before hval0 hW _ hsz0 _ _
  have hval : ∀ (j : Nat) t v, Tryd.f5.params[j]? = some t → args[j]? = some v → Value.okWide Tryd.prog W .any base t v := hval0
  have hW' := hW
  obtain ⟨p, q, hA0, hV, rfl, hfz, hnd⟩ := hW
  have hA : DataW.TrodAll enc Tryd.prog W 0 (fun _ => true) true Tryd.f5.params.toList args.toList ds p := hA0
  rw [Tryd.params5] at hA hval
  obtain ⟨v0, vs0, d0, ds0, p0, q0, hargs, rfl, rfl, h0, r0⟩ := trodAll_cons hA
  obtain ⟨v1, vs1, d1, ds1, p1, q1, rfl, rfl, rfl, h1, r1⟩ := trodAll_cons r0
  obtain ⟨rfl, rfl, rfl⟩ := trodAll_nil r1
  obtain rfl : args = #[v0, v1] := by cases args; simp_all
  obtain ⟨rfl, rfl⟩ := trodVars_none hV
  obtain ⟨p0, l0, c0, rfl, w0, x0⟩ := open_rows 2 _ Tryd.underlying22 (by kernel_rfl) (by decide) (code_struct Tryd.underlying31 Tryd.underlying9 Tryd.underlying3 rfl rfl rfl rfl (by kernel_rfl) (by kernel_rfl)) (hval 0 22 v0 rfl rfl) h0
  obtain ⟨p1, l1, c1, rfl, w1, x1⟩ := open_rows 1 _ Tryd.underlying49 (by kernel_rfl) (by decide) (byte_one Tryd.underlying5) (hval 1 49 v1 rfl rfl) h1
  clear hA0 hval0
  refine (prefixBack_walk p0 l0 c0 p1 l1 c1 W x0 w0 x1 w1).mono fun e W' ⟨he, hb⟩ => ?_
  subst he
  exact ⟨_, rfl, law_end prefixBack_laid prefixBack_reads rfl Tryd.underlying4 rfl hW' rfl hb⟩

theorem prefixBack_over : Rows.prefixBackRow.holds Tryd.pinned (OpenSpec.ofChange Rows.prefixBackSpec) :=
  OpenClaim.holds_of_wide 5 Tryd.f5 rfl rfl rfl rfl rfl rfl rfl ⟨rfl, rfl, rfl, rfl, rfl⟩ rfl rfl rfl rfl rfl (by kernel_rfl) Tryd.func5 (by kernel_rfl)
    (of_decide_eq_true (by kernel_rfl)) (by unfold Func.isWrapper; first | (rw [if_pos (by decide +kernel)]; kernel_rfl) | (rw [if_neg (by decide +kernel)]; exact ⟨rfl, rfl⟩))
    (fun os started H enc _ => prefixBack_lifted os started H enc)

theorem prefixBack_holds : Rows.PrefixBackCardSaid :=
  Claim7.holds_tied_plain_at .later [] [.data, .pinned] true Rows.prefixBackCard.stood.harness false prefixBack_over (fun _ h => by cases h) (by kernel_rfl) (fun _ h => by cases h) prefixBack_row_tie rfl ⟨rfl, rfl⟩ (by kernel_rfl) rfl
    (fun f fn hf hfn => by
      obtain rfl : f = 5 := Option.some.inj ((show Tryd.prog.funcNamed "overspill/overspilllaw05.PrefixBack" = some 5 by kernel_rfl).symm.trans hf) |>.symm
      obtain rfl : fn = Tryd.f5 := (Option.some.inj (Tryd.func5.symm.trans hfn)).symm
      exact ⟨by kernel_rfl, fun j t ht => by
        rw [Tryd.params5] at ht
        have hm : t ∈ [22, 49] := by simpa using Array.mem_of_getElem? ht
        have hall : ([22, 49].all fun u => !Tryd.prog.wantsStandIn u) = true := by kernel_rfl
        exact (show Tryd.prog.wantsStandIn t = false by simpa using List.all_eq_true.1 hall t hm)⟩)
    (by kernel_rfl)
#print axioms prefixBack_holds
end Go.Proofs.YtmjpldoanfefgaaDoor
