/- Texts that SheetoutBack's proof stands on, part 43 of 52. No condition of its own. -/
import Derived.Test.YtgikochfffdpfaaGreatDoorSheetoutBackMc
import Derived.Test.YtgikochfffdpfaaGreatDoorSheetoutBackMu
import Derived.Test.YtgikochfffdpfaaGreatDoorSheetoutBackMbm
import Derived.Test.YtgikochfffdpfaaGreatDoorSheetoutBackMbn
import Derived.Test.YtgikochfffdpfaaGreatDoorSheetoutBackMbp
import Derived.WalkMore
import Derived.IntWalk
import Derived.BigQuiet
import Derived.Deep.QuietTactic
import Derived.Laws.MakeOwn
namespace Go.Proofs.YtgikochfffdpfaaGreatDoor
def Yk9 (inter:Bool):List (ByteArray×Sym):=((List.range 24).map (Yj2 inter)).filter fun x=> !(Yar x).isEmpty
def mtk (inter:Bool) (b:List UInt8):Int×Int×Int×Nat:=
 if (tk ((Yk9 inter).map Yar) b 25 1).1=0 then
  match (Yk9 inter).find? (fun x=> Yar x==b.take (tk ((Yk9 inter).map Yar) b 25 1).2) with
  | some x=> if sA x.2=2 then (0,0,6,0) else (sA x.2,sB x.2,0,(tk ((Yk9 inter).map Yar) b 25 1).2)
  | none=> (0,0,0,0)
 else (0,0,(tk ((Yk9 inter).map Yar) b 25 1).1,0)
theorem Yr7 (inter:Bool):Yhf ((Yk9 inter).map Yar):=by
 cases inter <;> (unfold Yhf;decide +kernel)
theorem Y5g (inter:Bool):∀x∈Yk9 inter,Ycc (Yar x)=true:=by
 cases inter <;> decide +kernel
theorem Yky (inter:Bool) (c:UInt8):Ynf inter [c] 24=(Yk9 inter).filter fun x=> [c].isPrefixOf (Yar x):=by
 unfold Ynf Yk9
 rw [List.filter_filter]
 apply List.filter_congr
 intro x _
 cases h:[c].isPrefixOf (Yar x) with
 | false=> rfl
 | true=>
  cases hr:Yar x with
  | nil=> rw [hr] at h;cases h
  | cons a l=> rfl
theorem Qgw (inter:Bool) {c:UInt8} (hc:c=48∨c=49):Qag (Ynf inter [c] 24):=by
 have hf:Yhf ((Ynf inter [c] 24).map Yar):=by
  rw [Yky]
  exact (Yr7 inter).sublist ((List.filter_sublist).map Yar)
 have ho:∀x∈Ynf inter [c] 24,Ycc (Yar x)=true:=fun x hx=> by
  rw [Yky] at hx
  exact Y5g inter x (List.mem_filter.1 hx).1
 refine ⟨?_,Nat.le_trans (Ytz inter [c] 24) (by omega),ho,hf,?_⟩
 ·rcases hc with rfl | rfl <;> cases inter <;> decide +kernel
 ·rcases hc with rfl | rfl <;> cases inter <;> decide +kernel
theorem Qgu (inter:Bool) {b:List UInt8} {c:UInt8} (h:b.take 1 = [c]) {ds:List (ByteArray×Sym)} (hp:ds.Perm (Ynf inter [c] 24)):tk (ds.map Yar) b 25 1=tk ((Yk9 inter).map Yar) b 25 1:=by
 have hl:1≤b.length:=by
  cases b with
  | nil=> cases h
  | cons a l=> simp
 rw [Yzh (hp.map Yar),Ytu ((Yk9 inter).map Yar) b hl 25 1 (Nat.le_refl _),Yky,List.filter_map,h]
 rfl
theorem Qe8 (inter:Bool) {x y:ByteArray×Sym} (hx:x∈Yk9 inter) (hy:y∈Yk9 inter) (h:Yar x=Yar y):x=y:=by
 obtain ⟨i,hi,rfl⟩:=List.getElem_of_mem hx
 obtain ⟨j,hj,rfl⟩:=List.getElem_of_mem hy
 by_cases hij:i=j
 ·subst hij;rfl
 ·exfalso
  have:=Yke.1 (Yr7 inter) i j (by simpa using hi) (by simpa using hj) hij
  rw [List.getElem_map,List.getElem_map,h,Ydn] at this
  cases this
theorem Qat (inter:Bool) {x:ByteArray×Sym} (hx:x∈Yk9 inter) {q:List UInt8} (hq:Yar x=q):(Yk9 inter).find? (fun y=> Yar y==q)=some x:=by
 cases h:(Yk9 inter).find? (fun y=> Yar y==q) with
 | none=>
  have:=List.find?_eq_none.1 h x hx
  rw [hq] at this
  simp at this
 | some y=>
  have h1:=List.find?_some h
  have h2:=List.mem_of_find?_eq_some h
  rw [Qe8 inter h2 hx ((beq_iff_eq.1 h1).trans hq.symm)]
theorem Yys (inter:Bool) {b:List UInt8} {n:Nat} {x:ByteArray×Sym} (ht:tk ((Yk9 inter).map Yar) b 25 1=(0,n)) (hx:x∈Yk9 inter) (hq:Yar x=b.take n):
  mtk inter b=if sA x.2=2 then (0,0,6,0) else (sA x.2,sB x.2,0,n):=by
 unfold mtk
 rw [ht,if_pos rfl,Qat inter hx hq]
theorem Ys7 (inter:Bool) {b:List UInt8} {n:Nat} {f:Int} (ht:tk ((Yk9 inter).map Yar) b 25 1=(f,n)) (hf:f≠0):mtk inter b=(0,0,f,0):=by
 unfold mtk
 rw [ht,if_neg hf]
end Go.Proofs.YtgikochfffdpfaaGreatDoor
namespace Go.Proofs.YtgikochfffdpfaaGreatDoor
open Go.RowKit Go.Lib
theorem Y50 {inter:Bool} {i:Nat} (h:i<24) (hr:(!(Yar (Yj2 inter i)).isEmpty)=true):Yj2 inter i∈Yk9 inter:=
 List.mem_filter.2 ⟨List.mem_map_of_mem (List.mem_range.2 h),hr⟩
theorem Y2k (inter:Bool) (f:ByteArray) (w:World):
  Calls Tryz.prog 207 #[.bool inter,.string f] w fun e w'=> e = .returned (.func (.func 221) #[] #[.pointer (some ⟨w.heap.size,0,none⟩),.pointer (some ⟨w.heap.size+1,0,none⟩)])∧w'=(w.alloc (.cells #[.bool inter] 4)).alloc (.cells #[.string f] 9):=by
 go_enter Tryz.func207,Tryz.ntmps207
 go_wp2
 go_ret
 exact ⟨rfl,rfl⟩
def Yf3 (n:Nat):Obj:=.cells (madeCells (Value.agg #[.string ⟨#[]⟩,.int .i64 0,.int .i64 0]).cells (n*3)) 237 (0,0)
theorem Qdg (w:World):(Instr.makeSlice 232 (.int .i64 0) (.int .i64 24)).run Tryz.prog w = .ok (.slice (some ⟨w.heap.size,0,none⟩) 0 24) (w.alloc (Yf3 24)):=by
 obtain ⟨i0,hi,hz0,hz1,hz2⟩:=info_parts Ylm
 have:=run_make (P:=Tryz.prog) w 232 237 i0 _ Tryz.underlying232 hi hz0 .i64 .i64 0 24 (by omega) (by omega) (by rw [hz2];omega) (by omega)
 rw [hz1] at this
 exact this
theorem Y0z (w:World) {base:Nat} (h:base≤w.heap.size):(w.alloc (Yf3 24)).ownsRow base 237 3 (.slice (some ⟨w.heap.size,0,none⟩) 0 24) 0 []:=
 World.ownsRow_made w _ 24 h (by decide) (size_madeCells _ _)
def Qal (inter:Bool) (s:ByteArray) (rb p:Nat) (w:World) (e:Ending) (w':World):Prop:=
 e = .returned (.tuple #[.int .i64 (mtk inter ((Yac s.data.toList).drop p)).1,.int .i64 (mtk inter ((Yac s.data.toList).drop p)).2.1,.int .i64 (mtk inter ((Yac s.data.toList).drop p)).2.2.1])∧
  Ybb w' rb s (p+(mtk inter ((Yac s.data.toList).drop p)).2.2.2)∧w.grownBy w' (some rb)
theorem Ynb {inter:Bool} {s:ByteArray} {rb p n:Nat} {w w':World} {a b f:Int} (h:mtk inter ((Yac s.data.toList).drop p)=(a,b,f,n)) (hr:Ybb w' rb s (p+n)) (hg:w.grownBy w' (some rb)):
  Qal inter s rb p w (.returned (.tuple #[.int .i64 a,.int .i64 b,.int .i64 f])) w':=by
 unfold Qal
 rw [h]
 exact ⟨rfl,hr,hg⟩
def Yr1 (w:World) (l:List (ByteArray×Sym)) (v:Value) (x:World):Prop:=
 x.ownsRow w.heap.size 237 3 v l.length (Yax l)∧Below w.heap.size w x
theorem Y64 (s:ByteArray) (p:Nat) (h:p+1≤8*s.size):∃(t:Nat) (c:UInt8),Ya5 s.data.toList p 1=t∧t<2∧Lib.decDigits t = [c]∧(c=48∨c=49)∧((Yac s.data.toList).drop p).take 1 = [c]:=by
 obtain ⟨hn,hd⟩:=Yib s.data.toList p 0 h
 have hlt:=Ycg s.data.toList p 1
 have hlt:Ya5 s.data.toList p 1<2:=hlt
 have h01:Ya5 s.data.toList p (0+1)=Ya5 s.data.toList p 1:=rfl
 rw [h01] at hd
 have hb:((Yac s.data.toList).drop p).take 1 = [((Yac s.data.toList).drop p)[0]]:=by
  rw [List.take_succ_eq_append_getElem hn];rfl
 rcases hd with ⟨h1,h2⟩ | ⟨h1,h2⟩
 ·have ht:Ya5 s.data.toList p 1=0:=by omega
  exact ⟨0,48,ht,by omega,by decide +kernel,.inl rfl,by rw [hb,h1]⟩
 ·have ht:Ya5 s.data.toList p 1=1:=by omega
  exact ⟨1,49,ht,by omega,by decide +kernel,.inr rfl,by rw [hb,h1]⟩
theorem Y94 (inter:Bool) (c:UInt8):∀x∈Ynf inter [c] 24,x.1.size≤maxLen:=fun x hx=> by
 rw [Yky] at hx
 have h:=(Ybw (Y5g inter x (List.mem_filter.1 hx).1)).2.1
 have e:(Yar x).length=x.1.size:=rfl
 unfold maxLen
 omega
theorem Y3b {l ds:List (ByteArray×Sym)} (h:Qag l) (hp:ds.Perm l):Yhf (ds.map Yar)∧∀x∈ds,Ycc (Yar x)=true:=
 ⟨(Ygb (hp.map Yar)).2 h.2.2.2.1,fun x hx=> h.2.2.1 x (hp.mem_iff.1 hx)⟩
theorem Yji {w x:World} {row:Option Nat} (h:w.grownBy x row) (n:Nat):w.grownBy (x.drewN n) row:=⟨h.os,h.tape,h.output,h.size,h.block⟩
theorem Yjh {w x:World} {row:Option Nat} (h:w.grownBy x row) (o:Obj):w.grownBy (x.alloc o) row:=by
 have g:=World.grownBy_alloc x o none
 refine ⟨g.os.trans h.os,g.tape.trans h.tape,g.output.trans h.output,Nat.le_trans h.size g.size,fun k hk hn=> ?_⟩
 exact (g.block k (Nat.lt_of_lt_of_le hk h.size) (by simp)).trans (h.block k hk hn)
theorem Qh0 (inter:Bool) (c:UInt8) (L:List (ByteArray×Sym)) (hL:Ynf inter [c] 24=L) (w:World):
  Calls Tryz.prog 206 #[.slice (some ⟨w.heap.size,0,none⟩) 0 24,.func (.func 221) #[] #[.pointer (some ⟨w.heap.size+1,0,none⟩),.pointer (some ⟨w.heap.size+1+1,0,none⟩)]]
   (((w.alloc (Yf3 24)).alloc (.cells #[.bool inter] 4)).alloc (.cells #[.string ⟨#[c]⟩] 9)).drew fun e w'=>∃v,e = .returned v∧Yr1 w L v w':=by
 have h1:=Boxed.new (w.alloc (Yf3 24)) 4 (.bool inter)
 have h2:=Boxed.new ((w.alloc (Yf3 24)).alloc (.cells #[.bool inter] 4)) 9 (.string ⟨#[c]⟩)
 have h3:=h1.alloc (.cells #[.string ⟨#[c]⟩] 9)
 rw [World.size_alloc] at h3 h2
 rw [World.size_alloc] at h2
 have hB:Below w.heap.size w (((w.alloc (Yf3 24)).alloc (.cells #[.bool inter] 4)).alloc (.cells #[.string ⟨#[c]⟩] 9)).drew:=((((Below.refl _ w).alloc (Nat.le_refl _) _).alloc (by simp) _).alloc (by simp;omega) _).drew
 refine (Yl7 w.heap.size (w.heap.size+1) (w.heap.size+1+1) inter ⟨#[c]⟩ _ _ hB.size (((Y0z w (Nat.le_refl _)).alloc _).alloc _) ⟨_,_,rfl⟩ h3 h2).mono ?_
 rintro e w' ⟨v,rfl,ho,hb⟩
 have e1:(⟨#[c]⟩:ByteArray).data.toList = [c]:=rfl
 rw [e1,hL] at ho
 exact ⟨v,rfl,ho,hB.trans hb⟩
theorem Qh1 (inter:Bool) (c:UInt8) (L:List (ByteArray×Sym)) (hL:Ynf inter [c] 24=L) (w:World):
  Calls Tryz.prog 206 #[.slice (some ⟨w.heap.size+1+1,0,none⟩) 0 24,.func (.func 221) #[] #[.pointer (some ⟨w.heap.size,0,none⟩),.pointer (some ⟨w.heap.size+1,0,none⟩)]]
   (((w.alloc (.cells #[.bool inter] 4)).alloc (.cells #[.string ⟨#[c]⟩] 9)).alloc (Yf3 24)).drew fun e w'=>∃v,e = .returned v∧Yr1 w L v w':=by
 have h1:=((Boxed.new w 4 (.bool inter)).alloc (.cells #[.string ⟨#[c]⟩] 9)).alloc (Yf3 24)
 have h2:=(Boxed.new (w.alloc (.cells #[.bool inter] 4)) 9 (.string ⟨#[c]⟩)).alloc (Yf3 24)
 rw [World.size_alloc] at h2
 have hr:=Y0z ((w.alloc (.cells #[.bool inter] 4)).alloc (.cells #[.string ⟨#[c]⟩] 9)) (base:=w.heap.size) (by simp;omega)
 rw [World.size_alloc,World.size_alloc] at hr
 have hB:Below w.heap.size w (((w.alloc (.cells #[.bool inter] 4)).alloc (.cells #[.string ⟨#[c]⟩] 9)).alloc (Yf3 24)).drew:=((((Below.refl _ w).alloc (Nat.le_refl _) _).alloc (by simp) _).alloc (by simp;omega) _).drew
 refine (Yl7 w.heap.size w.heap.size (w.heap.size+1) inter ⟨#[c]⟩ _ _ hB.size hr ⟨_,_,rfl⟩ h1 h2).mono ?_
 rintro e w' ⟨v,rfl,ho,hb⟩
 have e1:(⟨#[c]⟩:ByteArray).data.toList = [c]:=rfl
 rw [e1,hL] at ho
 exact ⟨v,rfl,ho,hB.trans hb⟩
set_option maxRecDepth 100000 in
set_option maxHeartbeats 1000000 in
theorem Y3f (inter:Bool) (w:World) (rb:Nat) (s:ByteArray) (p:Nat) (hr:Ybb w rb s p):
  Calls Tryz.prog 197 #[.pointer (some ⟨rb,0,none⟩),.bool inter] w (Qal inter s rb p w):=by
 obtain ⟨bs,hbs⟩:∃bs,(Yac s.data.toList).drop p=bs:=⟨_,rfl⟩
 have hbl:bs.length=8*s.size-p:=by rw [←hbs,List.length_drop,Yas];rfl
 have hpl:=hr.2.1
 have hrlt:=hr.lt
 have HBS:=Lib.hid hbs
 by_cases hsh:8*s.size<p+1
 ·have hask:ask s.data.toList p 1=(0,2):=Ybj (by omega) (by have:s.data.toList.length=s.size:=rfl;omega)
  have F:=Lib.hid (Ys7 inter (b:=bs) (n:=0) (f:=2) (by
   cases bs with
   | nil=> rfl
   | cons a l=> simp at hbl;omega) (by decide))
  clear hsh hbl hbs
  go_enter Tryz.func197,Tryz.ntmps197
  go_wp2_with fail
  refine (Ybk _ _ _ _ 1 hr).mono ?_
  rintro e w1 ⟨rfl,hb1⟩
  rw [hask]
  have hr1:=hr.below hb1
  have hg1:w.grownBy w1 (some rb):=⟨hb1.os,hb1.tape,hb1.output,hb1.size,fun k hk _=> hb1.block k hk⟩
  go_wp2
  go_ret3
  exact Ynb (n:=0) (by rw [HBS.out];exact F.out) hr1 hg1
 obtain ⟨t,c,ht,ht2,hdd,hc,hb1⟩:=Y64 s p (by omega)
 have hask:ask s.data.toList p 1=((t:Int),0):=by
  have:=Ycz (l:=s.data.toList) (p:=p) (n:=1) (by omega) (by have:s.data.toList.length=s.size:=rfl;omega)
  rw [this,show (1:Int).toNat=1 from rfl,ht]
 rw [hbs] at hb1
 obtain ⟨L,hL⟩:∃L,Ynf inter [c] 24=L:=⟨_,rfl⟩
 have hmk:=Qgw inter hc
 have hrow:=Y94 inter c
 have hll:=Ytz inter [c] 24
 have htu:=fun (ds:List (ByteArray×Sym)) (hp:ds.Perm L)=> Qgu inter hb1 (ds:=ds) (by rw [hL];exact hp)
 have hin:∀x∈L,x∈Yk9 inter:=fun x hx=> by
  rw [←hL,Yky] at hx
  exact (List.mem_filter.1 hx).1
 rw [hL] at hmk hrow hll
 have MK:=Lib.hid hmk
 have HT:=Lib.hid htu
 have HIN:=Lib.hid hin
 have HLL:=Lib.hid hL
 have hit:=fun w=> Y25 t (by omega) w
 rw [hdd] at hit
 have hroom:=fun w=> Qdg w
 clear hmk htu hin hL hb1 hdd hc ht hsh hbl hbs
 go_enter Tryz.func197,Tryz.ntmps197
 go_wp2_with fail
 refine (Ybk _ _ _ _ 1 hr).mono ?_
 rintro e w1 ⟨rfl,hb1⟩
 rw [hask]
 have hr1:=hr.below hb1
 go_upto_region 4 with (fail)
 go_cut [9] from 21 to 26 (fun v x=> Yr1 w1 L v x)
 case first=>
  go_region_with (first
   | (go_at_call 208;refine (hit _).mono ?_;rintro e w' ⟨rfl,rfl⟩)
   | (go_at_call 207;refine (Y2k inter _ _).mono ?_;rintro e w' ⟨rfl,rfl⟩)
   | (go_at_call 206;(first | with_reducible refine (Qh0 inter c L HLL.out _).mono ?_ | with_reducible refine (Qh1 inter c L HLL.out _).mono ?_);rintro e w2 ⟨v,rfl,hm⟩))
  all_goals
   go_wp2
   go_meet
   case rel=> exact hm
 case rest=>
  obtain ⟨hown,hb2⟩:=hcut
  obtain ⟨q,cap,rfl,hcds⟩:=You hown
  have hr2:Ybb wc rb s p:=by
   have h:=hr1.lt
   exact ⟨by rw [hb2.block rb h];exact hr1.1,hr1.2⟩
  have hbw2:Below w.heap.size w wc:=hb1.trans (hb2.mono hb1.size)
  have hrl2:rb<wc.heap.size:=hr2.lt
  clear hown hb2 hr1 hb1 hit hroom hr hask
  go_wp2_with fail
  refine (Y3c L q cap _ hcds (by unfold maxLen;omega) hrow).mono ?_
  rintro e w3 ⟨hy,_,hb3⟩
  obtain ⟨tb,ds,rfl,ht,hp,hs⟩:=hy MK.out
  obtain ⟨hf,ho⟩:=Y3b MK.out hp
  have hr3:=hr2.below hb3
  have hbw3:Below w.heap.size w w3:=hbw2.trans (hb3.mono hbw2.size)
  have HS:=Lib.hid hs
  have HF:=Lib.hid hf
  have HO:=Lib.hid ho
  have HP:=Lib.hid hp
  have IT:=Lib.hid ht
  clear hy hs hf ho hp ht hr2 hb3 hbw2 hcds hrow hll
  go_wp2_with fail
  refine (Yb7 _ _ _ _ hr3).mono ?_
  rintro e w' ⟨rfl,rfl⟩
  go_wp2_with fail
  refine (Yzj _ _ _ tb rb ds _ s p IT.out hr3 (.inl hrl2) HS.out HF.out HO.out).mono ?_
  rintro e w4 ⟨v,rfl,hv0,hv1,hr4,hg4⟩
  rw [HBS.out,HT.out ds HP.out] at hv0 hv1 hr4 ⊢
  obtain ⟨f,n,hk⟩:∃f n,tk ((Yk9 inter).map Yar) bs 25 1=(f,n):=⟨_,_,rfl⟩
  rw [hk] at hv0 hv1 hr4 ⊢
  have HK:=Lib.hid hk
  have V0:=Lib.hid hv0
  have V1:=Lib.hid hv1
  have hcd:=Ytt ((Yk9 inter).map Yar) bs 25 1
  rw [hk] at hcd
  have hgw4:w.grownBy w4 (some rb):=by
   refine ⟨hg4.os.trans hbw3.os,hg4.tape.trans hbw3.tape,hg4.output.trans hbw3.output,Nat.le_trans hbw3.size hg4.size,fun k hk hn=> ?_⟩
   exact (hg4.block k (Nat.lt_of_lt_of_le hk hbw3.size) hn).trans (hbw3.block k hk)
  have evs:Qd5 v = .agg #[.int .i64 (sA v),.int .i64 (sB v)]:=rfl
  rw [evs]
  clear hk hv0 hv1 hg4 hr3 hbw3 evs
  by_cases h0:f=0
  ·subst h0
   obtain ⟨x,hx,hxr,hxv⟩:=V0.out rfl
   have hxa:=HIN.out x (HP.out.mem_iff.1 hx)
   have F0:=Yys inter HK.out hxa hxr
   rw [hxv] at F0
   by_cases h2:sA v=2
   ·rw [if_pos h2] at F0
    have F:=Lib.hid F0
    have g2:(sA v==2)=true:=by rw [h2];rfl
    have hr5:Ybb (w4.alloc (.cells #[.int .i64 0,.int .i64 0] 235)) rb s (p+n):=hr4.below ((Below.refl _ w4).alloc (Nat.le_refl _) _)
    have hg5:w.grownBy (w4.alloc (.cells #[.int .i64 0,.int .i64 0] 235)) (some rb):=(Yjh hgw4 _)
    have hrl4:=hr4.lt
    clear F0 h2 hxv hxr hx hxa hr4 hgw4
    go_wp2_with fail
    refine (Ybs _ _ _ _ (p:Int) hr5 (by omega) (by omega)).mono ?_
    rintro e w6 ⟨rfl,hr6,hg6⟩
    have hbx:w6.heap[w4.heap.size]? = some (Ykw 0 0):=(hg6.block w4.heap.size (by simp) (by intro e;injection e with e;omega)).trans (heap_alloc_new w4 _)
    obtain ⟨n0,n1,_,_⟩:=Ykx hbx
    have hg7:=Yad hg5 hg6
    rw [Int.toNat_natCast] at hr6
    go_wp2_with fail
    go_quiet (fail)
    go_wp2
    go_ret3
    exact Ynb (n:=0) (by rw [HBS.out];exact F.out) hr6 (Yji hg7 _)
   ·rw [if_neg h2] at F0
    have F:=Lib.hid F0
    have g2:(sA v==2)=false:=by rw [beq_eq_false_iff_ne];exact h2
    clear F0 h2 hxv hxr hx hxa
    go_wp2
    go_quiet (fail)
    go_wp2
    go_ret3
    exact Ynb (n:=n) (by rw [HBS.out];exact F.out) (hr4.below (Yeb ((Below.refl _ w4).alloc (Nat.le_refl _) _) _)) (Yji (Yjh hgw4 _) _)
  ·obtain rfl:=V1.out h0
   have hn:n=0:=by
    rcases hcd with h | h | h
    ·exact absurd h h0
    ·exact h.2
    ·exact h.2
   subst hn
   have F:=Lib.hid (Ys7 inter HK.out h0)
   have g0:(f==0)=false:=by rw [beq_eq_false_iff_ne];exact h0
   clear h0 hcd
   go_wp2
   go_quiet (fail)
   go_wp2
   go_ret3
   exact Ynb (n:=0) (by rw [HBS.out];exact F.out) (hr4.below (Yeb ((Below.refl _ w4).alloc (Nat.le_refl _) _) _)) (Yji (Yjh hgw4 _) _)
end Go.Proofs.YtgikochfffdpfaaGreatDoor