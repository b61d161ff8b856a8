/- Texts that SheetinMay's proof stands on, part 38 of 52. No condition of its own. -/
import Derived.Test.YtpgdngijmihafaaGreatDoorSheetinMayMbi
import Derived.Test.YtpgdngijmihafaaGreatDoorSheetinMayMbk
import Derived.Laws.MakeOwn
namespace Go.Proofs.YtpgdngijmihafaaGreatDoor
def Yjr (inter:Bool):List (ByteArray×Sym):=((List.range 24).map (Yl3 inter)).filter fun x=> !(Yap x).isEmpty
def mtk (inter:Bool) (b:List UInt8):Int×Int×Int×Nat:=
 if (tk ((Yjr inter).map Yap) b 25 1).1=0 then
  match (Yjr inter).find? (fun x=> Yap x==b.take (tk ((Yjr inter).map Yap) b 25 1).2) with
  | some x=> if sA x.2=2 then (0,0,6,0) else (sA x.2,sB x.2,0,(tk ((Yjr inter).map Yap) b 25 1).2)
  | none=> (0,0,0,0)
 else (0,0,(tk ((Yjr inter).map Yap) b 25 1).1,0)
theorem Yu5 (inter:Bool):Yfr ((Yjr inter).map Yap):=by
 cases inter <;> (unfold Yfr;decide +kernel)
theorem Y7g (inter:Bool):∀x∈Yjr inter,Ybx (Yap x)=true:=by
 cases inter <;> decide +kernel
theorem Yib (inter:Bool) (c:UInt8):Yke inter [c] 24=(Yjr inter).filter fun x=> [c].isPrefixOf (Yap x):=by
 unfold Yke Yjr
 rw [List.filter_filter]
 apply List.filter_congr
 intro x _
 cases h:[c].isPrefixOf (Yap x) with
 | false=> rfl
 | true=>
  cases hr:Yap x with
  | nil=> rw [hr] at h;cases h
  | cons a l=> rfl
theorem Y93 (inter:Bool) {c:UInt8} (hc:c=48∨c=49):Y3w (Yke inter [c] 24):=by
 have hf:Yfr ((Yke inter [c] 24).map Yap):=by
  rw [Yib]
  exact (Yu5 inter).sublist ((List.filter_sublist).map Yap)
 have ho:∀x∈Yke inter [c] 24,Ybx (Yap x)=true:=fun x hx=> by
  rw [Yib] at hx
  exact Y7g inter x (List.mem_filter.1 hx).1
 refine ⟨?_,Nat.le_trans (Ypt inter [c] 24) (by omega),ho,hf,?_⟩
 ·rcases hc with rfl | rfl <;> cases inter <;> decide +kernel
 ·rcases hc with rfl | rfl <;> cases inter <;> decide +kernel
theorem Y91 (inter:Bool) {b:List UInt8} {c:UInt8} (h:b.take 1 = [c]) {ds:List (ByteArray×Sym)} (hp:ds.Perm (Yke inter [c] 24)):tk (ds.map Yap) b 25 1=tk ((Yjr inter).map Yap) b 25 1:=by
 have hl:1≤b.length:=by
  cases b with
  | nil=> cases h
  | cons a l=> simp
 rw [Yuv (hp.map Yap),Ypo ((Yjr inter).map Yap) b hl 25 1 (Nat.le_refl _),Yib,List.filter_map,h]
 rfl
theorem Y78 (inter:Bool) {x y:ByteArray×Sym} (hx:x∈Yjr inter) (hy:y∈Yjr inter) (h:Yap x=Yap y):x=y:=by
 obtain ⟨i,hi,rfl⟩:=List.getElem_of_mem hx
 obtain ⟨j,hj,rfl⟩:=List.getElem_of_mem hy
 by_cases hij:i=j
 ·subst hij;rfl
 ·exfalso
  have:=Yhy.1 (Yu5 inter) i j (by simpa using hi) (by simpa using hj) hij
  rw [List.getElem_map,List.getElem_map,h,Ycq] at this
  cases this
theorem Y33 (inter:Bool) {x:ByteArray×Sym} (hx:x∈Yjr inter) {q:List UInt8} (hq:Yap x=q):(Yjr inter).find? (fun y=> Yap y==q)=some x:=by
 cases h:(Yjr inter).find? (fun y=> Yap y==q) with
 | none=>
  have:=List.find?_eq_none.1 h x hx
  rw [hq] at this
  simp at this
 | some y=>
  have h1:=List.find?_some h
  have h2:=List.mem_of_find?_eq_some h
  rw [Y78 inter h2 hx ((beq_iff_eq.1 h1).trans hq.symm)]
theorem Y1x (inter:Bool) {b:List UInt8} {n:Nat} {x:ByteArray×Sym} (ht:tk ((Yjr inter).map Yap) b 25 1=(0,n)) (hx:x∈Yjr inter) (hq:Yap x=b.take n):
  mtk inter b=if sA x.2=2 then (0,0,6,0) else (sA x.2,sB x.2,0,n):=by
 unfold mtk
 rw [ht,if_pos rfl,Y33 inter hx hq]
theorem Yo1 (inter:Bool) {b:List UInt8} {n:Nat} {f:Int} (ht:tk ((Yjr inter).map Yap) b 25 1=(f,n)) (hf:f≠0):mtk inter b=(0,0,f,0):=by
 unfold mtk
 rw [ht,if_neg hf]
end Go.Proofs.YtpgdngijmihafaaGreatDoor
namespace Go.Proofs.YtpgdngijmihafaaGreatDoor
open Go.RowKit Go.Lib
theorem Yxf (inter:Bool) (f:ByteArray) (w:World):
  Calls Tryz.prog 161 #[.bool inter,.string f] w fun e w'=> e = .returned (.func (.func 181) #[] #[.pointer (some ⟨w.heap.size,0,none⟩),.pointer (some ⟨w.heap.size+1,0,none⟩)])∧w'=(w.alloc (.cells #[.bool inter] 4)).alloc (.cells #[.string f] 9):=by
 go_enter Tryz.func161,Tryz.ntmps161
 go_wp2
 go_ret
 exact ⟨rfl,rfl⟩
def Yep (n:Nat):Obj:=.cells (madeCells (Value.agg #[.string ⟨#[]⟩,.int .i64 0,.int .i64 0]).cells (n*3)) 207 (0,0)
theorem Y6k (w:World):(Instr.makeSlice 202 (.int .i64 0) (.int .i64 24)).run Tryz.prog w = .ok (.slice (some ⟨w.heap.size,0,none⟩) 0 24) (w.alloc (Yep 24)):=by
 obtain ⟨i0,hi,hz0,hz1,hz2⟩:=info_parts Yis
 have:=run_make (P:=Tryz.prog) w 202 207 i0 _ Tryz.underlying202 hi hz0 .i64 .i64 0 24 (by omega) (by omega) (by rw [hz2];omega) (by omega)
 rw [hz1] at this
 exact this
theorem Yv8 (w:World) {base:Nat} (h:base≤w.heap.size):(w.alloc (Yep 24)).ownsRow base 207 3 (.slice (some ⟨w.heap.size,0,none⟩) 0 24) 0 []:=
 World.ownsRow_made w _ 24 h (by decide) (size_madeCells _ _)
def Y3z (inter:Bool) (s:ByteArray) (rb p:Nat) (w:World) (e:Ending) (w':World):Prop:=
 e = .returned (.tuple #[.int .i64 (mtk inter ((Yac s.data.toList).drop p)).1,.int .i64 (mtk inter ((Yac s.data.toList).drop p)).2.1,.int .i64 (mtk inter ((Yac s.data.toList).drop p)).2.2.1])∧
  Ya5 w' rb s (p+(mtk inter ((Yac s.data.toList).drop p)).2.2.2)∧w.grownBy w' (some rb)
theorem Ykb {inter:Bool} {s:ByteArray} {rb p n:Nat} {w w':World} {a b f:Int} (h:mtk inter ((Yac s.data.toList).drop p)=(a,b,f,n)) (hr:Ya5 w' rb s (p+n)) (hg:w.grownBy w' (some rb)):
  Y3z inter s rb p w (.returned (.tuple #[.int .i64 a,.int .i64 b,.int .i64 f])) w':=by
 unfold Y3z
 rw [h]
 exact ⟨rfl,hr,hg⟩
def Ynz (w:World) (l:List (ByteArray×Sym)) (v:Value) (x:World):Prop:=
 x.ownsRow w.heap.size 207 3 v l.length (Yat l)∧Below w.heap.size w x
theorem Y1d (s:ByteArray) (p:Nat) (h:p+1≤8*s.size):∃(t:Nat) (c:UInt8),Ya1 s.data.toList p 1=t∧t<2∧Lib.decDigits t = [c]∧(c=48∨c=49)∧((Yac s.data.toList).drop p).take 1 = [c]:=by
 obtain ⟨hn,hd⟩:=Ygc s.data.toList p 0 h
 have hlt:=Ybv s.data.toList p 1
 have hlt:Ya1 s.data.toList p 1<2:=hlt
 have h01:Ya1 s.data.toList p (0+1)=Ya1 s.data.toList p 1:=rfl
 rw [h01] at hd
 have hb:((Yac s.data.toList).drop p).take 1 = [((Yac s.data.toList).drop p)[0]]:=by
  rw [List.take_succ_eq_append_getElem hn];rfl
 rcases hd with ⟨h1,h2⟩ | ⟨h1,h2⟩
 ·have ht:Ya1 s.data.toList p 1=0:=by omega
  exact ⟨0,48,ht,by omega,by decide +kernel,.inl rfl,by rw [hb,h1]⟩
 ·have ht:Ya1 s.data.toList p 1=1:=by omega
  exact ⟨1,49,ht,by omega,by decide +kernel,.inr rfl,by rw [hb,h1]⟩
theorem Y3j (inter:Bool) (c:UInt8):∀x∈Yke inter [c] 24,x.1.size≤maxLen:=fun x hx=> by
 rw [Yib] at hx
 have h:=(Ybr (Y7g inter x (List.mem_filter.1 hx).1)).2.1
 have e:(Yap x).length=x.1.size:=rfl
 unfold maxLen
 omega
theorem Yx1 {l ds:List (ByteArray×Sym)} (h:Y3w l) (hp:ds.Perm l):Yfr (ds.map Yap)∧∀x∈ds,Ybx (Yap x)=true:=
 ⟨(Yeu (hp.map Yap)).2 h.2.2.2.1,fun x hx=> h.2.2.1 x (hp.mem_iff.1 hx)⟩
theorem Yg8 {w x:World} {row:Option Nat} (h:w.grownBy x row) (n:Nat):w.grownBy (x.drewN n) row:=⟨h.os,h.tape,h.output,h.size,h.block⟩
theorem Yg7 {w x:World} {row:Option Nat} (h:w.grownBy x row) (o:Obj):w.grownBy (x.alloc o) row:=by
 have g:=World.grownBy_alloc x o none
 refine ⟨g.os.trans h.os,g.tape.trans h.tape,g.output.trans h.output,Nat.le_trans h.size g.size,fun k hk hn=> ?_⟩
 exact (g.block k (Nat.lt_of_lt_of_le hk h.size) (by simp)).trans (h.block k hk hn)
theorem Qa8 (inter:Bool) (c:UInt8) (L:List (ByteArray×Sym)) (hL:Yke inter [c] 24=L) (w:World):
  Calls Tryz.prog 160 #[.slice (some ⟨w.heap.size,0,none⟩) 0 24,.func (.func 181) #[] #[.pointer (some ⟨w.heap.size+1,0,none⟩),.pointer (some ⟨w.heap.size+1+1,0,none⟩)]]
   (((w.alloc (Yep 24)).alloc (.cells #[.bool inter] 4)).alloc (.cells #[.string ⟨#[c]⟩] 9)).drew fun e w'=>∃v,e = .returned v∧Ynz w L v w':=by
 have h1:=Boxed.new (w.alloc (Yep 24)) 4 (.bool inter)
 have h2:=Boxed.new ((w.alloc (Yep 24)).alloc (.cells #[.bool inter] 4)) 9 (.string ⟨#[c]⟩)
 have h3:=h1.alloc (.cells #[.string ⟨#[c]⟩] 9)
 rw [World.size_alloc] at h3 h2
 rw [World.size_alloc] at h2
 have hB:Below w.heap.size w (((w.alloc (Yep 24)).alloc (.cells #[.bool inter] 4)).alloc (.cells #[.string ⟨#[c]⟩] 9)).drew:=((((Below.refl _ w).alloc (Nat.le_refl _) _).alloc (by simp) _).alloc (by simp;omega) _).drew
 refine (Yja w.heap.size (w.heap.size+1) (w.heap.size+1+1) inter ⟨#[c]⟩ _ _ hB.size (((Yv8 w (Nat.le_refl _)).alloc _).alloc _) ⟨_,_,rfl⟩ h3 h2).mono ?_
 rintro e w' ⟨v,rfl,ho,hb⟩
 have e1:(⟨#[c]⟩:ByteArray).data.toList = [c]:=rfl
 rw [e1,hL] at ho
 exact ⟨v,rfl,ho,hB.trans hb⟩
theorem Qa9 (inter:Bool) (c:UInt8) (L:List (ByteArray×Sym)) (hL:Yke inter [c] 24=L) (w:World):
  Calls Tryz.prog 160 #[.slice (some ⟨w.heap.size+1+1,0,none⟩) 0 24,.func (.func 181) #[] #[.pointer (some ⟨w.heap.size,0,none⟩),.pointer (some ⟨w.heap.size+1,0,none⟩)]]
   (((w.alloc (.cells #[.bool inter] 4)).alloc (.cells #[.string ⟨#[c]⟩] 9)).alloc (Yep 24)).drew fun e w'=>∃v,e = .returned v∧Ynz w L v w':=by
 have h1:=((Boxed.new w 4 (.bool inter)).alloc (.cells #[.string ⟨#[c]⟩] 9)).alloc (Yep 24)
 have h2:=(Boxed.new (w.alloc (.cells #[.bool inter] 4)) 9 (.string ⟨#[c]⟩)).alloc (Yep 24)
 rw [World.size_alloc] at h2
 have hr:=Yv8 ((w.alloc (.cells #[.bool inter] 4)).alloc (.cells #[.string ⟨#[c]⟩] 9)) (base:=w.heap.size) (by simp;omega)
 rw [World.size_alloc,World.size_alloc] at hr
 have hB:Below w.heap.size w (((w.alloc (.cells #[.bool inter] 4)).alloc (.cells #[.string ⟨#[c]⟩] 9)).alloc (Yep 24)).drew:=((((Below.refl _ w).alloc (Nat.le_refl _) _).alloc (by simp) _).alloc (by simp;omega) _).drew
 refine (Yja w.heap.size w.heap.size (w.heap.size+1) inter ⟨#[c]⟩ _ _ hB.size hr ⟨_,_,rfl⟩ h1 h2).mono ?_
 rintro e w' ⟨v,rfl,ho,hb⟩
 have e1:(⟨#[c]⟩:ByteArray).data.toList = [c]:=rfl
 rw [e1,hL] at ho
 exact ⟨v,rfl,ho,hB.trans hb⟩
set_option maxRecDepth 100000 in
set_option maxHeartbeats 1000000 in
theorem Yx5 (inter:Bool) (w:World) (rb:Nat) (s:ByteArray) (p:Nat) (hr:Ya5 w rb s p):
  Calls Tryz.prog 149 #[.pointer (some ⟨rb,0,none⟩),.bool inter] w (Y3z inter s rb p w):=by
 obtain ⟨bs,hbs⟩:∃bs,(Yac s.data.toList).drop p=bs:=⟨_,rfl⟩
 have hbl:bs.length=8*s.size-p:=by rw [←hbs,List.length_drop,Yah];rfl
 have hpl:=hr.2.1
 have hrlt:=hr.lt
 have HBS:=Lib.hid hbs
 by_cases hsh:8*s.size<p+1
 ·have hask:ask s.data.toList p 1=(0,2):=Ybc (by omega) (by have:s.data.toList.length=s.size:=rfl;omega)
  have F:=Lib.hid (Yo1 inter (b:=bs) (n:=0) (f:=2) (by
   cases bs with
   | nil=> rfl
   | cons a l=> simp at hbl;omega) (by decide))
  clear hsh hbl hbs
  go_enter Tryz.func149,Tryz.ntmps149
  go_wp2_with fail
  refine (Ybd _ _ _ _ 1 hr).mono ?_
  rintro e w1 ⟨rfl,hb1⟩
  rw [hask]
  have hr1:=hr.below hb1
  have hg1:w.grownBy w1 (some rb):=⟨hb1.os,hb1.tape,hb1.output,hb1.size,fun k hk _=> hb1.block k hk⟩
  go_wp2
  go_ret3
  exact Ykb (n:=0) (by rw [HBS.out];exact F.out) hr1 hg1
 obtain ⟨t,c,ht,ht2,hdd,hc,hb1⟩:=Y1d s p (by omega)
 have hask:ask s.data.toList p 1=((t:Int),0):=by
  have:=Yce (l:=s.data.toList) (p:=p) (n:=1) (by omega) (by have:s.data.toList.length=s.size:=rfl;omega)
  rw [this,show (1:Int).toNat=1 from rfl,ht]
 rw [hbs] at hb1
 obtain ⟨L,hL⟩:∃L,Yke inter [c] 24=L:=⟨_,rfl⟩
 have hmk:=Y93 inter hc
 have hrow:=Y3j inter c
 have hll:=Ypt inter [c] 24
 have htu:=fun (ds:List (ByteArray×Sym)) (hp:ds.Perm L)=> Y91 inter hb1 (ds:=ds) (by rw [hL];exact hp)
 have hin:∀x∈L,x∈Yjr inter:=fun x hx=> by
  rw [←hL,Yib] at hx
  exact (List.mem_filter.1 hx).1
 rw [hL] at hmk hrow hll
 have MK:=Lib.hid hmk
 have HT:=Lib.hid htu
 have HIN:=Lib.hid hin
 have HLL:=Lib.hid hL
 have hit:=fun w=> Yxx t (by omega) w
 rw [hdd] at hit
 have hroom:=fun w=> Y6k w
 clear hmk htu hin hL hb1 hdd hc ht hsh hbl hbs
 go_enter Tryz.func149,Tryz.ntmps149
 go_wp2_with fail
 refine (Ybd _ _ _ _ 1 hr).mono ?_
 rintro e w1 ⟨rfl,hb1⟩
 rw [hask]
 have hr1:=hr.below hb1
 go_upto_region 4 with (fail)
 go_cut [9] from 21 to 26 (fun v x=> Ynz w1 L v x)
 case first=>
  go_region_with (first
   | (go_at_call 162;refine (hit _).mono ?_;rintro e w' ⟨rfl,rfl⟩)
   | (go_at_call 161;refine (Yxf inter _ _).mono ?_;rintro e w' ⟨rfl,rfl⟩)
   | (go_at_call 160;(first | with_reducible refine (Qa8 inter c L HLL.out _).mono ?_ | with_reducible refine (Qa9 inter c L HLL.out _).mono ?_);rintro e w2 ⟨v,rfl,hm⟩))
  all_goals
   go_wp2
   go_meet
   case rel=> exact hm
 case rest=>
  obtain ⟨hown,hb2⟩:=hcut
  obtain ⟨q,cap,rfl,hcds⟩:=Ylf hown
  have hr2:Ya5 wc rb s p:=by
   have h:=hr1.lt
   exact ⟨by rw [hb2.block rb h];exact hr1.1,hr1.2⟩
  have hbw2:Below w.heap.size w wc:=hb1.trans (hb2.mono hb1.size)
  have hrl2:rb<wc.heap.size:=hr2.lt
  clear hown hb2 hr1 hb1 hit hroom hr hask
  go_wp2_with fail
  refine (Yx2 L q cap _ hcds (by unfold maxLen;omega) hrow).mono ?_
  rintro e w3 ⟨hy,_,hb3⟩
  obtain ⟨tb,ds,rfl,ht,hp,hs⟩:=hy MK.out
  obtain ⟨hf,ho⟩:=Yx1 MK.out hp
  have hr3:=hr2.below hb3
  have hbw3:Below w.heap.size w w3:=hbw2.trans (hb3.mono hbw2.size)
  have HS:=Lib.hid hs
  have HF:=Lib.hid hf
  have HO:=Lib.hid ho
  have HP:=Lib.hid hp
  have IT:=Lib.hid ht
  clear hy hs hf ho hp ht hr2 hb3 hbw2 hcds hrow hll
  go_wp2_with fail
  refine (Ybm _ _ _ _ hr3).mono ?_
  rintro e w' ⟨rfl,rfl⟩
  go_wp2_with fail
  refine (Yux _ _ _ tb rb ds _ s p IT.out hr3 (.inl hrl2) HS.out HF.out HO.out).mono ?_
  rintro e w4 ⟨v,rfl,hv0,hv1,hr4,hg4⟩
  rw [HBS.out,HT.out ds HP.out] at hv0 hv1 hr4 ⊢
  obtain ⟨f,n,hk⟩:∃f n,tk ((Yjr inter).map Yap) bs 25 1=(f,n):=⟨_,_,rfl⟩
  rw [hk] at hv0 hv1 hr4 ⊢
  have HK:=Lib.hid hk
  have V0:=Lib.hid hv0
  have V1:=Lib.hid hv1
  have hcd:=Ypn ((Yjr inter).map Yap) bs 25 1
  rw [hk] at hcd
  have hgw4:w.grownBy w4 (some rb):=by
   refine ⟨hg4.os.trans hbw3.os,hg4.tape.trans hbw3.tape,hg4.output.trans hbw3.output,Nat.le_trans hbw3.size hg4.size,fun k hk hn=> ?_⟩
   exact (hg4.block k (Nat.lt_of_lt_of_le hk hbw3.size) hn).trans (hbw3.block k hk)
  have evs:Y65 v = .agg #[.int .i64 (sA v),.int .i64 (sB v)]:=rfl
  rw [evs]
  clear hk hv0 hv1 hg4 hr3 hbw3 evs
  by_cases h0:f=0
  ·subst h0
   obtain ⟨x,hx,hxr,hxv⟩:=V0.out rfl
   have hxa:=HIN.out x (HP.out.mem_iff.1 hx)
   have F0:=Y1x inter HK.out hxa hxr
   rw [hxv] at F0
   by_cases h2:sA v=2
   ·rw [if_pos h2] at F0
    have F:=Lib.hid F0
    have g2:(sA v==2)=true:=by rw [h2];rfl
    have hr5:Ya5 (w4.alloc (.cells #[.int .i64 0,.int .i64 0] 205)) rb s (p+n):=hr4.below ((Below.refl _ w4).alloc (Nat.le_refl _) _)
    have hg5:w.grownBy (w4.alloc (.cells #[.int .i64 0,.int .i64 0] 205)) (some rb):=(Yg7 hgw4 _)
    have hrl4:=hr4.lt
    clear F0 h2 hxv hxr hx hxa hr4 hgw4
    go_wp2_with fail
    refine (Ybh _ _ _ _ (p:Int) hr5 (by omega) (by omega)).mono ?_
    rintro e w6 ⟨rfl,hr6,hg6⟩
    have hbx:w6.heap[w4.heap.size]? = some (Yh9 0 0):=(hg6.block w4.heap.size (by simp) (by intro e;injection e with e;omega)).trans (heap_alloc_new w4 _)
    obtain ⟨n0,n1,_,_⟩:=Yia hbx
    have hg7:=Yad hg5 hg6
    rw [Int.toNat_natCast] at hr6
    go_wp2_with fail
    go_quiet (fail)
    go_wp2
    go_ret3
    exact Ykb (n:=0) (by rw [HBS.out];exact F.out) hr6 (Yg8 hg7 _)
   ·rw [if_neg h2] at F0
    have F:=Lib.hid F0
    have g2:(sA v==2)=false:=by rw [beq_eq_false_iff_ne];exact h2
    clear F0 h2 hxv hxr hx hxa
    go_wp2
    go_quiet (fail)
    go_wp2
    go_ret3
    exact Ykb (n:=n) (by rw [HBS.out];exact F.out) (hr4.below (Yda ((Below.refl _ w4).alloc (Nat.le_refl _) _) _)) (Yg8 (Yg7 hgw4 _) _)
  ·obtain rfl:=V1.out h0
   have hn:n=0:=by
    rcases hcd with h | h | h
    ·exact absurd h h0
    ·exact h.2
    ·exact h.2
   subst hn
   have F:=Lib.hid (Yo1 inter HK.out h0)
   have g0:(f==0)=false:=by rw [beq_eq_false_iff_ne];exact h0
   clear h0 hcd
   go_wp2
   go_quiet (fail)
   go_wp2
   go_ret3
   exact Ykb (n:=0) (by rw [HBS.out];exact F.out) (hr4.below (Yda ((Below.refl _ w4).alloc (Nat.le_refl _) _) _)) (Yg8 (Yg7 hgw4 _) _)
end Go.Proofs.YtpgdngijmihafaaGreatDoor