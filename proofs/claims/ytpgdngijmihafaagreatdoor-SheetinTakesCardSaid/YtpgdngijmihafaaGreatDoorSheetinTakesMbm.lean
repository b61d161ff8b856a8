/- Texts that SheetinTakes's proof stands on, part 39 of 52. No condition of its own. -/
import Derived.Test.YtpgdngijmihafaaGreatDoorSheetinTakesMc
import Derived.Test.YtpgdngijmihafaaGreatDoorSheetinTakesMu
import Derived.Test.YtpgdngijmihafaaGreatDoorSheetinTakesMbh
import Derived.Test.YtpgdngijmihafaaGreatDoorSheetinTakesMbi
import Derived.Test.YtpgdngijmihafaaGreatDoorSheetinTakesMbl
import Derived.Laws.MakeOwn
import Derived.WalkMore
import Derived.IntWalk
import Derived.BigQuiet
import Derived.Deep.QuietTactic
import Derived.Deep.DeepCutAuto
namespace Go.Proofs.YtpgdngijmihafaaGreatDoor
def Yiu (inter:Bool):List (ByteArray×Sym):=((List.range 24).map (Yfb inter)).filter fun x=> !(rowCY x).isEmpty
def mtk (inter:Bool) (b:List UInt8):Int×Int×Int×Nat:=
 if (tk ((Yiu inter).map rowCY) b 25 1).1=0 then
  match (Yiu inter).find? (fun x=> rowCY x==b.take (tk ((Yiu inter).map rowCY) b 25 1).2) with
  | some x=> if sA x.2=2 then (0,0,6,0) else (sA x.2,sB x.2,0,(tk ((Yiu inter).map rowCY) b 25 1).2)
  | none=> (0,0,0,0)
 else (0,0,(tk ((Yiu inter).map rowCY) b 25 1).1,0)
theorem Yw3 (inter:Bool):Ygq ((Yiu inter).map rowCY):=by
 cases inter <;> (unfold Ygq;decide +kernel)
theorem Y8a (inter:Bool):∀x∈Yiu inter,Yb1 (rowCY x)=true:=by
 cases inter <;> decide +kernel
theorem Yjq (inter:Bool) (c:UInt8):Yld inter [c] 24=(Yiu inter).filter fun x=> [c].isPrefixOf (rowCY x):=by
 unfold Yld Yiu
 rw [List.filter_filter]
 apply List.filter_congr
 intro x _
 cases h:[c].isPrefixOf (rowCY x) with
 | false=> rfl
 | true=>
  cases hr:rowCY x with
  | nil=> rw [hr] at h;cases h
  | cons a l=> rfl
theorem Y87 (inter:Bool) {c:UInt8} (hc:c=48∨c=49):Y49 (Yld inter [c] 24):=by
 have hf:Ygq ((Yld inter [c] 24).map rowCY):=by
  rw [Yjq]
  exact (Yw3 inter).sublist ((List.filter_sublist).map rowCY)
 have ho:∀x∈Yld inter [c] 24,Yb1 (rowCY x)=true:=fun x hx=> by
  rw [Yjq] at hx
  exact Y8a inter x (List.mem_filter.1 hx).1
 refine ⟨?_,Nat.le_trans (Yp8 inter [c] 24) (by omega),ho,hf,?_⟩
 ·rcases hc with rfl | rfl <;> cases inter <;> decide +kernel
 ·rcases hc with rfl | rfl <;> cases inter <;> decide +kernel
theorem Y9o (inter:Bool) {b:List UInt8} {c:UInt8} (h:b.take 1 = [c]) {ds:List (ByteArray×Sym)} (hp:ds.Perm (Yld inter [c] 24)):tk (ds.map rowCY) b 25 1=tk ((Yiu inter).map rowCY) b 25 1:=by
 have hl:1≤b.length:=by
  cases b with
  | nil=> cases h
  | cons a l=> simp
 rw [Ynx (hp.map rowCY),Yqj ((Yiu inter).map rowCY) b hl 25 1 (Nat.le_refl _),Yjq,List.filter_map,h]
 rfl
theorem Y89 (inter:Bool) {x y:ByteArray×Sym} (hx:x∈Yiu inter) (hy:y∈Yiu inter) (h:rowCY x=rowCY y):x=y:=by
 obtain ⟨i,hi,rfl⟩:=List.getElem_of_mem hx
 obtain ⟨j,hj,rfl⟩:=List.getElem_of_mem hy
 by_cases hij:i=j
 ·subst hij;rfl
 ·exfalso
  have:=Yi8.1 (Yw3 inter) i j (by simpa using hi) (by simpa using hj) hij
  rw [List.getElem_map,List.getElem_map,h,Ydf] at this
  cases this
theorem Y54 (inter:Bool) {x:ByteArray×Sym} (hx:x∈Yiu inter) {q:List UInt8} (hq:rowCY x=q):(Yiu inter).find? (fun y=> rowCY y==q)=some x:=by
 cases h:(Yiu inter).find? (fun y=> rowCY y==q) with
 | none=>
  have:=List.find?_eq_none.1 h x hx
  rw [hq] at this
  simp at this
 | some y=>
  have h1:=List.find?_some h
  have h2:=List.mem_of_find?_eq_some h
  rw [Y89 inter h2 hx ((beq_iff_eq.1 h1).trans hq.symm)]
theorem Yvs (inter:Bool) {b:List UInt8} {n:Nat} {x:ByteArray×Sym} (ht:tk ((Yiu inter).map rowCY) b 25 1=(0,n)) (hx:x∈Yiu inter) (hq:rowCY x=b.take n):
  mtk inter b=if sA x.2=2 then (0,0,6,0) else (sA x.2,sB x.2,0,n):=by
 unfold mtk
 rw [ht,if_pos rfl,Y54 inter hx hq]
theorem Ynt (inter:Bool) {b:List UInt8} {n:Nat} {f:Int} (ht:tk ((Yiu inter).map rowCY) b 25 1=(f,n)) (hf:f≠0):mtk inter b=(0,0,f,0):=by
 unfold mtk
 rw [ht,if_neg hf]
end Go.Proofs.YtpgdngijmihafaaGreatDoor
namespace Go.Proofs.YtpgdngijmihafaaGreatDoor
open Go.RowKit Go.Lib
theorem Y0x (inter:Bool) (f:ByteArray) (w:World):
  Calls Tryz.prog 161 #[.bool inter,.string f] w fun e w'=> e = .returned (.func (.func 181) #[] #[.pointer (some ⟨w.heap.size,0,none⟩),.pointer (some ⟨w.heap.size+1,0,none⟩)])∧w'=(w.alloc (.cells #[.bool inter] 4)).alloc (.cells #[.string f] 9):=by
 go_enter Tryz.func161,Tryz.ntmps161
 go_wp2
 go_ret
 exact ⟨rfl,rfl⟩
def Yfn (n:Nat):Obj:=.cells (madeCells (Value.agg #[.string ⟨#[]⟩,.int .i64 0,.int .i64 0]).cells (n*3)) 207 (0,0)
theorem Y73 (w:World):(Instr.makeSlice 202 (.int .i64 0) (.int .i64 24)).run Tryz.prog w = .ok (.slice (some ⟨w.heap.size,0,none⟩) 0 24) (w.alloc (Yfn 24)):=by
 obtain ⟨i0,hi,hz0,hz1,hz2⟩:=info_parts Yku
 have:=run_make (P:=Tryz.prog) w 202 207 i0 _ Tryz.underlying202 hi hz0 .i64 .i64 0 24 (by omega) (by omega) (by rw [hz2];omega) (by omega)
 rw [hz1] at this
 exact this
theorem Yw0 (w:World) {base:Nat} (h:base≤w.heap.size):(w.alloc (Yfn 24)).ownsRow base 207 3 (.slice (some ⟨w.heap.size,0,none⟩) 0 24) 0 []:=
 World.ownsRow_made w _ 24 h (by decide) (size_madeCells _ _)
def Y7v (inter:Bool) (s:ByteArray) (rb p:Nat) (w:World) (e:Ending) (w':World):Prop:=
 e = .returned (.tuple #[.int .i64 (mtk inter ((Yac s.data.toList).drop p)).1,.int .i64 (mtk inter ((Yac s.data.toList).drop p)).2.1,.int .i64 (mtk inter ((Yac s.data.toList).drop p)).2.2.1])∧
  Ybb w' rb s (p+(mtk inter ((Yac s.data.toList).drop p)).2.2.2)∧w.grownBy w' (some rb)
theorem Ylk {inter:Bool} {s:ByteArray} {rb p n:Nat} {w w':World} {a b f:Int} (h:mtk inter ((Yac s.data.toList).drop p)=(a,b,f,n)) (hr:Ybb w' rb s (p+n)) (hg:w.grownBy w' (some rb)):
  Y7v inter s rb p w (.returned (.tuple #[.int .i64 a,.int .i64 b,.int .i64 f])) w':=by
 unfold Y7v
 rw [h]
 exact ⟨rfl,hr,hg⟩
def Yq3 (w:World) (l:List (ByteArray×Sym)) (v:Value) (x:World):Prop:=
 x.ownsRow w.heap.size 207 3 v l.length (Yav l)∧Below w.heap.size w x
theorem Y1o (s:ByteArray) (p:Nat) (h:p+1≤8*s.size):∃(t:Nat) (c:UInt8),Ya0 s.data.toList p 1=t∧t<2∧Lib.decDigits t = [c]∧(c=48∨c=49)∧((Yac s.data.toList).drop p).take 1 = [c]:=by
 obtain ⟨hn,hd⟩:=Ygw s.data.toList p 0 h
 have hlt:=Ybr s.data.toList p 1
 have hlt:Ya0 s.data.toList p 1<2:=hlt
 have h01:Ya0 s.data.toList p (0+1)=Ya0 s.data.toList p 1:=rfl
 rw [h01] at hd
 have hb:((Yac s.data.toList).drop p).take 1 = [((Yac s.data.toList).drop p)[0]]:=by
  rw [List.take_succ_eq_append_getElem hn];rfl
 rcases hd with ⟨h1,h2⟩ | ⟨h1,h2⟩
 ·have ht:Ya0 s.data.toList p 1=0:=by omega
  exact ⟨0,48,ht,by omega,by decide +kernel,.inl rfl,by rw [hb,h1]⟩
 ·have ht:Ya0 s.data.toList p 1=1:=by omega
  exact ⟨1,49,ht,by omega,by decide +kernel,.inr rfl,by rw [hb,h1]⟩
theorem Y1a (inter:Bool) (c:UInt8):∀x∈Yld inter [c] 24,x.1.size≤maxLen:=fun x hx=> by
 rw [Yjq] at hx
 have h:=(Ybv (Y8a inter x (List.mem_filter.1 hx).1)).2.1
 have e:(rowCY x).length=x.1.size:=rfl
 unfold maxLen
 omega
theorem Yy2 {l ds:List (ByteArray×Sym)} (h:Y49 l) (hp:ds.Perm l):Ygq (ds.map rowCY)∧∀x∈ds,Yb1 (rowCY x)=true:=
 ⟨(Yft (hp.map rowCY)).2 h.2.2.2.1,fun x hx=> h.2.2.1 x (hp.mem_iff.1 hx)⟩
theorem Yip {w x:World} {row:Option Nat} (h:w.grownBy x row) (n:Nat):w.grownBy (x.drewN n) row:=⟨h.os,h.tape,h.output,h.size,h.block⟩
theorem Yih {w x:World} {row:Option Nat} (h:w.grownBy x row) (o:Obj):w.grownBy (x.alloc o) row:=by
 have g:=World.grownBy_alloc x o none
 refine ⟨g.os.trans h.os,g.tape.trans h.tape,g.output.trans h.output,Nat.le_trans h.size g.size,fun k hk hn=> ?_⟩
 exact (g.block k (Nat.lt_of_lt_of_le hk h.size) (by simp)).trans (h.block k hk hn)
theorem Qby (inter:Bool) (c:UInt8) (L:List (ByteArray×Sym)) (hL:Yld inter [c] 24=L) (w:World):
  Calls Tryz.prog 160 #[.slice (some ⟨w.heap.size,0,none⟩) 0 24,.func (.func 181) #[] #[.pointer (some ⟨w.heap.size+1,0,none⟩),.pointer (some ⟨w.heap.size+1+1,0,none⟩)]]
   (((w.alloc (Yfn 24)).alloc (.cells #[.bool inter] 4)).alloc (.cells #[.string ⟨#[c]⟩] 9)).drew fun e w'=>∃v,e = .returned v∧Yq3 w L v w':=by
 have h1:=Boxed.new (w.alloc (Yfn 24)) 4 (.bool inter)
 have h2:=Boxed.new ((w.alloc (Yfn 24)).alloc (.cells #[.bool inter] 4)) 9 (.string ⟨#[c]⟩)
 have h3:=h1.alloc (.cells #[.string ⟨#[c]⟩] 9)
 rw [World.size_alloc] at h3 h2
 rw [World.size_alloc] at h2
 have hB:Below w.heap.size w (((w.alloc (Yfn 24)).alloc (.cells #[.bool inter] 4)).alloc (.cells #[.string ⟨#[c]⟩] 9)).drew:=((((Below.refl _ w).alloc (Nat.le_refl _) _).alloc (by simp) _).alloc (by simp;omega) _).drew
 refine (Yk0 w.heap.size (w.heap.size+1) (w.heap.size+1+1) inter ⟨#[c]⟩ _ _ hB.size (((Yw0 w (Nat.le_refl _)).alloc _).alloc _) ⟨_,_,rfl⟩ h3 h2).mono ?_
 rintro e w' ⟨v,rfl,ho,hb⟩
 have e1:(⟨#[c]⟩:ByteArray).data.toList = [c]:=rfl
 rw [e1,hL] at ho
 exact ⟨v,rfl,ho,hB.trans hb⟩
theorem Qb1 (inter:Bool) (c:UInt8) (L:List (ByteArray×Sym)) (hL:Yld inter [c] 24=L) (w:World):
  Calls Tryz.prog 160 #[.slice (some ⟨w.heap.size+1+1,0,none⟩) 0 24,.func (.func 181) #[] #[.pointer (some ⟨w.heap.size,0,none⟩),.pointer (some ⟨w.heap.size+1,0,none⟩)]]
   (((w.alloc (.cells #[.bool inter] 4)).alloc (.cells #[.string ⟨#[c]⟩] 9)).alloc (Yfn 24)).drew fun e w'=>∃v,e = .returned v∧Yq3 w L v w':=by
 have h1:=((Boxed.new w 4 (.bool inter)).alloc (.cells #[.string ⟨#[c]⟩] 9)).alloc (Yfn 24)
 have h2:=(Boxed.new (w.alloc (.cells #[.bool inter] 4)) 9 (.string ⟨#[c]⟩)).alloc (Yfn 24)
 rw [World.size_alloc] at h2
 have hr:=Yw0 ((w.alloc (.cells #[.bool inter] 4)).alloc (.cells #[.string ⟨#[c]⟩] 9)) (base:=w.heap.size) (by simp;omega)
 rw [World.size_alloc,World.size_alloc] at hr
 have hB:Below w.heap.size w (((w.alloc (.cells #[.bool inter] 4)).alloc (.cells #[.string ⟨#[c]⟩] 9)).alloc (Yfn 24)).drew:=((((Below.refl _ w).alloc (Nat.le_refl _) _).alloc (by simp) _).alloc (by simp;omega) _).drew
 refine (Yk0 w.heap.size w.heap.size (w.heap.size+1) inter ⟨#[c]⟩ _ _ hB.size hr ⟨_,_,rfl⟩ h1 h2).mono ?_
 rintro e w' ⟨v,rfl,ho,hb⟩
 have e1:(⟨#[c]⟩:ByteArray).data.toList = [c]:=rfl
 rw [e1,hL] at ho
 exact ⟨v,rfl,ho,hB.trans hb⟩
set_option maxRecDepth 100000 in
set_option maxHeartbeats 1000000 in
theorem Yze (inter:Bool) (w:World) (rb:Nat) (s:ByteArray) (p:Nat) (hr:Ybb w rb s p):
  Calls Tryz.prog 149 #[.pointer (some ⟨rb,0,none⟩),.bool inter] w (Y7v inter s rb p w):=by
 obtain ⟨bs,hbs⟩:∃bs,(Yac s.data.toList).drop p=bs:=⟨_,rfl⟩
 have hbl:bs.length=8*s.size-p:=by rw [←hbs,List.length_drop,Yah];rfl
 have hpl:=hr.2.1
 have hrlt:=hr.lt
 have HBS:=Lib.hid hbs
 by_cases hsh:8*s.size<p+1
 ·have hask:ask s.data.toList p 1=(0,2):=Ybi (by omega) (by have:s.data.toList.length=s.size:=rfl;omega)
  have F:=Lib.hid (Ynt inter (b:=bs) (n:=0) (f:=2) (by
   cases bs with
   | nil=> rfl
   | cons a l=> simp at hbl;omega) (by decide))
  clear hsh hbl hbs
  go_enter Tryz.func149,Tryz.ntmps149
  go_wp2_with fail
  refine (Ybh _ _ _ _ 1 hr).mono ?_
  rintro e w1 ⟨rfl,hb1⟩
  rw [hask]
  have hr1:=hr.below hb1
  have hg1:w.grownBy w1 (some rb):=⟨hb1.os,hb1.tape,hb1.output,hb1.size,fun k hk _=> hb1.block k hk⟩
  go_wp2
  go_ret3
  exact Ylk (n:=0) (by rw [HBS.out];exact F.out) hr1 hg1
 obtain ⟨t,c,ht,ht2,hdd,hc,hb1⟩:=Y1o s p (by omega)
 have hask:ask s.data.toList p 1=((t:Int),0):=by
  have:=Ycw (l:=s.data.toList) (p:=p) (n:=1) (by omega) (by have:s.data.toList.length=s.size:=rfl;omega)
  rw [this,show (1:Int).toNat=1 from rfl,ht]
 rw [hbs] at hb1
 obtain ⟨L,hL⟩:∃L,Yld inter [c] 24=L:=⟨_,rfl⟩
 have hmk:=Y87 inter hc
 have hrow:=Y1a inter c
 have hll:=Yp8 inter [c] 24
 have htu:=fun (ds:List (ByteArray×Sym)) (hp:ds.Perm L)=> Y9o inter hb1 (ds:=ds) (by rw [hL];exact hp)
 have hin:∀x∈L,x∈Yiu inter:=fun x hx=> by
  rw [←hL,Yjq] at hx
  exact (List.mem_filter.1 hx).1
 rw [hL] at hmk hrow hll
 have MK:=Lib.hid hmk
 have HT:=Lib.hid htu
 have HIN:=Lib.hid hin
 have HLL:=Lib.hid hL
 have hit:=fun w=> Yyy t (by omega) w
 rw [hdd] at hit
 have hroom:=fun w=> Y73 w
 clear hmk htu hin hL hb1 hdd hc ht hsh hbl hbs
 go_enter Tryz.func149,Tryz.ntmps149
 go_wp2_with fail
 refine (Ybh _ _ _ _ 1 hr).mono ?_
 rintro e w1 ⟨rfl,hb1⟩
 rw [hask]
 have hr1:=hr.below hb1
 go_upto_region 4 with (fail)
 go_cut [9] from 21 to 26 (fun v x=> Yq3 w1 L v x)
 case first=>
  go_region_with (first
   | (go_at_call 162;refine (hit _).mono ?_;rintro e w' ⟨rfl,rfl⟩)
   | (go_at_call 161;refine (Y0x inter _ _).mono ?_;rintro e w' ⟨rfl,rfl⟩)
   | (go_at_call 160;(first | with_reducible refine (Qby inter c L HLL.out _).mono ?_ | with_reducible refine (Qb1 inter c L HLL.out _).mono ?_);rintro e w2 ⟨v,rfl,hm⟩))
  all_goals
   go_wp2
   go_meet
   case rel=> exact hm
 case rest=>
  obtain ⟨hown,hb2⟩:=hcut
  obtain ⟨q,cap,rfl,hcds⟩:=Ymf hown
  have hr2:Ybb wc rb s p:=by
   have h:=hr1.lt
   exact ⟨by rw [hb2.block rb h];exact hr1.1,hr1.2⟩
  have hbw2:Below w.heap.size w wc:=hb1.trans (hb2.mono hb1.size)
  have hrl2:rb<wc.heap.size:=hr2.lt
  clear hown hb2 hr1 hb1 hit hroom hr hask
  go_wp2_with fail
  refine (Yzk L q cap _ hcds (by unfold maxLen;omega) hrow).mono ?_
  rintro e w3 ⟨hy,_,hb3⟩
  obtain ⟨tb,ds,rfl,ht,hp,hs⟩:=hy MK.out
  obtain ⟨hf,ho⟩:=Yy2 MK.out hp
  have hr3:=hr2.below hb3
  have hbw3:Below w.heap.size w w3:=hbw2.trans (hb3.mono hbw2.size)
  have HS:=Lib.hid hs
  have HF:=Lib.hid hf
  have HO:=Lib.hid ho
  have HP:=Lib.hid hp
  have IT:=Lib.hid ht
  clear hy hs hf ho hp ht hr2 hb3 hbw2 hcds hrow hll
  go_wp2_with fail
  refine (Ybs _ _ _ _ hr3).mono ?_
  rintro e w' ⟨rfl,rfl⟩
  go_wp2_with fail
  refine (Yv2 _ _ _ tb rb ds _ s p IT.out hr3 (.inl hrl2) HS.out HF.out HO.out).mono ?_
  rintro e w4 ⟨v,rfl,hv0,hv1,hr4,hg4⟩
  rw [HBS.out,HT.out ds HP.out] at hv0 hv1 hr4 ⊢
  obtain ⟨f,n,hk⟩:∃f n,tk ((Yiu inter).map rowCY) bs 25 1=(f,n):=⟨_,_,rfl⟩
  rw [hk] at hv0 hv1 hr4 ⊢
  have HK:=Lib.hid hk
  have V0:=Lib.hid hv0
  have V1:=Lib.hid hv1
  have hcd:=Yhx ((Yiu inter).map rowCY) bs 25 1
  rw [hk] at hcd
  have hgw4:w.grownBy w4 (some rb):=by
   refine ⟨hg4.os.trans hbw3.os,hg4.tape.trans hbw3.tape,hg4.output.trans hbw3.output,Nat.le_trans hbw3.size hg4.size,fun k hk hn=> ?_⟩
   exact (hg4.block k (Nat.lt_of_lt_of_le hk hbw3.size) hn).trans (hbw3.block k hk)
  have evs:Y62 v = .agg #[.int .i64 (sA v),.int .i64 (sB v)]:=rfl
  rw [evs]
  clear hk hv0 hv1 hg4 hr3 hbw3 evs
  by_cases h0:f=0
  ·subst h0
   obtain ⟨x,hx,hxr,hxv⟩:=V0.out rfl
   have hxa:=HIN.out x (HP.out.mem_iff.1 hx)
   have F0:=Yvs inter HK.out hxa hxr
   rw [hxv] at F0
   by_cases h2:sA v=2
   ·rw [if_pos h2] at F0
    have F:=Lib.hid F0
    have g2:(sA v==2)=true:=by rw [h2];rfl
    have hr5:Ybb (w4.alloc (.cells #[.int .i64 0,.int .i64 0] 205)) rb s (p+n):=hr4.below ((Below.refl _ w4).alloc (Nat.le_refl _) _)
    have hg5:w.grownBy (w4.alloc (.cells #[.int .i64 0,.int .i64 0] 205)) (some rb):=(Yih hgw4 _)
    have hrl4:=hr4.lt
    clear F0 h2 hxv hxr hx hxa hr4 hgw4
    go_wp2_with fail
    refine (Ybk _ _ _ _ (p:Int) hr5 (by omega) (by omega)).mono ?_
    rintro e w6 ⟨rfl,hr6,hg6⟩
    have hbx:w6.heap[w4.heap.size]? = some (Yjh 0 0):=(hg6.block w4.heap.size (by simp) (by intro e;injection e with e;omega)).trans (heap_alloc_new w4 _)
    obtain ⟨n0,n1,_,_⟩:=Yjj hbx
    have hg7:=Yao hg5 hg6
    rw [Int.toNat_natCast] at hr6
    go_wp2_with fail
    go_quiet (fail)
    go_wp2
    go_ret3
    exact Ylk (n:=0) (by rw [HBS.out];exact F.out) hr6 (Yip hg7 _)
   ·rw [if_neg h2] at F0
    have F:=Lib.hid F0
    have g2:(sA v==2)=false:=by rw [beq_eq_false_iff_ne];exact h2
    clear F0 h2 hxv hxr hx hxa
    go_wp2
    go_quiet (fail)
    go_wp2
    go_ret3
    exact Ylk (n:=n) (by rw [HBS.out];exact F.out) (hr4.below (Yb2 ((Below.refl _ w4).alloc (Nat.le_refl _) _) _)) (Yip (Yih hgw4 _) _)
  ·obtain rfl:=V1.out h0
   have hn:n=0:=by
    rcases hcd with h | h | h
    ·exact absurd h h0
    ·exact h.2
    ·exact h.2
   subst hn
   have F:=Lib.hid (Ynt inter HK.out h0)
   have g0:(f==0)=false:=by rw [beq_eq_false_iff_ne];exact h0
   clear h0 hcd
   go_wp2
   go_quiet (fail)
   go_wp2
   go_ret3
   exact Ylk (n:=0) (by rw [HBS.out];exact F.out) (hr4.below (Yb2 ((Below.refl _ w4).alloc (Nat.le_refl _) _) _)) (Yip (Yih hgw4 _) _)
theorem Ym6 (inter:Bool):∀i,(h:i<21)→(Qav inter)[i]'(by rw [Yjm];exact h)=(Yfb inter i).1:=by
 cases inter <;> decide +kernel
def Yh4 (inter:Bool) (i:Nat):List ByteArray:=((Qav inter).take i).filter fun x=> !x.data.toList.isEmpty
theorem Y3d (inter:Bool):(Yh4 inter 21).map (fun x=> x.data.toList)=(Yiu inter).map rowCY:=by
 cases inter <;> decide +kernel
theorem Y4s (inter:Bool):∀j:Fin (Yh4 inter 21).length,j.val+(if inter then 0 else 12)<21∧(Yh4 inter 21)[j.val]=(Yfb inter (j.val+(if inter then 0 else 12))).1∧(!(rowCY (Yfb inter (j.val+(if inter then 0 else 12)))).isEmpty)=true:=by
 cases inter <;> decide +kernel
theorem Y3c {inter:Bool} {i:Nat} (h:i<24) (hr:(!(rowCY (Yfb inter i)).isEmpty)=true):Yfb inter i∈Yiu inter:=
 List.mem_filter.2 ⟨List.mem_map_of_mem (List.mem_range.2 h),hr⟩
theorem Y1y (inter:Bool) (j:Nat) (h:j<(Yh4 inter 21).length):j+(if inter then 0 else 12)<21∧(Yh4 inter 21)[j]=(Yfb inter (j+(if inter then 0 else 12))).1∧Yfb inter (j+(if inter then 0 else 12))∈Yiu inter:=by
 obtain ⟨h1,h2,h3⟩:=Y4s inter ⟨j,h⟩
 exact ⟨h1,h2,Y3c (Nat.lt_trans h1 (by decide)) h3⟩
theorem Y2n {inter:Bool} {i:Nat} (h:i<21) (hy:(Yfb inter i).1.data.toList.isEmpty=false):Yh4 inter (i+1)=Yh4 inter i ++ [(Yfb inter i).1]:=by
 unfold Yh4
 rw [List.take_succ_eq_append_getElem (by rw [Yjm];exact h),List.filter_append,Ym6 inter i h]
 simp only [List.filter_cons,List.filter_nil,hy,Bool.not_false,if_true]
theorem Y6v {inter:Bool} {i:Nat} (h:i<21) (hy:(Yfb inter i).1.data.toList.isEmpty=true):Yh4 inter (i+1)=Yh4 inter i:=by
 unfold Yh4
 rw [List.take_succ_eq_append_getElem (by rw [Yjm];exact h),List.filter_append,Ym6 inter i h]
 simp only [List.filter_cons,List.filter_nil,hy,Bool.not_true,Bool.false_eq_true,if_false,List.append_nil]
theorem Yt3 (inter:Bool) (i:Nat):(Yh4 inter i).length≤i:=by
 unfold Yh4
 refine Nat.le_trans (List.length_filter_le _ _) ?_
 rw [List.length_take]
 omega
theorem Yef {fn:Func} {t u v x:Tmp} (h:fn.results = #[.tmp t,.tmp u,.tmp v,.tmp x]) (tmps:Array Value) (P:Program) (w:World):
  (results fn tmps).run P w = .ok (.tuple #[tmps.getD t undef,tmps.getD u undef,tmps.getD v undef,tmps.getD x undef]) w:=by
 simp [results,h]
def Y24 (inter:Bool) (b:List UInt8) (at_:Nat) (w:World) (e:Ending) (w':World):Prop:=
 e = .returned (.tuple #[.int .i64 (mtk inter b).1,.int .i64 (mtk inter b).2.1,.int .i64 ((at_+(mtk inter b).2.2.2:Nat):Int),.int .i64 (mtk inter b).2.2.1])∧Below w.heap.size w w'
theorem Yi7 {inter:Bool} {bs:List UInt8} {at_ n z:Nat} {w w':World} {a b f:Int} (h:mtk inter bs=(a,b,f,n)) (ht:at_+n=z) (hb:Below w.heap.size w w'):
  Y24 inter bs at_ w (.returned (.tuple #[.int .i64 a,.int .i64 b,.int .i64 (z:Int),.int .i64 f])) w':=by
 subst ht
 unfold Y24
 rw [h]
 exact ⟨rfl,hb⟩
theorem Y45 (l:List ByteArray) (n:Nat) (hn:l.length=n) (p:Option Addr) (cap:Nat) (s:ByteArray) (at_:Nat) (w:World) (hc:Yjw w p l) (hm:n≤300) (hs:s.size≤1048576) (ha:at_≤s.size):
  Calls Tryz.prog 67 #[.slice p n cap,.string s,.int .i64 (at_:Int)] w (Yr0 l (s.data.toList.drop at_) at_ w):=by
 subst hn
 exact Y4d l p cap s at_ w hc hm hs ha
set_option maxRecDepth 100000 in
set_option maxHeartbeats 4000000 in
theorem Ym8 (inter:Bool) (s:ByteArray) (at_:Nat) (w:World) (hs:s.size≤1048576) (ha:at_≤s.size):
  Calls Tryz.prog 66 #[.string s,.int .i64 (at_:Int),.bool inter] w (Y24 inter (s.data.toList.drop at_) at_ w):=by
 obtain ⟨i1,hj,jz0,jz1,jz2⟩:=info_parts Ylf
 obtain ⟨bs,hbs⟩:∃bs,s.data.toList.drop at_=bs:=⟨_,rfl⟩
 rw [hbs]
 have HBS:=Lib.hid hbs
 clear hbs
 go_enter Tryz.func66,Tryz.ntmps66
 go_wp2_with fail
 refine (Y0w inter _).mono ?_
 rintro e w1 ⟨rfl,hst,hb1⟩
 obtain ⟨b,o,e,hblt,hcells⟩:=hst.at (by rw [Yjm];omega)
 cases e
 have hE:∀x,Below w1.heap.size w1 x→∀i:Nat,i<21→x.cell? ⟨w.heap.size,i,none⟩=some (.string (Yfb inter i).1):=by
  intro x hx i hi
  have:=hcells i (by rw [Yjm];exact hi)
  rw [Nat.zero_add,Ym6 inter i hi] at this
  exact (World.cell?_of_block (a:=⟨w.heap.size,i,none⟩) (hx.block _ hblt)).trans this
 have EE:=Lib.hid hE
 have hb0:Below w1.heap.size w1 w1:=Below.refl _ _
 clear hE hcells hst
 go_wp2
 go_loopw [11,12] (fun u v wr=>∃i:Nat,i≤21∧v = .int .i64 i∧wr.ownsRow w1.heap.size 9 1 u (Yh4 inter i).length (Ybe (Yh4 inter i))∧Below w1.heap.size w1 wr) (fun _ v _=> 21-(intOf v).toNat)
 case atStart=> exact ⟨0,by omega,rfl,World.ownsRow_nil _ _ _ _,hb0⟩
 case round=>
  clear hb0
  obtain ⟨i,hi,rfl,hu,hb⟩:=hrel
  by_cases hlt:i<21
  ·have c0:=EE.out wr hb i hlt
   have hlen:=Yt3 inter i
   obtain ⟨y,hy⟩:∃y,(Yfb inter i).1=y:=⟨_,rfl⟩
   rw [hy] at c0
   have E:=Lib.toList_data y
   cases hye:y.data.toList.isEmpty with
   | true=>
    have SN:=Lib.hid (Y6v hlt (by rw [hy];exact hye))
    have e1:y.toList.isEmpty=true:=by rw [E];exact hye
    have e2:y.toList = []:=by rw [E];simpa using hye
    clear hy E hye
    go_wp2
    go_roundw
    case rel=> exact ⟨i+1,by omega,by go_num,by rw [SN.out];exact hu,hb⟩
    case measure=> simp [intOf];omega
   | false=>
    have SY:=Lib.hid (Y2n hlt (by rw [hy];exact hye))
    have HY:=Lib.hid hy
    have e1:y.toList.isEmpty=false:=by rw [E];exact hye
    have e2:y.toList≠[]:=by rw [E];intro h;rw [h] at hye;cases hye
    clear hy E hye
    go_wp2_with (at_builtin;refine Yf8 (y0:=y) rfl rfl Tryz.underlying106 hj jz0 rfl jz1 jz2 rfl (hu.alloc _) rfl ?d1 ?d2 ?d3 ?_;(case d1=> go_cell);(case d2=> omega);(case d3=> (simp;exact Nat.le_succ_of_le hb.size));intro v2 w2 hu4 hgrow;have hg4:World.grownBy _ w2 (Value.ownBlock u11):=hgrow;have hb4:=(hb.alloc hb.size _).grown hg4 (by simp;exact Nat.le_succ_of_le hb.size) (Ybc hu);clear hgrow)
    go_roundw
    case rel=> exact ⟨i+1,by omega,by go_num,by rw [SY.out,HY.out,List.length_append,Ydn];exact hu4,hb4⟩
    case measure=> simp [intOf];omega
  ·obtain rfl:i=21:=by omega
   obtain ⟨q,cap,rfl,hq⟩:=Yiy hu
   have hsl:=Yt3 inter 21
   go_wp2_with fail
   refine (Y45 (Yh4 inter 21) _ rfl q cap s at_ _ hq (by omega) hs ha).mono ?_
   rintro e w3 ⟨j,rfl,hj0,hb3⟩
   rw [HBS.out,Y3d] at hj0 ⊢
   have hbw:Below w.heap.size w w3:=hb1.trans ((hb.trans (hb3.mono hb.size)).mono hb1.size)
   obtain ⟨f,n,hk⟩:∃f n,tk ((Yiu inter).map rowCY) bs 25 1=(f,n):=⟨_,_,rfl⟩
   rw [hk] at hj0 ⊢
   have hcd:=Yhx ((Yiu inter).map rowCY) bs 25 1
   rw [hk] at hcd
   have HK:=Lib.hid hk
   have J0:=Lib.hid hj0
   have BW:=Lib.hid hbw
   clear hk hj0 hb3 hbw hb hu hq hb1 hblt EE hj
   by_cases h0:f=0
   ·subst h0
    obtain ⟨hjl,hjr⟩:=J0.out rfl
    obtain ⟨g1,g2,g3⟩:=Y1y inter j hjl
    rw [g2] at hjr
    have F0:=Yvs inter HK.out g3 hjr
    have hsl2:j≤20:=by omega
    clear J0 hjl hjr g2 g3 hcd hsl
    cases inter with
    | true=>
     simp only [if_true,Nat.add_zero] at F0 g1
     obtain ⟨a,c,ha4,hc4,hac⟩:∃a c:Nat,a<6∧c<4∧j=4*a+c:=⟨(j) / 4,(j)%4,by omega,by omega,by omega⟩
     obtain ⟨_,s1,s2⟩:=Yqw true a c ha4 hc4
     rw [hac,s1,s2] at F0
     have q1:Int.tdiv ((j:Int)) 4=(a:Int):=by rw [Int.tdiv_eq_ediv_of_nonneg (by omega)];omega
     have q2:Int.tmod ((j:Int)) 4=(c:Int):=by rw [Int.tmod_eq_emod_of_nonneg (by omega)];omega
     have qw:wrap64 (a:Int)=(a:Int):=by unfold wrap64;omega
     by_cases h2:(a:Int)=2
     ·rw [if_pos h2] at F0
      have F:=Lib.hid F0
      have g2:((a:Int)==2)=true:=by rw [beq_iff_eq];exact h2
      clear F0 h2 hac s1 s2 ha4 hc4 g1
      go_wp2
      exact bodyPost_ret (Yef rfl _ _ _) rfl (Yi7 F.out (Nat.add_zero _) BW.out)
     ·rw [if_neg h2] at F0
      have F:=Lib.hid F0
      have g2:((a:Int)==2)=false:=by rw [beq_eq_false_iff_ne];exact h2
      clear F0 h2 hac s1 s2 ha4 hc4 g1
      go_wp2
      rw [qw]
      exact bodyPost_ret (Yef rfl _ _ _) rfl (Yi7 F.out rfl BW.out)
    | false=>
     simp only [Bool.false_eq_true,if_false] at F0 g1
     obtain ⟨a,c,ha4,hc4,hac⟩:∃a c:Nat,a<6∧c<4∧j+12=4*a+c:=⟨(j+12) / 4,(j+12)%4,by omega,by omega,by omega⟩
     obtain ⟨_,s1,s2⟩:=Yqw false a c ha4 hc4
     rw [hac,s1,s2] at F0
     have q1:Int.tdiv ((j:Int)+12) 4=(a:Int):=by rw [Int.tdiv_eq_ediv_of_nonneg (by omega)];omega
     have q2:Int.tmod ((j:Int)+12) 4=(c:Int):=by rw [Int.tmod_eq_emod_of_nonneg (by omega)];omega
     have qw:wrap64 (a:Int)=(a:Int):=by unfold wrap64;omega
     by_cases h2:(a:Int)=2
     ·rw [if_pos h2] at F0
      have F:=Lib.hid F0
      have g2:((a:Int)==2)=true:=by rw [beq_iff_eq];exact h2
      clear F0 h2 hac s1 s2 ha4 hc4 g1
      go_wp2
      exact bodyPost_ret (Yef rfl _ _ _) rfl (Yi7 F.out (Nat.add_zero _) BW.out)
     ·rw [if_neg h2] at F0
      have F:=Lib.hid F0
      have g2:((a:Int)==2)=false:=by rw [beq_eq_false_iff_ne];exact h2
      clear F0 h2 hac s1 s2 ha4 hc4 g1
      go_wp2
      rw [qw]
      exact bodyPost_ret (Yef rfl _ _ _) rfl (Yi7 F.out rfl BW.out)
   ·have hn:n=0:=by
     rcases hcd with h | h | h
     ·exact absurd h h0
     ·exact h.2
     ·exact h.2
    subst hn
    have F:=Lib.hid (Ynt inter HK.out h0)
    have g0:(f != 0)=true:=by rw [bne_iff_ne];exact h0
    clear h0 hcd
    go_wp2
    exact bodyPost_ret (Yef rfl _ _ _) rfl (Yi7 F.out (Nat.add_zero _) BW.out)
end Go.Proofs.YtpgdngijmihafaaGreatDoor