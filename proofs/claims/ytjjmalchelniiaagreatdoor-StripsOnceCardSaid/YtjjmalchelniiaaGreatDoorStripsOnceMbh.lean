/- Part 34 of StripsOnce. No condition. -/
import Derived.Test.YtjjmalchelniiaaGreatDoorStripsOnceMd
import Derived.Test.YtjjmalchelniiaaGreatDoorStripsOnceMu
import Derived.Test.YtjjmalchelniiaaGreatDoorStripsOnceMbd
import Derived.Test.YtjjmalchelniiaaGreatDoorStripsOnceMbe
import Derived.Test.YtjjmalchelniiaaGreatDoorStripsOnceMbg
import Derived.Laws.MakeOwn
import Derived.WalkMore
import Derived.IntWalk
import Derived.BigQuiet
import Derived.Deep.QuietTactic
namespace Go.Proofs.YtjjmalchelniiaaGreatDoor
def Ylb (inter:Bool):List (ByteArray×Sym):=((List.range 24).map (Yj9 inter)).filter fun x=>!(Yat x).isEmpty
def mtk (inter:Bool)(b:List UInt8):Int×Int×Int×Nat:=
 if (tk ((Ylb inter).map Yat) b 25 1).1=0 then
  match (Ylb inter).find? (fun x=>Yat x==b.take (tk ((Ylb inter).map Yat) b 25 1).2) with
  |some x=>if sA x.2=2 then (0,0,6,0) else (sA x.2,sB x.2,0,(tk ((Ylb inter).map Yat) b 25 1).2)
  |none=>(0,0,0,0)
 else (0,0,(tk ((Ylb inter).map Yat) b 25 1).1,0)
theorem Ysz (inter:Bool):Yhh ((Ylb inter).map Yat):=by
 cases inter <;> (unfold Yhh;decide +kernel)
theorem Y61 (inter:Bool):∀x∈Ylb inter,Yck (Yat x)=true:=by
 cases inter <;> decide +kernel
theorem Yk0 (inter:Bool)(c:UInt8):Ynl inter [c] 24=(Ylb inter).filter fun x=>[c].isPrefixOf (Yat x):=by
 unfold Ynl Ylb;rw[List.filter_filter];apply List.filter_congr;intro x _;cases h:[c].isPrefixOf (Yat x) with
 |false=>rfl
 |true=>
  cases hr:Yat x with
  |nil=>rw[hr] at h;cases h
  |cons a l=>rfl
theorem Qit (inter:Bool){c:UInt8}(hc:c=48∨c=49):Qb5 (Ynl inter [c] 24):=by
 have hf:Yhh ((Ynl inter [c] 24).map Yat):=by
  rw[Yk0];exact(Ysz inter).sublist ((List.filter_sublist).map Yat)
 have ho:∀x∈Ynl inter [c] 24,Yck (Yat x)=true:=fun x hx=>by
  rw[Yk0] at hx;exact Y61 inter x (List.mem_filter.1 hx).1
 refine⟨?_,Nat.le_trans (Yuv inter [c] 24) (by omega),ho,hf,?_⟩
 ·rcases hc with rfl|rfl <;> cases inter <;> decide +kernel
 ·rcases hc with rfl|rfl <;> cases inter <;> decide +kernel
theorem Qir (inter:Bool){b:List UInt8}{c:UInt8}(h:b.take 1=[c]){ds:List (ByteArray×Sym)}(hp:ds.Perm (Ynl inter [c] 24)):tk (ds.map Yat) b 25 1=tk ((Ylb inter).map Yat) b 25 1:=by
 have hl:1≤b.length:=by
  cases b with
  |nil=>cases h
  |cons a l=>simp
 rw[Y0s (hp.map Yat),Yur ((Ylb inter).map Yat) b hl 25 1 (Nat.le_refl _),Yk0,List.filter_map,h]
 rfl
theorem Qg3 (inter:Bool){x y:ByteArray×Sym}(hx:x∈Ylb inter)(hy:y∈Ylb inter)(h:Yat x=Yat y):x=y:=by
 obtain⟨i,hi,rfl⟩:=List.getElem_of_mem hx;obtain⟨j,hj,rfl⟩:=List.getElem_of_mem hy;by_cases hij:i=j
 ·subst hij;rfl
 ·exfalso;have:=Ykh.1 (Ysz inter) i j (by simpa using hi) (by simpa using hj) hij;rw[List.getElem_map,List.getElem_map,h,Ydv] at this;cases this
theorem Qcd (inter:Bool){x:ByteArray×Sym}(hx:x∈Ylb inter){q:List UInt8}(hq:Yat x=q):(Ylb inter).find? (fun y=>Yat y==q)=some x:=by
 cases h:(Ylb inter).find? (fun y=>Yat y==q) with
 |none=>
  have:=List.find?_eq_none.1 h x hx;rw[hq] at this;simp at this
 |some y=>
  have h1:=List.find?_some h;have h2:=List.mem_of_find?_eq_some h;rw[Qg3 inter h2 hx ((beq_iff_eq.1 h1).trans hq.symm)]
theorem Yzx (inter:Bool){b:List UInt8}{n:Nat}{x:ByteArray×Sym}(ht:tk ((Ylb inter).map Yat) b 25 1=(0,n))(hx:x∈Ylb inter)(hq:Yat x=b.take n):
  mtk inter b=if sA x.2=2 then (0,0,6,0) else (sA x.2,sB x.2,0,n):=by
 unfold mtk;rw[ht,if_pos rfl,Qcd inter hx hq]
theorem Ytx (inter:Bool){b:List UInt8}{n:Nat}{f:Int}(ht:tk ((Ylb inter).map Yat) b 25 1=(f,n))(hf:f≠0):mtk inter b=(0,0,f,0):=by
 unfold mtk;rw[ht,if_neg hf]
end Go.Proofs.YtjjmalchelniiaaGreatDoor
namespace Go.Proofs.YtjjmalchelniiaaGreatDoor
open Go.RowKit Go.Lib
theorem Y3w (inter:Bool)(f:ByteArray)(w:World):
  Calls Tryz.prog 244 #[.bool inter,.string f] w fun e w'=>e=.returned (.func (.func 257) #[] #[.pointer (some ⟨w.heap.size,0,none⟩),.pointer (some ⟨w.heap.size+1,0,none⟩)])∧w'=(w.alloc (.cells #[.bool inter] 4)).alloc (.cells #[.string f] 9):=by
 go_enter Tryz.func244,Tryz.ntmps244
 go_wp2
 go_ret
 exact⟨rfl,rfl⟩
def Yf3 (n:Nat):Obj:=.cells (madeCells (Value.agg #[.string ⟨#[]⟩,.int .i64 0,.int .i64 0]).cells (n*3)) 274 (0,0)
theorem Qfa (w:World):(Instr.makeSlice 269 (.int .i64 0) (.int .i64 24)).run Tryz.prog w=.ok (.slice (some ⟨w.heap.size,0,none⟩) 0 24) (w.alloc (Yf3 24)):=by
 obtain⟨i0,hi,hz0,hz1,hz2⟩:=info_parts Ylm;have:=run_make (P:=Tryz.prog) w 269 274 i0 _ Tryz.underlying269 hi hz0 .i64 .i64 0 24 (by omega) (by omega) (by rw[hz2];omega) (by omega);rw[hz1] at this;exact this
theorem Y18 (w:World){base:Nat}(h:base≤w.heap.size):(w.alloc (Yf3 24)).ownsRow base 274 3 (.slice (some ⟨w.heap.size,0,none⟩) 0 24) 0 []:=
 World.ownsRow_made w _ 24 h (by decide) (size_madeCells _ _)
def Qb9 (inter:Bool)(s:ByteArray)(rb p:Nat)(w:World)(e:Ending)(w':World):Prop:=
 e=.returned (.tuple #[.int .i64 (mtk inter ((Yad s.data.toList).drop p)).1,.int .i64 (mtk inter ((Yad s.data.toList).drop p)).2.1,.int .i64 (mtk inter ((Yad s.data.toList).drop p)).2.2.1])∧
  Yba w' rb s (p+(mtk inter ((Yad s.data.toList).drop p)).2.2.2)∧w.grownBy w' (some rb)
theorem Ynd {inter:Bool}{s:ByteArray}{rb p n:Nat}{w w':World}{a b f:Int}(h:mtk inter ((Yad s.data.toList).drop p)=(a,b,f,n))(hr:Yba w' rb s (p+n))(hg:w.grownBy w' (some rb)):
  Qb9 inter s rb p w (.returned (.tuple #[.int .i64 a,.int .i64 b,.int .i64 f])) w':=by
 unfold Qb9;rw[h];exact⟨rfl,hr,hg⟩
def Ysq (w:World)(l:List (ByteArray×Sym))(v:Value)(x:World):Prop:=
 x.ownsRow w.heap.size 274 3 v l.length (Yay l)∧Below w.heap.size w x
theorem Y8p (s:ByteArray)(p:Nat)(h:p+1≤8*s.size):∃(t:Nat) (c:UInt8),Ya3 s.data.toList p 1=t∧t<2∧Lib.decDigits t=[c]∧(c=48∨c=49)∧((Yad s.data.toList).drop p).take 1=[c]:=by
 obtain⟨hn,hd⟩:=Yib s.data.toList p 0 h;have hlt:=Ycg s.data.toList p 1;have hlt:Ya3 s.data.toList p 1<2:=hlt;have h01:Ya3 s.data.toList p (0+1)=Ya3 s.data.toList p 1:=rfl;rw[h01] at hd;have hb:((Yad s.data.toList).drop p).take 1=[((Yad s.data.toList).drop p)[0]]:=by
  rw[List.take_succ_eq_append_getElem hn];rfl
 rcases hd with ⟨h1,h2⟩|⟨h1,h2⟩
 ·have ht:Ya3 s.data.toList p 1=0:=by omega
  exact⟨0,48,ht,by omega,by decide +kernel,.inl rfl,by rw[hb,h1]⟩
 ·have ht:Ya3 s.data.toList p 1=1:=by omega
  exact⟨1,49,ht,by omega,by decide +kernel,.inr rfl,by rw[hb,h1]⟩
theorem Qbt (inter:Bool)(c:UInt8):∀x∈Ynl inter [c] 24,x.1.size≤maxLen:=fun x hx=>by
 rw[Yk0] at hx;have h:=(Yb1 (Y61 inter x (List.mem_filter.1 hx).1)).2.1;have e:(Yat x).length=x.1.size:=rfl;unfold maxLen;omega
theorem Y4p {l ds:List (ByteArray×Sym)}(h:Qb5 l)(hp:ds.Perm l):Yhh (ds.map Yat)∧∀x∈ds,Yck (Yat x)=true:=
 ⟨(Ygc (hp.map Yat)).2 h.2.2.2.1,fun x hx=>h.2.2.1 x (hp.mem_iff.1 hx)⟩
theorem Yjo {w x:World}{row:Option Nat}(h:w.grownBy x row)(n:Nat):w.grownBy (x.drewN n) row:=⟨h.os,h.tape,h.output,h.size,h.block⟩
theorem Yjn {w x:World}{row:Option Nat}(h:w.grownBy x row)(o:Obj):w.grownBy (x.alloc o) row:=by
 have g:=World.grownBy_alloc x o none;refine⟨g.os.trans h.os,g.tape.trans h.tape,g.output.trans h.output,Nat.le_trans h.size g.size,fun k hk hn=>?_⟩;exact(g.block k (Nat.lt_of_lt_of_le hk h.size) (by simp)).trans (h.block k hk hn)
theorem Qj4 (inter:Bool)(c:UInt8)(L:List (ByteArray×Sym))(hL:Ynl inter [c] 24=L)(w:World):
  Calls Tryz.prog 243 #[.slice (some ⟨w.heap.size,0,none⟩) 0 24,.func (.func 257) #[] #[.pointer (some ⟨w.heap.size+1,0,none⟩),.pointer (some ⟨w.heap.size+1+1,0,none⟩)]]
   (((w.alloc (Yf3 24)).alloc (.cells #[.bool inter] 4)).alloc (.cells #[.string ⟨#[c]⟩] 9)).drew fun e w'=>∃v,e=.returned v∧Ysq w L v w':=by
 have h1:=Boxed.new (w.alloc (Yf3 24)) 4 (.bool inter);have h2:=Boxed.new ((w.alloc (Yf3 24)).alloc (.cells #[.bool inter] 4)) 9 (.string ⟨#[c]⟩);have h3:=h1.alloc (.cells #[.string ⟨#[c]⟩] 9);rw[World.size_alloc] at h3 h2;rw[World.size_alloc] at h2
 have hB:Below w.heap.size w (((w.alloc (Yf3 24)).alloc (.cells #[.bool inter] 4)).alloc (.cells #[.string ⟨#[c]⟩] 9)).drew:=((((Below.refl _ w).alloc (Nat.le_refl _) _).alloc (by simp) _).alloc (by simp;omega) _).drew;refine(Yl7 w.heap.size (w.heap.size+1) (w.heap.size+1+1) inter ⟨#[c]⟩ _ _ hB.size (((Y18 w (Nat.le_refl _)).alloc _).alloc _) ⟨_,_,rfl⟩ h3 h2).mono ?_;rintro e w' ⟨v,rfl,ho,hb⟩
 have e1:(⟨#[c]⟩:ByteArray).data.toList=[c]:=rfl;rw[e1,hL] at ho;exact⟨v,rfl,ho,hB.trans hb⟩
theorem Qj5 (inter:Bool)(c:UInt8)(L:List (ByteArray×Sym))(hL:Ynl inter [c] 24=L)(w:World):
  Calls Tryz.prog 243 #[.slice (some ⟨w.heap.size+1+1,0,none⟩) 0 24,.func (.func 257) #[] #[.pointer (some ⟨w.heap.size,0,none⟩),.pointer (some ⟨w.heap.size+1,0,none⟩)]]
   (((w.alloc (.cells #[.bool inter] 4)).alloc (.cells #[.string ⟨#[c]⟩] 9)).alloc (Yf3 24)).drew fun e w'=>∃v,e=.returned v∧Ysq w L v w':=by
 have h1:=((Boxed.new w 4 (.bool inter)).alloc (.cells #[.string ⟨#[c]⟩] 9)).alloc (Yf3 24);have h2:=(Boxed.new (w.alloc (.cells #[.bool inter] 4)) 9 (.string ⟨#[c]⟩)).alloc (Yf3 24);rw[World.size_alloc] at h2;have hr:=Y18 ((w.alloc (.cells #[.bool inter] 4)).alloc (.cells #[.string ⟨#[c]⟩] 9)) (base:=w.heap.size) (by simp;omega);rw[World.size_alloc,World.size_alloc] at hr
 have hB:Below w.heap.size w (((w.alloc (.cells #[.bool inter] 4)).alloc (.cells #[.string ⟨#[c]⟩] 9)).alloc (Yf3 24)).drew:=((((Below.refl _ w).alloc (Nat.le_refl _) _).alloc (by simp) _).alloc (by simp;omega) _).drew;refine(Yl7 w.heap.size w.heap.size (w.heap.size+1) inter ⟨#[c]⟩ _ _ hB.size hr ⟨_,_,rfl⟩ h1 h2).mono ?_;rintro e w' ⟨v,rfl,ho,hb⟩;have e1:(⟨#[c]⟩:ByteArray).data.toList=[c]:=rfl
 rw[e1,hL] at ho;exact⟨v,rfl,ho,hB.trans hb⟩
set_option maxRecDepth 100000 in
set_option maxHeartbeats 1000000 in
theorem Y4s (inter:Bool)(w:World)(rb:Nat)(s:ByteArray)(p:Nat)(hr:Yba w rb s p):
  Calls Tryz.prog 237 #[.pointer (some ⟨rb,0,none⟩),.bool inter] w (Qb9 inter s rb p w):=by
 obtain⟨bs,hbs⟩:∃bs,(Yad s.data.toList).drop p=bs:=⟨_,rfl⟩;have hbl:bs.length=8*s.size-p:=by rw[←hbs,List.length_drop,Yag];rfl
 have hpl:=hr.2.1;have hrlt:=hr.lt;have HBS:=Lib.hid hbs;by_cases hsh:8*s.size<p+1
 ·have hask:ask s.data.toList p 1=(0,2):=Ybo (by omega) (by have:s.data.toList.length=s.size:=rfl;omega);have F:=Lib.hid (Ytx inter (b:=bs) (n:=0) (f:=2) (by
   cases bs with
   |nil=>rfl
   |cons a l=>simp at hbl;omega) (by decide))
  clear hsh hbl hbs
  go_enter Tryz.func237,Tryz.ntmps237
  go_wp2_with fail
  refine(Ybr _ _ _ _ 1 hr).mono ?_;rintro e w1 ⟨rfl,hb1⟩;rw[hask];have hr1:=hr.below hb1;have hg1:w.grownBy w1 (some rb):=⟨hb1.os,hb1.tape,hb1.output,hb1.size,fun k hk _=>hb1.block k hk⟩
  go_wp2
  go_ret3
  exact Ynd (n:=0) (by rw[HBS.out];exact F.out) hr1 hg1
 obtain⟨t,c,ht,ht2,hdd,hc,hb1⟩:=Y8p s p (by omega);have hask:ask s.data.toList p 1=((t:Int),0):=by
  have:=Yc8 (l:=s.data.toList) (p:=p) (n:=1) (by omega) (by have:s.data.toList.length=s.size:=rfl;omega);rw[this,show (1:Int).toNat=1 from rfl,ht]
 rw[hbs] at hb1;obtain⟨L,hL⟩:∃L,Ynl inter [c] 24=L:=⟨_,rfl⟩;have hmk:=Qit inter hc;have hrow:=Qbt inter c;have hll:=Yuv inter [c] 24;have htu:=fun(ds:List (ByteArray×Sym)) (hp:ds.Perm L)=>Qir inter hb1 (ds:=ds) (by rw[hL];exact hp);have hin:∀x∈L,x∈Ylb inter:=fun x hx=>by
  rw[←hL,Yk0] at hx;exact(List.mem_filter.1 hx).1
 rw[hL] at hmk hrow hll;have MK:=Lib.hid hmk;have HT:=Lib.hid htu;have HIN:=Lib.hid hin;have HLL:=Lib.hid hL;have hit:=fun w=>Y4i t (by omega) w;rw[hdd] at hit;have hroom:=fun w=>Qfa w;clear hmk htu hin hL hb1 hdd hc ht hsh hbl hbs
 go_enter Tryz.func237,Tryz.ntmps237
 go_wp2_with fail
 refine(Ybr _ _ _ _ 1 hr).mono ?_;rintro e w1 ⟨rfl,hb1⟩;rw[hask];have hr1:=hr.below hb1
 go_upto_region 4 with (fail)
 go_cut [9] from 21 to 26 (fun v x=>Ysq w1 L v x)
 case first=>
  go_region_with (first
   |(go_at_call 245;refine(hit _).mono ?_;rintro e w' ⟨rfl,rfl⟩)
   |(go_at_call 244;refine(Y3w inter _ _).mono ?_;rintro e w' ⟨rfl,rfl⟩)
   |(go_at_call 243;(first|with_reducible refine(Qj4 inter c L HLL.out _).mono ?_|with_reducible refine(Qj5 inter c L HLL.out _).mono ?_);rintro e w2 ⟨v,rfl,hm⟩))
  all_goals
   go_wp2
   go_meet
   case rel=>exact hm
 case rest=>
  obtain⟨hown,hb2⟩:=hcut;obtain⟨q,cap,rfl,hcds⟩:=Yo5 hown;have hr2:Yba wc rb s p:=by
   have h:=hr1.lt;exact⟨by rw[hb2.block rb h];exact hr1.1,hr1.2⟩
  have hbw2:Below w.heap.size w wc:=hb1.trans (hb2.mono hb1.size);have hrl2:rb<wc.heap.size:=hr2.lt;clear hown hb2 hr1 hb1 hit hroom hr hask
  go_wp2_with fail
  refine(Y4q L q cap _ hcds (by unfold maxLen;omega) hrow).mono ?_;rintro e w3 ⟨hy,_,hb3⟩;obtain⟨tb,ds,rfl,ht,hp,hs⟩:=hy MK.out;obtain⟨hf,ho⟩:=Y4p MK.out hp;have hr3:=hr2.below hb3;have hbw3:Below w.heap.size w w3:=hbw2.trans (hb3.mono hbw2.size);have HS:=Lib.hid hs;have HF:=Lib.hid hf;have HO:=Lib.hid ho;have HP:=Lib.hid hp;have IT:=Lib.hid ht;clear hy hs hf ho hp ht hr2 hb3 hbw2 hcds hrow hll
  go_wp2_with fail
  refine(Yb7 _ _ _ _ hr3).mono ?_;rintro e w' ⟨rfl,rfl⟩
  go_wp2_with fail
  refine(Y0u _ _ _ tb rb ds _ s p IT.out hr3 (.inl hrl2) HS.out HF.out HO.out).mono ?_;rintro e w4 ⟨v,rfl,hv0,hv1,hr4,hg4⟩;rw[HBS.out,HT.out ds HP.out] at hv0 hv1 hr4 ⊢;obtain⟨f,n,hk⟩:∃f n,tk ((Ylb inter).map Yat) bs 25 1=(f,n):=⟨_,_,rfl⟩;rw[hk] at hv0 hv1 hr4 ⊢;have HK:=Lib.hid hk;have V0:=Lib.hid hv0;have V1:=Lib.hid hv1;have hcd:=Yuq ((Ylb inter).map Yat) bs 25 1;rw[hk] at hcd
  have hgw4:w.grownBy w4 (some rb):=by
   refine⟨hg4.os.trans hbw3.os,hg4.tape.trans hbw3.tape,hg4.output.trans hbw3.output,Nat.le_trans hbw3.size hg4.size,fun k hk hn=>?_⟩;exact(hg4.block k (Nat.lt_of_lt_of_le hk hbw3.size) hn).trans (hbw3.block k hk)
  have evs:Qf0 v=.agg #[.int .i64 (sA v),.int .i64 (sB v)]:=rfl;rw[evs];clear hk hv0 hv1 hg4 hr3 hbw3 evs;by_cases h0:f=0
  ·subst h0;obtain⟨x,hx,hxr,hxv⟩:=V0.out rfl;have hxa:=HIN.out x (HP.out.mem_iff.1 hx);have F0:=Yzx inter HK.out hxa hxr;rw[hxv] at F0;by_cases h2:sA v=2
   ·rw[if_pos h2] at F0;have F:=Lib.hid F0;have g2:(sA v==2)=true:=by rw[h2];rfl
    have hr5:Yba (w4.alloc (.cells #[.int .i64 0,.int .i64 0] 272)) rb s (p+n):=hr4.below ((Below.refl _ w4).alloc (Nat.le_refl _) _);have hg5:w.grownBy (w4.alloc (.cells #[.int .i64 0,.int .i64 0] 272)) (some rb):=(Yjn hgw4 _);have hrl4:=hr4.lt;clear F0 h2 hxv hxr hx hxa hr4 hgw4
    go_wp2_with fail
    refine(Yb2 _ _ _ _ (p:Int) hr5 (by omega) (by omega)).mono ?_;rintro e w6 ⟨rfl,hr6,hg6⟩;have hbx:w6.heap[w4.heap.size]? =some (Yky 0 0):=(hg6.block w4.heap.size (by simp) (by intro e;injection e with e;omega)).trans (heap_alloc_new w4 _);obtain⟨n0,n1,_,_⟩:=Ykz hbx;have hg7:=Yac hg5 hg6;rw[Int.toNat_natCast] at hr6
    go_wp2_with fail
    go_quiet (fail)
    go_wp2
    go_ret3
    exact Ynd (n:=0) (by rw[HBS.out];exact F.out) hr6 (Yjo hg7 _)
   ·rw[if_neg h2] at F0;have F:=Lib.hid F0;have g2:(sA v==2)=false:=by rw[beq_eq_false_iff_ne];exact h2
    clear F0 h2 hxv hxr hx hxa
    go_wp2
    go_quiet (fail)
    go_wp2
    go_ret3
    exact Ynd (n:=n) (by rw[HBS.out];exact F.out) (hr4.below (Yem ((Below.refl _ w4).alloc (Nat.le_refl _) _) _)) (Yjo (Yjn hgw4 _) _)
  ·obtain rfl:=V1.out h0;have hn:n=0:=by
    rcases hcd with h|h|h
    ·exact absurd h h0
    ·exact h.2
    ·exact h.2
   subst hn;have F:=Lib.hid (Ytx inter HK.out h0);have g0:(f==0)=false:=by rw[beq_eq_false_iff_ne];exact h0
   clear h0 hcd
   go_wp2
   go_quiet (fail)
   go_wp2
   go_ret3
   exact Ynd (n:=0) (by rw[HBS.out];exact F.out) (hr4.below (Yem ((Below.refl _ w4).alloc (Nat.le_refl _) _) _)) (Yjo (Yjn hgw4 _) _)
theorem Y7l {inter:Bool}{i:Nat}(h:i<24)(hr:(!(Yat (Yj9 inter i)).isEmpty)=true):Yj9 inter i∈Ylb inter:=
 List.mem_filter.2 ⟨List.mem_map_of_mem (List.mem_range.2 h),hr⟩
end Go.Proofs.YtjjmalchelniiaaGreatDoor