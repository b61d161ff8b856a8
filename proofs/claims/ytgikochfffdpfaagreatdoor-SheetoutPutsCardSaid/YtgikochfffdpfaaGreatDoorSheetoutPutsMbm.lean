/- Texts that SheetoutPuts's proof stands on, part 39 of 47. No condition of its own. -/
import Derived.Test.YtgikochfffdpfaaGreatDoorSheetoutPutsMi
import Derived.Test.YtgikochfffdpfaaGreatDoorSheetoutPutsMbb
import Derived.Test.YtgikochfffdpfaaGreatDoorSheetoutPutsMbi
import Derived.StillTailTactics
import Derived.Deep.CutRange
import Derived.Deep.DeepCutAuto
import Derived.Maps.AppendAt
import Derived.Laws.OwnMore
import Derived.RegionTactic
import Derived.Deep.RegionWith
namespace Go.Proofs.YtgikochfffdpfaaGreatDoor
open Go.RowKit Go.Lib
def Yxl (last:Bool) (run amt:Nat):ByteArray:=if inT last run amt then Yw1 (plT last run amt) else ⟨#[]⟩
theorem Yqi (l:List ByteArray):(Yqh l).length=l.length:=List.length_map _
theorem Yo7 (last:Bool) (run:Nat):(Yjn last run).length=Ygo last run:=by unfold Yjn;rw [List.length_map,List.length_range]
theorem Ynr (last:Bool) (run:Nat):(Yjq last run).length=Ygo last run:=by unfold Yjq;rw [List.length_map,Yo7]
theorem Yye {l:List ByteArray} {last:Bool} {run:Nat} (h:Yqh l=Yjq last run) {i:Nat} (hi:i<Ygo last run):∃h2:i<l.length,l[i]=Yw1 (Yj4 last+Yqs last run+i):=by
 have hl:l.length=Ygo last run:=by rw [←Yqi,h,Ynr]
 refine ⟨by omega,Yln.2 ?_⟩
 have h1:(Yqh l)[i]? = some l[i].data.toList:=by unfold Yqh;rw [List.getElem?_map,List.getElem?_eq_getElem (by omega)];rfl
 rw [h] at h1
 unfold Yjq Yjn at h1
 rw [List.getElem?_map,List.getElem?_map,List.getElem?_range hi] at h1
 simp only [Option.map_some,Option.some.injEq] at h1
 exact h1.symm
set_option maxRecDepth 100000 in
set_option maxHeartbeats 1000000 in
theorem Ywd (last:Bool) (run amt:Nat) (hr:run<64) (h1:1≤amt) (h2:amt≤200) (w:World):Calls Tryz.prog 122 #[.bool last,.int .i64 (run:Int),.int .i64 (amt:Int)] w fun e w'=> e = .returned (.string (Yxl last run amt))∧Below w.heap.size w w':=by
 have hro:=fun x=> Yvb last run hr x
 by_cases h:amt≤Ygo last run
 ·have F:=Lib.hid (show Yxl last run amt=Yw1 (plT last run amt) by unfold Yxl;rw [if_pos (Yt0.2 ⟨h1,h⟩)])
  rw [F.out]
  obtain ⟨i,rfl⟩:∃i,amt=i+1:=⟨amt-1,by omega⟩
  have hat:=fun (l:List ByteArray) (hl:Yqh l=Yjq last run)=> Yye hl (i:=i) (by omega)
  have hpl:plT last run (i+1)=Yj4 last+Yqs last run+i:=by unfold plT;omega
  rw [hpl]
  generalize Yw1 (Yj4 last+Yqs last run+i)=y at hat ⊢
  have AT:=Lib.hid hat
  clear hat F hpl h
  go_enter Tryz.func122,Tryz.ntmps122
  go_wp2_with fail
  refine (hro _).mono ?_
  rintro e w1 ⟨l,q,cap,rfl,hl,hst,_,hb⟩
  obtain ⟨hil,hy⟩:=AT.out l hl
  obtain ⟨b,o,rfl,_,hc⟩:=hst.at (by omega)
  have c0:w1.cell? ⟨b,o+i,none⟩=some (.string y):=(hc i hil).trans (by rw [hy])
  have t0:decide ((l.length:Int)<(i:Int)+1)=false:=by simp;omega
  obtain ⟨n,hn⟩:∃n,l.length=n:=⟨_,rfl⟩
  rw [hn] at t0 hil ⊢
  clear hc hl hst hy hn
  go_wp2
  go_ret
  exact ⟨rfl,hb⟩
 ·have F:=Lib.hid (show Yxl last run amt=⟨#[]⟩ by unfold Yxl;rw [if_neg (by rw [Yt0];omega)])
  rw [F.out]
  have hln:=fun (l:List ByteArray) (hl:Yqh l=Yjq last run)=> (show l.length<amt by rw [←Yqi,hl,Ynr];omega)
  clear F h
  go_enter Tryz.func122,Tryz.ntmps122
  go_wp2_with fail
  refine (hro _).mono ?_
  rintro e w1 ⟨l,q,cap,rfl,hl,hst,_,hb⟩
  have hlt:=hln l hl
  have t0:decide ((l.length:Int)<(amt:Int))=true:=by simp;omega
  generalize l.length=n at hlt t0 ⊢
  have t1:decide (n<amt)=true:=by simpa using hlt
  clear hl hst
  go_wp2
  go_ret
  exact ⟨rfl,hb⟩
theorem Yvh (n:Int) (w:World):Calls Tryz.prog 124 #[.int .i64 n] w fun e w'=> e = .returned (.string (if n<0 then ⟨#[49]⟩ else ⟨#[48]⟩))∧w=w':=by
 by_cases h:n<0
 ·have t0:decide (n<0)=true:=by simpa using h
  rw [if_pos h]
  go_enter Tryz.func124,Tryz.ntmps124
  go_wp2
  go_ret
  exact ⟨rfl,rfl⟩
 ·have t0:decide (n<0)=false:=by simpa using h
  rw [if_neg h]
  go_enter Tryz.func124,Tryz.ntmps124
  go_wp2
  go_ret
  exact ⟨rfl,rfl⟩
theorem Ymk (n:Int) (h1:-200≤n) (h2:n≤200) (w:World):Calls Tryz.prog 123 #[.int .i64 n] w fun e w'=> e = .returned (.int .i64 (n.natAbs:Nat))∧w=w':=by
 by_cases h:n<0
 ·have t0:decide (n<0)=true:=by simpa using h
  have F:=Lib.hid (show ((n.natAbs:Nat):Int) = -n by omega)
  rw [F.out]
  go_enter Tryz.func123,Tryz.ntmps123
  go_wp2
  go_ret
  exact ⟨Yfd (by rfl),rfl⟩
 ·have t0:decide (n<0)=false:=by simpa using h
  have F:=Lib.hid (show ((n.natAbs:Nat):Int)=n by omega)
  rw [F.out]
  go_enter Tryz.func123,Tryz.ntmps123
  go_wp2
  go_ret
  exact ⟨rfl,rfl⟩
theorem Yhj (c d n m:Nat) (hc:c<2^n) (hd:d<2^m):Yak c n++Yak d m=Yak (c*2^m+d) (n+m):=by
 have h:=Ypb (Yak c n++Yak d m) (by rw [Yam,Yb5,Yb5];rfl)
 rw [List.length_append,Yag,Yag,Yry,Yag,Ync,Ync,Nat.mod_eq_of_lt hc,Nat.mod_eq_of_lt hd] at h
 exact h.symm
theorem Yot {last:Bool} {run:Nat} {level:Int} (hr:Yci run level=true) (hin:inT last run level.natAbs=true):Ybe last run level=Yw1 (plT last run level.natAbs)++(if level<0 then ⟨#[49]⟩ else ⟨#[48]⟩):=by
 obtain ⟨r0,r1,_⟩:=Ycj.1 hr
 obtain ⟨b0,b1,b2,_⟩:=Yeb (plT last run level.natAbs) (Nat.lt_trans (Ynl (by omega) hin) (by decide))
 unfold Ybe Ynb Ylt Yw1
 rw [if_pos hr,Int.toNat_natCast,hin,if_pos rfl,if_pos rfl]
 by_cases h:level<0
 ·rw [if_pos h,if_pos h,show (⟨#[49]⟩:ByteArray)=⟨(Yak 1 1).toArray⟩ from rfl,Ybk,Yhj _ _ _ _ b2 (by decide),Nat.mul_comm]
 ·rw [if_neg h,if_neg h,show (⟨#[48]⟩:ByteArray)=⟨(Yak 0 1).toArray⟩ from rfl,Ybk,Yhj _ _ _ _ b2 (by decide),Nat.mul_comm]
theorem Ymx {last:Bool} {run:Nat} {level:Int} (hr:Yci run level=true) (hin:inT last run level.natAbs=false):
  Ybe last run level=⟨#[48,48,48,48,48,49,49]⟩++(if last then ⟨#[49]⟩ else ⟨#[48]⟩)++⟨(Yak run 6).toArray⟩++⟨(Yak (level%256).toNat 8).toArray⟩:=by
 obtain ⟨r0,r1,_⟩:=Ycj.1 hr
 have h6:(6+last.toNat)<2^8:=by cases last <;> decide
 unfold Ybe Ynb Ylt
 rw [if_pos hr,Int.toNat_natCast,hin,if_neg (by decide),if_neg (by decide)]
 rw [show (⟨#[48,48,48,48,48,49,49]⟩:ByteArray)++(if last then ⟨#[49]⟩ else ⟨#[48]⟩)=⟨(Yak (6+last.toNat) 8).toArray⟩ by cases last <;> decide +kernel]
 rw [Ybk (Yak (6+last.toNat) 8),Yhj _ _ _ _ h6 (by omega),Ybk,Yhj _ _ _ _ (by cases last <;> simp <;> omega) (by omega)]
set_option maxRecDepth 100000 in
set_option maxHeartbeats 1000000 in
theorem Yrh (last:Bool) (run level:Int) (w:World):Calls Tryz.prog 98 #[.agg #[.bool last,.int .i64 run,.int .i64 level]] w fun e w'=> e = .returned (.string (Ybe last run level))∧Below w.heap.size w w':=by
 have hri:=fun x=> Yjo last run level x
 have hb1:Below w.heap.size w (w.alloc (.cells #[.bool last,.int .i64 run,.int .i64 level] 130 (0,0))):=(Below.refl _ w).alloc (Nat.le_refl _) _
 have hh:∀x,Below (w.heap.size+1) (w.alloc (.cells #[.bool last,.int .i64 run,.int .i64 level] 130 (0,0))) x→x.heap[w.heap.size]? = some (Yos last run level):=fun x hx=> (hx.block w.heap.size (by omega)).trans (heap_alloc_new w _)
 have HH:=Lib.hid hh
 have hz1:(w.alloc (.cells #[.bool last,.int .i64 run,.int .i64 level] 130 (0,0))).heap.size=w.heap.size+1:=by simp
 have HZ:=Lib.hid hz1
 cases hr:Yci run level with
 | false=>
  have F:=Lib.hid (show Ybe last run level=⟨#[]⟩ by unfold Ybe;rw [hr,if_neg (by decide)])
  rw [F.out]
  rw [hr] at hri
  clear hr hh hz1
  go_enter Tryz.func98,Tryz.ntmps98
  go_wp2_with fail
  refine (hri _).mono ?_
  rintro e w1 ⟨rfl,hb2⟩
  rw [HZ.out] at hb2
  go_wp2
  go_ret
  exact ⟨rfl,hb1.trans (hb2.mono (by omega))⟩
 | true=>
  obtain ⟨r0,r1,l0,l1,l2⟩:=Ycj.1 hr
  obtain ⟨r,rfl⟩:∃r:Nat,run=r:=⟨run.toNat,by omega⟩
  have ham:=fun x=> Ymk level (by omega) (by omega) x
  have hha:=fun x=> Ywd last r level.natAbs (by omega) (by omega) (by omega) x
  rw [hr] at hri
  obtain ⟨ev,hev⟩:∃ev,Ybe last r level=ev:=⟨_,rfl⟩
  obtain ⟨y,hy⟩:∃y,Yxl last r level.natAbs=y:=⟨_,rfl⟩
  obtain ⟨sg,hsy⟩:∃sg:ByteArray,(if level<0 then ⟨#[49]⟩ else ⟨#[48]⟩)=sg:=⟨_,rfl⟩
  have hss:sg.size=1:=by rw [←hsy];split <;> rfl
  have hsg:=fun x=> Yvh level x
  rw [hsy] at hsg
  have hcase:(y.toList≠[]∧y.toList.isEmpty=false∧y.size≤12∧ev=y++sg)∨(y=⟨#[]⟩∧ev=⟨#[48,48,48,48,48,49,49]⟩++(if last then ⟨#[49]⟩ else ⟨#[48]⟩)++⟨(Yak r 6).toArray⟩++⟨(Yak (level%256).toNat 8).toArray⟩):=by
   cases hin:inT last r level.natAbs with
   | true=>
    have hy2:Yw1 (plT last r level.natAbs)=y:=by rw [←hy];unfold Yxl;rw [hin,if_pos rfl]
    have hcf:=Yeb _ (Nat.lt_trans (Ynl (by omega) hin) (show 102<103 by decide))
    have e:(Yw1 (plT last r level.natAbs)).data.toList.length=Yo0 (plT last r level.natAbs):=Ywz _
    rw [hy2] at e
    have hnil:y.data.toList≠[]:=by
     intro h
     rw [h,List.length_nil] at e
     have:=hcf.1
     omega
    refine .inl ⟨by rw [Lib.toList_data];exact hnil,by rw [Lib.toList_data];simpa using hnil,?_,?_⟩
    ·have:y.data.toList.length=y.size:=rfl
     have:=hcf.2.1
     omega
    ·rw [←hev,Yot hr hin,hy2,hsy]
   | false=> exact .inr ⟨by rw [←hy];unfold Yxl;rw [hin,if_neg (by decide)],by rw [←hev,Ymx hr hin]⟩
  have CASE:=Lib.hid hcase
  rw [hev]
  rw [hy] at hha
  generalize level.natAbs=a at ham hha
  clear hr hh hz1 hcase hev hy hsy
  go_enter Tryz.func98,Tryz.ntmps98
  go_wp2_with fail
  refine (hri _).mono ?_
  rintro e w1 ⟨rfl,hb2⟩
  rw [HZ.out] at hb2
  have hb3:=hb1.trans (hb2.mono (by omega))
  obtain ⟨c0,c1,c2,_,_,_⟩:=Yfl (HH.out _ hb2)
  have hz3:w.heap.size+1≤w1.heap.size:=by have:=hb2.size;rw [HZ.out] at this;exact this
  go_wp2_with fail
  have q0:w1.drew.cell? ⟨w.heap.size,0,none⟩=some (.bool last):=c0
  have q1:w1.drew.cell? ⟨w.heap.size,1,none⟩=some (.int .i64 (r:Int)):=c1
  have q2:w1.drew.cell? ⟨w.heap.size,2,none⟩=some (.int .i64 level):=c2
  clear c0 c1 c2
  go_cut [3] from 9 to 16 (fun v wx=> v = .string y∧Below (w.heap.size+1) (w.alloc (.cells #[.bool last,.int .i64 (r:Int),.int .i64 level] 130 (0,0))) wx∧Below w.heap.size w wx)
  case first=>
   have ham2:∀x,Calls Tryz.prog 123 #[.int .i64 level] x fun e w'=> e = .returned (.int .i64 (a:Nat))∧w'=x:=fun x=> (ham x).mono fun _ _ ⟨h1,h2⟩=> ⟨h1,h2.symm⟩
   have hb2d:=hb2.drew
   have hb3d:=hb3.drew
   have hz3d:w.heap.size+1≤w1.drew.heap.size:=hz3
   go_still_tail 7,(by kernel_rfl)
   still_call (ham2 _)
   refine wpStill_nil ?_
   change wpList _ _ _ _ _ w1.drew
   generalize w1.drew=w4 at q0 q1 q2 hb2d hb3d hz3d ⊢
   go_wp2_with (go_at_call 122;refine (hha _).mono ?_;rintro e w2 ⟨rfl,hb4⟩)
   go_meet
   exact ⟨rfl,hb2d.trans (hb4.mono hz3d),hb3d.trans (hb4.mono (by omega))⟩
  case rest=>
   clear q0 q1 q2 hb2 hb3 hb1 ham hha hri hz3
   obtain ⟨rfl,hb5,hb6⟩:=hcut
   obtain ⟨c0,c1,c2,_,_,_⟩:=Yfl (HH.out _ hb5)
   rcases CASE.out with ⟨e1,e2,e3,e4⟩ | ⟨e1,e4⟩
   ·have F:=Lib.hid e4
    clear CASE e4
    go_wp2_with fail
    refine (hsg _).mono ?_
    rintro e w3 ⟨rfl,rfl⟩
    go_wp2
    go_ret
    exact ⟨by rw [F.out];rfl,hb6⟩
   ·have F:=Lib.hid e4
    subst e1
    have hrow:=fun (v n:Int) h1 h2 h3 h4 x=> Ycp v n h1 h2 h3 h4 x
    clear CASE e4 hsg
    obtain ⟨x1,hx1⟩:∃x1:ByteArray,⟨(Yak r 6).toArray⟩=x1:=⟨_,rfl⟩
    obtain ⟨x2,hx2⟩:∃x2:ByteArray,⟨(Yak (level%256).toNat 8).toArray⟩=x2:=⟨_,rfl⟩
    have s1:x1.size=6:=by rw [←hx1,Yds,Yag]
    have s2:x2.size=8:=by rw [←hx2,Yds,Yag]
    rw [hx1,hx2] at F
    have X1:=Lib.hid hx1
    have X2:=Lib.hid hx2
    clear hx1 hx2
    cases last
    all_goals
     by_cases hneg:level<0
     ·have t0:decide (level<0)=true:=by simpa using hneg
      have G:=Lib.hid (show (level%256).toNat=(256+level).toNat by omega)
      go_wp2_with fail
      refine (hrow (r:Int) 6 (by omega) (by omega) (by omega) (by omega) _).mono ?_
      rintro e w3 ⟨rfl,rfl⟩
      rw [Int.toNat_natCast,show (6:Int).toNat=6 from rfl,X1.out]
      go_wp2_with fail
      refine (hrow (256+level) 8 (by omega) (by omega) (by omega) (by omega) _).mono ?_
      rintro e w3 ⟨rfl,rfl⟩
      rw [←G.out,show (8:Int).toNat=8 from rfl,X2.out]
      go_wp2
      go_ret
      exact ⟨by rw [F.out];rfl,hb6⟩
     ·have t0:decide (level<0)=false:=by simpa using hneg
      have G:=Lib.hid (show (level%256).toNat=(level).toNat by omega)
      go_wp2_with fail
      refine (hrow (r:Int) 6 (by omega) (by omega) (by omega) (by omega) _).mono ?_
      rintro e w3 ⟨rfl,rfl⟩
      rw [Int.toNat_natCast,show (6:Int).toNat=6 from rfl,X1.out]
      go_wp2_with fail
      refine (hrow (level) 8 (by omega) (by omega) (by omega) (by omega) _).mono ?_
      rintro e w3 ⟨rfl,rfl⟩
      rw [←G.out,show (8:Int).toNat=8 from rfl,X2.out]
      go_wp2
      go_ret
      exact ⟨by rw [F.out];rfl,hb6⟩
theorem Yq2 (i:Bool) (w:World):Calls Tryz.prog 120 #[.bool i] w fun e w'=> e = .returned (.int .i64 (Yby i:Nat))∧w=w':=by
 cases i
 all_goals
  go_enter Tryz.func120,Tryz.ntmps120
  go_wp2
  go_ret
  exact ⟨rfl,rfl⟩
set_option maxRecDepth 100000 in
set_option maxHeartbeats 1000000 in
theorem Ytb (i:Bool) (d:Int) (p:Option Addr) (l:List Ev) (c:Nat) (w:World) (hp:Yd2 w p l) (hln:l.length≤140737488355328):
  Calls Tryz.prog 94 #[.bool i,.int .i64 d,.slice p l.length c] w fun e w'=> e = .returned (.bool (Yh4 i d l))∧Below w.heap.size w w':=by
 obtain ⟨B,hB⟩:∃B,w.heap.size=B:=⟨_,rfl⟩
 have hfr:=fun x=> Yq2 i x
 have hlv:=Yo1 p l c ((Yby i:Nat):Int) w hp hln
 unfold Yga at hlv
 have hor:((lvG l ((Yby i:Nat):Int)).2=0∧Yib (Yby i) l l.length=false)∨((lvG l ((Yby i:Nat):Int)).2=7∧Yib (Yby i) l l.length=true):=by
  cases hb:Yib (Yby i) l l.length with
  | false=> exact .inl ⟨Yxm hb,rfl⟩
  | true=> exact .inr ⟨Yt8 hb,rfl⟩
 have hmay:Yh4 i d l=(Ys0 i d && !Yib (Yby i) l l.length):=rfl
 rw [hmay]
 have HONE:=Yej (lvG l ((Yby i:Nat):Int)).1
 have HSZ:(Tryz.prog.info? 144).map (·.size)=some (Yf1 (lvG l ((Yby i:Nat):Int)).1).size:=Ydm _
 obtain ⟨Y,hY⟩:∃Y,Yf1 (fun _=> 0)=Y:=⟨_,rfl⟩
 have hzv:∀w,(zeroValue 144).run Tryz.prog w = .ok (.agg Y) w:=by rw [←hY];exact Ygw
 have hYZ:Y.size=(Yf1 (lvG l ((Yby i:Nat):Int)).1).size:=by rw [←hY,Yb2,Yb2]
 generalize Yf1 (lvG l ((Yby i:Nat):Int)).1=Z at hlv HONE HSZ hYZ
 generalize (lvG l ((Yby i:Nat):Int)).2=f at hlv hor
 generalize Yib (Yby i) l l.length=bv at hor ⊢
 generalize ((Yby i:Nat):Int)=fr at hfr hlv
 have HB:=Lib.hid hB
 generalize l.length=n at hlv ⊢
 obtain ⟨M,hM⟩:∃M,(Ys0 i d && !bv)=M:=⟨_,rfl⟩
 rw [hM]
 clear hp hY hB hln hmay
 go_enter Tryz.func94,Tryz.ntmps94
 go_wp2_with fail
 refine (hfr _).mono ?_
 rintro e w2 ⟨rfl,rfl⟩
 go_wp2_with fail
 refine hlv.mono ?_
 rintro e w2 ⟨rfl,hb2⟩
 rw [HB.out] at hb2
 have hz3:B≤w2.heap.size:=by rw [←HB.out];exact (show Below w.heap.size w w2 by rw [HB.out];exact hb2).size
 obtain ⟨X,hX⟩:∃X,w2.heap.size=X:=⟨_,rfl⟩
 have hh4:=heap_alloc_new w2 (.cells Y 144 (0,0))
 have hb4:=hb2.alloc hz3 (.cells Y 144 (0,0))
 have hsz4:(w2.alloc (.cells Y 144 (0,0))).heap.size=X+1:=by simp;omega
 rw [hX] at hh4
 generalize hw4:w2.alloc (.cells Y 144 (0,0))=w4 at hh4 hb4 hsz4
 have HW4:=Lib.hid hw4
 have HX:=Lib.hid hX
 have HXB:=Lib.hid (show B≤X by omega)
 clear hw4 hX hb2 hz3 hlv hfr
 have FIN:=Lib.hid (fun (r:Bool) (x:World) (hx:Below B w x) (h:M=r)=> (⟨by rw [h],by rw [HB.out];exact hx⟩:Ending.returned (.bool r) = .returned (.bool M)∧Below w.heap.size w x))
 rcases hor with ⟨rfl,rfl⟩ | ⟨rfl,rfl⟩
 ·cases i with
  | false=>
   obtain ⟨b0,h0⟩:∃b0,(d==0)=b0:=⟨_,rfl⟩
   have R:=Lib.hid (show M=b0 by rw [←hM,Yrd,h0];simp)
   clear hM
   cases b0
   all_goals
    go_wp2_with (rw [HW4.out,HX.out];with_reducible refine Yao rfl 144 _ _ rfl X Z Y rfl rfl 144 hh4 HSZ hYZ HONE ?_;intro w5 hh5 hg5;clear hzv)
    have hb6:=hb4.grown hg5 (by have:=HXB.out;omega) (fun k hk=> by injection hk with hk;have:=HXB.out;omega)
    go_ret
    exact FIN.out _ _ hb6 R.out
  | true=>
   obtain ⟨b0,h0⟩:∃b0,decide (1≤d)=b0:=⟨_,rfl⟩
   obtain ⟨b1,h1⟩:∃b1,decide (d≤254)=b1:=⟨_,rfl⟩
   have R:=Lib.hid (show M=(b0&&b1) by rw [←hM,Ytm,h0,h1];simp)
   clear hM
   cases b0 <;> cases b1
   all_goals
    go_wp2_with (rw [HW4.out,HX.out];with_reducible refine Yao rfl 144 _ _ rfl X Z Y rfl rfl 144 hh4 HSZ hYZ HONE ?_;intro w5 hh5 hg5;clear hzv)
    have hb6:=hb4.grown hg5 (by have:=HXB.out;omega) (fun k hk=> by injection hk with hk;have:=HXB.out;omega)
    go_ret
    exact FIN.out _ _ hb6 R.out
 ·have R:=Lib.hid (show M=false by rw [←hM];simp)
  clear hM
  cases i
  all_goals
   go_wp2_with (rw [HW4.out,HX.out];with_reducible refine Yao rfl 144 _ _ rfl X Z Y rfl rfl 144 hh4 HSZ hYZ HONE ?_;intro w5 hh5 hg5;clear hzv)
   have hb6:=hb4.grown hg5 (by have:=HXB.out;omega) (fun k hk=> by injection hk with hk;have:=HXB.out;omega)
   go_ret
   exact FIN.out _ _ hb6 R.out
def Ypa (i:Bool) (d:Int) (l:List Ev):ByteArray:=⟨(Yez i d l).toArray⟩
theorem Yu3 (i:Bool) (d:Int) (l:List Ev):(Ypa i d l).size≤8+22*l.length:=by
 have:=Yik i d l
 show (Yez i d l).toArray.size≤_
 simpa using this
theorem Yu2 (i:Bool) (d:Int) (l:List Ev) (x:Ev):Ypa i d l++Ymb x=Ypa i d (l ++ [x]):=by
 unfold Ypa
 rw [show Ymb x=⟨(Ymb x).data.toList.toArray⟩ by simp,Ybk]
 unfold Yez
 rw [Yr8,List.append_assoc]
theorem Yu0 (x:Ev):(Ymb x).size≤22:=Yqk x
set_option maxRecDepth 100000 in
set_option maxHeartbeats 1000000 in
theorem Ytc (i:Bool) (d:Int) (p:Option Addr) (l:List Ev) (c:Nat) (w:World) (hp:Yd2 w p l) (hm:Yh4 i d l=true):
  Calls Tryz.prog 70 #[.bool i,.int .i64 d,.slice p l.length c] w fun e w'=> e = .returned (.string ⟨(Yez i d l).toArray⟩)∧Below w.heap.size w w':=by
 obtain ⟨hd,hbv⟩:=Ydk hm
 have hl64:=Yfk hbv
 have HP:=Lib.hid (fun (x:World) (hx:Below w.heap.size w x)=> (hp.below hx:Yd2 x p l))
 obtain ⟨n,hn⟩:∃n,l.length=n:=⟨_,rfl⟩
 have HN:=Lib.hid hn
 rw [hn] at hl64 ⊢
 have NXT:=Lib.hid (fun (j:Nat) (h:j<l.length)=> (by rw [List.take_succ_eq_append_getElem h,Yu2]:Ypa i d (l.take j)++Ymb l[j]=Ypa i d (l.take (j+1))))
 have SZ:=Lib.hid (fun (j:Nat) (h:j≤n)=> (by have:=Yu3 i d (l.take j);rw [List.length_take] at this;omega:(Ypa i d (l.take j)).size≤8+22*j))
 have FIN:=Lib.hid (show Ypa i d (l.take n)=⟨(Yez i d l).toArray⟩ by rw [←hn,List.take_length];rfl)
 generalize (⟨(Yez i d l).toArray⟩:ByteArray)=RB at FIN ⊢
 clear hbv hm hn hp
 have START:(i=false∧Ypa i d (l.take 0)=⟨#[]⟩)∨(i=true∧(d==128)=true∧Ypa i d (l.take 0)=⟨(Yak (255:Int).toNat (8:Int).toNat).toArray⟩)∨(i=true∧(d==128)=false∧1≤d∧d≤254∧Ypa i d (l.take 0)=⟨(Yak d.toNat (8:Int).toNat).toArray⟩):=by
  cases i with
  | false=> exact .inl ⟨rfl,rfl⟩
  | true=>
   have h0:1≤d∧d≤254:=by simpa [Ys0] using hd
   by_cases h128:d=128
   ·subst h128
    exact .inr (.inl ⟨rfl,rfl,rfl⟩)
   ·refine .inr (.inr ⟨rfl,by rw [beq_eq_false_iff_ne];exact h128,h0.1,h0.2,?_⟩)
    unfold Ypa Yez dcB
    rw [if_pos rfl,if_neg h128,List.take_zero]
    simp [Yke]
 clear hd
 obtain ⟨y0,hy0⟩:∃y0,Ypa i d (l.take 0)=y0:=⟨_,rfl⟩
 have R0:=Lib.hid hy0
 rw [hy0] at START
 obtain ⟨R,hR⟩:∃R:Nat→ByteArray,(fun j=> Ypa i d (l.take j))=R:=⟨_,rfl⟩
 have eR:∀j,Ypa i d (l.take j)=R j:=fun j=> by rw [←hR]
 have RZ:Hid (R 0=y0):=Lib.hid (by rw [←eR];exact R0.out)
 have NX:=Lib.hid (fun (j:Nat) (h:j<l.length)=> (by rw [←eR,←eR];exact NXT.out j h:R j++Ymb l[j]=R (j+1)))
 have SS:=Lib.hid (fun (j:Nat) (h:j≤n)=> (by rw [←eR];exact SZ.out j h:(R j).size≤8+22*j))
 have FN:=Lib.hid (show R n=RB by rw [←eR];exact FIN.out)
 clear hy0 hR eR R0 NXT SZ FIN
 rcases START with ⟨rfl,rfl⟩ | ⟨rfl,h128,hrw⟩ | ⟨rfl,h128,h1,h2,hrw⟩
 case' inl=>
  go_enter Tryz.func70,Tryz.ntmps70
  go_wp2
 case' inr.inl=>
  have hrow:=fun x=> Ycp 255 8 (by decide) (by decide) (by decide) (by decide) x
  rw [←hrw] at hrow
  clear hrw
  go_enter Tryz.func70,Tryz.ntmps70
  go_wp2_with fail
  refine (hrow _).mono ?_
  rintro e w1 ⟨rfl,rfl⟩
  go_wp2
 case' inr.inr=>
  have hrow:=fun x=> Ycp d 8 (by omega) (by omega) (by decide) (by decide) x
  rw [←hrw] at hrow
  clear hrw
  go_enter Tryz.func70,Tryz.ntmps70
  go_wp2_with fail
  refine (hrow _).mono ?_
  rintro e w1 ⟨rfl,rfl⟩
  go_wp2
 all_goals
  go_loopw [7,8] (fun v z wr=>∃j:Nat,j≤n∧z = .int .i64 j∧v = .string (R j)∧Below w.heap.size w wr) (fun _ z _=> n-(RowKit.intOf z).toNat)
  case atStart=> exact ⟨0,Nat.zero_le _,rfl,by rw [RZ.out],Below.refl _ _⟩
  case round=>
   obtain ⟨j,hj,rfl,rfl,hb⟩:=hrel
   by_cases hlt:j<n
   ·have t0:decide ((j:Int)<(n:Int))=true:=by simp;omega
    have t1:decide (j<n)=true:=by simpa using hlt
    have hjl:j<l.length:=by rw [HN.out];exact hlt
    obtain ⟨b,o,rfl,hbb,hc⟩:=(HP.out _ hb).at (by omega)
    obtain ⟨c0,c1,c2⟩:=hc j hjl
    have hnx:=NX.out j hjl
    have hsz:=SS.out j hj
    obtain ⟨⟨x0,x1,x2⟩,hxe⟩:∃x,l[j]=x:=⟨_,rfl⟩
    rw [hxe] at c0 c1 c2 hnx
    simp only at c0 c1 c2
    have hsy:=Yu0 (x0,x1,x2)
    rw [show Ymb (x0,x1,x2)=Ybe x0 x1 x2 from rfl] at hnx hsy
    have hrow:=fun x=> Yrh x0 x1 x2 x
    generalize Ybe x0 x1 x2=y at hrow hnx hsy
    obtain ⟨Y,hY⟩:∃Y,R j=Y:=⟨_,rfl⟩
    rw [hY] at hnx hsz ⊢
    have N:=Lib.hid hnx
    clear hc hbb hxe hnx hjl hY
    go_wp2_with fail
    refine (hrow _).mono ?_
    rintro e w2 ⟨rfl,hb2⟩
    have hb3:=hb.trans (hb2.mono hb.size)
    clear hrow c0 c1 c2 hb2
    go_wp2
    go_roundw
    case rel=> exact ⟨j+1,by omega,by go_num,by rw [N.out],hb3⟩
    case measure=> simp [RowKit.intOf];omega
   ·obtain rfl:j=n:=by omega
    have t0:decide ((j:Int)<(j:Int))=false:=by simp
    have t1:decide (j<j)=false:=by simp
    rw [FN.out]
    go_wp2
    go_ret
    exact ⟨rfl,hb⟩
end Go.Proofs.YtgikochfffdpfaaGreatDoor