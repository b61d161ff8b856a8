/- Part 24 of StripsOnce. No condition. -/
import Derived.Test.YtjjmalchelniiaaGreatDoorStripsOnceMb
import Derived.Test.YtjjmalchelniiaaGreatDoorStripsOnceMe
import Derived.Test.YtjjmalchelniiaaGreatDoorStripsOnceMf
import Derived.Test.YtjjmalchelniiaaGreatDoorStripsOnceMh
import Derived.Test.YtjjmalchelniiaaGreatDoorStripsOnceMr
import Derived.Test.YtjjmalchelniiaaGreatDoorStripsOnceMs
import Derived.Test.YtjjmalchelniiaaGreatDoorStripsOnceMv
import Derived.Test.YtjjmalchelniiaaGreatDoorStripsOnceMw
import Derived.RegionTactic
import Derived.Deep.RegionWith
import Derived.StillTailTactics
import Derived.WalkMore
import Derived.Maps.Range
import Derived.Deep.AppendLies
import Derived.Test.YtjjmalchelniiaaGreatDoorRows
import Derived.Deep.Slices
import Derived.Deep.MidRow
namespace Go.Proofs.YtjjmalchelniiaaGreatDoor
open Go.RowKit Go.Lib
theorem Qh2:∀i,i<103→2≤Yc2 i:=by decide +kernel
theorem Y3b:∀last:Bool,∀run,run<41→1≤Yk6 last run→∀r,r<run→1≤Yk6 last r:=by decide +kernel
theorem Qg5 (v r:Nat)(h:v%2=r):bits .and .i64 (v:Int) 1=(r:Int):=by rw[Yuc];omega
set_option maxHeartbeats 1000000 in
theorem Y38 (p v:Nat)(hp:p<102)(w:World)(ht:Ye6 w):Calls Tryz.prog 290 #[.int .i64 (p:Int),.int .i64 (v:Int)] w fun e w'=>e=.returned (Y37 (Y0e (evT p) (v%2==1)))∧Below w.heap.size w w':=by
 obtain⟨⟨h1,h2,h3⟩,h4,h5,h6⟩:=Qgm p hp;obtain⟨la,run,amt,he⟩:∃la run amt,evT p=(la,run,amt):=⟨_,_,_,rfl⟩;rw[he] at h1 h2 h3 h4 h5 h6 ⊢;simp only at h1 h2 h3 h4 h5 h6;have hin:=Y8y.1 h1;unfold plT at h2;have hcon:=fun(r:Nat) (hr:r≤run) (x:World) (hx:Ye6 x)=>Yhl la r (by omega) x hx;have hpos:=fun(r:Nat) (hr:r<run)=>Y3b la run h3 (by omega) r hr
 have hmono:=fun(r:Nat) (hr:r<run)=>Qbh la (show r+1≤run by omega);have hsuc:∀r,Yxq la (r+1)=Yxq la r+Yk6 la r:=fun r=>rfl;have hs0:Yxq la 0=0:=rfl;obtain⟨r1,hr1⟩:∃r1,v%2=r1:=⟨_,rfl⟩;have r12:r1=0∨r1=1:=by omega
 have AND:=Lib.hid (Qg5 v r1 hr1);rw[hr1];obtain⟨B,hB⟩:∃B,w.heap.size=B:=⟨_,rfl⟩;obtain⟨x0,hx0⟩:∃x0,p=Yqd la+x0:=⟨p-Yqd la,by omega⟩;have hxe:x0=Yxq la run+(amt-1):=by omega
 generalize hsm:Yxq la=sm at *;generalize ham:Yk6 la=am at *;have CON:=Lib.hid hcon;have POS:=Lib.hid hpos;have MONO:=Lib.hid hmono;have SUC:=Lib.hid hsuc;have S0:=Lib.hid hs0;have XE:=Lib.hid hxe;have HB:=Lib.hid hB;have AM:=Lib.hid hin.2;have A1:=Lib.hid hin.1;have EV:=Lib.hid (show amt=x0-sm run+1 by omega);have hx102:x0≤102:=by omega
 clear he h1 h2 hcon hpos hmono hsuc hs0 hxe hin hsm ham hr1 h5;cases la with
 |false=>
  have t0:decide (58≤(p:Int))=false:=by rw[decide_eq_false_iff_not];have:=of_decide_eq_false h4.symm;omega
  have hpx:(p:Int)=0+(x0:Int):=by rw[hx0];simp[Yqd]
  have hb1:Below B w ((w.alloc (.cells #[.bool false,.int .i64 0,.int .i64 0] 153 (0,0))).alloc (.cells #[.bool false,.int .i64 0,.int .i64 0] 153 (0,0))):=by rw[←hB];exact((Below.refl _ w).alloc (Nat.le_refl _) _).alloc (by simp) _
  have hh1:((w.alloc (.cells #[.bool false,.int .i64 0,.int .i64 0] 153 (0,0))).alloc (.cells #[.bool false,.int .i64 0,.int .i64 0] 153 (0,0))).heap[B]? =some (Ycv false 0 0):=by rw[←hB];exact heap_alloc2_old w _ _
  have hh2:((w.alloc (.cells #[.bool false,.int .i64 0,.int .i64 0] 153 (0,0))).alloc (.cells #[.bool false,.int .i64 0,.int .i64 0] 153 (0,0))).heap[B+1]? =some (Ycv false 0 0):=by rw[←hB];exact heap_alloc2_new w _ _
  have HT:=Lib.hid (fun(x:World) (hx:Below B w x)=>(ht.below (by rw[hB];exact hx):Ye6 x));have HPX:=Lib.hid hpx;clear ht hB h4 hx0 hpx
  go_enter Tryz.func290,Tryz.ntmps290
  go_wp2
  rw[HB.out];generalize (w.alloc (.cells #[.bool false,.int .i64 0,.int .i64 0] 153 (0,0))).alloc (.cells #[.bool false,.int .i64 0,.int .i64 0] 153 (0,0))=w2 at hb1 hh1 hh2 ⊢
  go_loopw [0] (fun u wr=>∃r x:Nat,r≤run∧u=.int .i64 x∧x≤102∧Hid (x+sm r=x0)∧wr.heap[B+1]? =some (Ycv false r 0)∧wr.heap[B]? =some (Ycv false 0 0)∧Below B w wr) (fun u _=>(intOf u).toNat)
  case atStart=>exact⟨0,x0,Nat.zero_le _,congrArg (Value.int .i64) (by have:=HPX.out;omega),hx102,Lib.hid (by rw[S0.out];rfl),hh2,hh1,hb1⟩
  case round=>
   clear hb1 hh1 hh2;obtain⟨r,x,hr,rfl,hx,hxx,hh2,hh1,hb⟩:=hrel;obtain⟨c0,c1,c2,f0,f1,f2⟩:=Ybu hh2;obtain⟨d0,d1,d2,k0,k1,k2⟩:=Ybu hh1;have hBl:B<wr.heap.size:=(Array.getElem?_eq_some_iff.1 hh1).1;have hc:=CON.out r hr _ (HT.out _ hb);by_cases hlt:r<run
   ·have e1:=MONO.out r hlt;have e2:=SUC.out r;have e3:=POS.out r hlt;have X2:=Lib.hid (show x-am r+sm (r+1)=x0 by have:=hxx.out;have:=XE.out;omega);have hle:am r≤x:=by have:=hxx.out;have:=XE.out;omega
    clear e1 e2;generalize am r=y at hc X2 hle e3;have t1:decide (y≤x)=true:=by simpa using hle
    clear hxx
    go_wp2_with fail
    refine hc.mono ?_;rintro e w1 ⟨rfl,rfl⟩
    go_wp2_with fail
    refine hc.mono ?_;rintro e w1 ⟨rfl,rfl⟩
    go_wp2
    go_roundw
    case rel=>exact⟨r+1,x-y,by omega,by go_num,by omega,X2,by rw[show ((r+1:Nat):Int)=(r:Int)+1 by omega];exact Y8o hh2 _,((Yap wr ⟨B+1,1,none⟩ _).block B hBl (by simp)).trans hh1,hb.setCell (by simp) _⟩
    case measure=>simp[intOf];omega
   ·obtain rfl:r=run:=by omega
    have hlt2:x<am r:=by have:=hxx.out;have:=XE.out;have:=AM.out;have:=A1.out;omega
    have hax:(x:Int)+1=(amt:Int):=by have:=hxx.out;have:=XE.out;have:=A1.out;omega
    generalize am r=y at hc hlt2;have t1:decide (y≤x)=false:=by simp;omega
    have AX:=Lib.hid hax;clear hax;have hb2:∀u,Below B w (wr.setCell ⟨B+1,2,none⟩ u):=fun u=>hb.setCell (by simp) _;have hh3:∀u,(wr.setCell ⟨B+1,2,none⟩ u).heap[B]? =some (Ycv false 0 0):=fun u=>((Yap wr ⟨B+1,2,none⟩ u).block B hBl (by simp)).trans hh1
    have hh4:∀u u',((wr.setCell ⟨B+1,2,none⟩ u).setCell ⟨B+1,2,none⟩ u').heap[B]? =some (Ycv false 0 0):=fun u u'=>((Yap (wr.setCell ⟨B+1,2,none⟩ u) ⟨B+1,2,none⟩ u').block B (Nat.lt_of_lt_of_le hBl (Yap wr ⟨B+1,2,none⟩ u).size) (by simp)).trans (hh3 u);have BB:=Lib.hid hb2;have H3:=Lib.hid hh3;have H4:=Lib.hid hh4;clear hb2 hh3 hh4;rcases r12 with rfl|rfl
    ·have g1:(bits .and .i64 (v:Int) 1==1)=false:=by rw[AND.out];rfl
     go_wp2_with fail
     refine hc.mono ?_;rintro e w1 ⟨rfl,rfl⟩
     go_wp2
     exact bodyPost_ret (results_cell_row rfl _ _ B 153 _ (0,0) _ rfl (Yau (o:=2) (.int .i64 ((x:Int)+1)) (Yau (o:=1) (.int .i64 (r:Int)) (Yau (o:=0) (.bool false) (H3.out _)))) Tryz.underlying153 rfl (by kernel_rfl)) rfl ⟨by rw[AX.out];rfl,by rw[HB.out];exact(((BB.out _).setCell (Nat.le_refl _) _).setCell (Nat.le_refl _) _).setCell (Nat.le_refl _) _⟩
    ·have g1:(bits .and .i64 (v:Int) 1==1)=true:=by rw[AND.out];rfl
     go_wp2_with fail
     refine hc.mono ?_;rintro e w1 ⟨rfl,rfl⟩
     go_wp2
     exact bodyPost_ret (results_cell_row rfl _ _ B 153 _ (0,0) _ rfl (Yau (o:=2) (.int .i64 (-((x:Int)+1))) (Yau (o:=1) (.int .i64 (r:Int)) (Yau (o:=0) (.bool false) (H4.out _ _)))) Tryz.underlying153 rfl (by kernel_rfl)) rfl ⟨by rw[AX.out];rfl,by rw[HB.out];exact((((BB.out _).setCell (by simp) _).setCell (Nat.le_refl _) _).setCell (Nat.le_refl _) _).setCell (Nat.le_refl _) _⟩
 |true=>
  have t0:decide (58≤(p:Int))=true:=by rw[decide_eq_true_iff];have:=of_decide_eq_true h4.symm;omega
  have hpx:(p:Int)=58+(x0:Int):=by rw[hx0];simp[Yqd]
  have hb1:Below B w ((w.alloc (.cells #[.bool false,.int .i64 0,.int .i64 0] 153 (0,0))).alloc (.cells #[.bool true,.int .i64 0,.int .i64 0] 153 (0,0))):=by rw[←hB];exact((Below.refl _ w).alloc (Nat.le_refl _) _).alloc (by simp) _
  have hh1:((w.alloc (.cells #[.bool false,.int .i64 0,.int .i64 0] 153 (0,0))).alloc (.cells #[.bool true,.int .i64 0,.int .i64 0] 153 (0,0))).heap[B]? =some (Ycv false 0 0):=by rw[←hB];exact heap_alloc2_old w _ _
  have hh2:((w.alloc (.cells #[.bool false,.int .i64 0,.int .i64 0] 153 (0,0))).alloc (.cells #[.bool true,.int .i64 0,.int .i64 0] 153 (0,0))).heap[B+1]? =some (Ycv true 0 0):=by rw[←hB];exact heap_alloc2_new w _ _
  have HT:=Lib.hid (fun(x:World) (hx:Below B w x)=>(ht.below (by rw[hB];exact hx):Ye6 x));have HPX:=Lib.hid hpx;clear ht hB h4 hx0 hpx
  go_enter Tryz.func290,Tryz.ntmps290
  go_wp2
  rw[HB.out];generalize (w.alloc (.cells #[.bool false,.int .i64 0,.int .i64 0] 153 (0,0))).alloc (.cells #[.bool true,.int .i64 0,.int .i64 0] 153 (0,0))=w2 at hb1 hh1 hh2 ⊢
  go_loopw [0] (fun u wr=>∃r x:Nat,r≤run∧u=.int .i64 x∧x≤102∧Hid (x+sm r=x0)∧wr.heap[B+1]? =some (Ycv true r 0)∧wr.heap[B]? =some (Ycv false 0 0)∧Below B w wr) (fun u _=>(intOf u).toNat)
  case atStart=>exact⟨0,x0,Nat.zero_le _,congrArg (Value.int .i64) (by have:=HPX.out;omega),hx102,Lib.hid (by rw[S0.out];rfl),hh2,hh1,hb1⟩
  case round=>
   clear hb1 hh1 hh2;obtain⟨r,x,hr,rfl,hx,hxx,hh2,hh1,hb⟩:=hrel;obtain⟨c0,c1,c2,f0,f1,f2⟩:=Ybu hh2;obtain⟨d0,d1,d2,k0,k1,k2⟩:=Ybu hh1;have hBl:B<wr.heap.size:=(Array.getElem?_eq_some_iff.1 hh1).1;have hc:=CON.out r hr _ (HT.out _ hb);by_cases hlt:r<run
   ·have e1:=MONO.out r hlt;have e2:=SUC.out r;have e3:=POS.out r hlt;have X2:=Lib.hid (show x-am r+sm (r+1)=x0 by have:=hxx.out;have:=XE.out;omega);have hle:am r≤x:=by have:=hxx.out;have:=XE.out;omega
    clear e1 e2;generalize am r=y at hc X2 hle e3;have t1:decide (y≤x)=true:=by simpa using hle
    clear hxx
    go_wp2_with fail
    refine hc.mono ?_;rintro e w1 ⟨rfl,rfl⟩
    go_wp2_with fail
    refine hc.mono ?_;rintro e w1 ⟨rfl,rfl⟩
    go_wp2
    go_roundw
    case rel=>exact⟨r+1,x-y,by omega,by go_num,by omega,X2,by rw[show ((r+1:Nat):Int)=(r:Int)+1 by omega];exact Y8o hh2 _,((Yap wr ⟨B+1,1,none⟩ _).block B hBl (by simp)).trans hh1,hb.setCell (by simp) _⟩
    case measure=>simp[intOf];omega
   ·obtain rfl:r=run:=by omega
    have hlt2:x<am r:=by have:=hxx.out;have:=XE.out;have:=AM.out;have:=A1.out;omega
    have hax:(x:Int)+1=(amt:Int):=by have:=hxx.out;have:=XE.out;have:=A1.out;omega
    generalize am r=y at hc hlt2;have t1:decide (y≤x)=false:=by simp;omega
    have AX:=Lib.hid hax;clear hax;have hb2:∀u,Below B w (wr.setCell ⟨B+1,2,none⟩ u):=fun u=>hb.setCell (by simp) _;have hh3:∀u,(wr.setCell ⟨B+1,2,none⟩ u).heap[B]? =some (Ycv false 0 0):=fun u=>((Yap wr ⟨B+1,2,none⟩ u).block B hBl (by simp)).trans hh1
    have hh4:∀u u',((wr.setCell ⟨B+1,2,none⟩ u).setCell ⟨B+1,2,none⟩ u').heap[B]? =some (Ycv false 0 0):=fun u u'=>((Yap (wr.setCell ⟨B+1,2,none⟩ u) ⟨B+1,2,none⟩ u').block B (Nat.lt_of_lt_of_le hBl (Yap wr ⟨B+1,2,none⟩ u).size) (by simp)).trans (hh3 u);have BB:=Lib.hid hb2;have H3:=Lib.hid hh3;have H4:=Lib.hid hh4;clear hb2 hh3 hh4;rcases r12 with rfl|rfl
    ·have g1:(bits .and .i64 (v:Int) 1==1)=false:=by rw[AND.out];rfl
     go_wp2_with fail
     refine hc.mono ?_;rintro e w1 ⟨rfl,rfl⟩
     go_wp2
     exact bodyPost_ret (results_cell_row rfl _ _ B 153 _ (0,0) _ rfl (Yau (o:=2) (.int .i64 ((x:Int)+1)) (Yau (o:=1) (.int .i64 (r:Int)) (Yau (o:=0) (.bool true) (H3.out _)))) Tryz.underlying153 rfl (by kernel_rfl)) rfl ⟨by rw[AX.out];rfl,by rw[HB.out];exact(((BB.out _).setCell (Nat.le_refl _) _).setCell (Nat.le_refl _) _).setCell (Nat.le_refl _) _⟩
    ·have g1:(bits .and .i64 (v:Int) 1==1)=true:=by rw[AND.out];rfl
     go_wp2_with fail
     refine hc.mono ?_;rintro e w1 ⟨rfl,rfl⟩
     go_wp2
     exact bodyPost_ret (results_cell_row rfl _ _ B 153 _ (0,0) _ rfl (Yau (o:=2) (.int .i64 (-((x:Int)+1))) (Yau (o:=1) (.int .i64 (r:Int)) (Yau (o:=0) (.bool true) (H4.out _ _)))) Tryz.underlying153 rfl (by kernel_rfl)) rfl ⟨by rw[AX.out];rfl,by rw[HB.out];exact((((BB.out _).setCell (by simp) _).setCell (Nat.le_refl _) _).setCell (Nat.le_refl _) _).setCell (Nat.le_refl _) _⟩
set_option maxHeartbeats 1000000 in
theorem Yv7 (v:Nat)(w:World):Calls Tryz.prog 291 #[.int .i64 (v:Int)] w fun e w'=>e=.returned (Y37 (Yqa v))∧Below w.heap.size w w':=by
 obtain⟨a,ha⟩:∃a:Nat,v / 256=a:=⟨_,rfl⟩;obtain⟨l,hl⟩:∃l:Nat,v%256=l:=⟨_,rfl⟩;obtain⟨r,hr⟩:∃r:Nat,a%64=r:=⟨_,rfl⟩;obtain⟨b,hb⟩:∃b:Nat,a / 64%2=b:=⟨_,rfl⟩;have hr':v / 256%64=r:=by rw[ha,hr]
 have hb':v / 16384%2=b:=by rw[←hb,←ha,Nat.div_div_eq_div_mul]
 have E:=Lib.hid (show Y37 (Yqa v)=.agg #[.bool (b==1),.int .i64 (r:Int),.int .i64 (if 127<l then (l:Int)-256 else (l:Int))] by unfold Y37 Yqa;simp only[hr',hb',hl]);rw[E.out];have q1:bits .and .i64 (v:Int) 255=(l:Int):=by rw[show (255:Int)=2^8-1 by decide,Ygt _ 8 (by omega)];omega
 have q2:(v:Int) / 2^8=(a:Int):=by omega
 have q2':(v:Int) / 256=(a:Int):=by omega
 have q3:bits .and .i64 (a:Int) 63=(r:Int):=by rw[Qgc];omega
 have q4:bits .and .i64 ((a:Int) / 64) 1=(b:Int):=by rw[Yuc];omega
 have q5:((b:Int)==1)=(b==1):=by rw[Bool.eq_iff_iff,beq_iff_eq,beq_iff_eq];omega
 have Q1:=Lib.hid q1;have Q2:=Lib.hid q2';have Q3:=Lib.hid q3;have Q4:=Lib.hid q4;have Q5:=Lib.hid q5;have h256:l<256:=by omega
 have hbw:∀o,Below w.heap.size w (w.alloc o):=fun o=>(Below.refl _ w).alloc (Nat.le_refl _) o;have hh:∀cs,(w.alloc (.cells cs 153 (0,0))).heap[w.heap.size]? =some (.cells cs 153 (0,0)):=fun cs=>heap_alloc_new w _;by_cases h127:127<l
 ·have t0:decide (127<bits .and .i64 (v:Int) 255)=true:=by rw[q1];simp;omega
  have r0:0≤bits .and .i64 (v:Int) 255:=by omega
  have r1:bits .and .i64 (v:Int) 255≤255:=by omega
  rw[if_pos h127];clear E ha hl hr hb hr' hb' q1 q2 q2' q3 q4 q5 h127
  go_enter Tryz.func291,Tryz.ntmps291
  go_wp2
  exact bodyPost_ret (results_cell_row rfl _ _ w.heap.size 153 _ (0,0) _ rfl (hh _) Tryz.underlying153 rfl (by kernel_rfl)) rfl ⟨by rw[Q2.out,Q4.out,Q3.out,Q1.out,Q5.out],hbw _⟩
 ·have t0:decide (127<bits .and .i64 (v:Int) 255)=false:=by rw[q1];simp;omega
  have r0:0≤bits .and .i64 (v:Int) 255:=by omega
  have r1:bits .and .i64 (v:Int) 255≤255:=by omega
  rw[if_neg h127];clear E ha hl hr hb hr' hb' q1 q2 q2' q3 q4 q5 h127
  go_enter Tryz.func291,Tryz.ntmps291
  go_wp2
  exact bodyPost_ret (results_cell_row rfl _ _ w.heap.size 153 _ (0,0) _ rfl (hh _) Tryz.underlying153 rfl (by kernel_rfl)) rfl ⟨by rw[Q2.out,Q4.out,Q3.out,Q1.out,Q5.out],hbw _⟩
theorem Yw3 (y m r k:Nat)(hm:m=2^k)(h:r<m)(hy:m*y+r<4294967296):bits .or .i64 ((y:Int)*(m:Int)) (r:Int)=((m*y+r:Nat):Int):=by
 have hor:=Nat.two_pow_add_eq_or_of_lt (i:=k) (b:=r) (by rw[←hm];exact h) y;rw[show (y:Int)*(m:Int)=((m*y:Nat):Int) by rw[Int.mul_comm];simp];show IntKind.i64.wrap ((BitVec.ofInt 64 ((m*y:Nat):Int) ||| BitVec.ofInt 64 ((r:Nat):Int)).toNat:Int)=_
 rw[BitVec.ofInt_natCast,BitVec.ofInt_natCast,BitVec.toNat_or,BitVec.toNat_ofNat,BitVec.toNat_ofNat,Nat.mod_eq_of_lt (by omega),Nat.mod_eq_of_lt (by omega)];rw[←hm] at hor;rw[←hor,IntKind.wrap_i64];omega
set_option maxHeartbeats 1000000 in
theorem Y6a (last:Bool)(r:Nat)(level:Int)(hr:r<64)(hl:-128≤level∧level≤127)(w:World)(hp:Ye6 w):Calls Tryz.prog 224 #[.agg #[.bool last,.int .i64 (r:Int),.int .i64 level]] w fun e w'=>
  e=.returned (.tuple #[.int .i64 (Yk7 last r level:Nat),.int .i64 (Ykf last r level:Nat)])∧Below w.heap.size w w':=by
 have hpl:=fun x hx=>Ypd last r level hr hl x hx;have HP:=Lib.hid (fun(x:World) (hx:Below w.heap.size w x)=>(hp.below hx:Ye6 x));obtain⟨a,ha⟩:∃a:Nat,level.natAbs=a:=⟨_,rfl⟩;rw[ha] at hpl;cases hin:inT last r a with
 |true=>
  obtain⟨p,hpp⟩:∃p,plT last r a=p:=⟨_,rfl⟩;have hp102:p<102:=by rw[←hpp];exact Y16 hr hin
  have F1:=Lib.hid (show Yk7 last r level=2*Yd6 p+(if level<0 then 1 else 0) by unfold Yk7;rw[ha,hin,if_pos rfl,hpp]);have F2:=Lib.hid (show Ykf last r level=Yc2 p+1 by unfold Ykf;rw[ha,hin,if_pos rfl,hpp]);rw[hin,if_pos rfl,hpp] at hpl;have hco:=fun x hx=>Yfm p (by omega) x hx;have hdi:=fun x hx=>Yhv p (by omega) x hx;rw[if_neg (by omega)] at hdi;rw[F1.out,F2.out]
  obtain⟨b0,b1,b2,b3⟩:=Yda p (by omega);have hdig:=fun(b:Bool) x=>Yvw b x;obtain⟨s,hs⟩:∃s:Bool,decide (level<0)=s:=⟨_,rfl⟩;have ho:=Yw3 (Yd6 p) 2 s.toNat 1 rfl (by cases s <;> decide) (by cases s <;> simp <;> omega);have hsn:(if level<0 then 1 else 0:Nat)=s.toNat:=by rw[←hs];by_cases h:level<0 <;> simp[h]
  rw[hsn];generalize Yd6 p=x at hco b3 ho ⊢;generalize Yc2 p=y at hco hdi b0 b1 ⊢;have O:=Lib.hid (show bits .or .i64 ((x:Int)*2) (s.toNat:Int)=_ from ho);have SN:=Lib.hid hsn;have hb1:Below w.heap.size w (w.alloc (.cells #[.bool last,.int .i64 (r:Int),.int .i64 level] 153 (0,0))):=(Below.refl _ w).alloc (Nat.le_refl _) _;have hp1:=HP.out _ hb1
  have hh:∀x,Below (w.heap.size+1) (w.alloc (.cells #[.bool last,.int .i64 (r:Int),.int .i64 level] 153 (0,0))) x→x.heap[w.heap.size]? =some (Ycv last r level):=fun x hx=>(hx.block w.heap.size (by omega)).trans (heap_alloc_new w _);have HH:=Lib.hid hh;have hz1:(w.alloc (.cells #[.bool last,.int .i64 (r:Int),.int .i64 level] 153 (0,0))).heap.size=w.heap.size+1:=by simp
  have HZ:=Lib.hid hz1;clear F1 F2 hin ha hpp hp ho b2 hsn hh hz1
  go_enter Tryz.func224,Tryz.ntmps224
  go_wp2_with fail
  refine(hpl _ hp1).mono ?_;rintro e w1 ⟨rfl,hb2⟩;rw[HZ.out] at hb2;have hb3:=hb1.trans (hb2.mono (by omega))
  go_wp2_with fail
  refine(hco _ (HP.out _ hb3)).mono ?_;rintro e w2 ⟨rfl,hb4⟩;have hz4:=hb3.size;have hb5:=hb2.trans (hb4.mono (by have:=hb2.size;rw[HZ.out] at this;exact this));have hb6:=hb3.trans (hb4.mono hz4);obtain⟨c0,c1,c2,_,_,_⟩:=Ybu (HH.out _ hb5);have hp6:=HP.out _ hb6;clear hb2 hb3 hb4 hb5 hpl hco hp1 hb1
  go_wp2_with fail
  refine(hdig _ _).mono ?_;rintro e w3 ⟨rfl,rfl⟩
  go_wp2_with fail
  refine(hdi _ hp6).mono ?_;rintro e w4 ⟨rfl,hb7⟩
  go_wp2
  go_ret2
  exact⟨Yt4 O.out rfl,hb6.trans (hb7.mono hb6.size)⟩
 |false=>
  have F1:=Lib.hid (show Yk7 last r level=((6+last.toNat)*64+r)*256+(level%256).toNat by unfold Yk7;rw[ha,hin,if_neg (by decide)]);have F2:=Lib.hid (show Ykf last r level=22 by unfold Ykf;rw[ha,hin,if_neg (by decide)]);rw[hin,if_neg (by decide)] at hpl;have hco:=fun x hx=>Yfm 102 (by omega) x hx;have hdi:=fun x hx=>Yhv 102 (by omega) x hx;rw[if_pos rfl] at hdi
  rw[show Yd6 102=3 by decide +kernel] at hco;rw[F1.out,F2.out];have hdig:=fun x=>Yvw last x;obtain⟨s,hs⟩:∃s,(level%256).toNat=s:=⟨_,rfl⟩;have hs256:s<256:=by omega
  have hand:bits .and .i64 level 255=(s:Int):=by rw[show (255:Int)=2^8-1 by decide,Ygt _ 8 (by omega)];omega
  have o1:=Yw3 3 2 last.toNat 1 rfl (by cases last <;> decide) (by cases last <;> simp);obtain⟨y,hy⟩:∃y,6+last.toNat=y:=⟨_,rfl⟩;rw[show 2*3+last.toNat=y by omega] at o1;have hy7:y≤7:=by rw[←hy];cases last <;> decide
  have o2:=Yw3 y 64 r 6 rfl hr (by omega);have o3:=Yw3 (64*y+r) 256 s 8 rfl hs256 (by omega);rw[hs,hy,show (y*64+r)*256+s=256*(64*y+r)+s by omega];obtain⟨z,hz⟩:∃z,64*y+r=z:=⟨_,rfl⟩;rw[hz] at o2 o3 ⊢;have hz512:z<512:=by omega
  have O1:=Lib.hid (show bits .or .i64 6 (last.toNat:Int)=(y:Int) from o1);have O2:=Lib.hid (show bits .or .i64 ((y:Int)*64) (r:Int)=(z:Int) from o2);have O3:=Lib.hid (show bits .or .i64 ((z:Int)*256) (s:Int)=_ from o3);have AND:=Lib.hid hand;have hb1:Below w.heap.size w (w.alloc (.cells #[.bool last,.int .i64 (r:Int),.int .i64 level] 153 (0,0))):=(Below.refl _ w).alloc (Nat.le_refl _) _
  have hp1:=HP.out _ hb1;have hh:∀x,Below (w.heap.size+1) (w.alloc (.cells #[.bool last,.int .i64 (r:Int),.int .i64 level] 153 (0,0))) x→x.heap[w.heap.size]? =some (Ycv last r level):=fun x hx=>(hx.block w.heap.size (by omega)).trans (heap_alloc_new w _);have HH:=Lib.hid hh;have hz1:(w.alloc (.cells #[.bool last,.int .i64 (r:Int),.int .i64 level] 153 (0,0))).heap.size=w.heap.size+1:=by simp
  have HZ:=Lib.hid hz1;clear F1 F2 hin ha hp hh hz1 hs hand o1 o2 o3 hy hz
  go_enter Tryz.func224,Tryz.ntmps224
  go_wp2_with fail
  refine(hpl _ hp1).mono ?_;rintro e w1 ⟨rfl,hb2⟩;rw[HZ.out] at hb2;have hb3:=hb1.trans (hb2.mono (by omega))
  go_wp2_with fail
  refine(hco _ (HP.out _ hb3)).mono ?_;rintro e w2 ⟨rfl,hb4⟩;have hz4:=hb3.size;have hb5:=hb2.trans (hb4.mono (by have:=hb2.size;rw[HZ.out] at this;exact this));have hb6:=hb3.trans (hb4.mono hz4);obtain⟨c0,c1,c2,_,_,_⟩:=Ybu (HH.out _ hb5);have hp6:=HP.out _ hb6;clear hb2 hb3 hb4 hb5 hpl hco hp1 hb1
  go_wp2_with fail
  refine(hdig _).mono ?_;rintro e w3 ⟨rfl,rfl⟩;have p1:=O1.out;have p2:=O2.out;have p3:=AND.out
  go_wp2_with fail
  have hp6d:Ye6 w2.drew:=hp6;have hb6d:Below w.heap.size w w2.drew:=hb6.drew;have c2d:w2.drew.cell? ⟨w.heap.size,2,none⟩=some (.int .i64 level):=c2;have hlt:w.heap.size<w2.drew.heap.size:=World.block_lt_of_cell? _ ⟨w.heap.size,2,none⟩ c2d
  have CELL:=Lib.hid (fun(x:World) (hx:Below w2.drew.heap.size w2.drew x)=>((hx.cell (p:=⟨w.heap.size,2,none⟩) hlt).trans c2d:x.cell? ⟨w.heap.size,2,none⟩=some (.int .i64 level)));have sw:IntKind.i64.wrap ((z:Int)*256)=(z:Int)*256:=IntWalk.i64_in _ (by omega)
  go_region_with (go_at_call 236;refine(hdi _ (by assumption)).mono ?_;rintro e w4 ⟨rfl,hb7⟩;have c4:=CELL.out _ hb7)
  all_goals
   go_wp2
   go_ret2
   exact⟨Yt4 O3.out rfl,hb6d.trans (hb7.mono hb6d.size)⟩
theorem Ynf (last:Bool)(r:Nat)(level:Int)(hr:r<64):3≤Ykf last r level∧Ykf last r level≤22∧Yk7 last r level<2^Ykf last r level:=by
 unfold Ykf Yk7;cases hin:inT last r level.natAbs with
 |true=>
  simp only[if_true];obtain⟨b0,b1,b2,_⟩:=Yda (plT last r level.natAbs) (Nat.lt_trans (Y16 hr hin) (by decide));have b4:=Qh2 _ (Nat.lt_trans (Y16 hr hin) (show 102<103 by decide));refine⟨by omega,by omega,?_⟩;rw[Nat.pow_succ]
  split <;> omega
 |false=>
  simp only[Bool.false_eq_true,if_false];refine⟨by decide,by decide,?_⟩;have h1:last.toNat≤1:=by cases last <;> decide
  have h2:(level%256).toNat<256:=by omega
  omega
set_option maxHeartbeats 1000000 in
theorem Y8l (last:Bool)(run level:Int)(w:World)(hp:Ye6 w):Calls Tryz.prog 207 #[.agg #[.bool last,.int .i64 run,.int .i64 level]] w fun e w'=>
  e=.returned (.tuple #[.string (Ycr last run level),.bool (!(Ycr last run level).data.toList.isEmpty)])∧Below w.heap.size w w':=by
 have hri:=fun x=>Ylu last run level x;have HP:=Lib.hid (fun(x:World) (hx:Below w.heap.size w x)=>(hp.below hx:Ye6 x));have hb1:Below w.heap.size w (w.alloc (.cells #[.bool last,.int .i64 run,.int .i64 level] 153 (0,0))):=(Below.refl _ w).alloc (Nat.le_refl _) _
 have hh:∀x,Below (w.heap.size+1) (w.alloc (.cells #[.bool last,.int .i64 run,.int .i64 level] 153 (0,0))) x→x.heap[w.heap.size]? =some (Ycv last run level):=fun x hx=>(hx.block w.heap.size (by omega)).trans (heap_alloc_new w _);have HH:=Lib.hid hh;have hz1:(w.alloc (.cells #[.bool last,.int .i64 run,.int .i64 level] 153 (0,0))).heap.size=w.heap.size+1:=by simp
 have HZ:=Lib.hid hz1;cases hr:Yec run level with
 |false=>
  have F:=Lib.hid (show Ycr last run level=⟨#[]⟩ by unfold Ycr;rw[hr,if_neg (by decide)]);rw[F.out];rw[hr] at hri;clear hr hp hh hz1
  go_enter Tryz.func207,Tryz.ntmps207
  go_wp2_with fail
  refine(hri _).mono ?_;rintro e w1 ⟨rfl,hb2⟩;rw[HZ.out] at hb2
  go_wp2
  go_ret2
  exact⟨rfl,hb1.trans (hb2.mono (by omega))⟩
 |true=>
  obtain⟨r0,r1,l0,l1,l2⟩:=Yd1.1 hr;obtain⟨r,rfl⟩:∃r:Nat,run=r:=⟨run.toNat,by omega⟩;have F:=Lib.hid (show Ycr last r level=⟨(Yav (Yk7 last r level) (Ykf last r level)).toArray⟩ by unfold Ycr;rw[hr,if_pos rfl];rfl);have hto:=fun x hx=>Y6a last r level (by omega) ⟨by omega,l1⟩ x hx;obtain⟨f1,f2,f3⟩:=Ynf last r level (by omega);have G:=Lib.hid (show (!(Ycr last r level).data.toList.isEmpty)=true by
   rw[F.out];show (!(Yav (Yk7 last r level) (Ykf last r level)).isEmpty)=true;cases hl:Yav (Yk7 last r level) (Ykf last r level) with
   |nil=>
    have e:=Yal (Yk7 last r level) (Ykf last r level);rw[hl] at e;simp at e;omega
   |cons a l=>rfl)
  rw[G.out,F.out];rw[hr] at hri;generalize Yk7 last r level=x at hto f3 ⊢;generalize Ykf last r level=y at hto f1 f2 f3 ⊢;have hx22:x<4194304:=Nat.lt_of_lt_of_le f3 (Nat.pow_le_pow_right (by decide) f2);have hrow:=fun w=>Yks (x:Int) (y:Int) w (by omega) (by
   unfold Ydh;rw[decide_eq_true_iff];refine⟨by omega,by omega,by omega,?_⟩;rw[Int.toNat_natCast]
   exact_mod_cast f3)
  simp only[Int.toNat_natCast] at hrow;clear hr hp hh hz1 F G f3
  go_enter Tryz.func207,Tryz.ntmps207
  go_wp2_with fail
  refine(hri _).mono ?_;rintro e w1 ⟨rfl,hb2⟩;rw[HZ.out] at hb2;have hb3:=hb1.trans (hb2.mono (by omega));obtain⟨c0,c1,c2,_,_,_⟩:=Ybu (HH.out _ hb2)
  go_wp2_with fail
  refine(hto _ (HP.out _ hb3)).mono ?_;rintro e w2 ⟨rfl,hb4⟩;have hb5:=hb3.trans (hb4.mono hb3.size);clear c0 c1 c2 hb2 hb1
  go_wp2_with fail
  refine(hrow _).mono ?_;rintro e w3 ⟨rfl,hb6⟩
  go_wp2
  go_ret2
  exact⟨rfl,hb5.trans (hb6.mono hb5.size)⟩
end Go.Proofs.YtjjmalchelniiaaGreatDoor
namespace Go.Proofs.YtjjmalchelniiaaGreatDoor
open Go.RowKit
def Ycf (i:Bool):Nat:=i.toNat
def Ymh (x:Ev):ByteArray:=Ycr x.1 x.2.1 x.2.2
def Ycl (l:List Ev):List UInt8:=l.flatMap fun x=>(Ymh x).data.toList
def Y76 (i:Bool)(d:Int):Bool:=if i then decide (1≤d)&&decide (d≤254) else d==0
def dcB (i:Bool)(d:Int):List UInt8:=if i then Yav (if d=128 then 255 else d.toNat) 8 else []
def Ytv (i:Bool)(d:Int)(l:List Ev):Bool:=Y76 i d && !Yp9 (Ycf i) l l.length
def Yhj (i:Bool)(d:Int)(l:List Ev):List UInt8:=dcB i d++Ycl l
theorem Qhk (i:Bool)(d:Int):Yax (dcB i d)=true:=by
 unfold dcB
 split
 ·exact Ycx _ _
 ·rfl
theorem Y75 (i:Bool)(d:Int):(dcB i d).length=8*Ycf i:=by
 unfold dcB Ycf;cases i
 ·rfl
 ·exact Yal _ _
theorem Qe1 (x:Ev):Yax (Ymh x).data.toList=true:=by
 unfold Ymh Ycr
 split
 ·exact Ycx _ _
 ·rfl
theorem Qe0 (x:Ev):(Ymh x).data.toList.length≤22:=by
 unfold Ymh Ycr
 split
 next h=>
  obtain⟨r0,r1,_⟩:=Yd1.1 h;have:=Ynf x.1 x.2.1.toNat x.2.2 (by omega);show (Yav _ _).length≤22;rw[Yal];exact this.2.1
 ·exact Nat.zero_le _
theorem Yxd (l m:List Ev):Ycl (l++m)=Ycl l++Ycl m:=by simp[Ycl]
theorem Yiq (l:List Ev)(x:Ev):Ycl (l++[x])=Ycl l++(Ymh x).data.toList:=by simp[Ycl]
theorem Qaj (l:List Ev):Yax (Ycl l)=true:=by
 induction l with
 |nil=>rfl
 |cons x l ih=>rw[Ycl,List.flatMap_cons,Yar,Qe1,show Yax (List.flatMap (fun x=>(Ymh x).data.toList) l)=true from ih];rfl
theorem Qai (l:List Ev):(Ycl l).length≤22*l.length:=by
 induction l with
 |nil=>exact Nat.le_refl _
 |cons x l ih=>
  have h1:=Qe0 x;have h2:(List.flatMap (fun x=>(Ymh x).data.toList) l).length≤22*l.length:=ih;rw[Ycl,List.flatMap_cons,List.length_append,List.length_cons];omega
theorem Y19 (i:Bool)(d:Int)(l:List Ev):Yax (Yhj i d l)=true:=by
 unfold Yhj;rw[Yar,Qhk,Qaj]
 rfl
theorem Yt5 (i:Bool)(d:Int)(l:List Ev):(Yhj i d l).length≤8+22*l.length:=by
 have h1:=Y75 i d;have h2:=Qai l;have h3:Ycf i≤1:=by cases i <;> decide
 unfold Yhj;rw[List.length_append];omega
def evI (x:Bool×Nat×Int):Ev:=(x.1,(x.2.1:Int),x.2.2)
def Ydn (B:List UInt8):Nat→List Ev→Nat→Nat→List Ev×Int×Nat
 |0,_,_,_=>([],7,0)
 |k+1,acc,p,m=>
  if (etk (B.drop p)).2.1≠0 then ([],(etk (B.drop p)).2.1,0) else
  if 63<m+(etk (B.drop p)).1.2.1 then ([],7,0) else
  if (etk (B.drop p)).1.1 then (acc++[evI (etk (B.drop p)).1],0,p+(etk (B.drop p)).2.2) else
  Ydn B k (acc++[evI (etk (B.drop p)).1]) (p+(etk (B.drop p)).2.2) (m+(etk (B.drop p)).1.2.1+1)
theorem Yv0 {B:List UInt8}{k p m n:Nat}{acc:List Ev}{x:Bool×Nat×Int}{f:Int}(h:etk (B.drop p)=(x,f,n))(hf:f≠0):Ydn B (k+1) acc p m=([],f,0):=by
 rw[Ydn,h,if_pos hf]
theorem Yv1 {B:List UInt8}{k p m n r:Nat}{acc:List Ev}{l:Bool}{v:Int}(h:etk (B.drop p)=((l,r,v),0,n))(hr:63<m+r):Ydn B (k+1) acc p m=([],7,0):=by
 rw[Ydn,h,if_neg (fun h=>h rfl),if_pos hr]
theorem Yoc {B:List UInt8}{k p m n r:Nat}{acc:List Ev}{v:Int}(h:etk (B.drop p)=((true,r,v),0,n))(hr:m+r≤63):Ydn B (k+1) acc p m=(acc++[(true,(r:Int),v)],0,p+n):=by
 rw[Ydn,h,if_neg (fun h=>h rfl),if_neg (by simp only;omega),if_pos rfl]
 rfl
theorem Yte {B:List UInt8}{k p m n r:Nat}{acc:List Ev}{v:Int}(h:etk (B.drop p)=((false,r,v),0,n))(hr:m+r≤63):Ydn B (k+1) acc p m=Ydn B k (acc++[(false,(r:Int),v)]) (p+n) (m+r+1):=by
 rw[Ydn,h,if_neg (fun h=>h rfl),if_neg (by simp only;omega),if_neg (fun h=>by cases h)]
 rfl
def dcT (b:List UInt8)(i:Bool):Int×Int×Nat:=
 if i then (if b.length<8 then (0,2,0) else if num (b.take 8)=0∨num (b.take 8)=128 then (0,7,0) else (if num (b.take 8)=255 then 128 else ((num (b.take 8):Nat):Int),0,8)) else (0,0,0)
def btk (B:List UInt8)(p:Nat)(i c:Bool):Int×List Ev×Nat×Int:=
 if (dcT (B.drop p) i).2.1≠0 then (0,[],p,(dcT (B.drop p) i).2.1) else
 if c=false then ((dcT (B.drop p) i).1,[],p+(dcT (B.drop p) i).2.2,0) else
 if (Ydn B (65-Ycf i) [] (p+(dcT (B.drop p) i).2.2) (Ycf i)).2.1≠0 then (0,[],p,(Ydn B (65-Ycf i) [] (p+(dcT (B.drop p) i).2.2) (Ycf i)).2.1) else
 ((dcT (B.drop p) i).1,(Ydn B (65-Ycf i) [] (p+(dcT (B.drop p) i).2.2) (Ycf i)).1,(Ydn B (65-Ycf i) [] (p+(dcT (B.drop p) i).2.2) (Ycf i)).2.2,0)
theorem Qgg {B:List UInt8}{p n:Nat}{i c:Bool}{d f:Int}(h:dcT (B.drop p) i=(d,f,n))(hf:f≠0):btk B p i c=(0,[],p,f):=by
 unfold btk;rw[h,if_pos hf]
theorem Ys7 {B:List UInt8}{p n:Nat}{i:Bool}{d:Int}(h:dcT (B.drop p) i=(d,0,n)):btk B p i false=(d,[],p+n,0):=by
 unfold btk;rw[h,if_neg (fun h=>h rfl),if_pos rfl]
theorem Qgh {B:List UInt8}{p n e:Nat}{i:Bool}{d f:Int}{l:List Ev}(h:dcT (B.drop p) i=(d,0,n))(he:Ydn B (65-Ycf i) [] (p+n) (Ycf i)=(l,f,e))(hf:f≠0):btk B p i true=(0,[],p,f):=by
 unfold btk;rw[h,if_neg (fun h=>h rfl),if_neg (by decide)];simp only;rw[he,if_pos hf]
theorem Yyw {B:List UInt8}{p n e:Nat}{i:Bool}{d:Int}{l:List Ev}(h:dcT (B.drop p) i=(d,0,n))(he:Ydn B (65-Ycf i) [] (p+n) (Ycf i)=(l,0,e)):btk B p i true=(d,l,e,0):=by
 unfold btk;rw[h,if_neg (fun h=>h rfl),if_neg (by decide)];simp only;rw[he,if_neg (fun h=>h rfl)]
theorem Qdh (b:List UInt8):dcT b false=(0,0,0):=rfl
theorem Yvt {b:List UInt8}(h:b.length<8):dcT b true=(0,2,0):=by
 unfold dcT;rw[if_pos rfl,if_pos h]
theorem Yzb {b:List UInt8}(h:8≤b.length)(hn:num (b.take 8)=0∨num (b.take 8)=128):dcT b true=(0,7,0):=by
 unfold dcT;rw[if_pos rfl,if_neg (by omega),if_pos hn]
theorem Yza {b:List UInt8}(h:8≤b.length)(hn:num (b.take 8)=255):dcT b true=(128,0,8):=by
 unfold dcT;rw[if_pos rfl,if_neg (by omega),if_neg (by omega),if_pos hn]
theorem Y78 {b:List UInt8}{v:Nat}(h:8≤b.length)(hv:num (b.take 8)=v)(h0:v≠0)(h1:v≠128)(h2:v≠255):dcT b true=((v:Int),0,8):=by
 unfold dcT;rw[if_pos rfl,if_neg (by omega),if_neg (by omega),if_neg (by omega),hv]
theorem Qho (p:Nat):(evT p).2.1≤63:=by
 have h:∀x∈evZ,x.2.1≤63:=by decide +kernel
 unfold evT;cases hp:evZ[p]? with
 |none=>exact Nat.zero_le _
 |some x=>exact h x (List.mem_of_getElem? hp)
theorem Qdr {b:List UInt8}{l:Bool}{r n:Nat}{v f:Int}(h:etk b=((l,r,v),f,n)):r≤63∧n≤b.length:=by
 unfold etk at h
 split at h
 ·injection h with h1 h2;injection h1 with h1 h3;injection h3 with h3 h4;injection h2 with h2 h5;omega
 split at h
 ·split at h
  ·injection h with h1 h2;injection h1 with h1 h3;injection h3 with h3 h4;injection h2 with h2 h5;omega
  split at h
  ·injection h with h1 h2;injection h2 with h2 h5;have:=(Yq9 (num (b.take 22))).1;rw[h1] at this;simp only at this;omega
  ·injection h with h1 h2;injection h1 with h1 h3;injection h3 with h3 h4;injection h2 with h2 h5;omega
 ·split at h
  ·injection h with h1 h2;injection h1 with h1 h3;injection h3 with h3 h4;injection h2 with h2 h5;omega
  ·injection h with h1 h2;injection h2 with h2 h5;have:=Qho (gtk allT b).1.toNat;unfold Y0e at h1;injection h1 with h1 h3;injection h3 with h3 h4;omega
theorem Y5c (c d n m:Nat)(hc:c<2^n)(hd:d<2^m):Yav c n++Yav d m=Yav (c*2^m+d) (n+m):=by
 have h:=Yg3 (Yav c n++Yav d m) (by rw[Yar,Ycx,Ycx];rfl);rw[List.length_append,Yal,Yal,Yeo,Yal,Ycw,Ycw,Nat.mod_eq_of_lt hc,Nat.mod_eq_of_lt hd] at h;exact h.symm
theorem Y05 {l:Bool}{run:Nat}{level:Int}(hr:Yec run level=true)(tl:List UInt8):
  etk ((Ymh (l,(run:Int),level)).data.toList++tl)=((l,run,level),0,(Ymh (l,(run:Int),level)).data.toList.length):=by
 obtain⟨r,he⟩:∃r,Ymh (l,(run:Int),level)=r:=⟨_,rfl⟩;rw[he];unfold Ymh at he;simp only at he;obtain⟨r0,r1,l0,l1,l2⟩:=Yd1.1 hr;obtain⟨f1,f2,f3⟩:=Ynf l run level (by omega);have hrd:r.data.toList=Yav (Yk7 l run level) (Ykf l run level):=by
  rw[←he];unfold Ycr;rw[if_pos hr,Int.toNat_natCast]
 have hlen:r.data.toList.length=Ykf l run level:=by rw[hrd,Yal]
 have htake:(r.data.toList++tl).take (Ykf l run level)=r.data.toList:=by rw[←hlen,List.take_left]
 have hbl:Ykf l run level≤(r.data.toList++tl).length:=by rw[List.length_append];omega
 have hnum:num r.data.toList=Yk7 l run level:=by rw[hrd,Ycw,Nat.mod_eq_of_lt f3]
 rw[hlen];obtain⟨b,htl⟩:∃b,r.data.toList++tl=b:=⟨_,rfl⟩;rw[htl] at htake hbl ⊢;cases hin:inT l run level.natAbs with
 |true=>
  have hp:=Y16 (by omega) hin;have hev:=Qjo (by omega) hin;have hn1:Yk7 l run level=2*Yd6 (plT l run level.natAbs)+(if level<0 then 1 else 0):=by unfold Yk7;rw[hin,if_pos rfl]
  have hd1:Ykf l run level=Yc2 (plT l run level.natAbs)+1:=by unfold Ykf;rw[hin,if_pos rfl]
  generalize plT l run level.natAbs=p at hp hev hn1 hd1;obtain⟨b0,b1,b2,_⟩:=Yda p (by omega);have hs:(if level<0 then 1 else 0:Nat)<2:=by split <;> decide
  have hpre:(Ya1 (Ykb p)).isPrefixOf b=true:=by
   rw[←htl,hrd,hn1,hd1,Qgr,Nat.mul_comm,←Y5c _ _ _ 1 b2 hs,List.append_assoc,List.isPrefixOf_iff_prefix];exact List.prefix_append _ _
  have hg:=Yok Yj2 (Ykc (show p<103 by omega)) (by rw[Yes];exact b0) (by rw[Yes];omega) hpre;rw[Yes] at hg;have ht:=Yod (i:=p) (n:=Yc2 p) hg (by omega) (by rw[←hd1];exact hbl);rw[←hd1,htake,hnum,hev,hn1] at ht;rw[ht];unfold Y0e;by_cases hneg:level<0
  ·rw[if_pos hneg,show (2*Yd6 p+1)%2=1 by omega];simp only[beq_self_eq_true,if_true];rw[show -((level.natAbs:Nat):Int)=level by omega]
  ·rw[if_neg hneg,show (2*Yd6 p+0)%2=0 by omega];simp only[show ((0:Nat)==1)=false from rfl,Bool.false_eq_true,if_false];rw[show ((level.natAbs:Nat):Int)=level by omega]
 |false=>
  have hn1:Yk7 l run level=((6+l.toNat)*64+run)*256+(level%256).toNat:=by unfold Yk7;rw[hin,if_neg (by decide)]
  have hd1:Ykf l run level=22:=by unfold Ykf;rw[hin,if_neg (by decide)]
  have hl1:l.toNat≤1:=by cases l <;> decide
  have hpre:(Ya1 (Ykb 102)).isPrefixOf b=true:=by
   have h7:(Yav (Yk7 l run level) 22).take 7=Ya1 (Ykb 102):=by
    rw[Ylv _ _ _ (by decide),show Yk7 l run level / 2^(22-7)=3 by rw[hn1];omega]
    decide +kernel
   rw[←htl,hrd,hd1,←h7,List.isPrefixOf_iff_prefix];exact(List.take_prefix 7 _).trans (List.prefix_append _ _)
  have hg:=Yok Yj2 (Ykc (show 102<103 by decide)) (by decide +kernel) (by decide +kernel) hpre;have ht:=Ylj (n:=(Ya1 (Ykb 102)).length) hg (by omega);rw[←hd1,htake,hnum] at ht;have hesc:Yqa (Yk7 l run level)=(l,run,level):=by
   rw[hn1];unfold Yqa;rw[show (((6+l.toNat)*64+run)*256+(level%256).toNat) / 16384%2=l.toNat by omega,show (((6+l.toNat)*64+run)*256+(level%256).toNat) / 256%64=run by omega,show (((6+l.toNat)*64+run)*256+(level%256).toNat)%256=(level%256).toNat by omega];rw[show (l.toNat==1)=l by cases l <;> rfl]
   congr 2
   split <;> omega
  rw[hesc] at ht;simp only[hr,hin,Bool.not_false,Bool.and_true,if_true] at ht;rw[ht]
theorem Yze {A C:List UInt8}{p:Nat}(h:p=A.length):(A++C).drop p=C:=by rw[h,List.drop_left]
theorem Y04 {a:Nat}{l:List Ev}(hl:Yp9 a l l.length=false)(A C:List UInt8)(h0:0<l.length):∀j,j<l.length→
  (lvS a (l.take j)).1≤63∧∃k,65≤k+(lvS a (l.take j)).1∧Ydn (A++Ycl l++C) (65-a) [] A.length a=Ydn (A++Ycl l++C) k (l.take j) (A.length+(Ycl (l.take j)).length) (lvS a (l.take j)).1
 |0,hj=>by
  have hf:=Yld hl hj;unfold Yu2 at hf;simp only[Bool.and_eq_true,decide_eq_true_eq] at hf;obtain⟨_,hn⟩:=hf;rw[List.take_zero] at hn ⊢;exact⟨by omega,65-a,by show 65≤65-a+a;omega,rfl⟩
 |j+1,hj=>by
  obtain⟨ih0,k,hk1,ih⟩:=Y04 hl A C h0 j (by omega);have hf:=Yld hl (show j<l.length by omega);have hf2:=Yld hl hj;have hm:=Yts a l (show j<l.length by omega);have ht:l.take (j+1)=l.take j++[l[j]'(by omega)]:=List.take_succ_eq_append_getElem (by omega);have hcut:A++Ycl l++C=(A++Ycl (l.take j))++((Ymh (l[j]'(by omega))).data.toList++(Ycl (l.drop (j+1))++C)):=by
   have:Ycl l=Ycl (l.take j)++((Ymh (l[j]'(by omega))).data.toList++Ycl (l.drop (j+1))):=by
    have e:Ycl (l.take (j+1)++l.drop (j+1))=Ycl (l.take j)++((Ymh (l[j]'(by omega))).data.toList++Ycl (l.drop (j+1))):=by
     rw[ht,Yxd,Yiq,List.append_assoc]
    rwa [List.take_append_drop] at e
   rw[this];simp only[List.append_assoc]
  unfold Yu2 at hf hf2;simp only[Bool.and_eq_true,decide_eq_true_eq,beq_iff_eq] at hf hf2;obtain⟨⟨hr,hlast⟩,hn⟩:=hf;obtain⟨⟨_,_⟩,hn2⟩:=hf2;refine⟨by omega,?_⟩;rw[ih,hm,ht,Yiq,List.length_append];obtain⟨⟨e0,e1,e2⟩,he⟩:∃e,l[j]'(by omega)=e:=⟨_,rfl⟩;rw[he] at hr hlast hn hcut hm ⊢;simp only at hr hlast hn ⊢;obtain⟨r,rfl⟩:∃r:Nat,e1=(r:Int):=⟨e1.toNat,by have:=(Yd1.1 hr).1;omega⟩
  have he0:e0=false:=by rw[hlast];simp;omega
  subst he0;rw[Int.toNat_natCast] at hn ⊢;generalize (lvS a (l.take j)).1=m at ih0 hn hk1 ⊢;have hk:=Y05 (l:=false) hr (Ycl (l.drop (j+1))++C);obtain⟨k,rfl⟩:∃k',k=k'+1:=⟨k-1,by omega⟩;refine⟨k,by omega,?_⟩;rw[Yte (r:=r) (v:=e2) (n:=(Ymh (false,(r:Int),e2)).data.toList.length) (by rw[hcut,Yze (by rw[List.length_append]),hk]) (by omega),Nat.add_assoc]
theorem Y65 {a:Nat}{l:List Ev}(hl:Yp9 a l l.length=false)(A C:List UInt8)(h0:0<l.length):
  Ydn (A++Ycl l++C) (65-a) [] A.length a=(l,0,A.length+(Ycl l).length):=by
 obtain⟨j,hj⟩:∃j,l.length=j+1:=⟨l.length-1,by omega⟩;have hjl:j<l.length:=by omega
 obtain⟨ih0,k,hk1,ih⟩:=Y04 hl A C h0 j hjl;have hf:=Yld hl hjl;have ht:l=l.take j++[l[j]]:=by
  conv=>lhs;rw[←List.take_length (l:=l),hj,List.take_succ_eq_append_getElem hjl]
 have hcut:A++Ycl l++C=(A++Ycl (l.take j))++((Ymh l[j]).data.toList++C):=by
  have:Ycl l=Ycl (l.take j)++(Ymh l[j]).data.toList:=by
   conv=>lhs;rw[ht]
   rw[Yiq]
  rw[this];simp only[List.append_assoc]
 have hsz:(Ycl l).length=(Ycl (l.take j)).length+(Ymh l[j]).data.toList.length:=by
  conv=>lhs;rw[ht]
  rw[Yiq,List.length_append]
 unfold Yu2 at hf;simp only[Bool.and_eq_true,decide_eq_true_eq,beq_iff_eq] at hf;obtain⟨⟨hr,hlast⟩,hn⟩:=hf;rw[ih];have hl2:l.take j++[l[j]]=l:=ht.symm;obtain⟨⟨e0,e1,e2⟩,he⟩:∃e,l[j]=e:=⟨_,rfl⟩;rw[he] at hr hlast hn hcut hsz hl2;simp only at hr hlast hn;obtain⟨r,rfl⟩:∃r:Nat,e1=(r:Int):=⟨e1.toNat,by have:=(Yd1.1 hr).1;omega⟩;have he0:e0=true:=by rw[hlast];simp;omega
 subst he0;rw[Int.toNat_natCast] at hn;generalize (lvS a (l.take j)).1=m at ih0 hn hk1;have hk:=Y05 (l:=true) hr C;obtain⟨k,rfl⟩:∃k',k=k'+1:=⟨k-1,by omega⟩;rw[Yoc (r:=r) (v:=e2) (n:=(Ymh (true,(r:Int),e2)).data.toList.length) (by rw[hcut,Yze (by rw[List.length_append]),hk]) (by omega),hl2,hsz,Nat.add_assoc]
theorem Qcp {i:Bool}{d:Int}{l:List Ev}(hm:Ytv i d l=true)(A C:List UInt8):
  btk (A++Yhj i d l++C) A.length i (decide (0<l.length))=(d,l,A.length+(Yhj i d l).length,0):=by
 unfold Ytv at hm;rw[Bool.and_eq_true,Bool.not_eq_true'] at hm;obtain⟨hd,hl⟩:=hm;have hdc:dcT ((A++Yhj i d l++C).drop A.length) i=(d,0,(dcB i d).length):=by
  rw[List.append_assoc,Yze rfl];unfold Yhj;rw[List.append_assoc];cases i with
  |false=>
   have:d=0:=by simpa [Y76] using hd
   subst this
   rfl
  |true=>
   have hd2:1≤d∧d≤254:=by simpa [Y76] using hd
   have hlen:=Y75 true d;have h8:(dcB true d).length=8:=hlen;have htk:(dcB true d++(Ycl l++C)).take 8=dcB true d:=by rw[←h8,List.take_left]
   have hge:8≤(dcB true d++(Ycl l++C)).length:=by rw[List.length_append];omega
   have hnum:num (dcB true d)=if d=128 then 255 else d.toNat:=by
    unfold dcB;rw[if_pos rfl,Ycw,Nat.mod_eq_of_lt]
    split <;> omega
   rw[h8];by_cases h128:d=128
   ·subst h128;exact Yza hge (by rw[htk,hnum,if_pos rfl])
   ·rw[if_neg h128] at hnum;rw[Y78 hge (by rw[htk,hnum]) (by omega) (by omega) (by omega)];rw[Int.toNat_of_nonneg (by omega)]
 have hsz:(Yhj i d l).length=(dcB i d).length+(Ycl l).length:=by unfold Yhj;rw[List.length_append]
 by_cases h0:0<l.length
 ·rw[decide_eq_true h0];have:=Y65 hl (A++dcB i d) C h0;rw[List.length_append] at this;rw[Yyw hdc (by rw[show A++Yhj i d l++C=A++dcB i d++Ycl l++C by unfold Yhj;simp only[List.append_assoc]];exact this),hsz,Nat.add_assoc]
 ·rw[decide_eq_false h0];have hn:l=[]:=List.eq_nil_of_length_eq_zero (by omega);subst hn;rw[Ys7 hdc,hsz]
  rfl
theorem Y77 {d:Int}:Y76 true d=(decide (1≤d)&&decide (d≤254)):=rfl
theorem Ym9 {a:Nat}{l:List Ev}(h:Yp9 a l l.length=false):l.length≤64:=by
 have key:∀j,j≤l.length→j≤(lvS a (l.take j)).1:=by
  intro j
  induction j with
  |zero=>intro _;exact Nat.zero_le _
  |succ j ih=>
   intro hj;have h1:=ih (by omega);have h2:=Yts a l (show j<l.length by omega);rw[h2];simp only;omega
 by_cases h64:l.length≤64
 ·exact h64
 ·exfalso;have h1:=Yld h (show 64<l.length by omega);have h2:=key 64 (by omega);unfold Yu2 at h1;simp only[Bool.and_eq_true,decide_eq_true_eq] at h1;omega
theorem Y3c {a:Nat}{l:List Ev}(h:Yp9 a l l.length=false){j:Nat}(hj:j<l.length):Yec l[j].2.1 l[j].2.2=true:=by
 have h1:=Yld h hj;unfold Yu2 at h1;simp only[Bool.and_eq_true] at h1;exact h1.1.1
theorem Yin {i:Bool}{d:Int}{l:List Ev}(h:Ytv i d l=true):Y76 i d=true∧Yp9 (Ycf i) l l.length=false:=by
 unfold Ytv at h;rw[Bool.and_eq_true,Bool.not_eq_true'] at h;exact h
theorem Qjh {i:Bool}{l:List Ev}(h:Yp9 (Ycf i) l l.length=false):(lvG l ((Ycf i:Nat):Int)).2=0:=by
 unfold lvG;rw[if_pos (by cases i;exact .inl rfl;exact .inr rfl),Int.toNat_natCast,if_neg (by rw[h];decide)]
theorem Qh4 {i:Bool}{l:List Ev}(h:Yp9 (Ycf i) l l.length=true):(lvG l ((Ycf i:Nat):Int)).2=7:=by
 unfold lvG;rw[if_pos (by cases i;exact .inl rfl;exact .inr rfl),Int.toNat_natCast,if_pos h]
theorem Yv2 (B:List UInt8):∀(k:Nat) (acc:List Ev) (p m:Nat),(Ydn B k acc p m).1.length≤acc.length+k
 |0,acc,p,m=>Nat.zero_le _
 |k+1,acc,p,m=>by
  rw[Ydn]
  split
  ·exact Nat.zero_le _
  split
  ·exact Nat.zero_le _
  split
  ·simp only[List.length_append,List.length_cons,List.length_nil];omega
  ·refine Nat.le_trans (Yv2 B k _ _ _) ?_;simp only[List.length_append,List.length_cons,List.length_nil];omega
theorem Qhc (B:List UInt8)(p:Nat)(i c:Bool):(btk B p i c).2.1.length≤65:=by
 unfold btk
 split
 ·exact Nat.zero_le _
 split
 ·exact Nat.zero_le _
 split
 ·exact Nat.zero_le _
 ·refine Nat.le_trans (Yv2 _ _ _ _ _) ?_;simp
def EvR (S:List UInt8)(a p:Nat)(acc:List Ev)(m t:Nat):Prop:=∃k,65≤k+m∧Ydn S (65-a) [] p a=Ydn S k acc t m
theorem EvR.first (S:List UInt8)(a p:Nat):EvR S a p [] a p:=⟨65-a,by omega,rfl⟩
theorem EvR.err {S:List UInt8}{a p m t n:Nat}{acc:List Ev}{x:Bool×Nat×Int}{f:Int}(h:EvR S a p acc m t)(hm:m≤64)(he:etk (S.drop t)=(x,f,n))(hf:f≠0):Ydn S (65-a) [] p a=([],f,0):=by
 obtain⟨k,hk,h⟩:=h;obtain⟨k,rfl⟩:∃k',k=k'+1:=⟨k-1,by omega⟩;rw[h,Yv0 he hf]
theorem EvR.far {S:List UInt8}{a p m t n r:Nat}{acc:List Ev}{l:Bool}{v:Int}(h:EvR S a p acc m t)(hm:m≤64)(he:etk (S.drop t)=((l,r,v),0,n))(hr:63<m+r):Ydn S (65-a) [] p a=([],7,0):=by
 obtain⟨k,hk,h⟩:=h;obtain⟨k,rfl⟩:∃k',k=k'+1:=⟨k-1,by omega⟩;rw[h,Yv1 he hr]
theorem EvR.end {S:List UInt8}{a p m t n r:Nat}{acc:List Ev}{v:Int}(h:EvR S a p acc m t)(_:m≤64)(he:etk (S.drop t)=((true,r,v),0,n))(hr:m+r≤63):Ydn S (65-a) [] p a=(acc++[(true,(r:Int),v)],0,t+n):=by
 obtain⟨k,hk,h⟩:=h;obtain⟨k,rfl⟩:∃k',k=k'+1:=⟨k-1,by omega⟩;rw[h,Yoc he hr]
theorem EvR.on {S:List UInt8}{a p m t n r:Nat}{acc:List Ev}{v:Int}(h:EvR S a p acc m t)(_:m≤64)(he:etk (S.drop t)=((false,r,v),0,n))(hr:m+r≤63):EvR S a p (acc++[(false,(r:Int),v)]) (m+r+1) (t+n):=by
 obtain⟨k,hk,h⟩:=h;obtain⟨k,rfl⟩:∃k',k=k'+1:=⟨k-1,by omega⟩;exact⟨k,by omega,by rw[h,Yte he hr]⟩
theorem Ylf (i:Bool)(w:World):Calls Tryz.prog 206 #[.bool i] w fun e w'=>e=.returned (.int .i64 (Ycf i:Nat))∧w=w':=by
 cases i
 all_goals
  go_enter Tryz.func206,Tryz.ntmps206
  go_wp2
  go_ret
  exact⟨rfl,rfl⟩
def Yfi (B:Nat)(q:Option Addr):Prop:=∀x,q=some x→B≤x.block
theorem Yfi.none (B:Nat):Yfi B none:=fun _ h=>by cases h
theorem Yfi.mono {A B:Nat}{q:Option Addr}(h:Yfi B q)(hab:A≤B):Yfi A q:=fun x hx=>Nat.le_trans hab (h x hx)
theorem Y9u {w:World}{B e c n k:Nat}{q:Option Addr}{l:List Value}{m:Nat}(h:w.ownsRow B e c (.slice q n k) m l):Yfi B q:=fun x hx=>(h.lt x.block (by rw[hx];rfl)).1
end Go.Proofs.YtjjmalchelniiaaGreatDoor
namespace Go.Proofs.YtjjmalchelniiaaGreatDoor
def Yas (k:Int):Bool:=k==3 || k==4
def Y5x (k:Int):Bool:=k==1 || k==4
def Qb4 (inter:Bool):List UInt8:=if inter then [48] else []
def Yi9 (inter:Bool):List UInt8:=Qb4 inter++(Yby inter 5 0).data.toList
def Yfz (inter:Bool)(n:Nat):List UInt8:=(List.replicate n (Yi9 inter)).flatten
theorem Ydd (inter:Bool)(n:Nat):Yfz inter (n+1)=Yi9 inter++Yfz inter n:=rfl
def Yqk (c:Cel)(i:Nat):Nat:=(decide (0<(c.ev i).length)).toNat
theorem Yzl (c:Cel)(i:Nat):Yqk c i≤1:=by unfold Yqk;cases decide (0<(c.ev i).length) <;> decide
def Yfw (c:Cel):Nat→Nat
 |0=>0
 |i+1=>2*Yfw c i+Yqk c i
def Ykd (c:Cel):Nat:=2*Yqk c 4+Yqk c 5
theorem Ynb (c:Cel):Yfw c 4=8*Yqk c 0+4*Yqk c 1+2*Yqk c 2+Yqk c 3:=by
 simp only[Yfw];omega
theorem Ytb (c:Cel):Yfw c 6=4*Yfw c 4+Ykd c:=by
 simp only[Yfw,Ykd];omega
theorem Y7x (c:Cel):Yfw c 4<16∧Ykd c<4∧Yfw c 6<64:=by
 have h:=fun i=>Yzl c i;have h0:=h 0;have h1:=h 1;have h2:=h 2;have h3:=h 3;have h4:=h 4;have h5:=h 5;rw[Ytb,Ynb];unfold Ykd;omega
def Qf2 (k x y mx my:Int):List UInt8:=if Yas k then [] else (Ybz (Yca (mx-Yca x))).data.toList++(Ybz (Yca (my-Yca y))).data.toList
def Yjf (c:Cel):Nat→List UInt8
 |0=>[]
 |i+1=>Yjf c i++Yhj (Yas c.kind) (c.dc i) (c.ev i)
def Yc4 (inter:Bool)(x y:Int)(c:Cel):List UInt8:=
 Yfz inter c.stuff.toNat++(if c.skip then [49] else Qb4 inter++(Yby inter c.kind (Ykd c:Nat)).data.toList++(Yf2 (Yas c.kind) (Yfw c 4:Nat)).data.toList++(Yb8 c.step).data.toList++Qf2 c.kind x y c.mx c.my++Yjf c 6)
def Yp7 (c:Cel):Bool:=(c.kind==0&&c.step==0&&(c.mx==0&&c.my==0))&&((List.range 6).all (fun i=>c.dc i==0)&&(List.range 6).all (fun i=>decide ((c.ev i).length=0)))
def Ykm (inter:Bool)(k:Int):Bool:=(k==3 || k==4) || (inter&&(k==0 || k==1))
def Yqt (k s:Int):Bool:=if Y5x k then !(Yb8 s).data.toList.isEmpty else s==0
def Ym4 (k mx my:Int):Bool:=if Yas k then mx==0&&my==0 else mx==Yca mx&&my==Yca my
def Yjg (c:Cel):Bool:=(List.range 6).all fun i=>Ytv (Yas c.kind) (c.dc i) (c.ev i)
def Ybp (inter:Bool)(c:Cel):Bool:=
 (decide (0≤c.stuff)&&decide (c.stuff≤64))&&(if c.skip then inter&&Yp7 c else (Ykm inter c.kind&&Yqt c.kind c.step)&&(Ym4 c.kind c.mx c.my&&Yjg c))
theorem Ymn {s:Int}:(Yb8 s).data.toList.isEmpty=false↔(s = -1∨s = -2∨s=1∨s=2):=by
 unfold Yb8;by_cases h1:s = -1
 ·simp[h1]
 by_cases h2:s = -2
 ·simp[h2]
 by_cases h3:s=1
 ·simp[h3]
 by_cases h4:s=2
 ·simp[h4]
 simp[h1,h2,h3,h4]
theorem Yho {c:Cel}:Yjg c=true↔∀i,i<6→Ytv (Yas c.kind) (c.dc i) (c.ev i)=true:=by
 unfold Yjg;rw[List.all_eq_true];exact⟨fun h i hi=>h i (List.mem_range.2 hi),fun h i hi=>h i (List.mem_range.1 hi)⟩
theorem Y0x (n:Int):-32≤Yca n∧Yca n≤31:=by unfold Yca;omega
theorem Yk4 {n:Int}:n=Yca n↔(-32≤n∧n≤31):=by unfold Yca;omega
theorem Yh7 (inter:Bool)(k c:Int):Yax (Yby inter k c).data.toList=true∧(Yby inter k c).data.toList.length≤9:=by
 have hq:∀l:List ByteArray,(∀x∈l,Yax x.data.toList=true∧x.data.toList.length≤9)→Yax (l[c.toNat]?.getD ⟨#[]⟩).data.toList=true∧(l[c.toNat]?.getD ⟨#[]⟩).data.toList.length≤9:=by
  intro l hl;cases hx:l[c.toNat]? with
  |none=>exact⟨rfl,Nat.zero_le _⟩
  |some x=>exact hl x (List.mem_of_getElem? hx)
 unfold Yby
 split
 ·refine hq _ ?_;cases inter with
  |true=>
   show∀x∈Ykj k,_;unfold Ykj
   repeat' split
   all_goals decide +kernel
  |false=>
   show∀x∈Ykk k,_;unfold Ykk
   repeat' split
   all_goals decide +kernel
 ·exact⟨rfl,Nat.zero_le _⟩
theorem Yo9 (intra:Bool)(k:Int):Yax (Yf2 intra k).data.toList=true∧(Yf2 intra k).data.toList.length≤6:=by
 have hl:∀x∈Yqp,Yax x.data.toList=true∧x.data.toList.length≤6:=by decide +kernel
 unfold Yf2
 split
 ·cases hx:Yqp[Yf4 intra k.toNat]? with
  |none=>exact⟨rfl,Nat.zero_le _⟩
  |some x=>exact hl x (List.mem_of_getElem? hx)
 ·exact⟨rfl,Nat.zero_le _⟩
theorem Yjr (s:Int):Yax (Yb8 s).data.toList=true∧(Yb8 s).data.toList.length≤2:=by
 unfold Yb8
 repeat' split
 all_goals exact⟨rfl,by decide⟩
theorem Yik (d:Int):Yax (Ybz d).data.toList=true∧(Ybz d).data.toList.length≤13:=by
 by_cases h:-32≤d∧d≤31
 ·rw[Yn9 h];have:=Yoa h;exact⟨Ycx _ _,by show (Yav _ _).length≤13;rw[Yal];omega⟩
 ·rw[Yli (by omega)];exact⟨rfl,Nat.zero_le _⟩
theorem Y21 (k x y mx my:Int):Yax (Qf2 k x y mx my)=true∧(Qf2 k x y mx my).length≤26:=by
 unfold Qf2
 split
 ·exact⟨rfl,Nat.zero_le _⟩
 ·have h1:=Yik (Yca (mx-Yca x));have h2:=Yik (Yca (my-Yca y));exact⟨by rw[Yar,h1.1,h2.1];rfl,by rw[List.length_append];omega⟩
theorem Yna (inter:Bool):Yax (Qb4 inter)=true∧(Qb4 inter).length≤1:=by cases inter <;> decide
theorem Ysc (inter:Bool):Yax (Yi9 inter)=true∧(Yi9 inter).length≤10:=by
 have h1:=Yna inter;have h2:=Yh7 inter 5 0;unfold Yi9;exact⟨by rw[Yar,h1.1,h2.1];rfl,by rw[List.length_append];omega⟩
theorem Yiv (inter:Bool):∀n,Yax (Yfz inter n)=true∧(Yfz inter n).length≤10*n
 |0=>⟨rfl,Nat.le_refl _⟩
 |n+1=>by
  have h1:=Ysc inter;have h2:=Yiv inter n;rw[Ydd];exact⟨by rw[Yar,h1.1,h2.1];rfl,by rw[List.length_append];omega⟩
theorem Y1a (c:Cel):∀i,Yax (Yjf c i)=true
 |0=>rfl
 |i+1=>by
  show Yax (Yjf c i++Yhj (Yas c.kind) (c.dc i) (c.ev i))=true;rw[Yar,Y1a c i,Y19]
  rfl
theorem Ys6 {c:Cel}{n:Nat}:∀i,(∀j,j<i→(c.ev j).length≤n)→(Yjf c i).length≤(8+22*n)*i
 |0,_=>Nat.le_refl _
 |i+1,h=>by
  have h1:=Ys6 i fun j hj=>h j (by omega);have h2:=Yt5 (Yas c.kind) (c.dc i) (c.ev i);have h3:=h i (by omega);show (Yjf c i++Yhj (Yas c.kind) (c.dc i) (c.ev i)).length≤_;rw[List.length_append,Nat.mul_add,Nat.mul_one];omega
theorem Y3o (inter:Bool)(x y:Int)(c:Cel):Yax (Yc4 inter x y c)=true:=by
 unfold Yc4;rw[Yar,(Yiv inter _).1,Bool.true_and]
 split
 ·rfl
 ·simp only[Yar,(Yna inter).1,(Yh7 _ _ _).1,(Yo9 _ _).1,(Yjr _).1,(Y21 _ _ _ _ _).1,Y1a,Bool.and_self]
theorem Y3n {inter:Bool}{x y:Int}{c:Cel}(hs:c.stuff.toNat≤64)(h:∀i,i<6→(c.ev i).length≤100):(Yc4 inter x y c).length≤20000:=by
 have h1:=(Yiv inter c.stuff.toNat).2;have h2:=Ys6 6 h;have h3:=(Yna inter).2;have h4:=(Yh7 inter c.kind (Ykd c:Nat)).2;have h5:=(Yo9 (Yas c.kind) (Yfw c 4:Nat)).2;have h6:=(Yjr c.step).2;have h7:=(Y21 c.kind x y c.mx c.my).2;unfold Yc4;rw[List.length_append]
 split
 ·simp only[List.length_cons,List.length_nil];omega
 ·simp only[List.length_append];omega
end Go.Proofs.YtjjmalchelniiaaGreatDoor
namespace Go.Proofs.YtjjmalchelniiaaGreatDoor
open Go.RowKit Go.Lib
theorem Yei {x:World}{rb p:Nat}{s:ByteArray}{a:Addr}{v:Value}(h:Yba x rb s p)(hne:rb≠a.block):Yba (x.setCell a v) rb s p:=h.grown (Yap x a v) hne
def Y6q (v n:Nat)(w:World)(e:Ending)(w':World):Prop:=
 ((∃i:Nat,i<103∧Y69 v n i=true∧e=.returned (.tuple #[.int .i64 (i:Int),.bool true]))∨((∀i,i<103→Y69 v n i=false)∧e=.returned (.tuple #[.int .i64 0,.bool false])))∧Below w.heap.size w w'
set_option maxRecDepth 100000 in
set_option maxHeartbeats 4000000 in
theorem Y7a (v n:Nat)(hn:n≤12)(w:World)(hp:Ye6 w):Calls Tryz.prog 313 #[.int .i64 (v:Int),.int .i64 (n:Int)] w (Y6q v n w):=by
 have HP:=Lib.hid (fun(x:World) (hx:Below w.heap.size w x)=>(hp.below hx:Ye6 x));have hb0:Below w.heap.size w w:=Below.refl _ _;clear hp
 go_enter Tryz.func313,Tryz.ntmps313
 go_wp2
 go_loopw [9] (fun u wr=>∃i:Nat,i≤103∧u=.int .i64 i∧Below w.heap.size w wr∧Hid (∀j,j<i→Y69 v n j=false)) (fun u _=>103-(intOf u).toNat)
 case atStart=>exact⟨0,by omega,rfl,hb0,Lib.hid (fun j h=>absurd h (Nat.not_lt_zero j))⟩
 case round=>
  clear hb0;obtain⟨i,hi,rfl,hb,hno⟩:=hrel;by_cases hlt:i<103
  ·have hc:=Yfm i hlt wr (HP.out _ hb);obtain⟨b0,b1,b2,b3⟩:=Yda i hlt;clear b2;have hbeg:Y69 v n i=(Yd6 i / 2^(Yc2 i-n)==v / 2^(n-Yc2 i)):=rfl;have hmore:∀r,Y69 v n i=r→r=false→∀j,j<i+1→Y69 v n j=false:=by
    intro r h1 h2 j hj;by_cases e:j=i
    ·subst e;rw[h1,h2]
    ·exact hno.out j (by omega)
   have MORE:=Lib.hid hmore;generalize Yd6 i=x at hc b3 hbeg;generalize Yc2 i=y at hc b0 b1 hbeg;have t9:decide ((i:Int)<103)=true:=by simp;omega
   have hz:=hb.size;clear hno hmore;rcases Nat.lt_trichotomy n y with hyn|hyn|hyn
   ·obtain⟨k,rfl⟩:∃k,y=n+k:=⟨y-n,by omega⟩;have hk:0<k:=by omega
    rw[Nat.add_sub_cancel_left,show n-(n+k)=0 by omega,Nat.pow_zero,Nat.div_one] at hbeg;have sw1:IntKind.i64.wrap ((n:Int)+k-n)=(k:Int):=(IntWalk.i64_in _ (by omega)).trans (by omega);have sw2:IntKind.i64.wrap ((n:Int)-((n:Int)+k)) = -(k:Int):=(IntWalk.i64_in _ (by omega)).trans (by omega);have hcast:((x:Int) / 2^k==(v:Int))=(x / 2^k==v):=by
     rw[Bool.eq_iff_iff,beq_iff_eq,beq_iff_eq,←Int.natCast_inj];simp
    cases hg:((x:Int) / 2^k==(v:Int)) with
    |true=>
     have HB:=Lib.hid (hbeg.trans (hcast.symm.trans hg));clear hbeg hcast
     go_wp2_with fail
     refine hc.mono ?_;rintro e w1 ⟨rfl,hb1⟩;have hb2:=(hb.trans (hb1.mono hz)).drew
     go_wp2
     go_region
     go_wp2
     go_ret2
     exact⟨.inl ⟨i,hlt,HB.out,rfl⟩,hb2⟩
    |false=>
     have HB:=Lib.hid (hbeg.trans (hcast.symm.trans hg));clear hbeg hcast
     go_wp2_with fail
     refine hc.mono ?_;rintro e w1 ⟨rfl,hb1⟩;have hb2:=(hb.trans (hb1.mono hz)).drew
     go_wp2
     go_region
     go_wp2
     go_roundw
     case rel=>exact⟨i+1,by omega,by go_num,hb2,Lib.hid (MORE.out _ HB.out rfl)⟩
     case measure=>simp[intOf];omega
   ·subst hyn;rw[Nat.sub_self,Nat.pow_zero,Nat.div_one,Nat.div_one] at hbeg;have sw1:IntKind.i64.wrap ((n:Int)-n)=0:=(IntWalk.i64_in _ (by omega)).trans (by omega);have hcast:((x:Int)==(v:Int))=(x==v):=by
     rw[Bool.eq_iff_iff,beq_iff_eq,beq_iff_eq,←Int.natCast_inj]
    cases hg:((x:Int)==(v:Int)) with
    |true=>
     have HB:=Lib.hid (hbeg.trans (hcast.symm.trans hg));clear hbeg hcast
     go_wp2_with fail
     refine hc.mono ?_;rintro e w1 ⟨rfl,hb1⟩;have hb2:=(hb.trans (hb1.mono hz)).drew
     go_wp2
     go_region
     go_wp2
     go_ret2
     exact⟨.inl ⟨i,hlt,HB.out,rfl⟩,hb2⟩
    |false=>
     have HB:=Lib.hid (hbeg.trans (hcast.symm.trans hg));clear hbeg hcast
     go_wp2_with fail
     refine hc.mono ?_;rintro e w1 ⟨rfl,hb1⟩;have hb2:=(hb.trans (hb1.mono hz)).drew
     go_wp2
     go_region
     go_wp2
     go_roundw
     case rel=>exact⟨i+1,by omega,by go_num,hb2,Lib.hid (MORE.out _ HB.out rfl)⟩
     case measure=>simp[intOf];omega
   ·obtain⟨k,hk2⟩:∃k,n-y=k:=⟨_,rfl⟩;have hk:0<k:=by omega
    rw[hk2,show y-n=0 by omega,Nat.pow_zero,Nat.div_one] at hbeg;have sw1:IntKind.i64.wrap ((n:Int)-y)=(k:Int):=(IntWalk.i64_in _ (by omega)).trans (by omega);have sw2:IntKind.i64.wrap ((y:Int)-n) = -(k:Int):=(IntWalk.i64_in _ (by omega)).trans (by omega);have hk12:k≤12:=by omega
    clear hk2;have hcast:((x:Int)==(v:Int) / 2^k)=(x==v / 2^k):=by
     rw[Bool.eq_iff_iff,beq_iff_eq,beq_iff_eq,←Int.natCast_inj];simp
    cases hg:((x:Int)==(v:Int) / 2^k) with
    |true=>
     have HB:=Lib.hid (hbeg.trans (hcast.symm.trans hg));clear hbeg hcast
     go_wp2_with fail
     refine hc.mono ?_;rintro e w1 ⟨rfl,hb1⟩;have hb2:=(hb.trans (hb1.mono hz)).drew
     go_wp2
     go_region
     go_wp2
     go_ret2
     exact⟨.inl ⟨i,hlt,HB.out,rfl⟩,hb2⟩
    |false=>
     have HB:=Lib.hid (hbeg.trans (hcast.symm.trans hg));clear hbeg hcast
     go_wp2_with fail
     refine hc.mono ?_;rintro e w1 ⟨rfl,hb1⟩;have hb2:=(hb.trans (hb1.mono hz)).drew
     go_wp2
     go_region
     go_wp2
     go_roundw
     case rel=>exact⟨i+1,by omega,by go_num,hb2,Lib.hid (MORE.out _ HB.out rfl)⟩
     case measure=>simp[intOf];omega
  ·obtain rfl:i=103:=by omega
   go_wp2
   go_ret2
   exact⟨.inr ⟨hno.out,rfl⟩,hb⟩
def Qj2 (bs:List UInt8)(w:World)(e:Ending)(w':World):Prop:=
 ((∃i:Nat,i<103∧gtk allT bs=((i:Int),0,Yc2 i)∧Yc2 i≤bs.length∧e=.returned (.tuple #[.int .i64 (i:Int),.int .i64 0]))∨
  (∃f:Int,f≠0∧gtk allT bs=(0,f,0)∧e=.returned (.tuple #[.int .i64 0,.int .i64 f])))∧Below w.heap.size w w'
set_option maxHeartbeats 1000000 in
theorem Y9i (w:World)(rb:Nat)(s:ByteArray)(p:Nat)(hp:Ye6 w)(hr:Yba w rb s p):
  Calls Tryz.prog 289 #[.pointer (some ⟨rb,0,none⟩)] w (Qj2 ((Yad s.data.toList).drop p) w):=by
 obtain⟨bs,hbs⟩:∃bs,(Yad s.data.toList).drop p=bs:=⟨_,rfl⟩;have hsl:s.data.toList.length=s.size:=rfl;have hpl:=hr.2.1;have hbl:bs.length=8*s.size-p:=by rw[←hbs,List.length_drop,Yag];rfl
 have hrow:Yax bs=true:=by rw[←hbs];exact Ybf _ _ (Yds _)
 obtain⟨n,hn⟩:∃n,n=min 12 bs.length:=⟨_,rfl⟩;have htell:Ya3 s.data.toList p n=num (bs.take n):=by unfold Ya3;rw[hbs]
 obtain⟨v,hv⟩:∃v,num (bs.take n)=v:=⟨_,rfl⟩;have hask:ask s.data.toList p (n:Int)=((v:Int),0):=by
  rw[Yc8 (n:=(n:Int)) (by omega) (by rw[hsl];omega),Int.toNat_natCast,htell,hv]
 have hv32:v<4294967296:=by
  have h1:=Yrm bs hrow n (by omega);have h2:2^n≤2^12:=Nat.pow_le_pow_right (by decide) (by omega);rw[hv] at h1;omega
 have hn12:n≤12:=by omega
 obtain⟨ni,hni⟩:∃ni:Int,(n:Int)=ni:=⟨_,rfl⟩;have hmin:min 12 (8*(s.size:Int)-p)=ni:=by omega
 have hbg:=fun x hx=>Y7a v n hn12 x hx;rw[hni] at hask hbg;have A:=Lib.hid hask;have ROW:=Lib.hid hrow;have HN:=Lib.hid hn;have HV:=Lib.hid hv;have NI:=Lib.hid hni;have hco:=fun i hi x hx=>Yfm i hi x hx;have HP:=Lib.hid (fun(x:World) (hx:Below w.heap.size w x)=>(hp.below hx:Ye6 x));have MN:=Lib.hid hmin;rw[hbs];clear hask hmin hrow hn hv hbs htell hbl hp hni
 go_enter Tryz.func289,Tryz.ntmps289
 go_wp2_with fail
 refine(Yhz _ _ _ _ hr).mono ?_;rintro e w1 ⟨rfl,hb1⟩;have hr1:=hr.below hb1;have hz1:=hb1.size;clear hr
 go_wp2_with fail
 ·obtain rfl:ni=8*(s.size:Int)-p:=by have:=MN.out;omega
  refine(Ybr _ _ _ _ _ hr1).mono ?_;rintro e w2 ⟨rfl,hb2⟩;rw[A.out];have hb3:=hb1.trans (hb2.mono hz1);have hz3:=hb3.size;have hp3:=HP.out _ hb3;clear hb1 hb2 hz1 hr1
  go_wp2_with fail
  refine(hbg _ hp3).mono ?_;rintro e w3 ⟨⟨i,hi,hbeg,rfl⟩|⟨hno,rfl⟩,hb4⟩
  ·have hb5:=hb3.trans (hb4.mono hz3);have hz5:=hb5.size;have hp5:=HP.out _ hb5;rw[←HV.out] at hbeg;clear hb3 hb4 hz3 hp3;by_cases hl:Yc2 i≤n
   ·obtain⟨f1,f2⟩:=Ywe HN.out hi hbeg ROW.out hl;have F1:=Lib.hid f1;have F2:=Lib.hid f2;have hc:=hco i hi _ hp5;have HI:=Lib.hid hi;have hle:(Yc2 i:Int)≤(n:Int):=by omega
    rw[NI.out] at hle;clear f1 f2 hbeg hl hi;obtain⟨y,hy⟩:∃y,Yc2 i=y:=⟨_,rfl⟩;rw[hy] at hc hle F1 F2;have HY:=Lib.hid hy;clear hy
    go_wp2_with fail
    refine hc.mono ?_;rintro e w4 ⟨rfl,hb6⟩
    go_wp2
    go_ret2
    exact⟨.inl ⟨i,HI.out,by rw[HY.out];exact F1.out,by rw[HY.out];exact F2.out,rfl⟩,hb5.trans (hb6.mono hz5)⟩
   ·have F1:=Lib.hid (Ywg HN.out hi hbeg ROW.out (by omega));have hc:=hco i hi _ hp5;have hle:(n:Int)<(Yc2 i:Int):=by omega
    rw[NI.out] at hle;generalize Yc2 i=y at hc hle;clear hbeg hl hi
    go_wp2_with fail
    refine hc.mono ?_;rintro e w4 ⟨rfl,hb6⟩
    go_wp2
    go_ret2
    exact⟨.inr ⟨2,by decide,F1.out,rfl⟩,hb5.trans (hb6.mono hz5)⟩
  ·have F1:=Lib.hid (Ywf HN.out (fun i hi=>by rw[HV.out];exact hno i hi) ROW.out)
   go_wp2
   go_ret2
   exact⟨.inr ⟨3,by decide,F1.out,rfl⟩,hb3.trans (hb4.mono hz3)⟩
 ·obtain rfl:ni=12:=by have:=MN.out;omega
  refine(Ybr _ _ _ _ _ hr1).mono ?_;rintro e w2 ⟨rfl,hb2⟩;rw[A.out];have hb3:=hb1.trans (hb2.mono hz1);have hz3:=hb3.size;have hp3:=HP.out _ hb3;clear hb1 hb2 hz1 hr1
  go_wp2_with fail
  refine(hbg _ hp3).mono ?_;rintro e w3 ⟨⟨i,hi,hbeg,rfl⟩|⟨hno,rfl⟩,hb4⟩
  ·have hb5:=hb3.trans (hb4.mono hz3);have hz5:=hb5.size;have hp5:=HP.out _ hb5;rw[←HV.out] at hbeg;clear hb3 hb4 hz3 hp3;by_cases hl:Yc2 i≤n
   ·obtain⟨f1,f2⟩:=Ywe HN.out hi hbeg ROW.out hl;have F1:=Lib.hid f1;have F2:=Lib.hid f2;have hc:=hco i hi _ hp5;have HI:=Lib.hid hi;have hle:(Yc2 i:Int)≤(n:Int):=by omega
    rw[NI.out] at hle;clear f1 f2 hbeg hl hi;obtain⟨y,hy⟩:∃y,Yc2 i=y:=⟨_,rfl⟩;rw[hy] at hc hle F1 F2;have HY:=Lib.hid hy;clear hy
    go_wp2_with fail
    refine hc.mono ?_;rintro e w4 ⟨rfl,hb6⟩
    go_wp2
    go_ret2
    exact⟨.inl ⟨i,HI.out,by rw[HY.out];exact F1.out,by rw[HY.out];exact F2.out,rfl⟩,hb5.trans (hb6.mono hz5)⟩
   ·have F1:=Lib.hid (Ywg HN.out hi hbeg ROW.out (by omega));have hc:=hco i hi _ hp5;have hle:(n:Int)<(Yc2 i:Int):=by omega
    rw[NI.out] at hle;generalize Yc2 i=y at hc hle;clear hbeg hl hi
    go_wp2_with fail
    refine hc.mono ?_;rintro e w4 ⟨rfl,hb6⟩
    go_wp2
    go_ret2
    exact⟨.inr ⟨2,by decide,F1.out,rfl⟩,hb5.trans (hb6.mono hz5)⟩
  ·have F1:=Lib.hid (Ywf HN.out (fun i hi=>by rw[HV.out];exact hno i hi) ROW.out)
   go_wp2
   go_ret2
   exact⟨.inr ⟨3,by decide,F1.out,rfl⟩,hb3.trans (hb4.mono hz3)⟩
def Y6t (s:ByteArray)(rb p:Nat)(w:World)(e:Ending)(w':World):Prop:=
 e=.returned (.tuple #[Y37 (etk ((Yad s.data.toList).drop p)).1,.int .i64 (etk ((Yad s.data.toList).drop p)).2.1])∧
  Yba w' rb s (p+(etk ((Yad s.data.toList).drop p)).2.2)∧w.grownBy w' (some rb)
theorem Ytg {s:ByteArray}{rb p n:Nat}{w w':World}{l:Bool}{r:Nat}{v f:Int}(h:etk ((Yad s.data.toList).drop p)=((l,r,v),f,n))(hr:Yba w' rb s (p+n))(hg:w.grownBy w' (some rb)):
  Y6t s rb p w (.returned (.tuple #[.agg #[.bool l,.int .i64 (r:Int),.int .i64 v],.int .i64 f])) w':=by
 unfold Y6t;rw[h];exact⟨rfl,hr,hg⟩
theorem Yil {s:ByteArray}{rb p:Nat}{w w':World}{f:Int}(h:etk ((Yad s.data.toList).drop p)=((false,0,0),f,0))(hr:Yba w' rb s p)(hg:w.grownBy w' (some rb)):
  Y6t s rb p w (.returned (.tuple #[.agg #[.bool false,.int .i64 0,.int .i64 0],.int .i64 f])) w':=Ytg (r:=0) (n:=0) h hr hg
set_option maxHeartbeats 2000000 in
theorem Y8i (w:World)(rb:Nat)(s:ByteArray)(p:Nat)(hp:Ye6 w)(hr:Yba w rb s p):
  Calls Tryz.prog 268 #[.pointer (some ⟨rb,0,none⟩)] w (Y6t s rb p w):=by
 obtain⟨bs,hbs⟩:∃bs,(Yad s.data.toList).drop p=bs:=⟨_,rfl⟩;have hsl:s.data.toList.length=s.size:=rfl;have hpl:=hr.2.1;have hs47:=hr.2.2;have hbl:bs.length=8*s.size-p:=by rw[←hbs,List.length_drop,Yag];rfl
 have htell:∀n,Ya3 s.data.toList p n=num (bs.take n):=fun n=>by unfold Ya3;rw[hbs]
 have hrlt:=hr.lt;obtain⟨B,hB⟩:∃B,w.heap.size=B:=⟨_,rfl⟩;have hrB:rb≠B:=by omega
 obtain⟨w1,hw1⟩:∃w1,w.alloc (.cells #[.bool false,.int .i64 0,.int .i64 0] 153 (0,0))=w1:=⟨_,rfl⟩;have hb1:Below B w w1:=by rw[←hw1,←hB];exact(Below.refl _ w).alloc (Nat.le_refl _) _
 have hz1:w1.heap.size=B+1:=by rw[←hw1,←hB];simp
 have hh1:w1.heap[B]? =some (Ycv false 0 0):=by rw[←hw1,←hB];exact heap_alloc_new w _
 have hr1:Yba w1 rb s p:=hr.below (by rw[hB];exact hb1);have hp1:Ye6 w1:=hp.below (by rw[hB];exact hb1);have hne:=Y9i w1 rb s p hp1 hr1;rw[hbs] at hne;have HH:=Lib.hid (fun(x:World) (hx:Below (B+1) w1 x)=>((hx.block B (by omega)).trans hh1:x.heap[B]? =some (Ycv false 0 0)));have HR:=Lib.hid (fun(x:World) (hx:Below (B+1) w1 x)=>(hr1.below (by rw[hz1];exact hx):Yba x rb s p))
 have HP:=Lib.hid (fun(x:World) (hx:Below (B+1) w1 x)=>(hp1.below (by rw[hz1];exact hx):Ye6 x));have HG:=Lib.hid (fun(x:World) (hx:Below (B+1) w1 x)=>(by
  have h:=hb1.trans (hx.mono (by omega));rw[←hB] at h;exact⟨h.os,h.tape,h.output,h.size,fun k hk _=>h.block k hk⟩:w.grownBy x (some rb)))
 have HB:=Lib.hid hB;have HBS:=Lib.hid hbs;have BL:=Lib.hid hbl;have TE:=Lib.hid htell;have HW1:=Lib.hid hw1;have hbB:w.heap.size≤B:=by omega
 clear hB hw1 hb1 hh1 hr1 hp1 hp hr hbs hbl htell hrlt
 go_enter Tryz.func268,Tryz.ntmps268
 go_wp2_with fail
 rw[HW1.out,HB.out];refine hne.mono ?_;rintro e w2 ⟨⟨i,hi,hg,hlb,rfl⟩|⟨f,hf,hg,rfl⟩,hb2⟩
 all_goals rw[hz1] at hb2
 ·obtain⟨n,hn⟩:∃n,(if i=102 then 22 else Yc2 i+1:Nat)=n:=⟨_,rfl⟩;have hdi:=Yhv i hi w2 (HP.out _ hb2);rw[hn] at hdi;have hz2:=hb2.size;rw[hz1] at hz2;have hn22:n≤22:=by
   rw[←hn];have:=(Yda i hi).2.1
   split <;> omega
  have hn1:1≤n:=by rw[←hn];split <;> omega
  have HN:=Lib.hid hn;have HG2:=Lib.hid hg;have HI:=Lib.hid hi;by_cases hsh:bs.length<n
  ·have F:=Lib.hid (Y8m hg (by rw[hn];exact hsh));have A:=Lib.hid (show ask s.data.toList p (n:Int)=(0,2) from Ybo (by omega) (by rw[hsl];have:=BL.out;omega));clear hsh hn hg hlb
   go_wp2_with fail
   refine hdi.mono ?_;rintro e w3 ⟨rfl,hb3⟩;have hb4:=hb2.trans (hb3.mono hz2);have hr4:=HR.out _ hb4;have hz4:=Nat.le_trans hz2 hb3.size;clear hb2 hb3 hz2
   go_wp2_with fail
   refine(Ybr _ _ _ _ _ hr4).mono ?_;rintro e w4 ⟨rfl,hb5⟩;rw[A.out];have hb6:=hb4.trans (hb5.mono hz4);have hh6:=HH.out _ hb6;obtain⟨c0,c1,c2,f0,f1,f2⟩:=Ybu hh6
   go_wp2
   refine bodyPost_ret (Yam rfl _ _ B 153 _ (0,0) _ rfl (Ylk hh6 false 0 0) Tryz.underlying153 rfl (by kernel_rfl)) rfl ?_;exact Yil (f:=2) (by rw[HBS.out];exact F.out) (Yei (Yei (Yei (HR.out _ hb6) hrB) hrB) hrB) (Ybx (Ybx (Ybx (HG.out _ hb6) hbB) hbB) hbB)
  ·have hle:n≤bs.length:=by omega
   obtain⟨v,hv⟩:∃v,num (bs.take n)=v:=⟨_,rfl⟩;have A:=Lib.hid (show ask s.data.toList p (n:Int)=((v:Int),0) by rw[Yc8 (n:=(n:Int)) (by omega) (by rw[hsl];have:=BL.out;omega),Int.toNat_natCast,TE.out,hv]);by_cases h102:i=102
   ·subst h102;have hn2:n=22:=by rw[←hn,if_pos rfl]
    subst hn2;have A:Hid (ask s.data.toList p (22:Int)=((v:Int),0)):=Lib.hid A.out;have F0:=Ylj hg hle;rw[hv] at F0;have hes:=fun x=>Yv7 v x;obtain⟨q0,q1,q2⟩:=Yq9 v;obtain⟨⟨l,r,y⟩,he⟩:∃x,Yqa v=x:=⟨_,rfl⟩;rw[he] at F0 hes q0 q1 q2;have hpl2:=fun x hx=>Ypd l r y q0 ⟨q1,q2⟩ x hx;have hri:=fun x=>Ylu l (r:Int) y x
    have ES:Hid (∀x,Calls Tryz.prog 291 #[.int .i64 (v:Int)] x fun e w'=>e=.returned (.agg #[.bool l,.int .i64 (r:Int),.int .i64 y])∧Below x.heap.size x w'):=Lib.hid hes;have hpn:(p:Int)+22≤8*(s.size:Int):=by have:=BL.out;omega
    have hps:p≤1125899906842624:=by omega
    simp only at F0;cases hin:inT l r y.natAbs with
    |true=>
     rw[hin] at F0 hpl2;rw[if_pos rfl] at hpl2;rw[Bool.not_true,Bool.and_false,if_neg (by decide)] at F0;have F:=Lib.hid F0;generalize plT l r y.natAbs=z at hpl2;clear hsh hn hg hlb F0 hes he hv hle hri hin
     go_wp2_with fail
     refine hdi.mono ?_;rintro e w3 ⟨rfl,hb3⟩;have hb4:=hb2.trans (hb3.mono hz2);have hr4:=HR.out _ hb4;have hz4:=Nat.le_trans hz2 hb3.size;clear hb2 hb3 hz2 hdi
     go_wp2_with fail
     refine(Ybr _ _ _ _ _ hr4).mono ?_;rintro e w4 ⟨rfl,hb5⟩;rw[A.out];have hb6:=hb4.trans (hb5.mono hz4);have hz6:=Nat.le_trans hz4 hb5.size;clear hb4 hb5 hr4 hz4
     go_wp2_with fail
     refine(ES.out _).mono ?_;rintro e w5 ⟨rfl,hb7⟩;have hb8:=hb6.trans (hb7.mono hz6);have hz8:=Nat.le_trans hz6 hb7.size
     go_wp2_with fail
     have hb9:=hb8.alloc hz8 (.cells #[.bool l,.int .i64 (r:Int),.int .i64 y] 153 (0,0));have he9:(w5.alloc (.cells #[.bool l,.int .i64 (r:Int),.int .i64 y] 153 (0,0))).heap[w5.heap.size]? =some (Ycv l r y):=heap_alloc_new w5 _;have hz9:(w5.alloc (.cells #[.bool l,.int .i64 (r:Int),.int .i64 y] 153 (0,0))).heap.size=w5.heap.size+1:=by simp
     obtain⟨C,hC⟩:∃C,w5.heap.size=C:=⟨_,rfl⟩;rw[hC] at he9 hz9 hz8;rw[hC];generalize w5.alloc (.cells #[.bool l,.int .i64 (r:Int),.int .i64 y] 153 (0,0))=w6 at hb9 he9 hz9 ⊢;clear hb6 hb7 hb8 hz6 hC;have hz10:B+1≤w6.heap.size:=by omega
     have hCr:rb≠C:=by have:=(HR.out _ hb9).lt;have:=(HR.out _ (Below.refl _ w1)).lt;omega
     refine(hpl2 _ (HP.out _ hb9)).mono ?_;rintro e w7 ⟨rfl,hb10⟩;have he10:=(hb10.block C (by omega)).trans he9;have hb11:=hb9.trans (hb10.mono hz10);have hz11:=Nat.le_trans hz10 hb10.size;have hC7:C<w7.heap.size:=(Array.getElem?_eq_some_iff.1 he10).1;clear hb9 hb10 he9 hz10 hz9 hpl2;have hh12:=HH.out _ hb11;obtain⟨c0,c1,c2,f0,f1,f2⟩:=Ybu hh12
     go_wp2
     refine bodyPost_ret (Yam rfl _ _ B 153 _ (0,0) _ rfl (Ylk hh12 false 0 0) Tryz.underlying153 rfl (by kernel_rfl)) rfl ?_;exact Yil (f:=7) (by rw[HBS.out];exact F.out) (Yei (Yei (Yei (HR.out _ hb11) hrB) hrB) hrB) (Ybx (Ybx (Ybx (HG.out _ hb11) hbB) hbB) hbB)
    |false=>
     rw[hin] at F0 hpl2;rw[if_neg (by decide)] at hpl2;rw[Bool.not_false,Bool.and_true] at F0;have F1:=Lib.hid F0;clear hsh hn hg hlb F0 hes he hv hle hin
     go_wp2_with fail
     refine hdi.mono ?_;rintro e w3 ⟨rfl,hb3⟩;have hb4:=hb2.trans (hb3.mono hz2);have hr4:=HR.out _ hb4;have hz4:=Nat.le_trans hz2 hb3.size;clear hb2 hb3 hz2 hdi
     go_wp2_with fail
     refine(Ybr _ _ _ _ _ hr4).mono ?_;rintro e w4 ⟨rfl,hb5⟩;rw[A.out];have hb6:=hb4.trans (hb5.mono hz4);have hz6:=Nat.le_trans hz4 hb5.size;clear hb4 hb5 hr4 hz4
     go_wp2_with fail
     refine(ES.out _).mono ?_;rintro e w5 ⟨rfl,hb7⟩;have hb8:=hb6.trans (hb7.mono hz6);have hz8:=Nat.le_trans hz6 hb7.size
     go_wp2_with fail
     have hb9:=hb8.alloc hz8 (.cells #[.bool l,.int .i64 (r:Int),.int .i64 y] 153 (0,0));have he9:(w5.alloc (.cells #[.bool l,.int .i64 (r:Int),.int .i64 y] 153 (0,0))).heap[w5.heap.size]? =some (Ycv l r y):=heap_alloc_new w5 _;have hz9:(w5.alloc (.cells #[.bool l,.int .i64 (r:Int),.int .i64 y] 153 (0,0))).heap.size=w5.heap.size+1:=by simp
     obtain⟨C,hC⟩:∃C,w5.heap.size=C:=⟨_,rfl⟩;rw[hC] at he9 hz9 hz8;rw[hC];generalize w5.alloc (.cells #[.bool l,.int .i64 (r:Int),.int .i64 y] 153 (0,0))=w6 at hb9 he9 hz9 ⊢;clear hb6 hb7 hb8 hz6 hC;have hz10:B+1≤w6.heap.size:=by omega
     have hCr:rb≠C:=by have:=(HR.out _ hb9).lt;have:=(HR.out _ (Below.refl _ w1)).lt;omega
     refine(hpl2 _ (HP.out _ hb9)).mono ?_;rintro e w7 ⟨rfl,hb10⟩;have he10:=(hb10.block C (by omega)).trans he9;have hb11:=hb9.trans (hb10.mono hz10);have hz11:=Nat.le_trans hz10 hb10.size;have hC7:C<w7.heap.size:=(Array.getElem?_eq_some_iff.1 he10).1;clear hb9 hb10 he9 hz10 hz9 hpl2;obtain⟨d0,d1,d2,k0,k1,k2⟩:=Ybu he10
     go_wp2_with fail
     refine(hri _).mono ?_;rintro e w8 ⟨rfl,hb12⟩;have he12:=(hb12.block C hC7).trans he10;have hb13:=hb11.trans (hb12.mono hz11);have hh13:=HH.out _ hb13;have hr13:=HR.out _ hb13;have hg13:=HG.out _ hb13;clear d0 d1 d2 k0 k1 k2 hb11 hb12 hz11 he10 hri;obtain⟨c0,c1,c2,f0,f1,f2⟩:=Ybu hh13;cases hrt:Yec (r:Int) y with
     |false=>
      have F:=F1.out;rw[hrt,if_neg (by decide)] at F;have F:=Lib.hid F;clear F1
      go_wp2
      refine bodyPost_ret (Yam rfl _ _ B 153 _ (0,0) _ rfl (Ylk hh13 false 0 0) Tryz.underlying153 rfl (by kernel_rfl)) rfl ?_;exact Yil (f:=7) (by rw[HBS.out];exact F.out) (Yei (Yei (Yei hr13 hrB) hrB) hrB) (Ybx (Ybx (Ybx hg13 hbB) hbB) hbB)
     |true=>
      have F:=F1.out;rw[hrt,if_pos rfl] at F;have F:=Lib.hid F;obtain⟨d0,d1,d2,_,_,_⟩:=Ybu he12;have hB8:B<w8.heap.size:=(Array.getElem?_eq_some_iff.1 hh13).1;have hC8:C<w8.heap.size:=(Array.getElem?_eq_some_iff.1 he12).1;clear F1
      go_wp2_with fail
      have hr14:Yba w8.drew rb s p:=hr13;have hg14:w.grownBy w8.drew (some rb):=Yac hg13 (Yb9 w8 _);have d0d:w8.drew.cell? ⟨C,0,none⟩=some (.bool l):=d0;have d1d:w8.drew.cell? ⟨C,1,none⟩=some (.int .i64 (r:Int)):=d1;have d2d:w8.drew.cell? ⟨C,2,none⟩=some (.int .i64 y):=d2;have hhd:w8.drew.heap[B]? =some (Ycv false 0 0):=hh13;have hed:w8.drew.heap[C]? =some (Ycv l r y):=he12
      have hB8d:B<w8.drew.heap.size:=hB8;have hC8d:C<w8.drew.heap.size:=hC8;have sw1:IntKind.i64.wrap ((p:Int)+22)=(p:Int)+22:=IntWalk.i64_in _ (by omega);have k0:(0:Int)≤(p:Int)+22:=by omega
      have kn:((p:Int)+22).toNat=p+22:=by omega
      have HBX:=Lib.hid (fun(x:World) (hx:w8.drew.grownBy x (some rb))=>((hx.block B hB8d (by simpa using Ne.symm hrB)).trans hhd:x.heap[B]? =some (Ycv false 0 0)));have HCX:=Lib.hid (fun(x:World) (hx:w8.drew.grownBy x (some rb))=>((hx.block C hC8d (by simpa using Ne.symm hCr)).trans hed:x.heap[C]? =some (Ycv l r y)));clear c0 c1 c2 f0 f1 f2 d0 d1 d2 hB8 hC8 hh13 he12 hr13 hg13 hhd hed
      go_region_with (first
       |(go_at_call 28;refine(Yb7 _ _ _ _ (by assumption)).mono ?_;rintro e w9 ⟨rfl,rfl⟩)
       |(go_at_call 91;refine(Yb2 _ _ _ _ _ (by assumption) (by omega) (by omega)).mono ?_;rintro e w9 ⟨rfl,hr15,hg15⟩;have hh15:=HBX.out _ hg15;obtain⟨c0,c1,c2,f0,f1,f2⟩:=Ybu hh15;obtain⟨b0,b1,b2,_,_,_⟩:=Ybu (HCX.out _ hg15)))
      all_goals
       rw[kn] at hr15;have hg16:=Yac hg14 hg15
       go_wp2
       refine bodyPost_ret (Yam rfl _ _ B 153 _ (0,0) _ rfl (Ylk hh15 l r y) Tryz.underlying153 rfl (by kernel_rfl)) rfl ?_;exact Ytg (by rw[HBS.out];exact F.out) (Yei (Yei (Yei hr15 hrB) hrB) hrB) (Ybx (Ybx (Ybx hg16 hbB) hbB) hbB)
   ·have hnl:Yc2 i+1=n:=by rw[←hn,if_neg h102]
    have F0:=Yod hg h102 (by rw[hnl];exact hle);rw[hnl,hv] at F0;have hev:=fun x hx=>Y38 i v (by omega) x hx;obtain⟨⟨l,r,y⟩,he⟩:∃x,Y0e (evT i) (v%2==1)=x:=⟨_,rfl⟩;rw[he] at F0 hev;have F:=Lib.hid F0;have EV:Hid (∀x,Ye6 x→Calls Tryz.prog 290 #[.int .i64 (i:Int),.int .i64 (v:Int)] x fun e w'=>e=.returned (.agg #[.bool l,.int .i64 (r:Int),.int .i64 y])∧Below x.heap.size x w'):=Lib.hid hev
    have g0:((i:Int) != 102)=true:=by simp;omega
    have hpn:(p:Int)+n≤8*(s.size:Int):=by have:=BL.out;omega
    have hps:p≤1125899906842624:=by omega
    clear hsh hn hg hlb F0 hev he hv hnl h102 hle
    go_wp2_with fail
    refine hdi.mono ?_;rintro e w3 ⟨rfl,hb3⟩;have hb4:=hb2.trans (hb3.mono hz2);have hr4:=HR.out _ hb4;have hz4:=Nat.le_trans hz2 hb3.size;clear hb2 hb3 hz2 hdi
    go_wp2_with fail
    refine(Ybr _ _ _ _ _ hr4).mono ?_;rintro e w4 ⟨rfl,hb5⟩;rw[A.out];have hb6:=hb4.trans (hb5.mono hz4);clear hb4 hb5 hr4 hz4;have hz6:=Nat.le_trans (by omega:B+1≤w1.heap.size) hb6.size
    go_wp2_with fail
    refine(EV.out _ (HP.out _ hb6)).mono ?_;rintro e w5 ⟨rfl,hb7⟩;have hb8:=hb6.trans (hb7.mono hz6);have hr8:=HR.out _ hb8;have hh8:=HH.out _ hb8;have hg8:=HG.out _ hb8;have hB8:B<w5.heap.size:=(Array.getElem?_eq_some_iff.1 hh8).1;clear hb6 hb7 hz6 hb8
    go_wp2_with fail
    refine(Yb7 _ _ _ _ hr8).mono ?_;rintro e w6 ⟨rfl,rfl⟩
    go_wp2_with fail
    refine(Yb2 _ _ _ _ _ hr8 (by omega) (by omega)).mono ?_;rintro e w6 ⟨rfl,hr9,hg9⟩;rw[show ((p:Int)+n).toNat=p+n by omega] at hr9;have hh9:w6.heap[B]? =some (Ycv false 0 0):=(hg9.block B hB8 (by simpa using Ne.symm hrB)).trans hh8;have hg10:=Yac hg8 hg9;obtain⟨c0,c1,c2,f0,f1,f2⟩:=Ybu hh9
    go_wp2
    refine bodyPost_ret (Yam rfl _ _ B 153 _ (0,0) _ rfl (Ylk hh9 l r y) Tryz.underlying153 rfl (by kernel_rfl)) rfl ?_;exact Ytg (by rw[HBS.out];exact F.out) (Yei (Yei (Yei hr9 hrB) hrB) hrB) (Ybx (Ybx (Ybx hg10 hbB) hbB) hbB)
 ·have F:=Lib.hid (Y8n hg hf);have hh2:=HH.out _ hb2;obtain⟨c0,c1,c2,f0,f1,f2⟩:=Ybu hh2;have g0:(f != 0)=true:=by simpa using hf
  clear hf hg
  go_wp2
  refine bodyPost_ret (Yam rfl _ _ B 153 _ (0,0) _ rfl (Ylk hh2 false 0 0) Tryz.underlying153 rfl (by kernel_rfl)) rfl ?_;exact Yil (by rw[HBS.out];exact F.out) (Yei (Yei (Yei (HR.out _ hb2) hrB) hrB) hrB) (Ybx (Ybx (Ybx (HG.out _ hb2) hbB) hbB) hbB)
theorem Ye6.grown {w w':World}{rb p:Nat}{s:ByteArray}(h:Ye6 w)(hr:Yba w rb s p)(hg:w.grownBy w' (some rb)):Ye6 w':=by
 have far:∀b,(∀k x,w.cell? ⟨b,0,none⟩=some (.int k x)→b≠rb):=fun b k x hc e=>by
  subst e;rw[hr.cells.1] at hc;cases hc
 have n0:=far _ _ _ (h.1 0 (by decide)).1;have n1:=far _ _ _ (h.1 0 (by decide)).2;have n2:=far _ _ _ (h.2 0 (by decide));exact⟨fun i hi=>⟨(hg.cell_far ⟨5,i,none⟩ h.lt.1 (by simpa using n0)).trans (h.1 i hi).1,(hg.cell_far ⟨6,i,none⟩ h.lt.2.1 (by simpa using n1)).trans (h.1 i hi).2⟩,
  fun i hi=>(hg.cell_far ⟨7,i,none⟩ h.lt.2.2 (by simpa using n2)).trans (h.2 i hi)⟩
theorem Yba.under {w w':World}{B rb p:Nat}{s:ByteArray}(h:Yba w rb s p)(hb:Below B w w')(h0:rb<B):Yba w' rb s p:=⟨by rw[hb.block rb h0];exact h.1,h.2⟩
def Yyl (s:ByteArray)(rb p:Nat)(i:Bool)(w:World)(e:Ending)(w':World):Prop:=
 ∃(d f:Int) (n q:Nat),dcT ((Yad s.data.toList).drop p) i=(d,f,n)∧e=.returned (.tuple #[.int .i64 d,.int .i64 f])∧Yba w' rb s q∧(f=0→q=p+n)∧w.grownBy w' (some rb)
theorem Yij {s:ByteArray}{rb p q n:Nat}{i:Bool}{w w':World}{d f:Int}(h:dcT ((Yad s.data.toList).drop p) i=(d,f,n))(hr:Yba w' rb s q)(hq:f=0→q=p+n)(hg:w.grownBy w' (some rb)):
  Yyl s rb p i w (.returned (.tuple #[.int .i64 d,.int .i64 f])) w':=⟨d,f,n,q,h,rfl,hr,hq,hg⟩
set_option maxHeartbeats 1000000 in
theorem Y0q (w:World)(rb:Nat)(s:ByteArray)(p:Nat)(i:Bool)(hr:Yba w rb s p):
  Calls Tryz.prog 255 #[.pointer (some ⟨rb,0,none⟩),.bool i] w (Yyl s rb p i w):=by
 have hg0:w.grownBy w (some rb):=Yak (Below.refl _ w) _;cases i with
 |false=>
  go_enter Tryz.func255,Tryz.ntmps255
  go_wp2
  go_ret2
  exact Yij rfl hr (fun _=>rfl) hg0
 |true=>
  have hsl:s.data.toList.length=s.size:=rfl;have hpl:=hr.2.1;have hbl:((Yad s.data.toList).drop p).length=8*s.size-p:=by rw[List.length_drop,Yag];rfl
  have htk:=Ycz w rb s p 8 hr;by_cases h8:8*s.size<p+8
  ·have A:=Ybo (l:=s.data.toList) (p:=p) (n:=8) (by decide) (by rw[hsl];omega);have F:=Lib.hid (Yvt (b:=(Yad s.data.toList).drop p) (by omega));have Q:Yc1 s.data.toList p 8=p:=by unfold Yc1;rw[A];rfl
   rw[A,Q] at htk;clear hg0 hr hbl h8 A Q
   go_enter Tryz.func255,Tryz.ntmps255
   go_wp2_with fail
   refine htk.mono ?_;rintro e w1 ⟨rfl,hr1,hg1⟩
   go_wp2
   go_ret2
   exact Yij F.out hr1 (fun h=>by cases h) hg1
  ·have A:=Yc8 (l:=s.data.toList) (p:=p) (n:=8) (by decide) (by rw[hsl];omega);have Q:Yc1 s.data.toList p 8=p+8:=by unfold Yc1;rw[A];rfl
   obtain⟨v,hv⟩:∃v,num (((Yad s.data.toList).drop p).take 8)=v:=⟨_,rfl⟩;have hv2:Ya3 s.data.toList p (8:Int).toNat=v:=hv;have hlt:v<256:=by rw[←hv2];exact Ycg _ _ 8
   rw[A,Q,hv2] at htk;have hge:8≤((Yad s.data.toList).drop p).length:=by omega
   clear hg0 hr hbl h8 A Q hv2;by_cases h255:v=255
   ·subst h255;have F:=Lib.hid (Yza hge hv);clear hv hge
    go_enter Tryz.func255,Tryz.ntmps255
    go_wp2_with fail
    refine htk.mono ?_;rintro e w1 ⟨rfl,hr1,hg1⟩
    go_wp2
    go_ret2
    exact Yij F.out hr1 (fun _=>rfl) hg1
   have g255:((v:Int)==255)=false:=by rw[beq_eq_false_iff_ne];omega
   by_cases h128:v=128
   ·subst h128;have F:=Lib.hid (Yzb hge (.inr hv));clear hv hge g255 h255
    go_enter Tryz.func255,Tryz.ntmps255
    go_wp2_with fail
    refine htk.mono ?_;rintro e w1 ⟨rfl,hr1,hg1⟩
    go_wp2
    go_ret2
    exact Yij F.out hr1 (fun h=>by cases h) hg1
   have g128:((v:Int)==128)=false:=by rw[beq_eq_false_iff_ne];omega
   by_cases h0:v=0
   ·subst h0;have F:=Lib.hid (Yzb hge (.inl hv));clear hv hge g255 h255 g128 h128
    go_enter Tryz.func255,Tryz.ntmps255
    go_wp2_with fail
    refine htk.mono ?_;rintro e w1 ⟨rfl,hr1,hg1⟩
    go_wp2
    go_ret2
    exact Yij F.out hr1 (fun h=>by cases h) hg1
   have t0:decide ((v:Int)<1)=false:=by simp;omega
   have F:=Lib.hid (Y78 hge hv h0 h128 h255);clear hv hge h255 h128 h0
   go_enter Tryz.func255,Tryz.ntmps255
   go_wp2_with fail
   refine htk.mono ?_;rintro e w1 ⟨rfl,hr1,hg1⟩
   go_wp2
   go_ret2
   exact Yij F.out hr1 (fun _=>rfl) hg1
def Yss (s:ByteArray)(rb p a:Nat)(w:World)(e:Ending)(w':World):Prop:=
 ∃(L:List Ev) (f:Int) (n t:Nat) (q:Option Addr) (c:Nat),Ydn (Yad s.data.toList) (65-a) [] p a=(L,f,n)∧e=.returned (.tuple #[.slice q L.length c,.int .i64 f])∧Ye2 w' q L∧Yfi w.heap.size q∧Yba w' rb s t∧(f=0→t=n)∧w.grownBy w' (some rb)
theorem Yoe {s:ByteArray}{rb p a n t c m:Nat}{w w':World}{L:List Ev}{f:Int}{q:Option Addr}(h:Ydn (Yad s.data.toList) (65-a) [] p a=(L,f,n))(hm:L.length=m)(he:Ye2 w' q L)(hfr:Yfi w.heap.size q)(hr:Yba w' rb s t)(ht:f=0→t=n)(hg:w.grownBy w' (some rb)):
  Yss s rb p a w (.returned (.tuple #[.slice q m c,.int .i64 f])) w':=⟨L,f,n,t,q,c,h,by rw[hm],he,hfr,hr,ht,hg⟩
set_option maxRecDepth 100000 in
set_option maxHeartbeats 2000000 in
theorem Yxw (w:World)(rb:Nat)(s:ByteArray)(p a:Nat)(ha:a≤1)(hp:Ye6 w)(hr:Yba w rb s p):
  Calls Tryz.prog 256 #[.pointer (some ⟨rb,0,none⟩),.int .i64 (a:Int)] w (Yss s rb p a w):=by
 obtain⟨i1,hj,kz0,kz1,kz2⟩:=info_parts Qhw;obtain⟨B,hB⟩:∃B,w.heap.size=B:=⟨_,rfl⟩;have hrB:rb<B:=by rw[←hB];exact hr.lt
 have hg0:w.grownBy w (some rb):=Yak (Below.refl _ w) _;have HB:=Lib.hid hB;have hz0:B≤w.heap.size:=by omega
 have LT:=Lib.hid (show 5<B∧6<B∧7<B by rw[←hB];exact hp.lt);have hwB:w.heap.size≤B:=by omega
 obtain⟨S,hS⟩:∃S,Yad s.data.toList=S:=⟨_,rfl⟩;have HS:=Lib.hid hS;have hsl:S.length=8*s.size:=by rw[←hS,Yag];rfl
 have hget:=fun x t hx hy=>Y8i x rb s t hx hy;unfold Y6t at hget;rw[hS] at hget;have GET:=Lib.hid hget;clear hB hS hget
 go_enter Tryz.func256,Tryz.ntmps256
 go_wp2
 go_step3
 go_wp2
 go_step3
 go_wp2
 go_loopw [1,6] (fun u v wr=>∃(acc:List Ev) (m t:Nat),u=.int .i64 m∧m≤64∧acc.length≤m∧wr.ownsRow B 153 3 v acc.length (Yhc acc)∧EvR S a p acc m t∧Yba wr rb s t∧w.grownBy wr (some rb)∧B≤wr.heap.size∧Ye6 wr) (fun u _ _=>65-(RowKit.intOf u).toNat)
 case atStart=>exact⟨[],a,p,rfl,by omega,Nat.zero_le _,World.ownsRow_nil _ _ _ _,EvR.first _ _ _,hr,hg0,hz0,hp⟩
 case round=>
  clear hr hg0 hz0 hp;obtain⟨acc,m,t,rfl,hm,hal,hown,hst,hr,hg,hz,hT⟩:=hrel;obtain⟨⟨l,r,v⟩,f,n,het⟩:∃x f n,etk (S.drop t)=(x,f,n):=⟨_,_,_,rfl⟩;obtain⟨hr63,hnl⟩:=Qdr het;have hge:=GET.out _ t hT hr;rw[het] at hge;simp only[Y37] at hge;obtain⟨al,hal2⟩:∃al,acc.length=al:=⟨_,rfl⟩;have AL:=Lib.hid hal2;rw[hal2] at hown hal;have HET:=Lib.hid het;have ST:=Lib.hid hst
  have PRE:=Lib.hid (fun(x:World) (hx:wr.grownBy x (some rb))=>(⟨Yac hg hx,Nat.le_trans hz hx.size,hT.grown hr hx,hown.kept hx (.inr fun e=>by have:=(hown.lt _ e).1;omega)⟩:w.grownBy x (some rb)∧B≤x.heap.size∧Ye6 x∧x.ownsRow B 153 3 u6 al (Yhc acc)));clear het hnl hg hT hown hst hal2 hr
  go_wp2_with fail
  refine hge.mono ?_;rintro e w1 ⟨rfl,hr1,hg1⟩;obtain⟨hg2,hz2,hT2,hown2⟩:=PRE.out _ hg1;clear hg1 hge PRE;obtain⟨X,hX⟩:∃X,w1.heap.size=X:=⟨_,rfl⟩;obtain⟨wx,hwx⟩:∃wx,w1.alloc (.cells #[.bool l,.int .i64 (r:Int),.int .i64 v] 153 (0,0))=wx:=⟨_,rfl⟩;have hzx:wx.heap.size=X+1:=by rw[←hwx,←hX];simp
  have hhx:wx.heap[X]? =some (Ycv l (r:Int) v):=by rw[←hwx,←hX];exact heap_alloc_new w1 _
  have hbx:Below B w1 wx:=by rw[←hwx];exact(Below.refl _ _).alloc hz2 _
  have hox:wx.ownsRow B 153 3 u6 al (Yhc acc):=by rw[←hwx];exact hown2.alloc _
  have hoX:∀q,Value.ownBlock u6=some q→B≤q∧q<X:=fun q hq=>by have:=hown2.lt q hq;omega
  have HX:=Lib.hid hX;have HWX:=Lib.hid hwx;have HXB:=Lib.hid (show B≤X by omega);have NEW:=Lib.hid (fun(x:World) (o:Obj) (hx:(wx.alloc o).grownBy x (Value.ownBlock u6))=>(by
   have hb:Below B w1 x:=(hbx.alloc (by have:=HXB.out;omega) o).grown hx (by simp;have:=HXB.out;omega) (fun q hq=>(hoX q hq).1);have hbk:x.heap[X]? =some (Ycv l (r:Int) v):=by
    rw[hx.block X (by simp;omega) (fun e=>by have:=(hoX X e.symm).2;omega)];exact Ybc hhx
   exact⟨Yzk hg2 hb hwB,Nat.le_trans hz2 hb.size,hT2.under hb LT.out,hr1.under hb hrB,hbk⟩:w.grownBy x (some rb)∧B≤x.heap.size∧Ye6 x∧Yba x rb s (t+n)∧x.heap[X]? =some (Ycv l (r:Int) v)))
  obtain⟨c0,c1,c2,_,_,_⟩:=Ybu hhx;have hzB:B≤wx.heap.size:=by omega
  clear hX hwx hbx hhx hoX hg2 hT2 hr1 hown2;by_cases hf:f=0
  ·have g0:(f != 0)=false:=by simpa using hf
   have het:=HET.out;rw[hf] at het;have HET:=Lib.hid het;clear hf het;by_cases h63:63<m+r
   ·have t3:decide (63<(m:Int)+(r:Int))=true:=by simp;omega
    have F:=Lib.hid (ST.out.far hm HET.out h63);clear h63
    go_wp2_with (at_builtin;rw[HWX.out,HX.out,←hzx];refine Yfg (y0:=l) (y1:=(r:Int)) (y2:=v) rfl rfl Tryz.underlying72 hj kz0 rfl kz1 kz2 rfl (hox.alloc _) rfl ?d1 ?d2 ?d3 ?d4 ?d5 ?_;(case d1=>go_cell);(case d2=>go_cell);(case d3=>go_cell);(case d4=>omega);(case d5=>(simp;omega));intro v2 w2 ho3 hgrow hat;clear hat;obtain⟨hg3,hz3,hT3,hr3,hh3⟩:=NEW.out _ _ hgrow;obtain⟨e0,e1,e2,_,_,_⟩:=Ybu hh3;clear hgrow)
    rw[Exit.noGoto_ret]
    go_ret2
    exact Yoe (by rw[HS.out];exact F.out) rfl (.inl rfl) (Yfi.none _) hr3 (fun h=>by cases h) hg3
   ·have t3:decide (63<(m:Int)+(r:Int))=false:=by simp;omega
    cases l with
    |true=>
     have F:=Lib.hid (ST.out.end hm HET.out (by omega));have hlen:(acc++[(true,(r:Int),v)]).length=al+1:=by rw[List.length_append,AL.out];rfl
     have HLEN:=Lib.hid hlen;have HCS:=Lib.hid (Yn3 acc (true,(r:Int),v));clear h63 hlen
     go_wp2_with (at_builtin;rw[HWX.out,HX.out,←hzx];refine Yfg (y0:=true) (y1:=(r:Int)) (y2:=v) rfl rfl Tryz.underlying72 hj kz0 rfl kz1 kz2 rfl (hox.alloc _) rfl ?d1 ?d2 ?d3 ?d4 ?d5 ?_;(case d1=>go_cell);(case d2=>go_cell);(case d3=>go_cell);(case d4=>omega);(case d5=>(simp;omega));intro v2 w2 ho3 hgrow hat;clear hat;obtain⟨hg3,hz3,hT3,hr3,hh3⟩:=NEW.out _ _ hgrow;obtain⟨e0,e1,e2,_,_,_⟩:=Ybu hh3;clear hgrow)
     rw[Exit.noGoto_ret];have ho4:w2.ownsRow B 153 3 v2 (acc++[(true,(r:Int),v)]).length (Yhc (acc++[(true,(r:Int),v)])):=by rw[HLEN.out,HCS.out];exact ho3
     obtain⟨q,cap,rfl,hev⟩:=Qep ho4;have HEV:=Lib.hid hev;have HFR:=Lib.hid (Y9u ho4);rw[HLEN.out];clear ho3 ho4 hev
     go_ret2
     exact Yoe (by rw[HS.out];exact F.out) HLEN.out HEV.out (by rw[HB.out];exact HFR.out) hr3 (fun _=>rfl) hg3
    |false=>
     have N:=Lib.hid (ST.out.on hm HET.out (by omega));have h64:m+r≤63:=by omega
     clear h63
     go_wp2_with (at_builtin;rw[HWX.out,HX.out,←hzx];refine Yfg (y0:=false) (y1:=(r:Int)) (y2:=v) rfl rfl Tryz.underlying72 hj kz0 rfl kz1 kz2 rfl (hox.alloc _) rfl ?d1 ?d2 ?d3 ?d4 ?d5 ?_;(case d1=>go_cell);(case d2=>go_cell);(case d3=>go_cell);(case d4=>omega);(case d5=>(simp;omega));intro v2 w2 ho3 hgrow hat;clear hat;obtain⟨hg3,hz3,hT3,hr3,hh3⟩:=NEW.out _ _ hgrow;obtain⟨e0,e1,e2,_,_,_⟩:=Ybu hh3;clear hgrow)
     go_roundw
     case rel=>exact⟨acc++[(false,(r:Int),v)],m+r+1,t+n,by go_num,by omega,by rw[List.length_append,AL.out];simp;omega,by rw[List.length_append,Yn3,AL.out];exact ho3,N.out,hr3,hg3,hz3,hT3⟩
     case measure=>simp[RowKit.intOf];omega
  ·have g0:(f != 0)=true:=by simpa using hf
   have F:=Lib.hid (ST.out.err hm HET.out hf);have HF:=Lib.hid hf;clear hf
   go_wp2_with (at_builtin;rw[HWX.out,HX.out,←hzx];refine Yfg (y0:=l) (y1:=(r:Int)) (y2:=v) rfl rfl Tryz.underlying72 hj kz0 rfl kz1 kz2 rfl (hox.alloc _) rfl ?d1 ?d2 ?d3 ?d4 ?d5 ?_;(case d1=>go_cell);(case d2=>go_cell);(case d3=>go_cell);(case d4=>omega);(case d5=>(simp;omega));intro v2 w2 ho3 hgrow hat;clear hat;obtain⟨hg3,hz3,hT3,hr3,hh3⟩:=NEW.out _ _ hgrow;obtain⟨e0,e1,e2,_,_,_⟩:=Ybu hh3;clear hgrow)
   rw[Exit.noGoto_ret]
   go_ret2
   exact Yoe (by rw[HS.out];exact F.out) rfl (.inl rfl) (Yfi.none _) hr3 (fun h=>absurd h HF.out) hg3
def Qj3 (s:ByteArray)(rb p:Nat)(i c:Bool)(w:World)(e:Ending)(w':World):Prop:=
 ∃(d:Int) (L:List Ev) (f:Int) (t m:Nat) (q:Option Addr) (cap:Nat),e=.returned (.tuple #[.int .i64 d,.slice q m cap,.int .i64 f])∧L.length=m∧Ye2 w' q L∧Yfi w.heap.size q∧Yba w' rb s t∧w.grownBy w' (some rb)∧(f=0→btk (Yad s.data.toList) p i c=(d,L,t,0))∧(f≠0→btk (Yad s.data.toList) p i c=(0,[],p,f))
set_option maxHeartbeats 1000000 in
theorem Qc0 (w:World)(rb:Nat)(s:ByteArray)(p:Nat)(i c:Bool)(hp:Ye6 w)(hr:Yba w rb s p):
  Calls Tryz.prog 241 #[.pointer (some ⟨rb,0,none⟩),.bool i,.bool c] w (Qj3 s rb p i c w):=by
 have hdc:=Y0q w rb s p i hr;have hfr:=fun x=>Ylf i x;have ha:Ycf i≤1:=by cases i <;> decide
 have hev:=fun x p hx hy=>Yxw x rb s p (Ycf i) ha hx hy;obtain⟨S,hS⟩:∃S,Yad s.data.toList=S:=⟨_,rfl⟩;have HS:=Lib.hid hS;have HT:=Lib.hid (fun(x:World) (hx:w.grownBy x (some rb))=>(hp.grown hr hx:Ye6 x));unfold Qj3;rw[hS];unfold Yyl at hdc;rw[hS] at hdc;unfold Yss at hev;rw[hS] at hev
 have BT:=Lib.hid (fun(d:Int) (n:Nat) (L:List Ev) (f:Int) (e:Nat) (h:dcT (S.drop p) i=(d,0,n)) (he:Ydn S (65-Ycf i) [] (p+n) (Ycf i)=(L,f,e))=>(⟨fun hf=>Qgh h he hf,fun hf=>Yyw h (by rw[he,hf])⟩:(f≠0→btk S p i true=(0,[],p,f))∧(f=0→btk S p i true=(d,L,e,0))));generalize Ycf i=a at hfr hev BT ha;have EV:=Lib.hid hev;clear hp hr hS hev
 go_enter Tryz.func241,Tryz.ntmps241
 go_wp2_with fail
 refine hdc.mono ?_;rintro e w1 ⟨d,f,n,q,hdt,rfl,hr1,hq,hg1⟩;have hT1:=HT.out _ hg1;have DT:=Lib.hid hdt;have HQ:=Lib.hid hq;clear hdt hq hdc;by_cases hf:f=0
 ·have g0:(f != 0)=false:=by simpa using hf
  have hq:=HQ.out hf;have hdt:=DT.out;rw[hf] at hdt;subst hq;have DT:=Lib.hid hdt;have HF:=Lib.hid hf;clear hdt hf;cases c with
  |false=>
   have F:=Lib.hid (Ys7 DT.out)
   go_wp2
   go_ret3
   exact⟨d,[],f,p+n,0,none,0,rfl,rfl,.inl rfl,Yfi.none _,hr1,hg1,fun _=>F.out,fun h=>absurd HF.out h⟩
  |true=>
   go_wp2_with fail
   refine(hfr _).mono ?_;rintro e w2 ⟨rfl,rfl⟩
   go_wp2_with fail
   refine(EV.out _ _ hT1 hr1).mono ?_;rintro e w2 ⟨L,f2,n2,t2,q2,c2,hel,rfl,hev,hfm,hr2,ht2,hg2⟩;have B2:=Lib.hid (BT.out d n L f2 n2 DT.out hel);have HT2:=Lib.hid ht2;have HEV:=Lib.hid hev;have HFM:=Lib.hid (hfm.mono hg1.size);have hg3:=Yac hg1 hg2;clear hel ht2 hev hfm;obtain⟨m,hm⟩:∃m,L.length=m:=⟨_,rfl⟩;have HM:=Lib.hid hm;rw[hm];clear hm
   go_wp2
   go_ret3
   exact⟨d,L,f2,t2,m,q2,c2,rfl,HM.out,HEV.out,HFM.out,hr2,hg3,fun h=>by rw[HT2.out h];exact B2.out.2 h,B2.out.1⟩
 ·have g0:(f != 0)=true:=by simpa using hf
  have F:=Lib.hid (Qgg (c:=c) DT.out hf);have HF:=Lib.hid hf;clear hf
  go_wp2
  go_ret3
  exact⟨d,[],f,q,0,none,0,rfl,rfl,.inl rfl,Yfi.none _,hr1,hg1,fun h=>absurd h HF.out,fun _=>F.out⟩
def Y6p (s:ByteArray)(rb p:Nat)(i c:Bool)(w:World)(e:Ending)(w':World):Prop:=
 ∃(d:Int) (L:List Ev) (f:Int) (t m:Nat) (q:Option Addr) (cap:Nat),btk (Yad s.data.toList) p i c=(d,L,t,f)∧e=.returned (.tuple #[.int .i64 d,.slice q m cap,.int .i64 f])∧L.length=m∧Ye2 w' q L∧Yba w' rb s t∧w.grownBy w' (some rb)∧Yfi w.heap.size q
set_option maxHeartbeats 1000000 in
theorem Y7d (w:World)(rb:Nat)(s:ByteArray)(p:Nat)(i c:Bool)(hp:Ye6 w)(hr:Yba w rb s p):
  Calls Tryz.prog 230 #[.pointer (some ⟨rb,0,none⟩),.bool i,.bool c] w (Y6p s rb p i c w):=by
 have hin:=Qc0 w rb s p i c hp hr;have hps:=hr.2.1;have hat:=Yb7 w rb s p hr;unfold Qj3 at hin;unfold Y6p;generalize hS:Yad s.data.toList=S at hin ⊢;clear hS hp hr
 go_enter Tryz.func230,Tryz.ntmps230
 go_wp2_with fail
 refine hat.mono ?_;rintro e w1 ⟨rfl,rfl⟩
 go_wp2_with fail
 refine hin.mono ?_;rintro e w1 ⟨d,L,f,t,m,q,cap,rfl,hm,hev,hfm,hr1,hg1,hok,hno⟩;have HM:=Lib.hid hm;have HEV:=Lib.hid hev;have HFM:=Lib.hid hfm;by_cases hf:f=0
 ·have g0:(f != 0)=false:=by simpa using hf
  have F:=Lib.hid (hok hf);clear hf hok hno hm hev hat hin hfm
  go_wp2
  go_ret3
  exact⟨d,L,0,t,m,q,cap,F.out,rfl,HM.out,HEV.out,hr1,hg1,HFM.out⟩
 ·have g0:(f != 0)=true:=by simpa using hf
  have F:=Lib.hid (hno hf);clear hf hok hno hm hev hat hin hfm
  go_wp2_with fail
  refine(Yb2 _ _ _ _ (p:Int) hr1 (by omega) (by omega)).mono ?_;rintro e w2 ⟨rfl,hr2,hg2⟩;rw[Int.toNat_natCast] at hr2;have hg3:=Yac hg1 hg2
  go_wp2
  go_ret3
  exact⟨0,[],f,p,0,none,0,F.out,rfl,rfl,.inl rfl,hr2,hg3,Yfi.none _⟩
end Go.Proofs.YtjjmalchelniiaaGreatDoor
namespace Go.Proofs.YtjjmalchelniiaaGreatDoor
open Go.RowKit Go.Lib Go.ChangeShapes Go.WideShapes Go.ChangeAt
theorem Yl4:(Rows.laid_overspill_tcoef_codes:DataW Unit)=tabData .u16 (Y7y.map fun z:Nat=>(z:Int))∧(Rows.laid_overspill_tcoef_lengths:DataW Unit)=tabData .u8 (Qh1.map fun z:Nat=>(z:Int))∧(Rows.laid_overspill_tcoef_ahead:DataW Unit)=tabData .u8 (Yyq.map fun z:Nat=>(z:Int)):=⟨by kernel_rfl,by kernel_rfl,by kernel_rfl⟩
theorem Y9g (l:List Nat)(i:Nat)(h:i<(l.map fun z:Nat=>(z:Int)).length):(l.map fun z:Nat=>(z:Int))[i]=((l[i]?.getD 0:Nat):Int):=by
 have h2:i<l.length:=by simpa using h
 rw[List.getElem_map,List.getElem?_eq_getElem h2]
 rfl
theorem Yo1 {P:Program}{W:World}{laid:List (String×DataW Unit)}{ps:List MemPlace}{name:String}{k:IntKind}{zs:List Int}{g:Nat}{t e:TypeId}{n:Nat}(hv:DataW.LaidVars P W laid ps)(hm:(name,(tabData k zs:DataW Unit))∈laid)
  (hg:P.globalNamed name=some g)(ht:(P.globals[g]?).map (·.type)=some t)(hu:P.underlying t=some (.array n e))(he:P.underlying e=some (.int k))(hce:P.cellsOf e=1)(hct:P.cellsOf t=n)(i:Nat)(hi:i<zs.length):
  W.cell? ⟨g,i,none⟩=some (.int k zs[i]):=by
 obtain⟨g',t',cs,fuel,p,hg',ht',hc,hd⟩:=Ykn hv hm;obtain rfl:=Option.some.inj (hg.symm.trans hg');obtain rfl:=Option.some.inj (ht.symm.trans ht');have h1:=cells_of_tab hu he hce hct hd;have hcell:=World.var?_cell hg hc i;rw[hcell,←Array.getElem?_toList,h1,List.getElem?_map,List.getElem?_eq_getElem hi]
 rfl
theorem Y57 {laid : List (String × DataW Unit)} {W : World} (hL : laidMetH Tryz.prog laid W) (hm : (("overspill/tcoef.codes", Rows.laid_overspill_tcoef_codes) ∈ laid ∧ ("overspill/tcoef.lengths", Rows.laid_overspill_tcoef_lengths) ∈ laid ∧ ("overspill/tcoef.ahead", Rows.laid_overspill_tcoef_ahead) ∈ laid) ∧ (laid.all fun x => x.2.handleName?.isNone) = true) : Ye6 W := by
 rw[MakeChecks.laidMetH_plain _ _ _ hm.2] at hL;obtain⟨ps,hv,_,_⟩:=hL;obtain⟨h1,h2,h3⟩:=hm.1;rw[Yl4.1] at h1;rw[Yl4.2.1] at h2;rw[Yl4.2.2] at h3;have hlc:(Y7y.map fun z:Nat=>(z:Int)).length=103:=rfl;have hll:(Qh1.map fun z:Nat=>(z:Int)).length=103:=rfl;have hla:(Yyq.map fun z:Nat=>(z:Int)).length=11:=rfl;refine⟨fun i hi=>?_,fun i hi=>?_⟩
 ·have g1:=Yo1 hv h1 (g:=5) (t:=267) (by kernel_rfl) (by kernel_rfl) Tryz.underlying267 Tryz.underlying266 (by kernel_rfl) (by kernel_rfl) i (by rw[hlc];exact hi);have g2:=Yo1 hv h2 (g:=6) (t:=268) (by kernel_rfl) (by kernel_rfl) Tryz.underlying268 Tryz.underlying5 (by kernel_rfl) (by kernel_rfl) i (by rw[hll];exact hi);rw[Y9g] at g1 g2;exact⟨g1,g2⟩
 ·have g3:=Yo1 hv h3 (g:=7) (t:=296) (by kernel_rfl) (by kernel_rfl) Tryz.underlying296 Tryz.underlying5 (by kernel_rfl) (by kernel_rfl) i (by rw[hla];exact hi);rw[Y9g] at g3;exact g3
theorem Qc7 {laid:List (String×DataW Unit)}{W:World}(hL:laidMetH Tryz.prog laid W)
  (hm : (("overspill/cbpy.rows", Rows.laid_overspill_cbpy_rows) ∈ laid ∧ (("overspill/mvd.codes", Rows.laid_overspill_mvd_codes) ∈ laid ∧ ("overspill/mvd.lengths", Rows.laid_overspill_mvd_lengths) ∈ laid) ∧ ("overspill/steps.codes", Rows.laid_overspill_steps_codes) ∈ laid ∧
   (("overspill/tcoef.codes", Rows.laid_overspill_tcoef_codes) ∈ laid ∧ ("overspill/tcoef.lengths", Rows.laid_overspill_tcoef_lengths) ∈ laid ∧ ("overspill/tcoef.ahead", Rows.laid_overspill_tcoef_ahead) ∈ laid)) ∧ (laid.all fun x => x.2.handleName?.isNone) = true) : Ybh W.heap.size W :=
 Ybh.here (Y92 hL ⟨hm.1.1,hm.2⟩) (Qef hL ⟨hm.1.2.1,hm.2⟩) (Y52 hL ⟨hm.1.2.2.1,hm.2⟩) (Y57 hL ⟨hm.1.2.2.2,hm.2⟩)
end Go.Proofs.YtjjmalchelniiaaGreatDoor