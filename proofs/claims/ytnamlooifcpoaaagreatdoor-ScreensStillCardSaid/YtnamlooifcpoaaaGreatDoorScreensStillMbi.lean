/- No condition. -/
import Derived.Test.YtnamlooifcpoaaaGreatDoorScreensStillMf
import Derived.RegionTactic
import Derived.Deep.RegionWith
import Derived.Deep.CutRange
import Derived.Deep.DeepCutAuto
namespace Go.Proofs.YtnamlooifcpoaaaGreatDoor
open Go.RowKit Go.Lib
theorem Ytc (a:Int)(w:World):Calls Tryz.prog 160 #[.int .i64 a] w fun e w'=>e=.returned (.bool (a==0 || a==1))∧w=w':=by
 cases h0:(a==0)
 all_goals
  go_enter Tryz.func160,Tryz.ntmps160
  go_wp2
  go_ret
  exact⟨rfl,rfl⟩
theorem Yiv (w:World):(Instr.build 60 #[]).run Tryz.prog w=.ok (.agg (Ya7 fun _=>0)) w:=run_build w _ #[] _ (by kernel_rfl)
def Yf3 (l:List Ev)(a:Int)(w:World)(e:Ending)(w':World):Prop:=e=.returned (.tuple #[.agg (Ya7 (lvG l a).1),.int .i64 (lvG l a).2])∧Below w.heap.size w w'
theorem Ys8 {l:List Ev}{a:Int}{w w':World}{Z:Array Value}{g:Nat→Int}{z:Int}(h:lvG l a=(g,z))(hZ:Ya7 g=Z)(hb:Below w.heap.size w w'):Yf3 l a w (.returned (.tuple #[.agg Z,.int .i64 z])) w':=by
 unfold Yf3;rw[h,←hZ];exact⟨rfl,hb⟩
set_option maxRecDepth 100000 in
set_option maxHeartbeats 2000000 in
theorem Ye8 (p:Option Addr)(l:List Ev)(c:Nat)(a0:Int)(w:World)(hp:Yex w p l)(hln:l.length≤140737488355328):Calls Tryz.prog 152 #[.slice p l.length c,.int .i64 a0] w (Yf3 l a0 w):=by
 have hmay:=fun x=>Ytc a0 x;obtain⟨B,hB⟩:∃B,w.heap.size=B:=⟨_,rfl⟩;obtain⟨Z,hZ⟩:∃Z,Ya7 (fun _=>0)=Z:=⟨_,rfl⟩;have HZ:=Lib.hid hZ;have hz0:∀w,(zeroValue 60).run Tryz.prog w=.ok (.agg Z) w:=by rw[←hZ];exact Yb5
 have hbz:∀w,(Instr.build 60 #[]).run Tryz.prog w=.ok (.agg Z) w:=by rw[←hZ];exact Yiv
 have HSZ:(Tryz.prog.info? 60).map (·.size)=some Z.size:=by rw[←hZ];exact Yau _
 have HONE:Z.all (·.oneCell')=true:=by rw[←hZ];exact Ybd _
 obtain⟨wA,hwA⟩:∃wA,w.alloc (.cells Z 60 (0,0))=wA:=⟨_,rfl⟩;have hzA:wA.heap.size=B+1:=by rw[←hwA,←hB];simp
 have hhA:wA.heap[B]? =some (.cells Z 60 (0,0)):=by rw[←hwA,←hB];exact heap_alloc_new w _
 have hbA:Below B w wA:=by rw[←hwA,←hB];exact(Below.refl _ w).alloc (Nat.le_refl _) _
 have HWA:=Lib.hid hwA;have HB:=Lib.hid hB;clear hZ hwA hB;by_cases hf:a0=0∨a0=1
 ·rw[show (a0==0 || a0==1)=true by simp;exact hf] at hmay;obtain⟨a,rfl⟩:∃a:Nat,a0=(a:Int):=⟨a0.toNat,by omega⟩;have ha1:a≤1:=by omega
  have G:=Lib.hid (show lvG l (a:Int)=if Yj3 a l l.length then (fun _=>0,7) else ((lvS a l).2,0) by unfold lvG;rw[if_pos hf,Int.toNat_natCast]);obtain⟨n,hn⟩:∃n,l.length=n:=⟨_,rfl⟩;obtain⟨wB,hwB⟩:∃wB,wA.alloc (.cells Z 60 (0,0))=wB:=⟨_,rfl⟩;have hzB:wB.heap.size=B+2:=by rw[←hwB];simp;omega
  have hhB:wB.heap[B]? =some (.cells Z 60 (0,0)):=by rw[←hwB];exact Yaq hhA
  have hhB1:wB.heap[B+1]? =some (Yf5 fun _=>0):=by rw[←hwB,←hzA,←HZ.out];exact heap_alloc_new wA _ |>.trans (by rw[HZ.out];unfold Yf5;rw[HZ.out])
  have hbB:Below B w wB:=by rw[←hwB];exact hbA.alloc (by omega) _
  have HP:=Lib.hid (fun(x:World) (hx:Below B w x)=>(hp.below (by rw[HB.out];exact hx):Yex x p l));have HWB:=Lib.hid (show wA.alloc (.cells Z 60 (0,0))=wB from hwB);have HN:=Lib.hid hn;rw[hn] at hln ⊢;clear hwB hf hp hn hhA hbA
  go_enter Tryz.func152,Tryz.ntmps152
  go_wp2_with fail
  rw[HWA.out,HB.out];refine(hmay _).mono ?_;rintro e w1 ⟨rfl,rfl⟩
  go_wp2
  rw[HWB.out];have hnx0:(lvS a (l.take 0)).1=a:=rfl
  go_loopw [7,19] (fun u z wr=>∃(i nx:Nat) (g:Nat→Int),i≤n∧z=.int .i64 i∧u=.int .i64 nx∧nx≤64∧Hid (lvS a (l.take i)=(nx,g)∧∀j,(h:j<l.length)→j<i→Yrj a l j l[j]=true)∧wr.heap[B]? =some (.cells Z 60 (0,0))∧wr.heap[B+1]? =some (Yf5 g)∧Below B w wr∧B+2≤wr.heap.size) (fun _ z _=>n-(intOf z).toNat)
  case atStart=>exact⟨0,a,fun _=>0,Nat.zero_le _,rfl,rfl,by omega,Lib.hid ⟨rfl,fun j _ h=>absurd h (Nat.not_lt_zero j)⟩,hhB,hhB1,hbB,by omega⟩
  case round=>
   clear hhB hhB1 hbB hzB;obtain⟨i,nx,g,hi,rfl,rfl,hnx,hst,hhB,hhB1,hb,hz⟩:=hrel;by_cases hlt:i<n
   ·have t0:decide ((i:Int)<(n:Int))=true:=by simp;omega
    have t1:decide (i<n)=true:=by simpa using hlt
    have hil:i<l.length:=by rw[HN.out];exact hlt
    obtain⟨b,o,rfl,hbb,hc⟩:=(HP.out _ hb).at (by omega);obtain⟨c0,c1,c2⟩:=hc i hil;obtain⟨⟨x0,x1,x2⟩,hxe⟩:∃x,l[i]=x:=⟨_,rfl⟩;rw[hxe] at c0 c1 c2;simp only at c0 c1 c2;have qw:wrap64 ((n:Int)-1)=(n:Int)-1:=IntWalk.wrap64_in _ (by omega);obtain⟨lb,hlb⟩:∃lb,decide (i+1=n)=lb:=⟨_,rfl⟩;have q1:((i:Int)==(n:Int)-1)=lb:=by
     rw[←hlb];by_cases e:i+1=n
     ·rw[decide_eq_true e,beq_iff_eq];omega
     ·rw[decide_eq_false e,beq_eq_false_iff_ne];omega
    have hfit:Yrj a l i l[i]=(Yd8 x1 x2&&(x0==lb)&&decide (nx+x1.toNat<64)):=by
     unfold Yrj;rw[hxe,hst.out.1,HN.out,hlb]
    obtain⟨ft,hft⟩:∃ft,Yrj a l i l[i]=ft:=⟨_,rfl⟩;have FIT:=Lib.hid (show ft=(Yd8 x1 x2&&(x0==lb)&&decide (nx+x1.toNat<64)) by rw[←hft,hfit]);have BAD:=Lib.hid (fun(h:ft=false)=>(by rw[G.out,if_pos (Yrz hil (by rw[hft];exact h))]:lvG l (a:Int)=(fun _=>0,7)));have NXT:=Lib.hid (fun(h:ft=true)=>(⟨by rw[Yo0 a l hil,hst.out.1,hxe],fun j h1 h2=>by
     rcases (by omega:j<i∨j=i) with h3|h3
     ·exact hst.out.2 j h1 h3
     ·subst h3;rw[hft];exact h⟩:lvS a (l.take (i+1))=(nx+x1.toNat+1,Ycw g (nx+x1.toNat) x2)∧∀j,(h:j<l.length)→j<i+1→Yrj a l j l[j]=true))
    have hri:=fun x=>Yje x0 x1 x2 x;obtain⟨X,hX⟩:∃X,wr.heap.size=X:=⟨_,rfl⟩;obtain⟨wx,hwx⟩:∃wx,wr.alloc (.cells #[.bool x0,.int .i64 x1,.int .i64 x2] 169 (0,0))=wx:=⟨_,rfl⟩;have hzx:wx.heap.size=X+1:=by rw[←hwx,←hX];simp
    have hhx:wx.heap[X]? =some (Ypz x0 x1 x2):=by rw[←hwx,←hX];exact heap_alloc_new wr _
    have hbr:Below X wr wx:=by rw[←hwx,←hX];exact(Below.refl _ wr).alloc (Nat.le_refl _) _
    have hbx:Below B w wx:=by rw[←hwx];exact hb.alloc (by omega) _
    have HX:=Lib.hid hX;have HWX:=Lib.hid hwx;have HXB:=Lib.hid (show B+2≤X by omega)
    have KEEP:=Lib.hid (fun(y:World) (hy:Below wx.heap.size wx y)=>(⟨(hy.block B (by omega)).trans ((hbr.block B (by omega)).trans hhB),(hy.block (B+1) (by omega)).trans ((hbr.block (B+1) (by omega)).trans hhB1),(hy.block X (by omega)).trans hhx,hbx.trans (hy.mono (by omega)),by have:=hy.size;omega⟩:y.heap[B]? =some (.cells Z 60 (0,0))∧y.heap[B+1]? =some (Yf5 g)∧y.heap[X]? =some (Ypz x0 x1 x2)∧Below B w y∧X+1≤y.heap.size))
    clear hX hwx hc hbb hfit hft hxe hlb hst hhB hhB1 hb hbr hbx hhx hil;obtain⟨rt,hrt⟩:∃rt,Yd8 x1 x2=rt:=⟨_,rfl⟩;rw[hrt] at hri
    go_wp2_with fail
    rw[HWX.out,HX.out];refine(hri _).mono ?_;rintro e w1 ⟨rfl,hb1⟩;obtain⟨hhB,hhB1,hhx,hb,hz1⟩:=KEEP.out _ hb1;obtain⟨d0,d1,d2,_,_,_⟩:=Ygy hhx;clear c0 c1 c2 hb1 hzx;have hzb:B+2≤w1.heap.size:=by have:=HXB.out;omega
    cases rt with
    |false=>
     have F:=Lib.hid (BAD.out (by rw[FIT.out,hrt];rfl))
     go_wp2_with (with_reducible refine Yad rfl 60 _ _ rfl B Z Z rfl rfl 60 hhB HSZ rfl HONE ?_;intro w2 hh2 hg2)
     refine bodyPost_ret (Yak rfl _ _ B 60 _ (0,0) _ rfl hh2 Tryz.underlying60 rfl HSZ) rfl ?_;exact Ys8 F.out HZ.out (by rw[HB.out];exact hb.grown hg2 (by omega) (fun k hk=>by injection hk with hk;omega))
    |true=>
    obtain⟨r0,r1,_⟩:=Yes.1 hrt;obtain⟨r,rfl⟩:∃r:Nat,x1=(r:Int):=⟨x1.toNat,by omega⟩;rw[Int.toNat_natCast] at FIT NXT;have FIT2:=Lib.hid (show ft=((x0==lb)&&decide (nx+r<64)) by rw[FIT.out,hrt];simp);clear hri r0 hrt FIT;cases hx:(x0==lb) with
    |false=>
     have g1:(x0 != lb)=true:=by rw[bne,hx];rfl
     have F:=Lib.hid (BAD.out (by rw[FIT2.out,hx];rfl))
     go_wp2_with (with_reducible refine Yad rfl 60 _ _ rfl B Z Z rfl rfl 60 hhB HSZ rfl HONE ?_;intro w2 hh2 hg2)
     refine bodyPost_ret (Yak rfl _ _ B 60 _ (0,0) _ rfl hh2 Tryz.underlying60 rfl HSZ) rfl ?_;exact Ys8 F.out HZ.out (by rw[HB.out];exact hb.grown hg2 (by omega) (fun k hk=>by injection hk with hk;omega))
    |true=>
    have g1:(x0 != lb)=false:=by rw[bne,hx];rfl
    by_cases h64:nx+r<64
    ·have NX:=Lib.hid (NXT.out (by rw[FIT2.out,hx,decide_eq_true h64];rfl));have t3:decide (64≤(nx:Int)+(r:Int))=false:=by simp;omega
     have cc:=Yd2 (i:=nx+r) hhB1 h64;have ff:=Yfp (i:=nx+r) hhB1;obtain⟨k,hk⟩:∃k:Nat,nx+r=k:=⟨_,rfl⟩;rw[hk] at cc ff NX h64;have hki:(nx:Int)+(r:Int)=(k:Int):=by omega
     generalize g k=y0 at cc;have PUT:=Lib.hid (⟨Yba hhB (by simp),Yhb x2 hhB1,hb.setCell (by simp) _,by simp[World.setCell];omega⟩:(w1.setCell ⟨B+1,k,none⟩ (.int .i64 x2)).heap[B]? =some (.cells Z 60 (0,0))∧(w1.setCell ⟨B+1,k,none⟩ (.int .i64 x2)).heap[B+1]? =some (Yf5 (Ycw g k x2))∧Below B w (w1.setCell ⟨B+1,k,none⟩ (.int .i64 x2))∧B+2≤(w1.setCell ⟨B+1,k,none⟩ (.int .i64 x2)).heap.size)
     clear hhB hhB1 hb hhx
     go_wp2
     go_roundw
     case rel=>exact⟨i+1,k+1,Ycw g k x2,by omega,by go_num,by go_num,by omega,Lib.hid NX.out,PUT.out⟩
     case measure=>simp[intOf];omega
    ·have F:=Lib.hid (BAD.out (by rw[FIT2.out,decide_eq_false h64];simp));have t3:decide (64≤(nx:Int)+(r:Int))=true:=by simp;omega
     go_wp2_with (with_reducible refine Yad rfl 60 _ _ rfl B Z Z rfl rfl 60 hhB HSZ rfl HONE ?_;intro w2 hh2 hg2)
     refine bodyPost_ret (Yak rfl _ _ B 60 _ (0,0) _ rfl hh2 Tryz.underlying60 rfl HSZ) rfl ?_;exact Ys8 F.out HZ.out (by rw[HB.out];exact hb.grown hg2 (by omega) (fun k hk=>by injection hk with hk;omega))
   ·obtain rfl:i=n:=by omega
    have t0:decide ((i:Int)<(i:Int))=false:=by simp
    have t1:decide (i<i)=false:=by simp
    have F:=Lib.hid (show lvG l (a:Int)=(g,0) by
     rw[G.out,if_neg (by
      rw[Yok l.length (Nat.le_refl _) fun j h _=>hst.out.2 j h (by rw[←HN.out];exact h)]
      decide)]
     have:=hst.out.1;rw[show l.take i=l by rw[←HN.out];exact List.take_length] at this;rw[this])
    obtain⟨Y,hY⟩:∃Y,Ya7 g=Y:=⟨_,rfl⟩;have HY:=Lib.hid hY;have HH1:=Lib.hid (show wr.heap[B+1]? =some (.cells Y 60 (0,0)) by rw[←hY];exact hhB1);have HSY:(Tryz.prog.info? 60).map (·.size)=some Y.size:=by rw[←hY];exact Yau _
    have HOY:Y.all (·.oneCell')=true:=by rw[←hY];exact Ybd _
    have HZY:Z.size=Y.size:=by rw[←hY,←HZ.out,Yam,Yam]
    clear hY hst
    go_wp2_with (first|(with_reducible refine wpList_load_row rfl 60 _ rfl (B+1) rfl 60 Y (0,0) _ HH1.out Tryz.underlying60 rfl HSY ?_)|(with_reducible refine Yad rfl 60 _ _ rfl B Y Z rfl rfl 60 hhB HSY HZY HOY ?_;intro w2 hh2 hg2))
    refine bodyPost_ret (Yak rfl _ _ B 60 _ (0,0) _ rfl hh2 Tryz.underlying60 rfl HSY) rfl ?_;exact Ys8 F.out HY.out (by rw[HB.out];exact hb.grown hg2 (by omega) (fun k hk=>by injection hk with hk;omega))
 ·have G:=Lib.hid (show lvG l a0=(fun _=>0,1) by unfold lvG;rw[if_neg hf]);rw[show (a0==0 || a0==1)=false by simp;omega] at hmay;generalize l.length=n at hln ⊢;clear hf hp hln
  go_enter Tryz.func152,Tryz.ntmps152
  go_wp2_with fail
  rw[HWA.out,HB.out];refine(hmay _).mono ?_;rintro e w1 ⟨rfl,rfl⟩
  go_wp2_with (with_reducible refine Yad rfl 60 _ _ rfl B Z Z rfl rfl 60 hhA HSZ rfl HONE ?_;intro w2 hh2 hg2)
  refine bodyPost_ret (Yak rfl _ _ B 60 _ (0,0) _ rfl hh2 Tryz.underlying60 rfl HSZ) rfl ?_;exact Ys8 G.out HZ.out (by rw[HB.out];exact hbA.grown hg2 (by omega) (fun k hk=>by injection hk with hk;omega))
end Go.Proofs.YtnamlooifcpoaaaGreatDoor