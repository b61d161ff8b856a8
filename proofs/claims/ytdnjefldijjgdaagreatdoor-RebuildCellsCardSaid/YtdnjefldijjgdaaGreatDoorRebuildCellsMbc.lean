/- No condition. -/
import Derived.Test.YtdnjefldijjgdaaGreatDoorRebuildCellsMd
import Derived.Test.YtdnjefldijjgdaaGreatDoorRebuildCellsMm
import Derived.Test.YtdnjefldijjgdaaGreatDoorRebuildCellsMp
import Derived.Test.YtdnjefldijjgdaaGreatDoorRebuildCellsMq
import Derived.Test.YtdnjefldijjgdaaGreatDoorRebuildCellsMba
import Derived.StillTailTactics
import Derived.Deep.CutRange
import Derived.Deep.DeepCutAuto
import Derived.Laws.OwnMore
import Derived.Deep.AppendLies
import Derived.WalkMore
import Derived.IntWalk
import Derived.Maps.AppendAt
import Derived.RegionTactic
import Derived.Deep.RegionWith
namespace Go.Proofs.YtdnjefldijjgdaaGreatDoor
open Go.RowKit Go.Lib
theorem Ymk (i:Bool)(w:World):Calls Tryz.prog 32 #[.bool i] w fun e w'=>e=.returned (.int .i64 (Ybt i:Nat))∧w=w':=by
 cases i
 all_goals
  go_enter Tryz.func32,Tryz.ntmps32
  go_wp2
  go_ret
  exact⟨rfl,rfl⟩
set_option maxRecDepth 100000 in
set_option maxHeartbeats 1000000 in
theorem Yn6 (i:Bool)(d:Int)(p:Option Addr)(l:List Ev)(c:Nat)(w:World)(hp:Ydk w p l)(hln:l.length≤140737488355328):
  Calls Tryz.prog 18 #[.bool i,.int .i64 d,.slice p l.length c] w fun e w'=>e=.returned (.bool (Yfq i d l))∧Below w.heap.size w w':=by
 obtain⟨B,hB⟩:∃B,w.heap.size=B:=⟨_,rfl⟩;have hfr:=fun x=>Ymk i x;have hlv:=Ygg p l c ((Ybt i:Nat):Int) w hp hln;unfold Ydv at hlv;have hor:((lvG l ((Ybt i:Nat):Int)).2=0∧Yfp (Ybt i) l l.length=false)∨((lvG l ((Ybt i:Nat):Int)).2=7∧Yfp (Ybt i) l l.length=true):=by
  cases hb:Yfp (Ybt i) l l.length with
  |false=>exact .inl ⟨Ysm hb,rfl⟩
  |true=>exact .inr ⟨Yo6 hb,rfl⟩
 have hmay:Yfq i d l=(Yoj i d && !Yfp (Ybt i) l l.length):=rfl;rw[hmay];have HONE:=Ya0 (lvG l ((Ybt i:Nat):Int)).1;have HSZ:(Tryz.prog.info? 36).map (·.size)=some (Yay (lvG l ((Ybt i:Nat):Int)).1).size:=Yan _;obtain⟨Y,hY⟩:∃Y,Yay (fun _=>0)=Y:=⟨_,rfl⟩;have hzv:∀w,(zeroValue 36).run Tryz.prog w=.ok (.agg Y) w:=by rw[←hY];exact Ybd
 have hYZ:Y.size=(Yay (lvG l ((Ybt i:Nat):Int)).1).size:=by rw[←hY,Yak,Yak]
 generalize Yay (lvG l ((Ybt i:Nat):Int)).1=Z at hlv HONE HSZ hYZ;generalize (lvG l ((Ybt i:Nat):Int)).2=f at hlv hor;generalize Yfp (Ybt i) l l.length=bv at hor ⊢;generalize ((Ybt i:Nat):Int)=fr at hfr hlv;have HB:=Lib.hid hB;generalize l.length=n at hlv ⊢;obtain⟨M,hM⟩:∃M,(Yoj i d && !bv)=M:=⟨_,rfl⟩;rw[hM];clear hp hY hB hln hmay
 go_enter Tryz.func18,Tryz.ntmps18
 go_wp2_with fail
 refine(hfr _).mono ?_;rintro e w2 ⟨rfl,rfl⟩
 go_wp2_with fail
 refine hlv.mono ?_;rintro e w2 ⟨rfl,hb2⟩;rw[HB.out] at hb2;have hz3:B≤w2.heap.size:=by rw[←HB.out];exact(show Below w.heap.size w w2 by rw[HB.out];exact hb2).size
 obtain⟨X,hX⟩:∃X,w2.heap.size=X:=⟨_,rfl⟩;have hh4:=heap_alloc_new w2 (.cells Y 36 (0,0));have hb4:=hb2.alloc hz3 (.cells Y 36 (0,0));have hsz4:(w2.alloc (.cells Y 36 (0,0))).heap.size=X+1:=by simp;omega
 rw[hX] at hh4;generalize hw4:w2.alloc (.cells Y 36 (0,0))=w4 at hh4 hb4 hsz4;have HW4:=Lib.hid hw4;have HX:=Lib.hid hX;have HXB:=Lib.hid (show B≤X by omega);clear hw4 hX hb2 hz3 hlv hfr;have FIN:=Lib.hid (fun(r:Bool) (x:World) (hx:Below B w x) (h:M=r)=>(⟨by rw[h],by rw[HB.out];exact hx⟩:Ending.returned (.bool r)=.returned (.bool M)∧Below w.heap.size w x));rcases hor with ⟨rfl,rfl⟩|⟨rfl,rfl⟩
 ·cases i with
  |false=>
   obtain⟨b0,h0⟩:∃b0,(d==0)=b0:=⟨_,rfl⟩;have R:=Lib.hid (show M=b0 by rw[←hM,Ymq,h0];simp);clear hM;cases b0
   all_goals
    go_wp2_with (rw[HW4.out,HX.out];with_reducible refine Yad rfl 36 _ _ rfl X Z Y rfl rfl 36 hh4 HSZ hYZ HONE ?_;intro w5 hh5 hg5;clear hzv)
    have hb6:=hb4.grown hg5 (by have:=HXB.out;omega) (fun k hk=>by injection hk with hk;have:=HXB.out;omega)
    go_ret
    exact FIN.out _ _ hb6 R.out
  |true=>
   obtain⟨b0,h0⟩:∃b0,decide (1≤d)=b0:=⟨_,rfl⟩;obtain⟨b1,h1⟩:∃b1,decide (d≤254)=b1:=⟨_,rfl⟩;have R:=Lib.hid (show M=(b0&&b1) by rw[←hM,Yok,h0,h1];simp);clear hM;cases b0 <;> cases b1
   all_goals
    go_wp2_with (rw[HW4.out,HX.out];with_reducible refine Yad rfl 36 _ _ rfl X Z Y rfl rfl 36 hh4 HSZ hYZ HONE ?_;intro w5 hh5 hg5;clear hzv)
    have hb6:=hb4.grown hg5 (by have:=HXB.out;omega) (fun k hk=>by injection hk with hk;have:=HXB.out;omega)
    go_ret
    exact FIN.out _ _ hb6 R.out
 ·have R:=Lib.hid (show M=false by rw[←hM];simp);clear hM;cases i
  all_goals
   go_wp2_with (rw[HW4.out,HX.out];with_reducible refine Yad rfl 36 _ _ rfl X Z Y rfl rfl 36 hh4 HSZ hYZ HONE ?_;intro w5 hh5 hg5;clear hzv)
   have hb6:=hb4.grown hg5 (by have:=HXB.out;omega) (fun k hk=>by injection hk with hk;have:=HXB.out;omega)
   go_ret
   exact FIN.out _ _ hb6 R.out
end Go.Proofs.YtdnjefldijjgdaaGreatDoor