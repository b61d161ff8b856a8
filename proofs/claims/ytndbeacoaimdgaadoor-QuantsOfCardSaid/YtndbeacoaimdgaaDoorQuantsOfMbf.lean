/- No condition. -/
import Derived.Test.YtndbeacoaimdgaaDoorQuantsOfMj
import Derived.Test.YtndbeacoaimdgaaDoorQuantsOfMw
import Derived.Test.YtndbeacoaimdgaaDoorQuantsOfMz
import Derived.Test.YtndbeacoaimdgaaDoorQuantsOfMba
import Derived.Test.YtndbeacoaimdgaaDoorQuantsOfMbe
import Derived.StillTailTactics
import Derived.Deep.CutRange
import Derived.Deep.DeepCutAuto
import Derived.Laws.OwnMore
import Derived.Deep.AppendLies
import Derived.WalkMore
import Derived.IntWalk
import Derived.Maps.AppendAt
import Derived.RegionTactic
import Derived.Deep.RegionWith
namespace Go.Proofs.YtndbeacoaimdgaaDoor
open Go.RowKit Go.Lib
theorem Ylc (i:Bool)(w:World):Calls Tryd.prog 49 #[.bool i] w fun e w'=>e=.returned (.int .i64 (Ya8 i:Nat))∧w=w':=by
 cases i
 all_goals
  go_enter Tryd.func49,Tryd.ntmps49
  go_wp2
  go_ret
  exact⟨rfl,rfl⟩
set_option maxRecDepth 100000 in
set_option maxHeartbeats 1000000 in
theorem Ymt (i:Bool)(d:Int)(p:Option Addr)(l:List Ev)(c:Nat)(w:World)(hp:Ycz w p l)(hln:l.length≤140737488355328):
  Calls Tryd.prog 37 #[.bool i,.int .i64 d,.slice p l.length c] w fun e w'=>e=.returned (.bool (Ye8 i d l))∧Below w.heap.size w w':=by
 obtain⟨B,hB⟩:∃B,w.heap.size=B:=⟨_,rfl⟩;have hfr:=fun x=>Ylc i x;have hlv:=Yjx p l c ((Ya8 i:Nat):Int) w hp hln;unfold Ydw at hlv;have hor:((lvG l ((Ya8 i:Nat):Int)).2=0∧Ye7 (Ya8 i) l l.length=false)∨((lvG l ((Ya8 i:Nat):Int)).2=7∧Ye7 (Ya8 i) l l.length=true):=by
  cases hb:Ye7 (Ya8 i) l l.length with
  |false=>exact .inl ⟨Yp2 hb,rfl⟩
  |true=>exact .inr ⟨Ynj hb,rfl⟩
 have hmay:Ye8 i d l=(Ym3 i d && !Ye7 (Ya8 i) l l.length):=rfl;rw[hmay];have HONE:=Yc0 (lvG l ((Ya8 i:Nat):Int)).1;have HSZ:(Tryd.prog.info? 75).map (·.size)=some (Yds (lvG l ((Ya8 i:Nat):Int)).1).size:=Yce _;obtain⟨Y,hY⟩:∃Y,Yds (fun _=>0)=Y:=⟨_,rfl⟩;have hzv:∀w,(zeroValue 75).run Tryd.prog w=.ok (.agg Y) w:=by rw[←hY];exact Yef
 have hYZ:Y.size=(Yds (lvG l ((Ya8 i:Nat):Int)).1).size:=by rw[←hY,Ybc,Ybc]
 generalize Yds (lvG l ((Ya8 i:Nat):Int)).1=Z at hlv HONE HSZ hYZ;generalize (lvG l ((Ya8 i:Nat):Int)).2=f at hlv hor;generalize Ye7 (Ya8 i) l l.length=bv at hor ⊢;generalize ((Ya8 i:Nat):Int)=fr at hfr hlv;have HB:=Lib.hid hB;generalize l.length=n at hlv ⊢;obtain⟨M,hM⟩:∃M,(Ym3 i d && !bv)=M:=⟨_,rfl⟩;rw[hM];clear hp hY hB hln hmay
 go_enter Tryd.func37,Tryd.ntmps37
 go_wp2_with fail
 refine(hfr _).mono ?_;rintro e w2 ⟨rfl,rfl⟩
 go_wp2_with fail
 refine hlv.mono ?_;rintro e w2 ⟨rfl,hb2⟩;rw[HB.out] at hb2;have hz3:B≤w2.heap.size:=by rw[←HB.out];exact(show Below w.heap.size w w2 by rw[HB.out];exact hb2).size
 obtain⟨X,hX⟩:∃X,w2.heap.size=X:=⟨_,rfl⟩;have hh4:=heap_alloc_new w2 (.cells Y 75 (0,0));have hb4:=hb2.alloc hz3 (.cells Y 75 (0,0));have hsz4:(w2.alloc (.cells Y 75 (0,0))).heap.size=X+1:=by simp;omega
 rw[hX] at hh4;generalize hw4:w2.alloc (.cells Y 75 (0,0))=w4 at hh4 hb4 hsz4;have HW4:=Lib.hid hw4;have HX:=Lib.hid hX;have HXB:=Lib.hid (show B≤X by omega);clear hw4 hX hb2 hz3 hlv hfr;have FIN:=Lib.hid (fun(r:Bool) (x:World) (hx:Below B w x) (h:M=r)=>(⟨by rw[h],by rw[HB.out];exact hx⟩:Ending.returned (.bool r)=.returned (.bool M)∧Below w.heap.size w x));rcases hor with ⟨rfl,rfl⟩|⟨rfl,rfl⟩
 ·cases i with
  |false=>
   obtain⟨b0,h0⟩:∃b0,(d==0)=b0:=⟨_,rfl⟩;have R:=Lib.hid (show M=b0 by rw[←hM,Yli,h0];simp);clear hM;cases b0
   all_goals
    go_wp2_with (rw[HW4.out,HX.out];with_reducible refine Yan rfl 75 _ _ rfl X Z Y rfl rfl 75 hh4 HSZ hYZ HONE ?_;intro w5 hh5 hg5;clear hzv)
    have hb6:=hb4.grown hg5 (by have:=HXB.out;omega) (fun k hk=>by injection hk with hk;have:=HXB.out;omega)
    go_ret
    exact FIN.out _ _ hb6 R.out
  |true=>
   obtain⟨b0,h0⟩:∃b0,decide (1≤d)=b0:=⟨_,rfl⟩;obtain⟨b1,h1⟩:∃b1,decide (d≤254)=b1:=⟨_,rfl⟩;have R:=Lib.hid (show M=(b0&&b1) by rw[←hM,Ym4,h0,h1];simp);clear hM;cases b0 <;> cases b1
   all_goals
    go_wp2_with (rw[HW4.out,HX.out];with_reducible refine Yan rfl 75 _ _ rfl X Z Y rfl rfl 75 hh4 HSZ hYZ HONE ?_;intro w5 hh5 hg5;clear hzv)
    have hb6:=hb4.grown hg5 (by have:=HXB.out;omega) (fun k hk=>by injection hk with hk;have:=HXB.out;omega)
    go_ret
    exact FIN.out _ _ hb6 R.out
 ·have R:=Lib.hid (show M=false by rw[←hM];simp);clear hM;cases i
  all_goals
   go_wp2_with (rw[HW4.out,HX.out];with_reducible refine Yan rfl 75 _ _ rfl X Z Y rfl rfl 75 hh4 HSZ hYZ HONE ?_;intro w5 hh5 hg5;clear hzv)
   have hb6:=hb4.grown hg5 (by have:=HXB.out;omega) (fun k hk=>by injection hk with hk;have:=HXB.out;omega)
   go_ret
   exact FIN.out _ _ hb6 R.out
end Go.Proofs.YtndbeacoaimdgaaDoor