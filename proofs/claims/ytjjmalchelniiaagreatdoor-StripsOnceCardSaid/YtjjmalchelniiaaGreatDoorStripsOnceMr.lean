/- Part 18 of StripsOnce. No condition. -/
import Derived.Test.YtjjmalchelniiaaGreatDoorStripsOnceMb
import Derived.Test.YtjjmalchelniiaaGreatDoorStripsOnceMg
import Derived.WalkKit
import Derived.WalkMore
import Derived.Lib.Strings
namespace Go.Proofs.YtjjmalchelniiaaGreatDoor
open Go.RowKit Go.Lib
def Ykj (k:Int):List ByteArray:=
 if k=0 then [⟨#[49]⟩,⟨#[48,48,49,49]⟩,⟨#[48,48,49,48]⟩,⟨#[48,48,48,49,48,49]⟩] else
 if k=1 then [⟨#[48,49,49]⟩,⟨#[48,48,48,48,49,49,49]⟩,⟨#[48,48,48,48,49,49,48]⟩,⟨#[48,48,48,48,48,48,49,48,49]⟩] else
 if k=2 then [⟨#[48,49,48]⟩,⟨#[48,48,48,48,49,48,49]⟩,⟨#[48,48,48,48,49,48,48]⟩,⟨#[48,48,48,48,48,49,48,49]⟩] else
 if k=3 then [⟨#[48,48,48,49,49]⟩,⟨#[48,48,48,48,48,49,48,48]⟩,⟨#[48,48,48,48,48,48,49,49]⟩,⟨#[48,48,48,48,48,49,49]⟩] else
 if k=4 then [⟨#[48,48,48,49,48,48]⟩,⟨#[48,48,48,48,48,48,49,48,48]⟩,⟨#[48,48,48,48,48,48,48,49,49]⟩,⟨#[48,48,48,48,48,48,48,49,48]⟩] else
 if k=5 then [⟨#[48,48,48,48,48,48,48,48,49]⟩,⟨#[]⟩,⟨#[]⟩,⟨#[]⟩] else
 [⟨#[]⟩,⟨#[]⟩,⟨#[]⟩,⟨#[]⟩]
def Ykk (k:Int):List ByteArray:=
 if k=3 then [⟨#[49]⟩,⟨#[48,48,49]⟩,⟨#[48,49,48]⟩,⟨#[48,49,49]⟩] else
 if k=4 then [⟨#[48,48,48,49]⟩,⟨#[48,48,48,48,48,49]⟩,⟨#[48,48,48,48,49,48]⟩,⟨#[48,48,48,48,49,49]⟩] else
 if k=5 then [⟨#[48,48,48,48,48,48,48,48,49]⟩,⟨#[]⟩,⟨#[]⟩,⟨#[]⟩] else
 [⟨#[]⟩,⟨#[]⟩,⟨#[]⟩,⟨#[]⟩]
def Yz6 (inter:Bool)(k:Int):List ByteArray:=if inter then Ykj k else Ykk k
def Yoh (l:List ByteArray):Value:=.agg (l.map Value.string).toArray
theorem Yon (k:Int):∃a b c d,Ykj k=[a,b,c,d]:=by
 unfold Ykj
 repeat' split
 all_goals exact⟨_,_,_,_,rfl⟩
theorem Yoo (k:Int):∃a b c d,Ykk k=[a,b,c,d]:=by
 unfold Ykk
 repeat' split
 all_goals exact⟨_,_,_,_,rfl⟩
theorem Yr0 (inter:Bool)(k:Int):∃a b c d,Yz6 inter k=[a,b,c,d]:=by
 cases inter
 ·exact Yoo k
 ·exact Yon k
set_option maxHeartbeats 2000000 in
theorem Yqn (k:Int)(w:World):Calls Tryz.prog 215 #[.int .i64 k] w fun e w'=>e=.returned (Yoh (Ykj k))∧Below w.heap.size w w':=by
 by_cases h0:k=0
 ·subst h0
  go_enter Tryz.func215,Tryz.ntmps215
  go_wp2
  exact bodyPost_ret (results_cell_row rfl _ _ w.heap.size 214 _ (0,0) _ rfl (heap_alloc_new w _) Tryz.underlying214 rfl (by kernel_rfl)) rfl ⟨rfl,(Below.refl _ w).alloc (Nat.le_refl _) _⟩
 have g0:(k==0)=false:=by rw[beq_eq_false_iff_ne];exact h0
 by_cases h1:k=1
 ·subst h1
  go_enter Tryz.func215,Tryz.ntmps215
  go_wp2
  exact bodyPost_ret (results_cell_row rfl _ _ w.heap.size 214 _ (0,0) _ rfl (heap_alloc_new w _) Tryz.underlying214 rfl (by kernel_rfl)) rfl ⟨rfl,(Below.refl _ w).alloc (Nat.le_refl _) _⟩
 have g1:(k==1)=false:=by rw[beq_eq_false_iff_ne];exact h1
 by_cases h2:k=2
 ·subst h2
  go_enter Tryz.func215,Tryz.ntmps215
  go_wp2
  exact bodyPost_ret (results_cell_row rfl _ _ w.heap.size 214 _ (0,0) _ rfl (heap_alloc_new w _) Tryz.underlying214 rfl (by kernel_rfl)) rfl ⟨rfl,(Below.refl _ w).alloc (Nat.le_refl _) _⟩
 have g2:(k==2)=false:=by rw[beq_eq_false_iff_ne];exact h2
 by_cases h3:k=3
 ·subst h3
  go_enter Tryz.func215,Tryz.ntmps215
  go_wp2
  exact bodyPost_ret (results_cell_row rfl _ _ w.heap.size 214 _ (0,0) _ rfl (heap_alloc_new w _) Tryz.underlying214 rfl (by kernel_rfl)) rfl ⟨rfl,(Below.refl _ w).alloc (Nat.le_refl _) _⟩
 have g3:(k==3)=false:=by rw[beq_eq_false_iff_ne];exact h3
 by_cases h4:k=4
 ·subst h4
  go_enter Tryz.func215,Tryz.ntmps215
  go_wp2
  exact bodyPost_ret (results_cell_row rfl _ _ w.heap.size 214 _ (0,0) _ rfl (heap_alloc_new w _) Tryz.underlying214 rfl (by kernel_rfl)) rfl ⟨rfl,(Below.refl _ w).alloc (Nat.le_refl _) _⟩
 have g4:(k==4)=false:=by rw[beq_eq_false_iff_ne];exact h4
 by_cases h5:k=5
 ·subst h5
  go_enter Tryz.func215,Tryz.ntmps215
  go_wp2
  exact bodyPost_ret (results_cell_row rfl _ _ w.heap.size 214 _ (0,0) _ rfl (heap_alloc_new w _) Tryz.underlying214 rfl (by kernel_rfl)) rfl ⟨rfl,(Below.refl _ w).alloc (Nat.le_refl _) _⟩
 have g5:(k==5)=false:=by rw[beq_eq_false_iff_ne];exact h5
 have F:=Lib.hid (show Ykj k=[⟨#[]⟩,⟨#[]⟩,⟨#[]⟩,⟨#[]⟩] by unfold Ykj;simp only[h0,h1,h2,h3,h4,h5,if_false]);clear h0 h1 h2 h3 h4 h5
 go_enter Tryz.func215,Tryz.ntmps215
 go_wp2
 rw[F.out];exact bodyPost_ret (results_cell_row rfl _ _ w.heap.size 214 _ (0,0) _ rfl (heap_alloc_new w _) Tryz.underlying214 rfl (by kernel_rfl)) rfl ⟨rfl,(Below.refl _ w).alloc (Nat.le_refl _) _⟩
set_option maxHeartbeats 2000000 in
theorem Yqo (k:Int)(w:World):Calls Tryz.prog 216 #[.int .i64 k] w fun e w'=>e=.returned (Yoh (Ykk k))∧Below w.heap.size w w':=by
 by_cases h3:k=3
 ·subst h3
  go_enter Tryz.func216,Tryz.ntmps216
  go_wp2
  exact bodyPost_ret (results_cell_row rfl _ _ w.heap.size 214 _ (0,0) _ rfl (heap_alloc_new w _) Tryz.underlying214 rfl (by kernel_rfl)) rfl ⟨rfl,(Below.refl _ w).alloc (Nat.le_refl _) _⟩
 have g3:(k==3)=false:=by rw[beq_eq_false_iff_ne];exact h3
 by_cases h4:k=4
 ·subst h4
  go_enter Tryz.func216,Tryz.ntmps216
  go_wp2
  exact bodyPost_ret (results_cell_row rfl _ _ w.heap.size 214 _ (0,0) _ rfl (heap_alloc_new w _) Tryz.underlying214 rfl (by kernel_rfl)) rfl ⟨rfl,(Below.refl _ w).alloc (Nat.le_refl _) _⟩
 have g4:(k==4)=false:=by rw[beq_eq_false_iff_ne];exact h4
 by_cases h5:k=5
 ·subst h5
  go_enter Tryz.func216,Tryz.ntmps216
  go_wp2
  exact bodyPost_ret (results_cell_row rfl _ _ w.heap.size 214 _ (0,0) _ rfl (heap_alloc_new w _) Tryz.underlying214 rfl (by kernel_rfl)) rfl ⟨rfl,(Below.refl _ w).alloc (Nat.le_refl _) _⟩
 have g5:(k==5)=false:=by rw[beq_eq_false_iff_ne];exact h5
 have F:=Lib.hid (show Ykk k=[⟨#[]⟩,⟨#[]⟩,⟨#[]⟩,⟨#[]⟩] by unfold Ykk;simp only[h3,h4,h5,if_false]);clear h3 h4 h5
 go_enter Tryz.func216,Tryz.ntmps216
 go_wp2
 rw[F.out];exact bodyPost_ret (results_cell_row rfl _ _ w.heap.size 214 _ (0,0) _ rfl (heap_alloc_new w _) Tryz.underlying214 rfl (by kernel_rfl)) rfl ⟨rfl,(Below.refl _ w).alloc (Nat.le_refl _) _⟩
set_option maxHeartbeats 1000000 in
theorem Yxe (inter:Bool)(k:Int)(w:World):Calls Tryz.prog 195 #[.bool inter,.int .i64 k] w fun e w'=>e=.returned (Yoh (Yz6 inter k))∧Below w.heap.size w w':=by
 cases inter with
 |true=>
  obtain⟨a,b,c,d,hl⟩:=Yon k;have hcon:=fun x=>Yqn k x;have F:=Lib.hid (show Yoh (Yz6 true k)=Yoh [a,b,c,d] by rw[←hl];rfl);rw[hl] at hcon
  go_enter Tryz.func195,Tryz.ntmps195
  go_wp2_with fail
  refine(hcon _).mono ?_;rintro e w1 ⟨rfl,hb1⟩;have hh:w1.heap[w.heap.size]? =some (.cells [.string ⟨#[]⟩,.string ⟨#[]⟩,.string ⟨#[]⟩,.string ⟨#[]⟩].toArray 214 (0,0)):=(hb1.block w.heap.size (by simp)).trans (heap_alloc_new w _);have f0:=Yai (o:=0) hh;have f1:=Yai (o:=1) hh;have f2:=Yai (o:=2) hh;have f3:=Yai (o:=3) hh;have c0:w1.cell? ⟨w.heap.size,0,none⟩=some (.string ⟨#[]⟩):=Yab hh rfl
  have c1:w1.cell? ⟨w.heap.size,1,none⟩=some (.string ⟨#[]⟩):=Yab hh rfl;have c2:w1.cell? ⟨w.heap.size,2,none⟩=some (.string ⟨#[]⟩):=Yab hh rfl;have c3:w1.cell? ⟨w.heap.size,3,none⟩=some (.string ⟨#[]⟩):=Yab hh rfl;have e4:Yoh [a,b,c,d]=.agg #[.string a,.string b,.string c,.string d]:=rfl;have hb:Below w.heap.size w w1:=((Below.refl _ w).alloc (Nat.le_refl _) _).trans (hb1.mono (by simp))
  have H4:=Yau (o:=3) (.string d) (Yau (o:=2) (.string c) (Yau (o:=1) (.string b) (Yau (o:=0) (.string a) hh)));rw[e4]
  go_wp2
  exact bodyPost_ret (results_cell_row rfl _ _ w.heap.size 214 _ (0,0) _ rfl H4 Tryz.underlying214 rfl (by kernel_rfl)) rfl ⟨by rw[F.out];rfl,(((hb.setCell (Nat.le_refl _) _).setCell (Nat.le_refl _) _).setCell (Nat.le_refl _) _).setCell (Nat.le_refl _) _⟩
 |false=>
  obtain⟨a,b,c,d,hl⟩:=Yoo k;have hcon:=fun x=>Yqo k x;have F:=Lib.hid (show Yoh (Yz6 false k)=Yoh [a,b,c,d] by rw[←hl];rfl);rw[hl] at hcon
  go_enter Tryz.func195,Tryz.ntmps195
  go_wp2_with fail
  refine(hcon _).mono ?_;rintro e w1 ⟨rfl,hb1⟩;have hh:w1.heap[w.heap.size]? =some (.cells [.string ⟨#[]⟩,.string ⟨#[]⟩,.string ⟨#[]⟩,.string ⟨#[]⟩].toArray 214 (0,0)):=(hb1.block w.heap.size (by simp)).trans (heap_alloc_new w _);have f0:=Yai (o:=0) hh;have f1:=Yai (o:=1) hh;have f2:=Yai (o:=2) hh;have f3:=Yai (o:=3) hh;have c0:w1.cell? ⟨w.heap.size,0,none⟩=some (.string ⟨#[]⟩):=Yab hh rfl
  have c1:w1.cell? ⟨w.heap.size,1,none⟩=some (.string ⟨#[]⟩):=Yab hh rfl;have c2:w1.cell? ⟨w.heap.size,2,none⟩=some (.string ⟨#[]⟩):=Yab hh rfl;have c3:w1.cell? ⟨w.heap.size,3,none⟩=some (.string ⟨#[]⟩):=Yab hh rfl;have e4:Yoh [a,b,c,d]=.agg #[.string a,.string b,.string c,.string d]:=rfl;have hb:Below w.heap.size w w1:=((Below.refl _ w).alloc (Nat.le_refl _) _).trans (hb1.mono (by simp))
  have H4:=Yau (o:=3) (.string d) (Yau (o:=2) (.string c) (Yau (o:=1) (.string b) (Yau (o:=0) (.string a) hh)));rw[e4]
  go_wp2
  exact bodyPost_ret (results_cell_row rfl _ _ w.heap.size 214 _ (0,0) _ rfl H4 Tryz.underlying214 rfl (by kernel_rfl)) rfl ⟨by rw[F.out];rfl,(((hb.setCell (Nat.le_refl _) _).setCell (Nat.le_refl _) _).setCell (Nat.le_refl _) _).setCell (Nat.le_refl _) _⟩
theorem Yoi (a b c d:ByteArray)(w:World):
  (Instr.index 214 (.agg #[.string a,.string b,.string c,.string d]) (.int .i64 0)).run Tryz.prog w=.ok (.string a) w∧
  (Instr.index 214 (.agg #[.string a,.string b,.string c,.string d]) (.int .i64 1)).run Tryz.prog w=.ok (.string b) w∧
  (Instr.index 214 (.agg #[.string a,.string b,.string c,.string d]) (.int .i64 2)).run Tryz.prog w=.ok (.string c) w∧
  (Instr.index 214 (.agg #[.string a,.string b,.string c,.string d]) (.int .i64 3)).run Tryz.prog w=.ok (.string d) w:=
 ⟨by kernel_rfl,by kernel_rfl,by kernel_rfl,by kernel_rfl⟩
def Yby (inter:Bool)(k c:Int):ByteArray:=if 0≤c∧c<4 then (Yz6 inter k)[c.toNat]?.getD ⟨#[]⟩ else ⟨#[]⟩
theorem Yph {inter:Bool}{k c:Int}(h:c<0∨4≤c):Yby inter k c=⟨#[]⟩:=by
 unfold Yby
 rw[if_neg (by omega)]
set_option maxRecDepth 100000 in
set_option maxHeartbeats 1000000 in
theorem Yws (inter:Bool)(k c:Int)(w:World):Calls Tryz.prog 184 #[.bool inter,.int .i64 k,.int .i64 c] w fun e w'=>e=.returned (.tuple #[.string (Yby inter k c),.bool (!(Yby inter k c).data.toList.isEmpty)])∧Below w.heap.size w w':=by
 by_cases h0:c<0
 ·have F:=Lib.hid (Yph (inter:=inter) (k:=k) (.inl h0));have t0:decide (c<0)=true:=by simpa using h0
  clear h0;rw[F.out]
  go_enter Tryz.func184,Tryz.ntmps184
  go_wp2
  go_ret2
  exact⟨rfl,Below.refl _ _⟩
 by_cases h4:4≤c
 ·have F:=Lib.hid (Yph (inter:=inter) (k:=k) (.inr h4));have t0:decide (c<0)=false:=by simpa using h0
  have t1:decide (4≤c)=true:=by simpa using h4
  clear h0 h4;rw[F.out]
  go_enter Tryz.func184,Tryz.ntmps184
  go_wp2
  go_ret2
  exact⟨rfl,Below.refl _ _⟩
 obtain⟨a,b,d,f,hl⟩:=Yr0 inter k;have hcon:=fun x=>Yxe inter k x;have hr:Yby inter k c=[a,b,d,f][c.toNat]?.getD ⟨#[]⟩:=by
  unfold Yby
  rw[if_pos (by omega),hl]
 rw[hl] at hcon;have e4:Yoh [a,b,d,f]=.agg #[.string a,.string b,.string d,.string f]:=rfl;rw[e4] at hcon;clear e4 hl;rcases (by omega:c=0∨c=1∨c=2∨c=3) with rfl|rfl|rfl|rfl
 ·have R:=Lib.hid (show Yby inter k 0=a from hr);have ix:=fun w=>(Yoi a b d f w).1;have E:=Lib.toList_data a;rw[R.out,←E];clear hr h0 h4 E
  go_enter Tryz.func184,Tryz.ntmps184
  go_wp2_with fail
  refine(hcon _).mono ?_;rintro e w1 ⟨rfl,hb1⟩
  go_wp2
  go_ret2
  exact⟨rfl,hb1⟩
 ·have R:=Lib.hid (show Yby inter k 1=b from hr);have ix:=fun w=>(Yoi a b d f w).2.1;have E:=Lib.toList_data b;rw[R.out,←E];clear hr h0 h4 E
  go_enter Tryz.func184,Tryz.ntmps184
  go_wp2_with fail
  refine(hcon _).mono ?_;rintro e w1 ⟨rfl,hb1⟩
  go_wp2
  go_ret2
  exact⟨rfl,hb1⟩
 ·have R:=Lib.hid (show Yby inter k 2=d from hr);have ix:=fun w=>(Yoi a b d f w).2.2.1;have E:=Lib.toList_data d;rw[R.out,←E];clear hr h0 h4 E
  go_enter Tryz.func184,Tryz.ntmps184
  go_wp2_with fail
  refine(hcon _).mono ?_;rintro e w1 ⟨rfl,hb1⟩
  go_wp2
  go_ret2
  exact⟨rfl,hb1⟩
 ·have R:=Lib.hid (show Yby inter k 3=f from hr);have ix:=fun w=>(Yoi a b d f w).2.2.2;have E:=Lib.toList_data f;rw[R.out,←E];clear hr h0 h4 E
  go_enter Tryz.func184,Tryz.ntmps184
  go_wp2_with fail
  refine(hcon _).mono ?_;rintro e w1 ⟨rfl,hb1⟩
  go_wp2
  go_ret2
  exact⟨rfl,hb1⟩
end Go.Proofs.YtjjmalchelniiaaGreatDoor