/- Texts that SheetinMay's proof stands on, part 18 of 52. No condition of its own. -/
import Derived.Test.YtpgdngijmihafaaGreatDoorSheetinMayMa
import Derived.Test.YtpgdngijmihafaaGreatDoorSheetinMayMf
import Derived.WalkKit
import Derived.WalkMore
import Derived.Lib.Strings
namespace Go.Proofs.YtpgdngijmihafaaGreatDoor
open Go.RowKit Go.Lib
def Yk1 (k:Int):List ByteArray:=
 if k=0 then [⟨#[49]⟩,⟨#[48,48,49,49]⟩,⟨#[48,48,49,48]⟩,⟨#[48,48,48,49,48,49]⟩] else
 if k=1 then [⟨#[48,49,49]⟩,⟨#[48,48,48,48,49,49,49]⟩,⟨#[48,48,48,48,49,49,48]⟩,⟨#[48,48,48,48,48,48,49,48,49]⟩] else
 if k=2 then [⟨#[48,49,48]⟩,⟨#[48,48,48,48,49,48,49]⟩,⟨#[48,48,48,48,49,48,48]⟩,⟨#[48,48,48,48,48,49,48,49]⟩] else
 if k=3 then [⟨#[48,48,48,49,49]⟩,⟨#[48,48,48,48,48,49,48,48]⟩,⟨#[48,48,48,48,48,48,49,49]⟩,⟨#[48,48,48,48,48,49,49]⟩] else
 if k=4 then [⟨#[48,48,48,49,48,48]⟩,⟨#[48,48,48,48,48,48,49,48,48]⟩,⟨#[48,48,48,48,48,48,48,49,49]⟩,⟨#[48,48,48,48,48,48,48,49,48]⟩] else
 if k=5 then [⟨#[48,48,48,48,48,48,48,48,49]⟩,⟨#[]⟩,⟨#[]⟩,⟨#[]⟩] else
 [⟨#[]⟩,⟨#[]⟩,⟨#[]⟩,⟨#[]⟩]
def Yk3 (k:Int):List ByteArray:=
 if k=3 then [⟨#[49]⟩,⟨#[48,48,49]⟩,⟨#[48,49,48]⟩,⟨#[48,49,49]⟩] else
 if k=4 then [⟨#[48,48,48,49]⟩,⟨#[48,48,48,48,48,49]⟩,⟨#[48,48,48,48,49,48]⟩,⟨#[48,48,48,48,49,49]⟩] else
 if k=5 then [⟨#[48,48,48,48,48,48,48,48,49]⟩,⟨#[]⟩,⟨#[]⟩,⟨#[]⟩] else
 [⟨#[]⟩,⟨#[]⟩,⟨#[]⟩,⟨#[]⟩]
def Yuh (inter:Bool) (k:Int):List ByteArray:=if inter then Yk1 k else Yk3 k
def Yl9 (l:List ByteArray):Value:=.agg (l.map Value.string).toArray
theorem Yk2 (k:Int):∃a b c d,Yk1 k = [a,b,c,d]:=by
 unfold Yk1
 repeat' split
 all_goals exact ⟨_,_,_,_,rfl⟩
theorem Yk4 (k:Int):∃a b c d,Yk3 k = [a,b,c,d]:=by
 unfold Yk3
 repeat' split
 all_goals exact ⟨_,_,_,_,rfl⟩
theorem Yyj (inter:Bool) (k:Int):∃a b c d,Yuh inter k = [a,b,c,d]:=by
 cases inter
 ·exact Yk4 k
 ·exact Yk2 k
set_option maxHeartbeats 2000000 in
theorem Yma (k:Int) (w:World):Calls Tryz.prog 198 #[.int .i64 k] w fun e w'=> e = .returned (Yl9 (Yk1 k))∧Below w.heap.size w w':=by
 by_cases h0:k=0
 ·subst h0
  go_enter Tryz.func198,Tryz.ntmps198
  go_wp2
  exact bodyPost_ret (results_cell_row rfl _ _ w.heap.size 234 _ (0,0) _ rfl (heap_alloc_new w _) Tryz.underlying234 rfl (by kernel_rfl)) rfl ⟨rfl,(Below.refl _ w).alloc (Nat.le_refl _) _⟩
 have g0:(k==0)=false:=by rw [beq_eq_false_iff_ne];exact h0
 by_cases h1:k=1
 ·subst h1
  go_enter Tryz.func198,Tryz.ntmps198
  go_wp2
  exact bodyPost_ret (results_cell_row rfl _ _ w.heap.size 234 _ (0,0) _ rfl (heap_alloc_new w _) Tryz.underlying234 rfl (by kernel_rfl)) rfl ⟨rfl,(Below.refl _ w).alloc (Nat.le_refl _) _⟩
 have g1:(k==1)=false:=by rw [beq_eq_false_iff_ne];exact h1
 by_cases h2:k=2
 ·subst h2
  go_enter Tryz.func198,Tryz.ntmps198
  go_wp2
  exact bodyPost_ret (results_cell_row rfl _ _ w.heap.size 234 _ (0,0) _ rfl (heap_alloc_new w _) Tryz.underlying234 rfl (by kernel_rfl)) rfl ⟨rfl,(Below.refl _ w).alloc (Nat.le_refl _) _⟩
 have g2:(k==2)=false:=by rw [beq_eq_false_iff_ne];exact h2
 by_cases h3:k=3
 ·subst h3
  go_enter Tryz.func198,Tryz.ntmps198
  go_wp2
  exact bodyPost_ret (results_cell_row rfl _ _ w.heap.size 234 _ (0,0) _ rfl (heap_alloc_new w _) Tryz.underlying234 rfl (by kernel_rfl)) rfl ⟨rfl,(Below.refl _ w).alloc (Nat.le_refl _) _⟩
 have g3:(k==3)=false:=by rw [beq_eq_false_iff_ne];exact h3
 by_cases h4:k=4
 ·subst h4
  go_enter Tryz.func198,Tryz.ntmps198
  go_wp2
  exact bodyPost_ret (results_cell_row rfl _ _ w.heap.size 234 _ (0,0) _ rfl (heap_alloc_new w _) Tryz.underlying234 rfl (by kernel_rfl)) rfl ⟨rfl,(Below.refl _ w).alloc (Nat.le_refl _) _⟩
 have g4:(k==4)=false:=by rw [beq_eq_false_iff_ne];exact h4
 by_cases h5:k=5
 ·subst h5
  go_enter Tryz.func198,Tryz.ntmps198
  go_wp2
  exact bodyPost_ret (results_cell_row rfl _ _ w.heap.size 234 _ (0,0) _ rfl (heap_alloc_new w _) Tryz.underlying234 rfl (by kernel_rfl)) rfl ⟨rfl,(Below.refl _ w).alloc (Nat.le_refl _) _⟩
 have g5:(k==5)=false:=by rw [beq_eq_false_iff_ne];exact h5
 have F:=Lib.hid (show Yk1 k = [⟨#[]⟩,⟨#[]⟩,⟨#[]⟩,⟨#[]⟩] by unfold Yk1;simp only [h0,h1,h2,h3,h4,h5,if_false])
 clear h0 h1 h2 h3 h4 h5
 go_enter Tryz.func198,Tryz.ntmps198
 go_wp2
 rw [F.out]
 exact bodyPost_ret (results_cell_row rfl _ _ w.heap.size 234 _ (0,0) _ rfl (heap_alloc_new w _) Tryz.underlying234 rfl (by kernel_rfl)) rfl ⟨rfl,(Below.refl _ w).alloc (Nat.le_refl _) _⟩
set_option maxHeartbeats 2000000 in
theorem Ymb (k:Int) (w:World):Calls Tryz.prog 199 #[.int .i64 k] w fun e w'=> e = .returned (Yl9 (Yk3 k))∧Below w.heap.size w w':=by
 by_cases h3:k=3
 ·subst h3
  go_enter Tryz.func199,Tryz.ntmps199
  go_wp2
  exact bodyPost_ret (results_cell_row rfl _ _ w.heap.size 234 _ (0,0) _ rfl (heap_alloc_new w _) Tryz.underlying234 rfl (by kernel_rfl)) rfl ⟨rfl,(Below.refl _ w).alloc (Nat.le_refl _) _⟩
 have g3:(k==3)=false:=by rw [beq_eq_false_iff_ne];exact h3
 by_cases h4:k=4
 ·subst h4
  go_enter Tryz.func199,Tryz.ntmps199
  go_wp2
  exact bodyPost_ret (results_cell_row rfl _ _ w.heap.size 234 _ (0,0) _ rfl (heap_alloc_new w _) Tryz.underlying234 rfl (by kernel_rfl)) rfl ⟨rfl,(Below.refl _ w).alloc (Nat.le_refl _) _⟩
 have g4:(k==4)=false:=by rw [beq_eq_false_iff_ne];exact h4
 by_cases h5:k=5
 ·subst h5
  go_enter Tryz.func199,Tryz.ntmps199
  go_wp2
  exact bodyPost_ret (results_cell_row rfl _ _ w.heap.size 234 _ (0,0) _ rfl (heap_alloc_new w _) Tryz.underlying234 rfl (by kernel_rfl)) rfl ⟨rfl,(Below.refl _ w).alloc (Nat.le_refl _) _⟩
 have g5:(k==5)=false:=by rw [beq_eq_false_iff_ne];exact h5
 have F:=Lib.hid (show Yk3 k = [⟨#[]⟩,⟨#[]⟩,⟨#[]⟩,⟨#[]⟩] by unfold Yk3;simp only [h3,h4,h5,if_false])
 clear h3 h4 h5
 go_enter Tryz.func199,Tryz.ntmps199
 go_wp2
 rw [F.out]
 exact bodyPost_ret (results_cell_row rfl _ _ w.heap.size 234 _ (0,0) _ rfl (heap_alloc_new w _) Tryz.underlying234 rfl (by kernel_rfl)) rfl ⟨rfl,(Below.refl _ w).alloc (Nat.le_refl _) _⟩
set_option maxHeartbeats 1000000 in
theorem Y2s (inter:Bool) (k:Int) (w:World):Calls Tryz.prog 182 #[.bool inter,.int .i64 k] w fun e w'=> e = .returned (Yl9 (Yuh inter k))∧Below w.heap.size w w':=by
 cases inter with
 | true=>
  obtain ⟨a,b,c,d,hl⟩:=Yk2 k
  have hcon:=fun x=> Yma k x
  have F:=Lib.hid (show Yl9 (Yuh true k)=Yl9 [a,b,c,d] by rw [←hl];rfl)
  rw [hl] at hcon
  go_enter Tryz.func182,Tryz.ntmps182
  go_wp2_with fail
  refine (hcon _).mono ?_
  rintro e w1 ⟨rfl,hb1⟩
  have hh:w1.heap[w.heap.size]? = some (.cells [.string ⟨#[]⟩,.string ⟨#[]⟩,.string ⟨#[]⟩,.string ⟨#[]⟩].toArray 234 (0,0)):=(hb1.block w.heap.size (by simp)).trans (heap_alloc_new w _)
  have f0:=Yaj (o:=0) hh
  have f1:=Yaj (o:=1) hh
  have f2:=Yaj (o:=2) hh
  have f3:=Yaj (o:=3) hh
  have c0:w1.cell? ⟨w.heap.size,0,none⟩=some (.string ⟨#[]⟩):=Yaa hh rfl
  have c1:w1.cell? ⟨w.heap.size,1,none⟩=some (.string ⟨#[]⟩):=Yaa hh rfl
  have c2:w1.cell? ⟨w.heap.size,2,none⟩=some (.string ⟨#[]⟩):=Yaa hh rfl
  have c3:w1.cell? ⟨w.heap.size,3,none⟩=some (.string ⟨#[]⟩):=Yaa hh rfl
  have e4:Yl9 [a,b,c,d] = .agg #[.string a,.string b,.string c,.string d]:=rfl
  have hb:Below w.heap.size w w1:=((Below.refl _ w).alloc (Nat.le_refl _) _).trans (hb1.mono (by simp))
  have H4:=Yas (o:=3) (.string d) (Yas (o:=2) (.string c) (Yas (o:=1) (.string b) (Yas (o:=0) (.string a) hh)))
  rw [e4]
  go_wp2
  exact bodyPost_ret (results_cell_row rfl _ _ w.heap.size 234 _ (0,0) _ rfl H4 Tryz.underlying234 rfl (by kernel_rfl)) rfl ⟨by rw [F.out];rfl,(((hb.setCell (Nat.le_refl _) _).setCell (Nat.le_refl _) _).setCell (Nat.le_refl _) _).setCell (Nat.le_refl _) _⟩
 | false=>
  obtain ⟨a,b,c,d,hl⟩:=Yk4 k
  have hcon:=fun x=> Ymb k x
  have F:=Lib.hid (show Yl9 (Yuh false k)=Yl9 [a,b,c,d] by rw [←hl];rfl)
  rw [hl] at hcon
  go_enter Tryz.func182,Tryz.ntmps182
  go_wp2_with fail
  refine (hcon _).mono ?_
  rintro e w1 ⟨rfl,hb1⟩
  have hh:w1.heap[w.heap.size]? = some (.cells [.string ⟨#[]⟩,.string ⟨#[]⟩,.string ⟨#[]⟩,.string ⟨#[]⟩].toArray 234 (0,0)):=(hb1.block w.heap.size (by simp)).trans (heap_alloc_new w _)
  have f0:=Yaj (o:=0) hh
  have f1:=Yaj (o:=1) hh
  have f2:=Yaj (o:=2) hh
  have f3:=Yaj (o:=3) hh
  have c0:w1.cell? ⟨w.heap.size,0,none⟩=some (.string ⟨#[]⟩):=Yaa hh rfl
  have c1:w1.cell? ⟨w.heap.size,1,none⟩=some (.string ⟨#[]⟩):=Yaa hh rfl
  have c2:w1.cell? ⟨w.heap.size,2,none⟩=some (.string ⟨#[]⟩):=Yaa hh rfl
  have c3:w1.cell? ⟨w.heap.size,3,none⟩=some (.string ⟨#[]⟩):=Yaa hh rfl
  have e4:Yl9 [a,b,c,d] = .agg #[.string a,.string b,.string c,.string d]:=rfl
  have hb:Below w.heap.size w w1:=((Below.refl _ w).alloc (Nat.le_refl _) _).trans (hb1.mono (by simp))
  have H4:=Yas (o:=3) (.string d) (Yas (o:=2) (.string c) (Yas (o:=1) (.string b) (Yas (o:=0) (.string a) hh)))
  rw [e4]
  go_wp2
  exact bodyPost_ret (results_cell_row rfl _ _ w.heap.size 234 _ (0,0) _ rfl H4 Tryz.underlying234 rfl (by kernel_rfl)) rfl ⟨by rw [F.out];rfl,(((hb.setCell (Nat.le_refl _) _).setCell (Nat.le_refl _) _).setCell (Nat.le_refl _) _).setCell (Nat.le_refl _) _⟩
theorem Y8w (a b c d:ByteArray) (w:World):
  (Instr.index 234 (.agg #[.string a,.string b,.string c,.string d]) (.int .i64 0)).run Tryz.prog w = .ok (.string a) w∧
  (Instr.index 234 (.agg #[.string a,.string b,.string c,.string d]) (.int .i64 1)).run Tryz.prog w = .ok (.string b) w∧
  (Instr.index 234 (.agg #[.string a,.string b,.string c,.string d]) (.int .i64 2)).run Tryz.prog w = .ok (.string c) w∧
  (Instr.index 234 (.agg #[.string a,.string b,.string c,.string d]) (.int .i64 3)).run Tryz.prog w = .ok (.string d) w:=
 ⟨by kernel_rfl,by kernel_rfl,by kernel_rfl,by kernel_rfl⟩
def Ydm (inter:Bool) (k c:Int):ByteArray:=if 0≤c∧c<4 then (Yuh inter k)[c.toNat]?.getD ⟨#[]⟩ else ⟨#[]⟩
theorem Y2j {inter:Bool} {k c:Int} (h:c<0∨4≤c):Ydm inter k c=⟨#[]⟩:=by
 unfold Ydm
 rw [if_neg (by omega)]
end Go.Proofs.YtpgdngijmihafaaGreatDoor