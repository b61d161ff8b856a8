/- StripsWrites, 17. No condition. -/
import Derived.Test.YtjjmalchelniiaaGreatDoorStripsWritesMb
import Derived.Test.YtjjmalchelniiaaGreatDoorStripsWritesMg
import Derived.Lib.Strings
open Go.Proofs.Tryz
set_option maxHeartbeats 2000000
namespace Go.Proofs.YtjjmalchelniiaaGreatDoor
open Go.RowKit Go.Lib
abbrev J5:=@bodyPost_ret
abbrev J6:=@results_cell_row
abbrev J7:=@Lib.toList_data
abbrev J8:=@underlying214
abbrev J9:=@if_false
abbrev Ja:=@ntmps215
abbrev Jb:=@ntmps184
abbrev Jc:=@func215
def LH (k:Int):List ByteArray:=
 if k=0 then [⟨#[49]⟩,⟨#[48,48,49,49]⟩,⟨#[48,48,49,48]⟩,⟨#[48,48,48,49,48,49]⟩] else
 if k=1 then [⟨#[48,49,49]⟩,⟨#[48,48,48,48,49,49,49]⟩,⟨#[48,48,48,48,49,49,48]⟩,⟨#[48,48,48,48,48,48,49,48,49]⟩] else
 if k=2 then [⟨#[48,49,48]⟩,⟨#[48,48,48,48,49,48,49]⟩,⟨#[48,48,48,48,49,48,48]⟩,⟨#[48,48,48,48,48,49,48,49]⟩] else
 if k=3 then [⟨#[48,48,48,49,49]⟩,⟨#[48,48,48,48,48,49,48,48]⟩,⟨#[48,48,48,48,48,48,49,49]⟩,⟨#[48,48,48,48,48,49,49]⟩] else
 if k=4 then [⟨#[48,48,48,49,48,48]⟩,⟨#[48,48,48,48,48,48,49,48,48]⟩,⟨#[48,48,48,48,48,48,48,49,49]⟩,⟨#[48,48,48,48,48,48,48,49,48]⟩] else
 if k=5 then [⟨#[48,48,48,48,48,48,48,48,49]⟩,⟨#[]⟩,⟨#[]⟩,⟨#[]⟩] else
 [⟨#[]⟩,⟨#[]⟩,⟨#[]⟩,⟨#[]⟩]
def L3 (k:Int):List ByteArray:=
 if k=3 then [⟨#[49]⟩,⟨#[48,48,49]⟩,⟨#[48,49,48]⟩,⟨#[48,49,49]⟩] else
 if k=4 then [⟨#[48,48,48,49]⟩,⟨#[48,48,48,48,48,49]⟩,⟨#[48,48,48,48,49,48]⟩,⟨#[48,48,48,48,49,49]⟩] else
 if k=5 then [⟨#[48,48,48,48,48,48,48,48,49]⟩,⟨#[]⟩,⟨#[]⟩,⟨#[]⟩] else
 [⟨#[]⟩,⟨#[]⟩,⟨#[]⟩,⟨#[]⟩]
def NB (inter:Bool)(k:Int):List ByteArray:=if inter then LH k else L3 k
def JY (l:List ByteArray):Value:=.agg (l.map Value.string).toArray
theorem Ve (k:Int):∃a b c d,LH k=[a,b,c,d]:=by
 unfold LH
 repeat' split
 all_goals exact⟨_,_,_,_,rfl⟩
theorem Zy (k:Int):∃a b c d,L3 k=[a,b,c,d]:=by
 unfold L3
 repeat' split
 all_goals exact⟨_,_,_,_,rfl⟩
theorem aS (inter:Bool)(k:Int):∃a b c d,NB inter k=[a,b,c,d]:=by
 cases inter
 ·exact Zy k
 ·exact Ve k
theorem sP (k:Int)(w:World):Calls prog 215 #[.int .i64 k] w fun e c=>e=.returned (JY (LH k))/\Below w.heap.size w c:=by
 by_cases a:k=0
 ·subst a
  go_enter Jc,Ja
  go_wp2
  exact J5 (J6 rfl _ _ w.heap.size 214 _ (0,0) _ rfl (heap_alloc_new w _) J8 rfl (by kernel_rfl)) rfl ⟨rfl,(Dq _ w).alloc (Ba _) _⟩
 have d:(k==0)=false:=by rw[Fg];exact a
 by_cases h1:k=1
 ·subst h1
  go_enter Jc,Ja
  go_wp2
  exact J5 (J6 rfl _ _ w.heap.size 214 _ (0,0) _ rfl (heap_alloc_new w _) J8 rfl (by kernel_rfl)) rfl ⟨rfl,(Dq _ w).alloc (Ba _) _⟩
 have f:(k==1)=false:=by rw[Fg];exact h1
 by_cases h2:k=2
 ·subst h2
  go_enter Jc,Ja
  go_wp2
  exact J5 (J6 rfl _ _ w.heap.size 214 _ (0,0) _ rfl (heap_alloc_new w _) J8 rfl (by kernel_rfl)) rfl ⟨rfl,(Dq _ w).alloc (Ba _) _⟩
 have g:(k==2)=false:=by rw[Fg];exact h2
 by_cases h3:k=3
 ·subst h3
  go_enter Jc,Ja
  go_wp2
  exact J5 (J6 rfl _ _ w.heap.size 214 _ (0,0) _ rfl (heap_alloc_new w _) J8 rfl (by kernel_rfl)) rfl ⟨rfl,(Dq _ w).alloc (Ba _) _⟩
 have h:(k==3)=false:=by rw[Fg];exact h3
 by_cases h4:k=4
 ·subst h4
  go_enter Jc,Ja
  go_wp2
  exact J5 (J6 rfl _ _ w.heap.size 214 _ (0,0) _ rfl (heap_alloc_new w _) J8 rfl (by kernel_rfl)) rfl ⟨rfl,(Dq _ w).alloc (Ba _) _⟩
 have i:(k==4)=false:=by rw[Fg];exact h4
 by_cases b:k=5
 ·subst b
  go_enter Jc,Ja
  go_wp2
  exact J5 (J6 rfl _ _ w.heap.size 214 _ (0,0) _ rfl (heap_alloc_new w _) J8 rfl (by kernel_rfl)) rfl ⟨rfl,(Dq _ w).alloc (Ba _) _⟩
 have j:(k==5)=false:=by rw[Fg];exact b
 have F:=Dp (show LH k=[⟨#[]⟩,⟨#[]⟩,⟨#[]⟩,⟨#[]⟩] by unfold LH;simp only[a,h1,h2,h3,h4,b,J9]);clear a h1 h2 h3 h4 b
 go_enter Jc,Ja
 go_wp2
 rw[F.out];exact J5 (J6 rfl _ _ w.heap.size 214 _ (0,0) _ rfl (heap_alloc_new w _) J8 rfl (by kernel_rfl)) rfl ⟨rfl,(Dq _ w).alloc (Ba _) _⟩
theorem lH (k:Int)(w:World):Calls prog 216 #[.int .i64 k] w fun e b=>e=.returned (JY (L3 k))/\Below w.heap.size w b:=by
 by_cases h3:k=3
 ·subst h3
  go_enter func216,ntmps216
  go_wp2
  exact J5 (J6 rfl _ _ w.heap.size 214 _ (0,0) _ rfl (heap_alloc_new w _) J8 rfl (by kernel_rfl)) rfl ⟨rfl,(Dq _ w).alloc (Ba _) _⟩
 have c:(k==3)=false:=by rw[Fg];exact h3
 by_cases h4:k=4
 ·subst h4
  go_enter func216,ntmps216
  go_wp2
  exact J5 (J6 rfl _ _ w.heap.size 214 _ (0,0) _ rfl (heap_alloc_new w _) J8 rfl (by kernel_rfl)) rfl ⟨rfl,(Dq _ w).alloc (Ba _) _⟩
 have d:(k==4)=false:=by rw[Fg];exact h4
 by_cases a:k=5
 ·subst a
  go_enter func216,ntmps216
  go_wp2
  exact J5 (J6 rfl _ _ w.heap.size 214 _ (0,0) _ rfl (heap_alloc_new w _) J8 rfl (by kernel_rfl)) rfl ⟨rfl,(Dq _ w).alloc (Ba _) _⟩
 have f:(k==5)=false:=by rw[Fg];exact a
 have F:=Dp (show L3 k=[⟨#[]⟩,⟨#[]⟩,⟨#[]⟩,⟨#[]⟩] by unfold L3;simp only[h3,h4,a,J9]);clear h3 h4 a
 go_enter func216,ntmps216
 go_wp2
 rw[F.out];exact J5 (J6 rfl _ _ w.heap.size 214 _ (0,0) _ rfl (heap_alloc_new w _) J8 rfl (by kernel_rfl)) rfl ⟨rfl,(Dq _ w).alloc (Ba _) _⟩
theorem Wt (inter:Bool)(k:Int)(w:World):Calls prog 195 #[.bool inter,.int .i64 k] w fun e n=>e=.returned (JY (NB inter k))/\Below w.heap.size w n:=by
 cases inter with
 |true=>
  obtain⟨a,b,c,d,hl⟩:=Ve k;have g:=fun x=>sP k x;have F:=Dp (show JY (NB true k)=JY [a,b,c,d] by rw[<-hl];rfl);rw[hl] at g
  go_enter func195,ntmps195
  go_wp2_with fail
  refine(g _).mono ?_;rintro e h ⟨rfl,i⟩;have f:h.heap[w.heap.size]? =some (.cells [.string ⟨#[]⟩,.string ⟨#[]⟩,.string ⟨#[]⟩,.string ⟨#[]⟩].toArray 214 (0,0)):=(i.block w.heap.size (by simp)).trans (heap_alloc_new w _);have f0:=AZ (o:=0) f;have f1:=AZ (o:=1) f;have f2:=AZ (o:=2) f;have f3:=AZ (o:=3) f;have p:h.cell? ⟨w.heap.size,0,none⟩=some (.string ⟨#[]⟩):=AA f rfl
  have c1:h.cell? ⟨w.heap.size,1,none⟩=some (.string ⟨#[]⟩):=AA f rfl;have c2:h.cell? ⟨w.heap.size,2,none⟩=some (.string ⟨#[]⟩):=AA f rfl;have c3:h.cell? ⟨w.heap.size,3,none⟩=some (.string ⟨#[]⟩):=AA f rfl;have j:JY [a,b,c,d]=.agg #[.string a,.string b,.string c,.string d]:=rfl;have l:Below w.heap.size w h:=((Dq _ w).alloc (Ba _) _).trans (i.mono (by simp))
  have m:=BF (o:=3) (.string d) (BF (o:=2) (.string c) (BF (o:=1) (.string b) (BF (o:=0) (.string a) f)));rw[j]
  go_wp2
  exact J5 (J6 rfl _ _ w.heap.size 214 _ (0,0) _ rfl m J8 rfl (by kernel_rfl)) rfl ⟨by rw[F.out];rfl,(((l.setCell (Ba _) _).setCell (Ba _) _).setCell (Ba _) _).setCell (Ba _) _⟩
 |false=>
  obtain⟨a,b,c,d,hl⟩:=Zy k;have g:=fun x=>lH k x;have F:=Dp (show JY (NB false k)=JY [a,b,c,d] by rw[<-hl];rfl);rw[hl] at g
  go_enter func195,ntmps195
  go_wp2_with fail
  refine(g _).mono ?_;rintro e h ⟨rfl,i⟩;have f:h.heap[w.heap.size]? =some (.cells [.string ⟨#[]⟩,.string ⟨#[]⟩,.string ⟨#[]⟩,.string ⟨#[]⟩].toArray 214 (0,0)):=(i.block w.heap.size (by simp)).trans (heap_alloc_new w _);have f0:=AZ (o:=0) f;have f1:=AZ (o:=1) f;have f2:=AZ (o:=2) f;have f3:=AZ (o:=3) f;have p:h.cell? ⟨w.heap.size,0,none⟩=some (.string ⟨#[]⟩):=AA f rfl
  have c1:h.cell? ⟨w.heap.size,1,none⟩=some (.string ⟨#[]⟩):=AA f rfl;have c2:h.cell? ⟨w.heap.size,2,none⟩=some (.string ⟨#[]⟩):=AA f rfl;have c3:h.cell? ⟨w.heap.size,3,none⟩=some (.string ⟨#[]⟩):=AA f rfl;have j:JY [a,b,c,d]=.agg #[.string a,.string b,.string c,.string d]:=rfl;have l:Below w.heap.size w h:=((Dq _ w).alloc (Ba _) _).trans (i.mono (by simp))
  have m:=BF (o:=3) (.string d) (BF (o:=2) (.string c) (BF (o:=1) (.string b) (BF (o:=0) (.string a) f)));rw[j]
  go_wp2
  exact J5 (J6 rfl _ _ w.heap.size 214 _ (0,0) _ rfl m J8 rfl (by kernel_rfl)) rfl ⟨by rw[F.out];rfl,(((l.setCell (Ba _) _).setCell (Ba _) _).setCell (Ba _) _).setCell (Ba _) _⟩
theorem Qp (a b c d:ByteArray)(w:World):
  (Instr.index 214 (.agg #[.string a,.string b,.string c,.string d]) (.int .i64 0)).run prog w=.ok (.string a) w/\
  (Instr.index 214 (.agg #[.string a,.string b,.string c,.string d]) (.int .i64 1)).run prog w=.ok (.string b) w/\
  (Instr.index 214 (.agg #[.string a,.string b,.string c,.string d]) (.int .i64 2)).run prog w=.ok (.string c) w/\
  (Instr.index 214 (.agg #[.string a,.string b,.string c,.string d]) (.int .i64 3)).run prog w=.ok (.string d) w:=
 ⟨by kernel_rfl,by kernel_rfl,by kernel_rfl,by kernel_rfl⟩
def AY (inter:Bool)(k c:Int):ByteArray:=if 0<=c/\c<4 then (NB inter k)[c.toNat]?.getD ⟨#[]⟩ else ⟨#[]⟩
theorem TU {inter:Bool}{k c:Int}(h:c<0\/4<=c):AY inter k c=⟨#[]⟩:=by
 unfold AY;rw[Bb (by omega)]
set_option maxRecDepth 100000 in
theorem WI (inter:Bool)(k c:Int)(w:World):Calls prog 184 #[.bool inter,.int .i64 k,.int .i64 c] w fun e n=>e=.returned (.tuple #[.string (AY inter k c),.bool (!(AY inter k c).data.toList.isEmpty)])/\Below w.heap.size w n:=by
 by_cases i:c<0
 ·have F:=Dp (TU (inter:=inter) (k:=k) (.inl i));have t0:decide (c<0)=true:=by simpa using i
  clear i;rw[F.out]
  go_enter func184,Jb
  go_wp2
  go_ret2
  exact⟨rfl,Dq _ _⟩
 by_cases h4:4<=c
 ·have F:=Dp (TU (inter:=inter) (k:=k) (.inr h4));have t0:decide (c<0)=false:=by simpa using i
  have t1:decide (4<=c)=true:=by simpa using h4
  clear i h4;rw[F.out]
  go_enter func184,Jb
  go_wp2
  go_ret2
  exact⟨rfl,Dq _ _⟩
 obtain⟨a,b,d,f,hl⟩:=aS inter k;have g:=fun x=>Wt inter k x;have hr:AY inter k c=[a,b,d,f][c.toNat]?.getD ⟨#[]⟩:=by
  unfold AY;rw[Bc (by omega),hl]
 rw[hl] at g;have m:JY [a,b,d,f]=.agg #[.string a,.string b,.string d,.string f]:=rfl;rw[m] at g;clear m hl;rcases (by omega:c=0\/c=1\/c=2\/c=3) with rfl|rfl|rfl|rfl
 ·have R:=Dp (show AY inter k 0=a from hr);have j:=fun w=>(Qp a b d f w).1;have E:=J7 a;rw[R.out,<-E];clear hr i h4 E
  go_enter func184,Jb
  go_wp2_with fail
  refine(g _).mono ?_;rintro e l ⟨rfl,h⟩
  go_wp2
  go_ret2
  exact⟨rfl,h⟩
 ·have R:=Dp (show AY inter k 1=b from hr);have j:=fun w=>(Qp a b d f w).2.1;have E:=J7 b;rw[R.out,<-E];clear hr i h4 E
  go_enter func184,Jb
  go_wp2_with fail
  refine(g _).mono ?_;rintro e l ⟨rfl,h⟩
  go_wp2
  go_ret2
  exact⟨rfl,h⟩
 ·have R:=Dp (show AY inter k 2=d from hr);have j:=fun w=>(Qp a b d f w).2.2.1;have E:=J7 d;rw[R.out,<-E];clear hr i h4 E
  go_enter func184,Jb
  go_wp2_with fail
  refine(g _).mono ?_;rintro e l ⟨rfl,h⟩
  go_wp2
  go_ret2
  exact⟨rfl,h⟩
 ·have R:=Dp (show AY inter k 3=f from hr);have j:=fun w=>(Qp a b d f w).2.2.2;have E:=J7 f;rw[R.out,<-E];clear hr i h4 E
  go_enter func184,Jb
  go_wp2_with fail
  refine(g _).mono ?_;rintro e l ⟨rfl,h⟩
  go_wp2
  go_ret2
  exact⟨rfl,h⟩
end Go.Proofs.YtjjmalchelniiaaGreatDoor