/- StripsChecks, 19. No condition. -/
import Derived.Test.YtjjmalchelniiaaGreatDoorStripsChecksMb
import Derived.Test.YtjjmalchelniiaaGreatDoorStripsChecksMg
import Derived.Lib.Strings
open Go.Proofs.Tryz
set_option maxHeartbeats 2000000
namespace Go.Proofs.YtjjmalchelniiaaGreatDoor
open Go.RowKit Go.Lib
abbrev J7:=@bodyPost_ret
abbrev J8:=@results_cell_row
abbrev J9:=@Lib.toList_data
abbrev Ja:=@underlying214
abbrev Jb:=@if_false
abbrev Jc:=@ntmps215
abbrev Jd:=@ntmps184
abbrev Je:=@func215
def KN (k:Int):List ByteArray:=
 if k=0 then [⟨#[49]⟩,⟨#[48,48,49,49]⟩,⟨#[48,48,49,48]⟩,⟨#[48,48,48,49,48,49]⟩] else
 if k=1 then [⟨#[48,49,49]⟩,⟨#[48,48,48,48,49,49,49]⟩,⟨#[48,48,48,48,49,49,48]⟩,⟨#[48,48,48,48,48,48,49,48,49]⟩] else
 if k=2 then [⟨#[48,49,48]⟩,⟨#[48,48,48,48,49,48,49]⟩,⟨#[48,48,48,48,49,48,48]⟩,⟨#[48,48,48,48,48,49,48,49]⟩] else
 if k=3 then [⟨#[48,48,48,49,49]⟩,⟨#[48,48,48,48,48,49,48,48]⟩,⟨#[48,48,48,48,48,48,49,49]⟩,⟨#[48,48,48,48,48,49,49]⟩] else
 if k=4 then [⟨#[48,48,48,49,48,48]⟩,⟨#[48,48,48,48,48,48,49,48,48]⟩,⟨#[48,48,48,48,48,48,48,49,49]⟩,⟨#[48,48,48,48,48,48,48,49,48]⟩] else
 if k=5 then [⟨#[48,48,48,48,48,48,48,48,49]⟩,⟨#[]⟩,⟨#[]⟩,⟨#[]⟩] else
 [⟨#[]⟩,⟨#[]⟩,⟨#[]⟩,⟨#[]⟩]
def KL (k:Int):List ByteArray:=
 if k=3 then [⟨#[49]⟩,⟨#[48,48,49]⟩,⟨#[48,49,48]⟩,⟨#[48,49,49]⟩] else
 if k=4 then [⟨#[48,48,48,49]⟩,⟨#[48,48,48,48,48,49]⟩,⟨#[48,48,48,48,49,48]⟩,⟨#[48,48,48,48,49,49]⟩] else
 if k=5 then [⟨#[48,48,48,48,48,48,48,48,49]⟩,⟨#[]⟩,⟨#[]⟩,⟨#[]⟩] else
 [⟨#[]⟩,⟨#[]⟩,⟨#[]⟩,⟨#[]⟩]
def MH (inter:Bool)(k:Int):List ByteArray:=if inter then KN k else KL k
def JE (l:List ByteArray):Value:=.agg (l.map Value.string).toArray
theorem V4 (k:Int):∃a b c d,KN k=[a,b,c,d]:=by
 unfold KN
 repeat' split
 all_goals exact⟨_,_,_,_,rfl⟩
theorem Yi (k:Int):∃a b c d,KL k=[a,b,c,d]:=by
 unfold KL
 repeat' split
 all_goals exact⟨_,_,_,_,rfl⟩
theorem Uq (inter:Bool)(k:Int):∃a b c d,MH inter k=[a,b,c,d]:=by
 cases inter
 ·exact Yi k
 ·exact V4 k
theorem oP (k:Int)(w:World):Calls prog 215 #[.int .i64 k] w fun e c=>e=.returned (JE (KN k))/\Below w.heap.size w c:=by
 by_cases a:k=0
 ·subst a
  go_enter Je,Jc
  go_wp2
  exact J7 (J8 rfl _ _ w.heap.size 214 _ (0,0) _ rfl (heap_alloc_new w _) Ja rfl (by kernel_rfl)) rfl ⟨rfl,(Dm _ w).alloc (Ba _) _⟩
 have d:(k==0)=false:=by rw[Ez];exact a
 by_cases h1:k=1
 ·subst h1
  go_enter Je,Jc
  go_wp2
  exact J7 (J8 rfl _ _ w.heap.size 214 _ (0,0) _ rfl (heap_alloc_new w _) Ja rfl (by kernel_rfl)) rfl ⟨rfl,(Dm _ w).alloc (Ba _) _⟩
 have f:(k==1)=false:=by rw[Ez];exact h1
 by_cases h2:k=2
 ·subst h2
  go_enter Je,Jc
  go_wp2
  exact J7 (J8 rfl _ _ w.heap.size 214 _ (0,0) _ rfl (heap_alloc_new w _) Ja rfl (by kernel_rfl)) rfl ⟨rfl,(Dm _ w).alloc (Ba _) _⟩
 have g:(k==2)=false:=by rw[Ez];exact h2
 by_cases h3:k=3
 ·subst h3
  go_enter Je,Jc
  go_wp2
  exact J7 (J8 rfl _ _ w.heap.size 214 _ (0,0) _ rfl (heap_alloc_new w _) Ja rfl (by kernel_rfl)) rfl ⟨rfl,(Dm _ w).alloc (Ba _) _⟩
 have h:(k==3)=false:=by rw[Ez];exact h3
 by_cases h4:k=4
 ·subst h4
  go_enter Je,Jc
  go_wp2
  exact J7 (J8 rfl _ _ w.heap.size 214 _ (0,0) _ rfl (heap_alloc_new w _) Ja rfl (by kernel_rfl)) rfl ⟨rfl,(Dm _ w).alloc (Ba _) _⟩
 have i:(k==4)=false:=by rw[Ez];exact h4
 by_cases b:k=5
 ·subst b
  go_enter Je,Jc
  go_wp2
  exact J7 (J8 rfl _ _ w.heap.size 214 _ (0,0) _ rfl (heap_alloc_new w _) Ja rfl (by kernel_rfl)) rfl ⟨rfl,(Dm _ w).alloc (Ba _) _⟩
 have j:(k==5)=false:=by rw[Ez];exact b
 have F:=Dl (show KN k=[⟨#[]⟩,⟨#[]⟩,⟨#[]⟩,⟨#[]⟩] by unfold KN;simp only[a,h1,h2,h3,h4,b,Jb]);clear a h1 h2 h3 h4 b
 go_enter Je,Jc
 go_wp2
 rw[F.out];exact J7 (J8 rfl _ _ w.heap.size 214 _ (0,0) _ rfl (heap_alloc_new w _) Ja rfl (by kernel_rfl)) rfl ⟨rfl,(Dm _ w).alloc (Ba _) _⟩
theorem nT (k:Int)(w:World):Calls prog 216 #[.int .i64 k] w fun e b=>e=.returned (JE (KL k))/\Below w.heap.size w b:=by
 by_cases h3:k=3
 ·subst h3
  go_enter func216,ntmps216
  go_wp2
  exact J7 (J8 rfl _ _ w.heap.size 214 _ (0,0) _ rfl (heap_alloc_new w _) Ja rfl (by kernel_rfl)) rfl ⟨rfl,(Dm _ w).alloc (Ba _) _⟩
 have c:(k==3)=false:=by rw[Ez];exact h3
 by_cases h4:k=4
 ·subst h4
  go_enter func216,ntmps216
  go_wp2
  exact J7 (J8 rfl _ _ w.heap.size 214 _ (0,0) _ rfl (heap_alloc_new w _) Ja rfl (by kernel_rfl)) rfl ⟨rfl,(Dm _ w).alloc (Ba _) _⟩
 have d:(k==4)=false:=by rw[Ez];exact h4
 by_cases a:k=5
 ·subst a
  go_enter func216,ntmps216
  go_wp2
  exact J7 (J8 rfl _ _ w.heap.size 214 _ (0,0) _ rfl (heap_alloc_new w _) Ja rfl (by kernel_rfl)) rfl ⟨rfl,(Dm _ w).alloc (Ba _) _⟩
 have f:(k==5)=false:=by rw[Ez];exact a
 have F:=Dl (show KL k=[⟨#[]⟩,⟨#[]⟩,⟨#[]⟩,⟨#[]⟩] by unfold KL;simp only[h3,h4,a,Jb]);clear h3 h4 a
 go_enter func216,ntmps216
 go_wp2
 rw[F.out];exact J7 (J8 rfl _ _ w.heap.size 214 _ (0,0) _ rfl (heap_alloc_new w _) Ja rfl (by kernel_rfl)) rfl ⟨rfl,(Dm _ w).alloc (Ba _) _⟩
theorem WQ (inter:Bool)(k:Int)(w:World):Calls prog 195 #[.bool inter,.int .i64 k] w fun e n=>e=.returned (JE (MH inter k))/\Below w.heap.size w n:=by
 cases inter with
 |true=>
  obtain⟨a,b,c,d,hl⟩:=V4 k;have g:=fun x=>oP k x;have F:=Dl (show JE (MH true k)=JE [a,b,c,d] by rw[<-hl];rfl);rw[hl] at g
  go_enter func195,ntmps195
  go_wp2_with fail
  refine(g _).mono ?_;rintro e h ⟨rfl,i⟩;have f:h.heap[w.heap.size]? =some (.cells [.string ⟨#[]⟩,.string ⟨#[]⟩,.string ⟨#[]⟩,.string ⟨#[]⟩].toArray 214 (0,0)):=(i.block w.heap.size (by simp)).trans (heap_alloc_new w _);have f0:=AW (o:=0) f;have f1:=AW (o:=1) f;have f2:=AW (o:=2) f;have f3:=AW (o:=3) f;have p:h.cell? ⟨w.heap.size,0,none⟩=some (.string ⟨#[]⟩):=A2 f rfl
  have c1:h.cell? ⟨w.heap.size,1,none⟩=some (.string ⟨#[]⟩):=A2 f rfl;have c2:h.cell? ⟨w.heap.size,2,none⟩=some (.string ⟨#[]⟩):=A2 f rfl;have c3:h.cell? ⟨w.heap.size,3,none⟩=some (.string ⟨#[]⟩):=A2 f rfl;have j:JE [a,b,c,d]=.agg #[.string a,.string b,.string c,.string d]:=rfl;have l:Below w.heap.size w h:=((Dm _ w).alloc (Ba _) _).trans (i.mono (by simp))
  have m:=B3 (o:=3) (.string d) (B3 (o:=2) (.string c) (B3 (o:=1) (.string b) (B3 (o:=0) (.string a) f)));rw[j]
  go_wp2
  exact J7 (J8 rfl _ _ w.heap.size 214 _ (0,0) _ rfl m Ja rfl (by kernel_rfl)) rfl ⟨by rw[F.out];rfl,(((l.setCell (Ba _) _).setCell (Ba _) _).setCell (Ba _) _).setCell (Ba _) _⟩
 |false=>
  obtain⟨a,b,c,d,hl⟩:=Yi k;have g:=fun x=>nT k x;have F:=Dl (show JE (MH false k)=JE [a,b,c,d] by rw[<-hl];rfl);rw[hl] at g
  go_enter func195,ntmps195
  go_wp2_with fail
  refine(g _).mono ?_;rintro e h ⟨rfl,i⟩;have f:h.heap[w.heap.size]? =some (.cells [.string ⟨#[]⟩,.string ⟨#[]⟩,.string ⟨#[]⟩,.string ⟨#[]⟩].toArray 214 (0,0)):=(i.block w.heap.size (by simp)).trans (heap_alloc_new w _);have f0:=AW (o:=0) f;have f1:=AW (o:=1) f;have f2:=AW (o:=2) f;have f3:=AW (o:=3) f;have p:h.cell? ⟨w.heap.size,0,none⟩=some (.string ⟨#[]⟩):=A2 f rfl
  have c1:h.cell? ⟨w.heap.size,1,none⟩=some (.string ⟨#[]⟩):=A2 f rfl;have c2:h.cell? ⟨w.heap.size,2,none⟩=some (.string ⟨#[]⟩):=A2 f rfl;have c3:h.cell? ⟨w.heap.size,3,none⟩=some (.string ⟨#[]⟩):=A2 f rfl;have j:JE [a,b,c,d]=.agg #[.string a,.string b,.string c,.string d]:=rfl;have l:Below w.heap.size w h:=((Dm _ w).alloc (Ba _) _).trans (i.mono (by simp))
  have m:=B3 (o:=3) (.string d) (B3 (o:=2) (.string c) (B3 (o:=1) (.string b) (B3 (o:=0) (.string a) f)));rw[j]
  go_wp2
  exact J7 (J8 rfl _ _ w.heap.size 214 _ (0,0) _ rfl m Ja rfl (by kernel_rfl)) rfl ⟨by rw[F.out];rfl,(((l.setCell (Ba _) _).setCell (Ba _) _).setCell (Ba _) _).setCell (Ba _) _⟩
theorem Pj (a b c d:ByteArray)(w:World):
  (Instr.index 214 (.agg #[.string a,.string b,.string c,.string d]) (.int .i64 0)).run prog w=.ok (.string a) w/\
  (Instr.index 214 (.agg #[.string a,.string b,.string c,.string d]) (.int .i64 1)).run prog w=.ok (.string b) w/\
  (Instr.index 214 (.agg #[.string a,.string b,.string c,.string d]) (.int .i64 2)).run prog w=.ok (.string c) w/\
  (Instr.index 214 (.agg #[.string a,.string b,.string c,.string d]) (.int .i64 3)).run prog w=.ok (.string d) w:=
 ⟨by kernel_rfl,by kernel_rfl,by kernel_rfl,by kernel_rfl⟩
def B1 (inter:Bool)(k c:Int):ByteArray:=if 0<=c/\c<4 then (MH inter k)[c.toNat]?.getD ⟨#[]⟩ else ⟨#[]⟩
theorem Rn {inter:Bool}{k c:Int}(h:c<0\/4<=c):B1 inter k c=⟨#[]⟩:=by
 unfold B1;rw[Bb (by omega)]
set_option maxRecDepth 100000 in
theorem Vk (inter:Bool)(k c:Int)(w:World):Calls prog 184 #[.bool inter,.int .i64 k,.int .i64 c] w fun e n=>e=.returned (.tuple #[.string (B1 inter k c),.bool (!(B1 inter k c).data.toList.isEmpty)])/\Below w.heap.size w n:=by
 by_cases i:c<0
 ·have F:=Dl (Rn (inter:=inter) (k:=k) (.inl i));have t0:decide (c<0)=true:=by simpa using i
  clear i;rw[F.out]
  go_enter func184,Jd
  go_wp2
  go_ret2
  exact⟨rfl,Dm _ _⟩
 by_cases h4:4<=c
 ·have F:=Dl (Rn (inter:=inter) (k:=k) (.inr h4));have t0:decide (c<0)=false:=by simpa using i
  have t1:decide (4<=c)=true:=by simpa using h4
  clear i h4;rw[F.out]
  go_enter func184,Jd
  go_wp2
  go_ret2
  exact⟨rfl,Dm _ _⟩
 obtain⟨a,b,d,f,hl⟩:=Uq inter k;have g:=fun x=>WQ inter k x;have hr:B1 inter k c=[a,b,d,f][c.toNat]?.getD ⟨#[]⟩:=by
  unfold B1;rw[Bc (by omega),hl]
 rw[hl] at g;have m:JE [a,b,d,f]=.agg #[.string a,.string b,.string d,.string f]:=rfl;rw[m] at g;clear m hl;rcases (by omega:c=0\/c=1\/c=2\/c=3) with rfl|rfl|rfl|rfl
 ·have R:=Dl (show B1 inter k 0=a from hr);have j:=fun w=>(Pj a b d f w).1;have E:=J9 a;rw[R.out,<-E];clear hr i h4 E
  go_enter func184,Jd
  go_wp2_with fail
  refine(g _).mono ?_;rintro e l ⟨rfl,h⟩
  go_wp2
  go_ret2
  exact⟨rfl,h⟩
 ·have R:=Dl (show B1 inter k 1=b from hr);have j:=fun w=>(Pj a b d f w).2.1;have E:=J9 b;rw[R.out,<-E];clear hr i h4 E
  go_enter func184,Jd
  go_wp2_with fail
  refine(g _).mono ?_;rintro e l ⟨rfl,h⟩
  go_wp2
  go_ret2
  exact⟨rfl,h⟩
 ·have R:=Dl (show B1 inter k 2=d from hr);have j:=fun w=>(Pj a b d f w).2.2.1;have E:=J9 d;rw[R.out,<-E];clear hr i h4 E
  go_enter func184,Jd
  go_wp2_with fail
  refine(g _).mono ?_;rintro e l ⟨rfl,h⟩
  go_wp2
  go_ret2
  exact⟨rfl,h⟩
 ·have R:=Dl (show B1 inter k 3=f from hr);have j:=fun w=>(Pj a b d f w).2.2.2;have E:=J9 f;rw[R.out,<-E];clear hr i h4 E
  go_enter func184,Jd
  go_wp2_with fail
  refine(g _).mono ?_;rintro e l ⟨rfl,h⟩
  go_wp2
  go_ret2
  exact⟨rfl,h⟩
end Go.Proofs.YtjjmalchelniiaaGreatDoor