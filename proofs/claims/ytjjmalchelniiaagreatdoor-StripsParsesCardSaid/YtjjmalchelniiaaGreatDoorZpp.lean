/- No condition. -/
import Derived.Test.YtjjmalchelniiaaGreatDoorZpb
import Derived.Test.YtjjmalchelniiaaGreatDoorZpg
import Derived.Lib.Strings
open Go.Proofs.Tryz
set_option maxHeartbeats 2000000
namespace Go.Proofs.YtjjmalchelniiaaGreatDoor
open Go.RowKit Go.Lib
theorem Wcs{p:Prop}(h:p:=by
 rw[F.out]
 go_enter func184,Iy
 go_wp2
 go_ret2
 exact⟨rfl,Dn _ _⟩):p:=h
theorem Wcr{p:Prop}(h:p:=by
 go_enter func216,ntmps216
 go_wp2
 exact Wcn):p:=h
theorem Wcq{p:Prop}(h:p:=by
 go_enter Iz,Ix
 go_wp2
 exact Wcn):p:=h
theorem Wcp{p:Prop}(h:p:=by
 rw[R.out,<-E];clear hr i h4 E
 go_enter func184,Iy
 go_wp2_with fail
 refine(g _).mono ?_;rintro e l ⟨rfl,h⟩
 go_wp2
 go_ret2
 exact⟨rfl,h⟩):p:=h
theorem Wco{p:Prop}(h:p:=by
 rw[hl] at g
 go_enter func195,ntmps195
 go_wp2_with fail
 refine(g _).mono ?_;rintro e h ⟨rfl,i⟩;have f:h.heap[w.heap.size]? =some (.cells [.string ⟨#[]⟩,.string ⟨#[]⟩,.string ⟨#[]⟩,.string ⟨#[]⟩].toArray 214 (0,0)):=(i.block w.heap.size sZ).trans (heap_alloc_new w _);have f0:=AL (o:=0) f;have f1:=AL (o:=1) f;have f2:=AL (o:=2) f;have f3:=AL (o:=3) f;have c0:h.cell? ⟨w.heap.size,0,none⟩=some (.string ⟨#[]⟩):=AA f rfl;have c1:h.cell? ⟨w.heap.size,1,none⟩=some (.string ⟨#[]⟩):=AA f rfl;have c2:h.cell? ⟨w.heap.size,2,none⟩=some (.string ⟨#[]⟩):=AA f rfl;have c3:h.cell? ⟨w.heap.size,3,none⟩=some (.string ⟨#[]⟩):=AA f rfl;have j:JZ [a,b,c,d]=.agg #[.string a,.string b,.string c,.string d]:=rfl;have l:Below w.heap.size w h:=((Dn _ w).alloc (B9 _) _).trans (i.mono sZ);have m:=B3 (o:=3) (.string d) (B3 (o:=2) (.string c) (B3 (o:=1) (.string b) (B3 (o:=0) (.string a) f)));rw[j]
 go_wp2
 exact Is (It rfl _ _ w.heap.size 214 _ (0,0) _ rfl m Iv rfl tN) rfl ⟨vH,(((l.setCell (B9 _) _).setCell (B9 _) _).setCell (B9 _) _).setCell (B9 _) _⟩):p:=h
theorem Wcn{p:Prop}(h:p:=by
 exact Is (It rfl _ _ w.heap.size 214 _ (0,0) _ rfl (heap_alloc_new w _) Iv rfl tN) rfl ⟨rfl,(Dn _ w).alloc (B9 _) _⟩):p:=h
theorem vH{p:Prop}(h:p:=by rw[F.out];rfl):p:=h
theorem vI{p:Prop}(h:p:=by rw[Fe];exact h2):p:=h
abbrev Is:=@bodyPost_ret
abbrev It:=@results_cell_row
abbrev Iu:=@Lib.toList_data
abbrev Iv:=@underlying214
abbrev Iw:=@if_false
abbrev Ix:=@ntmps215
abbrev Iy:=@ntmps184
abbrev Iz:=@func215
def MM (k:Int):List ByteArray:=
 if k=0 then [⟨#[49]⟩,⟨#[48,48,49,49]⟩,⟨#[48,48,49,48]⟩,⟨#[48,48,48,49,48,49]⟩] else
 if k=1 then [⟨#[48,49,49]⟩,⟨#[48,48,48,48,49,49,49]⟩,⟨#[48,48,48,48,49,49,48]⟩,⟨#[48,48,48,48,48,48,49,48,49]⟩] else
 if k=2 then [⟨#[48,49,48]⟩,⟨#[48,48,48,48,49,48,49]⟩,⟨#[48,48,48,48,49,48,48]⟩,⟨#[48,48,48,48,48,49,48,49]⟩] else
 if k=3 then [⟨#[48,48,48,49,49]⟩,⟨#[48,48,48,48,48,49,48,48]⟩,⟨#[48,48,48,48,48,48,49,49]⟩,⟨#[48,48,48,48,48,49,49]⟩] else
 if k=4 then [⟨#[48,48,48,49,48,48]⟩,⟨#[48,48,48,48,48,48,49,48,48]⟩,⟨#[48,48,48,48,48,48,48,49,49]⟩,⟨#[48,48,48,48,48,48,48,49,48]⟩] else
 if k=5 then [⟨#[48,48,48,48,48,48,48,48,49]⟩,⟨#[]⟩,⟨#[]⟩,⟨#[]⟩] else
 [⟨#[]⟩,⟨#[]⟩,⟨#[]⟩,⟨#[]⟩]
def LI (k:Int):List ByteArray:=
 if k=3 then [⟨#[49]⟩,⟨#[48,48,49]⟩,⟨#[48,49,48]⟩,⟨#[48,49,49]⟩] else
 if k=4 then [⟨#[48,48,48,49]⟩,⟨#[48,48,48,48,48,49]⟩,⟨#[48,48,48,48,49,48]⟩,⟨#[48,48,48,48,49,49]⟩] else
 if k=5 then [⟨#[48,48,48,48,48,48,48,48,49]⟩,⟨#[]⟩,⟨#[]⟩,⟨#[]⟩] else
 [⟨#[]⟩,⟨#[]⟩,⟨#[]⟩,⟨#[]⟩]
def NS (inter:Bool)(k:Int):List ByteArray:=if inter then MM k else LI k
def JZ (l:List ByteArray):Value:=.agg (l.map Value.string).toArray
theorem cL (k:Int):∃a b c d,MM k=[a,b,c,d]:=by
 unfold MM
 repeat' split
 all_goals exact⟨_,_,_,_,rfl⟩
theorem Z8 (k:Int):∃a b c d,LI k=[a,b,c,d]:=by
 unfold LI
 repeat' split
 all_goals exact⟨_,_,_,_,rfl⟩
theorem X1 (inter:Bool)(k:Int):∃a b c d,NS inter k=[a,b,c,d]:=by
 cases inter
 ·exact Z8 k
 ·exact cL k
theorem rT (k:Int)(w:World):Calls prog 215 #[.int .i64 k] w fun e c=>e=.returned (JZ (MM k))/\Below w.heap.size w c:=by
 by_cases a:k=0
 ·subst a
  exact Wcq
 have d:(k==0)=false:=by rw[Fe];exact a
 by_cases h1:k=1
 ·subst h1
  exact Wcq
 have f:(k==1)=false:=by rw[Fe];exact h1
 by_cases h2:k=2
 ·subst h2
  exact Wcq
 have g:(k==2)=false:=vI;by_cases h3:k=3
 ·subst h3
  exact Wcq
 have h:(k==3)=false:=by rw[Fe];exact h3
 by_cases h4:k=4
 ·subst h4
  exact Wcq
 have i:(k==4)=false:=by rw[Fe];exact h4
 by_cases b:k=5
 ·subst b
  exact Wcq
 have j:(k==5)=false:=by rw[Fe];exact b
 have F:=Dm (show MM k=[⟨#[]⟩,⟨#[]⟩,⟨#[]⟩,⟨#[]⟩] by unfold MM;simp only[a,h1,h2,h3,h4,b,Iw]);clear a h1 h2 h3 h4 b
 go_enter Iz,Ix
 go_wp2
 rw[F.out];exact Wcn
theorem Yu1 (k:Int)(w:World):Calls prog 216 #[.int .i64 k] w fun e b=>e=.returned (JZ (LI k))/\Below w.heap.size w b:=by
 by_cases h3:k=3
 ·subst h3
  exact Wcr
 have c:(k==3)=false:=by rw[Fe];exact h3
 by_cases h4:k=4
 ·subst h4
  exact Wcr
 have d:(k==4)=false:=by rw[Fe];exact h4
 by_cases a:k=5
 ·subst a
  exact Wcr
 have f:(k==5)=false:=by rw[Fe];exact a
 have F:=Dm (show LI k=[⟨#[]⟩,⟨#[]⟩,⟨#[]⟩,⟨#[]⟩] by unfold LI;simp only[h3,h4,a,Iw]);clear h3 h4 a
 go_enter func216,ntmps216
 go_wp2
 rw[F.out];exact Wcn
theorem Yo (inter:Bool)(k:Int)(w:World):Calls prog 195 #[.bool inter,.int .i64 k] w fun e n=>e=.returned (JZ (NS inter k))/\Below w.heap.size w n:=by
 cases inter with
 |true=>
  obtain⟨a,b,c,d,hl⟩:=cL k;have g:=fun x=>rT k x;have F:=Dm (show JZ (NS true k)=JZ [a,b,c,d] by rw[<-hl];rfl);exact Wco
 |false=>
  obtain⟨a,b,c,d,hl⟩:=Z8 k;have g:=fun x=>Yu1 k x;have F:=Dm (show JZ (NS false k)=JZ [a,b,c,d] by rw[<-hl];rfl);exact Wco
theorem Qk (a b c d:ByteArray)(w:World):
  (Instr.index 214 (.agg #[.string a,.string b,.string c,.string d]) (.int .i64 0)).run prog w=.ok (.string a) w/\
  (Instr.index 214 (.agg #[.string a,.string b,.string c,.string d]) (.int .i64 1)).run prog w=.ok (.string b) w/\
  (Instr.index 214 (.agg #[.string a,.string b,.string c,.string d]) (.int .i64 2)).run prog w=.ok (.string c) w/\
  (Instr.index 214 (.agg #[.string a,.string b,.string c,.string d]) (.int .i64 3)).run prog w=.ok (.string d) w:=
 ⟨tN,tN,tN,tN⟩
def BC (inter:Bool)(k c:Int):ByteArray:=if 0<=c/\c<4 then (NS inter k)[c.toNat]?.getD ⟨#[]⟩ else ⟨#[]⟩
theorem Vz {inter:Bool}{k c:Int}(h:c<0\/4<=c):BC inter k c=⟨#[]⟩:=by
 unfold BC;rw[Ba sX]
set_option maxRecDepth 100000 in
theorem ZR (inter:Bool)(k c:Int)(w:World):Calls prog 184 #[.bool inter,.int .i64 k,.int .i64 c] w fun e n=>e=.returned (.tuple #[.string (BC inter k c),.bool (!(BC inter k c).data.toList.isEmpty)])/\Below w.heap.size w n:=by
 by_cases i:c<0
 ·have F:=Dm (Vz (inter:=inter) (k:=k) (.inl i));have t0:decide (c<0)=true:=by simpa using i
  clear i;exact Wcs
 by_cases h4:4<=c
 ·have F:=Dm (Vz (inter:=inter) (k:=k) (.inr h4));have t0:decide (c<0)=false:=by simpa using i
  have t1:decide (4<=c)=true:=by simpa using h4
  clear i h4;exact Wcs
 obtain⟨a,b,d,f,hl⟩:=X1 inter k;have g:=fun x=>Yo inter k x;have hr:BC inter k c=[a,b,d,f][c.toNat]?.getD ⟨#[]⟩:=by
  unfold BC;rw[Bb sX,hl]
 rw[hl] at g;have m:JZ [a,b,d,f]=.agg #[.string a,.string b,.string d,.string f]:=rfl;rw[m] at g;clear m hl;rcases (by omega:c=0\/c=1\/c=2\/c=3) with rfl|rfl|rfl|rfl
 ·have R:=Dm (show BC inter k 0=a from hr);have j:=fun w=>(Qk a b d f w).1;have E:=Iu a;exact Wcp
 ·have R:=Dm (show BC inter k 1=b from hr);have j:=fun w=>(Qk a b d f w).2.1;have E:=Iu b;exact Wcp
 ·have R:=Dm (show BC inter k 2=d from hr);have j:=fun w=>(Qk a b d f w).2.2.1;have E:=Iu d;exact Wcp
 ·have R:=Dm (show BC inter k 3=f from hr);have j:=fun w=>(Qk a b d f w).2.2.2;have E:=Iu f;exact Wcp
end Go.Proofs.YtjjmalchelniiaaGreatDoor