/- StripsWrites, 10. No condition. -/
import Derived.Test.YtjjmalchelniiaaGreatDoorStripsWritesMb
import Derived.Test.YtjjmalchelniiaaGreatDoorRows
import Derived.WalkKit
import Derived.ProofKit
import Derived.Lib.Hide
open Go.Proofs.Tryz
open Go renaming World->A5,Calls->A9
set_option maxHeartbeats 2000000
namespace Go.Proofs.YtjjmalchelniiaaGreatDoor
section
open Go.RowKit
abbrev Gy:=@Lib.hid
abbrev Gz:=@Below.refl
abbrev H5:=@bodyPost_ret
abbrev H6:=@results_cell_row
abbrev H7:=@underlying81
abbrev H9:=@Nat.eq_zero_or_pos
abbrev Ha:=@Nat.mul_le_mul
theorem VV (k:Int)(w:A5):A9 prog 147 #[.int .i64 k] w fun e a=>e=.returned (.tuple #[.int .i64 (CU k),.int .i64 (D4 k),.bool (DV k)])/\w=a:=by
 rcases K1 k with rfl|rfl|rfl|rfl|rfl|rfl|⟨h,hv⟩
 case _|_|_|_|_|_=>
  go_enter func147,ntmps147
  go_wp2
  go_ret3
  exact⟨rfl,rfl⟩
 obtain⟨t1,t2,t3,t4,t5,t6⟩:=XX h;unfold CU D4;rw[h,hv];clear h hv
 go_enter func147,ntmps147
 go_wp2
 go_ret3
 exact⟨rfl,rfl⟩
theorem QI (k:Int)(w:A5):A9 prog 79 #[.int .i64 k] w fun e a=>e=.returned (.tuple #[.int .i64 (BJ k),.int .i64 (BP k)])/\w=a:=by
 rcases K1 k with rfl|rfl|rfl|rfl|rfl|rfl|⟨h,hv⟩
 case _|_|_|_|_|_=>
  go_enter func79,ntmps79
  go_wp2
  go_ret2
  exact⟨rfl,rfl⟩
 obtain⟨t1,t2,t3,t4,t5,t6⟩:=XX h;unfold BJ BP;rw[hv];clear h hv
 go_enter func79,ntmps79
 go_wp2
 go_ret2
 exact⟨rfl,rfl⟩
def B1 (k:Int):Int:=CU k / 16
def JQ (k:Int):Int:=D4 k / 16
theorem PQ (k:Int)(w:A5):A9 prog 114 #[.int .i64 k] w fun e g=>e=.returned (.tuple #[.int .i64 (B1 k),.int .i64 (JQ k)])/\w=g:=by
 have c:=VV k w;have hv:(CU k).tdiv 16=B1 k/\(D4 k).tdiv 16=JQ k:=by
  rcases K1 k with rfl|rfl|rfl|rfl|rfl|rfl|⟨_,hv⟩
  case _|_|_|_|_|_=>exact⟨rfl,rfl⟩
  unfold B1 JQ CU D4;rw[hv];exact⟨rfl,rfl⟩
 have h:IntKind.i64.wrap (B1 k)=B1 k/\IntKind.i64.wrap (JQ k)=JQ k:=by
  rcases K1 k with rfl|rfl|rfl|rfl|rfl|rfl|⟨_,hv⟩
  case _|_|_|_|_|_=>exact⟨rfl,rfl⟩
  unfold B1 JQ CU D4;rw[hv];exact⟨rfl,rfl⟩
 obtain⟨d,f⟩:=hv;obtain⟨i,j⟩:=h;generalize CU k=a at c d;generalize D4 k=b at c f;generalize B1 k=l at d i ⊢;generalize JQ k=b2 at f j ⊢
 go_enter func114,ntmps114
 go_wp2_with (first|(with_reducible refine c.mono ?_;rintro e m ⟨rfl,rfl⟩))
 go_ret2
 exact⟨rfl,rfl⟩
theorem SX (w:A5)(a b:Obj):((w.alloc a).alloc b).heap[w.heap.size]? =some a:=by
 show ((w.heap.push a).push b)[w.heap.size]? =some a;rw[Array.getElem?_push,Bb (by simp)];simp
theorem TQ (w:A5)(a b:Obj):Below w.heap.size w ((w.alloc a).alloc b):=((Gz _ w).alloc (Ba _) _).alloc (by simp) _
def JH (k:Int):Array Value:=#[.int .i64 (CU k),.int .i64 (D4 k),.int .i64 (BJ k),.int .i64 (BP k)]
theorem O2 (k:Int)(w:A5):A9 prog 49 #[.int .i64 k] w fun e c=>e=.returned (.agg (JH k))/\Below w.heap.size w c:=by
 by_cases a:k<0\/6<k
 ·have hv:JH k=#[.int .i64 0,.int .i64 0,.int .i64 0,.int .i64 0]:=by
   have d:MW k=(0,0,0,0):=by
    unfold MW;rw[Bb (by omega),Bb (by omega),Bb (by omega),Bb (by omega),Bb (by omega),Bb (by omega)]
   unfold JH CU D4 BJ BP;rw[d]
  rw[hv];clear hv;by_cases hn:k<0
  ·have t0:decide (k<0)=true:=by simpa using hn
   clear a hn
   go_enter func49,ntmps49
   go_wp2
   exact H5 (H6 rfl _ _ w.heap.size 81 _ (0,0) _ rfl (SX w _ _) H7 rfl (by kernel_rfl)) rfl ⟨rfl,TQ w _ _⟩
  ·have t0:decide (k<0)=false:=by simpa using hn
   have t1:decide (7<=k)=true:=by simp;omega
   clear a hn
   go_enter func49,ntmps49
   go_wp2
   exact H5 (H6 rfl _ _ w.heap.size 81 _ (0,0) _ rfl (SX w _ _) H7 rfl (by kernel_rfl)) rfl ⟨rfl,TQ w _ _⟩
 have b:k=0\/k=1\/k=2\/k=3\/k=4\/k=5\/k=6:=by omega
 clear a;rcases b with rfl|rfl|rfl|rfl|rfl|rfl|rfl
 all_goals
  go_enter func49,ntmps49
  go_wp2
  exact H5 (H6 rfl _ _ w.heap.size 81 _ (0,0) _ rfl (SX w _ _) H7 rfl (by kernel_rfl)) rfl ⟨rfl,TQ w _ _⟩
end
section
def acr (k:Int):Nat:=(B1 k).toNat
def dow (k:Int):Nat:=(JQ k).toNat
def wid (k:Int)(p:Nat):Nat:=if p=0 then 16*acr k else 8*acr k
def D2 (k:Int):Nat:=acr k*dow k
theorem HH (k:Int):(acr k:Int)=B1 k/\(dow k:Int)=JQ k/\CU k=16*(acr k:Int)/\D4 k=16*(dow k:Int)/\acr k<=88/\dow k<=72:=by
 rcases K1 k with rfl|rfl|rfl|rfl|rfl|rfl|⟨h,hv⟩
 case _|_|_|_|_|_=>decide +kernel
 unfold acr dow B1 JQ CU D4;rw[hv]
 decide +kernel
theorem lU {k:Int}(h:DV k=false):acr k=0/\dow k=0:=by
 rcases K1 k with rfl|rfl|rfl|rfl|rfl|rfl|⟨_,hv⟩
 case _|_|_|_|_|_=>cases h
 unfold acr dow B1 JQ CU D4;rw[hv];exact⟨rfl,rfl⟩
theorem iJ {k:Int}(h:DV k=true):0<acr k/\0<dow k:=by
 rcases K1 k with rfl|rfl|rfl|rfl|rfl|rfl|⟨h2,_⟩
 case _|_|_|_|_|_=>decide +kernel
 rw[h] at h2;cases h2
theorem lW {k:Int}(h:DV k=false):D2 k=0:=by
 unfold D2;rw[(lU h).1,Ch]
theorem VL (k:Int):D2 k<=6336:=Ha (HH k).2.2.2.2.1 (HH k).2.2.2.2.2
def plc (b:Nat):Nat:=if b<4 then 0 else b-3
def col (k:Int)(n b:Nat):Nat:=if b<4 then 2*(n%acr k)+b%2 else n%acr k
def lin (k:Int)(n b:Nat):Nat:=if b<4 then 2*(n / acr k)+b / 2 else n / acr k
def fst8 (k:Int)(n b:Nat):Nat:=8*(lin k n b*wid k (plc b)+col k n b)
def pos (k:Int)(n b i:Nat):Nat:=fst8 k n b+i / 8*wid k (plc b)+i%8
theorem dH {k:Int}{n:Nat}(h:n<D2 k):0<acr k/\n%acr k<acr k/\n / acr k<dow k:=by
 have a:0<acr k:=by
  rcases H9 (acr k) with h1|h1
  ·unfold D2 at h;rw[h1,Ch] at h;cases h
  ·exact h1
 exact⟨a,Nat.mod_lt _ a,Nat.div_lt_of_lt_mul h⟩
end
section
open Go.RowKit
def KT (k n:Int):Bool:=decide (0<=n)&&decide (n<(D2 k:Int))
theorem S8 {k n:Int}:KT k n=true↔0<=n/\n.toNat<D2 k:=by
 unfold KT;simp;omega
def F2 (c m:Nat)(v:Int):Bool:=decide (-32<=v/\v<=31)&&decide (0<=32*(c:Int)+v/\32*(c:Int)+v+30<=32*(m:Int)-2)
def GJ (k n a b:Int):Bool:=KT k n&&(F2 (n.toNat%acr k) (acr k) a&&F2 (n.toNat / acr k) (dow k) b)
theorem Wf (a b c:Int)(w:A5):
  A9 prog 169 #[.int .i64 a,.int .i64 b,.int .i64 c] w fun e d=>e=.returned (.int .i64 (GD a b c))/\w=d:=by
 go_enter func169,ntmps169
 go_wp2
 all_goals (go_ret;exact⟨FT (by unfold GD;omega),rfl⟩)
theorem Pz (a b c:Int)(w:A5):
  A9 prog 101 #[.int .i64 a,.int .i64 b,.int .i64 c] w fun e d=>e=.returned (.int .i64 (GD a b c))/\w=d:=by
 go_enter func101,ntmps101
 go_wp2
 all_goals (go_ret;exact⟨FT (by unfold GD;omega),rfl⟩)
theorem OB (n:Int)(w:A5):
  A9 prog 171 #[.int .i64 n] w fun e a=>e=.returned (.int .i64 (AF n))/\w=a:=by
 have b:=Yf n;have h1:0<=n%64:=by omega
 have h2:n%64<=63:=by omega
 go_enter func171,ntmps171
 go_wp2
 all_goals (go_ret;exact⟨FT (by unfold AF;omega),rfl⟩)
theorem nA (n:Int):-64<n.tmod 64/\n.tmod 64<64/\((0<=n.tmod 64/\n.tmod 64=n%64)\/(n.tmod 64<0/\n.tmod 64=n%64-64)):=by
 rw[Int.tmod_eq_emod]
 split <;> omega
theorem vJ (n:Int)(w:A5):
  A9 prog 98 #[.int .i64 n] w fun e a=>e=.returned (.int .i64 (AF n))/\w=a:=by
 obtain⟨h1,h2,h3⟩:=nA n;have b:=Gy h3;clear h3
 go_enter func98,ntmps98
 go_wp2
 all_goals (go_ret;exact⟨FT (by have:=b.out;unfold AF;omega),rfl⟩)
end
end Go.Proofs.YtjjmalchelniiaaGreatDoor
