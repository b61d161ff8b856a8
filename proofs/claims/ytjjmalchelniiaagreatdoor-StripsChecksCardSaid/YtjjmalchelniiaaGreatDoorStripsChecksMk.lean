/- StripsChecks, 11. No condition. -/
import Derived.Test.YtjjmalchelniiaaGreatDoorStripsChecksMb
import Derived.Test.YtjjmalchelniiaaGreatDoorRows
import Derived.WalkKit
import Derived.ProofKit
open Go.Proofs.Tryz
set_option maxHeartbeats 2000000
namespace Go.Proofs.YtjjmalchelniiaaGreatDoor
section
open Go.RowKit
abbrev Hg:=@Below.refl
abbrev Hi:=@bodyPost_ret
abbrev Hj:=@results_cell_row
abbrev Hk:=@underlying81
abbrev Hl:=@Nat.eq_zero_or_pos
abbrev Hm:=@Nat.mul_le_mul
theorem YC (k:Int)(w:World):Calls prog 147 #[.int .i64 k] w fun e a=>e=.returned (.tuple #[.int .i64 (CS k),.int .i64 (CY k),.bool (DG k)])/\w=a:=by
 rcases JO k with rfl|rfl|rfl|rfl|rfl|rfl|⟨h,hv⟩
 case _|_|_|_|_|_=>
  go_enter func147,ntmps147
  go_wp2
  go_ret3
  exact⟨rfl,rfl⟩
 obtain⟨t1,t2,t3,t4,t5,t6⟩:=Ul h;unfold CS CY;rw[h,hv];clear h hv
 go_enter func147,ntmps147
 go_wp2
 go_ret3
 exact⟨rfl,rfl⟩
theorem PN (k:Int)(w:World):Calls prog 79 #[.int .i64 k] w fun e a=>e=.returned (.tuple #[.int .i64 (BC k),.int .i64 (BG k)])/\w=a:=by
 rcases JO k with rfl|rfl|rfl|rfl|rfl|rfl|⟨h,hv⟩
 case _|_|_|_|_|_=>
  go_enter func79,ntmps79
  go_wp2
  go_ret2
  exact⟨rfl,rfl⟩
 obtain⟨t1,t2,t3,t4,t5,t6⟩:=Ul h;unfold BC BG;rw[hv];clear h hv
 go_enter func79,ntmps79
 go_wp2
 go_ret2
 exact⟨rfl,rfl⟩
def Bx (k:Int):Int:=CS k / 16
def IV (k:Int):Int:=CY k / 16
theorem Pb (k:Int)(w:World):Calls prog 114 #[.int .i64 k] w fun e g=>e=.returned (.tuple #[.int .i64 (Bx k),.int .i64 (IV k)])/\w=g:=by
 have c:=YC k w;have hv:(CS k).tdiv 16=Bx k/\(CY k).tdiv 16=IV k:=by
  rcases JO k with rfl|rfl|rfl|rfl|rfl|rfl|⟨_,hv⟩
  case _|_|_|_|_|_=>exact⟨rfl,rfl⟩
  unfold Bx IV CS CY;rw[hv];exact⟨rfl,rfl⟩
 have h:IntKind.i64.wrap (Bx k)=Bx k/\IntKind.i64.wrap (IV k)=IV k:=by
  rcases JO k with rfl|rfl|rfl|rfl|rfl|rfl|⟨_,hv⟩
  case _|_|_|_|_|_=>exact⟨rfl,rfl⟩
  unfold Bx IV CS CY;rw[hv];exact⟨rfl,rfl⟩
 obtain⟨d,f⟩:=hv;obtain⟨i,j⟩:=h;generalize CS k=a at c d;generalize CY k=b at c f;generalize Bx k=l at d i ⊢;generalize IV k=b2 at f j ⊢
 go_enter func114,ntmps114
 go_wp2_with (first|(with_reducible refine c.mono ?_;rintro e m ⟨rfl,rfl⟩))
 go_ret2
 exact⟨rfl,rfl⟩
theorem QX (w:World)(a b:Obj):((w.alloc a).alloc b).heap[w.heap.size]? =some a:=by
 show ((w.heap.push a).push b)[w.heap.size]? =some a;rw[Array.getElem?_push,Bb (by simp)];simp
theorem Rs (w:World)(a b:Obj):Below w.heap.size w ((w.alloc a).alloc b):=((Hg _ w).alloc (Ba _) _).alloc (by simp) _
def JN (k:Int):Array Value:=#[.int .i64 (CS k),.int .i64 (CY k),.int .i64 (BC k),.int .i64 (BG k)]
theorem P3 (k:Int)(w:World):Calls prog 49 #[.int .i64 k] w fun e c=>e=.returned (.agg (JN k))/\Below w.heap.size w c:=by
 by_cases a:k<0\/6<k
 ·have hv:JN k=#[.int .i64 0,.int .i64 0,.int .i64 0,.int .i64 0]:=by
   have d:LW k=(0,0,0,0):=by
    unfold LW;rw[Bb (by omega),Bb (by omega),Bb (by omega),Bb (by omega),Bb (by omega),Bb (by omega)]
   unfold JN CS CY BC BG;rw[d]
  rw[hv];clear hv;by_cases hn:k<0
  ·have t0:decide (k<0)=true:=by simpa using hn
   clear a hn
   go_enter func49,ntmps49
   go_wp2
   exact Hi (Hj rfl _ _ w.heap.size 81 _ (0,0) _ rfl (QX w _ _) Hk rfl (by kernel_rfl)) rfl ⟨rfl,Rs w _ _⟩
  ·have t0:decide (k<0)=false:=by simpa using hn
   have t1:decide (7<=k)=true:=by simp;omega
   clear a hn
   go_enter func49,ntmps49
   go_wp2
   exact Hi (Hj rfl _ _ w.heap.size 81 _ (0,0) _ rfl (QX w _ _) Hk rfl (by kernel_rfl)) rfl ⟨rfl,Rs w _ _⟩
 have b:k=0\/k=1\/k=2\/k=3\/k=4\/k=5\/k=6:=by omega
 clear a;rcases b with rfl|rfl|rfl|rfl|rfl|rfl|rfl
 all_goals
  go_enter func49,ntmps49
  go_wp2
  exact Hi (Hj rfl _ _ w.heap.size 81 _ (0,0) _ rfl (QX w _ _) Hk rfl (by kernel_rfl)) rfl ⟨rfl,Rs w _ _⟩
end
section
def acr (k:Int):Nat:=(Bx k).toNat
def dow (k:Int):Nat:=(IV k).toNat
def wid (k:Int)(p:Nat):Nat:=if p=0 then 16*acr k else 8*acr k
def CP (k:Int):Nat:=acr k*dow k
theorem HR (k:Int):(acr k:Int)=Bx k/\(dow k:Int)=IV k/\CS k=16*(acr k:Int)/\CY k=16*(dow k:Int)/\acr k<=88/\dow k<=72:=by
 rcases JO k with rfl|rfl|rfl|rfl|rfl|rfl|⟨h,hv⟩
 case _|_|_|_|_|_=>decide +kernel
 unfold acr dow Bx IV CS CY;rw[hv]
 decide +kernel
theorem iB {k:Int}(h:DG k=false):acr k=0/\dow k=0:=by
 rcases JO k with rfl|rfl|rfl|rfl|rfl|rfl|⟨_,hv⟩
 case _|_|_|_|_|_=>cases h
 unfold acr dow Bx IV CS CY;rw[hv];exact⟨rfl,rfl⟩
theorem uE {k:Int}(h:DG k=true):0<acr k/\0<dow k:=by
 rcases JO k with rfl|rfl|rfl|rfl|rfl|rfl|⟨h2,_⟩
 case _|_|_|_|_|_=>decide +kernel
 rw[h] at h2;cases h2
theorem uD {k:Int}(h:DG k=false):CP k=0:=by
 unfold CP;rw[(iB h).1,Cf]
theorem Zp (k:Int):CP k<=6336:=Hm (HR k).2.2.2.2.1 (HR k).2.2.2.2.2
def plc (b:Nat):Nat:=if b<4 then 0 else b-3
def col (k:Int)(n b:Nat):Nat:=if b<4 then 2*(n%acr k)+b%2 else n%acr k
def lin (k:Int)(n b:Nat):Nat:=if b<4 then 2*(n / acr k)+b / 2 else n / acr k
def fst8 (k:Int)(n b:Nat):Nat:=8*(lin k n b*wid k (plc b)+col k n b)
def pos (k:Int)(n b i:Nat):Nat:=fst8 k n b+i / 8*wid k (plc b)+i%8
theorem dR {k:Int}{n:Nat}(h:n<CP k):0<acr k/\n%acr k<acr k/\n / acr k<dow k:=by
 have a:0<acr k:=by
  rcases Hl (acr k) with h1|h1
  ·unfold CP at h;rw[h1,Cf] at h;cases h
  ·exact h1
 exact⟨a,Nat.mod_lt _ a,Nat.div_lt_of_lt_mul h⟩
end
section
open Go.RowKit
def K7 (k n:Int):Bool:=decide (0<=n)&&decide (n<(CP k:Int))
theorem TA {k n:Int}:K7 k n=true↔0<=n/\n.toNat<CP k:=by
 unfold K7;simp;omega
def EO (c m:Nat)(v:Int):Bool:=decide (-32<=v/\v<=31)&&decide (0<=32*(c:Int)+v/\32*(c:Int)+v+30<=32*(m:Int)-2)
def GJ (k n a b:Int):Bool:=K7 k n&&(EO (n.toNat%acr k) (acr k) a&&EO (n.toNat / acr k) (dow k) b)
end
end Go.Proofs.YtjjmalchelniiaaGreatDoor
