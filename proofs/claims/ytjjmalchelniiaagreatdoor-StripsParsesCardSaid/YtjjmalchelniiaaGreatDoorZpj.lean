/- No condition. -/
import Derived.Test.YtjjmalchelniiaaGreatDoorZpb
import Derived.Test.YtjjmalchelniiaaGreatDoorRows
import Derived.WalkKit
import Derived.ProofKit
import Derived.Lib.Hide
open Go.Proofs.Tryz
open Go renaming World->A5,Calls->A9
set_option maxHeartbeats 2000000
namespace Go.Proofs.YtjjmalchelniiaaGreatDoor
section
open Go.RowKit
theorem Wb6{p:Prop}(h:p:=by
 go_enter func147,ntmps147
 go_wp2
 go_ret3
 exact⟨rfl,rfl⟩):p:=h
theorem Wb5{p:Prop}(h:p:=by
 go_wp2
 all_goals (go_ret;exact⟨ES (by unfold GF;omega),rfl⟩)):p:=h
theorem Wb4{p:Prop}(h:p:=by
 rcases KD k with rfl|rfl|rfl|rfl|rfl|rfl|⟨_,hv⟩
 case _|_|_|_|_|_=>exact⟨rfl,rfl⟩
 unfold AY J0 DF DP;rw[hv];exact⟨rfl,rfl⟩):p:=h
theorem Wb3{p:Prop}(h:p:=by
 go_enter func49,ntmps49
 go_wp2
 exact Hb (Hc rfl _ _ w.heap.size 81 _ (0,0) _ rfl (Uh w _ _) He rfl uW) rfl ⟨rfl,UI w _ _⟩):p:=h
theorem uW{p:Prop}(h:p:=by kernel_rfl):p:=h
theorem uX{p:Prop}(h:p:=by simp;omega):p:=h
abbrev H9:=@Lib.hid
abbrev Ha:=@Below.refl
abbrev Hb:=@bodyPost_ret
abbrev Hc:=@results_cell_row
abbrev Hd:=@Nat.eq_zero_or_pos
abbrev He:=@underlying81
abbrev Hf:=@Nat.mul_le_mul
theorem eK (k:Int)(w:A5):A9 prog 147 #[.int .i64 k] w fun e a=>e=.returned (.tuple #[.int .i64 (DF k),.int .i64 (DP k),.bool (DS k)])/\w=a:=by
 rcases KD k with rfl|rfl|rfl|rfl|rfl|rfl|⟨h,hv⟩
 case _|_|_|_|_|_=>
  exact Wb6
 obtain⟨t1,t2,t3,t4,t5,t6⟩:=fQ h;unfold DF DP;rw[h,hv];clear h hv
 exact Wb6
theorem SP (k:Int)(w:A5):A9 prog 79 #[.int .i64 k] w fun e a=>e=.returned (.tuple #[.int .i64 (BE k),.int .i64 (BQ k)])/\w=a:=by
 rcases KD k with rfl|rfl|rfl|rfl|rfl|rfl|⟨h,hv⟩
 case _|_|_|_|_|_=>
  go_enter func79,ntmps79
  go_wp2
  go_ret2
  exact⟨rfl,rfl⟩
 obtain⟨t1,t2,t3,t4,t5,t6⟩:=fQ h;unfold BE BQ;rw[hv];clear h hv
 go_enter func79,ntmps79
 go_wp2
 go_ret2
 exact⟨rfl,rfl⟩
def AY (k:Int):Int:=DF k / 16
def J0 (k:Int):Int:=DP k / 16
theorem QO (k:Int)(w:A5):A9 prog 114 #[.int .i64 k] w fun e g=>e=.returned (.tuple #[.int .i64 (AY k),.int .i64 (J0 k)])/\w=g:=by
 have c:=eK k w;have hv:(DF k).tdiv 16=AY k/\(DP k).tdiv 16=J0 k:=by
  exact Wb4
 have h:IntKind.i64.wrap (AY k)=AY k/\IntKind.i64.wrap (J0 k)=J0 k:=by
  exact Wb4
 obtain⟨d,f⟩:=hv;obtain⟨i,j⟩:=h;generalize DF k=a at c d;generalize DP k=b at c f;generalize AY k=l at d i ⊢;generalize J0 k=b2 at f j ⊢
 go_enter func114,ntmps114
 go_wp2_with (first|(with_reducible refine c.mono ?_;rintro e m ⟨rfl,rfl⟩))
 go_ret2
 exact⟨rfl,rfl⟩
theorem Uh (w:A5)(a b:Obj):((w.alloc a).alloc b).heap[w.heap.size]? =some a:=by
 show ((w.heap.push a).push b)[w.heap.size]? =some a;rw[Array.getElem?_push,Ba sZ];simp
theorem UI (w:A5)(a b:Obj):Below w.heap.size w ((w.alloc a).alloc b):=((Ha _ w).alloc (B9 _) _).alloc sZ _
def NH (k:Int):Array Value:=#[.int .i64 (DF k),.int .i64 (DP k),.int .i64 (BE k),.int .i64 (BQ k)]
theorem SG (k:Int)(w:A5):A9 prog 49 #[.int .i64 k] w fun e b=>e=.returned (.agg (NH k))/\Below w.heap.size w b:=by
 by_cases hk:k<0\/6<k
 ·have hv:NH k=#[.int .i64 0,.int .i64 0,.int .i64 0,.int .i64 0]:=by
   have c:MS k=(0,0,0,0):=by
    unfold MS;rw[Ba sX,Ba sX,Ba sX,Ba sX,Ba sX,Ba sX]
   unfold NH DF DP BE BQ;rw[c]
  rw[hv];clear hv;by_cases hn:k<0
  ·have t0:decide (k<0)=true:=by simpa using hn
   clear hk hn
   exact Wb3
  ·have t0:decide (k<0)=false:=by simpa using hn
   have t1:decide (7<=k)=true:=uX;clear hk hn
   exact Wb3
 have a:k=0\/k=1\/k=2\/k=3\/k=4\/k=5\/k=6:=sX;clear hk;rcases a with rfl|rfl|rfl|rfl|rfl|rfl|rfl
 all_goals
  exact Wb3
end
section
def acr (k:Int):Nat:=(AY k).toNat
def dow (k:Int):Nat:=(J0 k).toNat
def wid (k:Int)(p:Nat):Nat:=if p=0 then 16*acr k else 8*acr k
def hei (k:Int)(p:Nat):Nat:=if p=0 then 16*dow k else 8*dow k
def siz (k:Int)(p:Nat):Nat:=wid k p*hei k p
def D1 (k:Int):Nat:=acr k*dow k
theorem HY (k:Int):(acr k:Int)=AY k/\(dow k:Int)=J0 k/\DF k=16*(acr k:Int)/\DP k=16*(dow k:Int)/\acr k<=88/\dow k<=72:=by
 rcases KD k with rfl|rfl|rfl|rfl|rfl|rfl|⟨h,hv⟩
 case _|_|_|_|_|_=>decide +kernel
 unfold acr dow AY J0 DF DP;rw[hv]
 decide +kernel
theorem nP {k:Int}(h:DS k=false):acr k=0/\dow k=0:=by
 rcases KD k with rfl|rfl|rfl|rfl|rfl|rfl|⟨_,hv⟩
 case _|_|_|_|_|_=>cases h
 unfold acr dow AY J0 DF DP;rw[hv];exact⟨rfl,rfl⟩
theorem Qjj {k:Int}(h:DS k=true):0<acr k/\0<dow k:=by
 rcases KD k with rfl|rfl|rfl|rfl|rfl|rfl|⟨h2,_⟩
 case _|_|_|_|_|_=>decide +kernel
 rw[h] at h2;cases h2
theorem Qag {k:Int}(h:DS k=false):D1 k=0:=by
 unfold D1;rw[(nP h).1,Cg]
theorem Xt (k:Int):D1 k<=6336:=Hf (HY k).2.2.2.2.1 (HY k).2.2.2.2.2
def plc (b:Nat):Nat:=if b<4 then 0 else b-3
def col (k:Int)(n b:Nat):Nat:=if b<4 then 2*(n%acr k)+b%2 else n%acr k
def lin (k:Int)(n b:Nat):Nat:=if b<4 then 2*(n / acr k)+b / 2 else n / acr k
def fst8 (k:Int)(n b:Nat):Nat:=8*(lin k n b*wid k (plc b)+col k n b)
def pos (k:Int)(n b i:Nat):Nat:=fst8 k n b+i / 8*wid k (plc b)+i%8
theorem jS {k:Int}{n:Nat}(h:n<D1 k):0<acr k/\n%acr k<acr k/\n / acr k<dow k:=by
 have a:0<acr k:=by
  rcases Hd (acr k) with h1|h1
  ·unfold D1 at h;rw[h1,Cg] at h;cases h
  ·exact h1
 exact⟨a,Nat.mod_lt _ a,Nat.div_lt_of_lt_mul h⟩
end
section
open Go.RowKit
def LB (k n:Int):Bool:=decide (0<=n)&&decide (n<(D1 k:Int))
theorem UO {k n:Int}:LB k n=true↔0<=n/\n.toNat<D1 k:=by
 unfold LB;simp;omega
def EP (c m:Nat)(v:Int):Bool:=decide (-32<=v/\v<=31)&&decide (0<=32*(c:Int)+v/\32*(c:Int)+v+30<=32*(m:Int)-2)
def H1 (k n a b:Int):Bool:=LB k n&&(EP (n.toNat%acr k) (acr k) a&&EP (n.toNat / acr k) (dow k) b)
theorem WQ (a b c:Int)(w:A5):
  A9 prog 169 #[.int .i64 a,.int .i64 b,.int .i64 c] w fun e d=>e=.returned (.int .i64 (GF a b c))/\w=d:=by
 go_enter func169,ntmps169
 exact Wb5
theorem Qd (a b c:Int)(w:A5):
  A9 prog 101 #[.int .i64 a,.int .i64 b,.int .i64 c] w fun e d=>e=.returned (.int .i64 (GF a b c))/\w=d:=by
 go_enter func101,ntmps101
 exact Wb5
theorem P9 (n:Int)(w:A5):
  A9 prog 171 #[.int .i64 n] w fun e a=>e=.returned (.int .i64 (AI n))/\w=a:=by
 have b:=ZM n;have h1:0<=n%64:=sX;have h2:n%64<=63:=sX
 go_enter func171,ntmps171
 go_wp2
 all_goals (go_ret;exact⟨ES tC,rfl⟩)
theorem Qpy (n:Int):-64<n.tmod 64/\n.tmod 64<64/\((0<=n.tmod 64/\n.tmod 64=n%64)\/(n.tmod 64<0/\n.tmod 64=n%64-64)):=by
 rw[Int.tmod_eq_emod]
 split <;> omega
theorem NL (n:Int)(w:A5):
  A9 prog 98 #[.int .i64 n] w fun e a=>e=.returned (.int .i64 (AI n))/\w=a:=by
 obtain⟨h1,h2,h3⟩:=Qpy n;have b:=H9 h3;clear h3
 go_enter func98,ntmps98
 go_wp2
 all_goals (go_ret;exact⟨ES (by have:=b.out;unfold AI;omega),rfl⟩)
end
end Go.Proofs.YtjjmalchelniiaaGreatDoor
