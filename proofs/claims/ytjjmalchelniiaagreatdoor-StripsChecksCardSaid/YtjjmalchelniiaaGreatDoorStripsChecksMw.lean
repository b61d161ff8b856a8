/- StripsChecks, 23. No condition. -/
import Derived.Test.YtjjmalchelniiaaGreatDoorStripsChecksMd
import Derived.Test.YtjjmalchelniiaaGreatDoorStripsChecksMg
import Derived.Test.YtjjmalchelniiaaGreatDoorStripsChecksMi
import Derived.Test.YtjjmalchelniiaaGreatDoorStripsChecksMo
import Derived.Test.YtjjmalchelniiaaGreatDoorStripsChecksMt
import Derived.Test.YtjjmalchelniiaaGreatDoorStripsChecksMv
open Go.Proofs.Tryz
open Go renaming World->A5,IntKind->Ad,Calls->A9
set_option maxHeartbeats 1000000
namespace Go.Proofs.YtjjmalchelniiaaGreatDoor
section
open Go.RowKit Go.Lib
abbrev Kx:=@IntWalk.i64_in
abbrev Ky:=@List.length_pos_iff
abbrev Kz:=@ntmps242
abbrev L0:=@func242
def Th:List Nat:=[1,1,1,1,3,5,4,3,11,10,9,17,16,15,14,13,12,11,10,9,8,7,6,5,4,7,6,5,4,3,2,3,2]
def OH:List Nat:=[1,2,3,4,6,7,7,7,9,9,9,10,10,10,10,10,10,10,10,10,10,10,10,10,10,11,11,11,11,11,11,12,12]
def HS (i:Nat):Nat:=Th[i]?.getD 0
def CL (i:Nat):Nat:=OH[i]?.getD 0
theorem LK:∀i,i<33->1<=CL i/\CL i<=12/\HS i<2^CL i/\HS i<=17:=by decide +kernel
def CO (i:Nat):List UInt8:=AI (HS i) (CL i)
def GX (d:Int):Nat:=if d=0 then 1 else if 0<d then 2*HS d.toNat else 2*HS (-d).toNat+1
def G2 (d:Int):Nat:=if d=0 then 1 else if 0<d then CL d.toNat+1 else CL (-d).toNat+1
def C2 (d:Int):ByteArray:=if -32<=d/\d<=31 then ⟨(AI (GX d) (G2 d)).toArray⟩ else ⟨#[]⟩
theorem Sr {d:Int}(h:d < -32\/31<d):C2 d=⟨#[]⟩:=by
 unfold C2;rw[Bb (by omega)]
theorem Tc {d:Int}(h:-32<=d/\d<=31):C2 d=⟨(AI (GX d) (G2 d)).toArray⟩:=by
 unfold C2;rw[Bc h]
theorem RM {d:Int}(h:-32<=d/\d<=31):1<=G2 d/\G2 d<=13/\GX d<2^G2 d/\GX d<=35:=by
 have e:∀i:Nat,i<64->1<=G2 ((i:Int)-32)/\G2 ((i:Int)-32)<=13/\GX ((i:Int)-32)<2^G2 ((i:Int)-32)/\GX ((i:Int)-32)<=35:=by decide +kernel
 have:=e (d+32).toNat (by omega);rwa [show (((d+32).toNat:Nat):Int)-32=d by omega] at this
theorem vA {d:Int}(h:-32<=d/\d<=31):(C2 d).data.toList.isEmpty=false:=by
 rw[Tc h];show (AI (GX d) (G2 d)).isEmpty=false;have:=RM h;cases hl:AI (GX d) (G2 d) with
 |nil=>
  have e:=BN (GX d) (G2 d);rw[hl] at e;simp at e;omega
 |cons a l=>rfl
def FR (w:A5):Prop:=∀i,i<33->w.cell? ⟨2,i,none⟩=some (.int .i64 (HS i:Nat))/\w.cell? ⟨3,i,none⟩=some (.int .i64 (CL i:Nat))
theorem FR.lt {w:A5}(h:FR w):2<w.heap.size/\3<w.heap.size:=
 ⟨Fs w ⟨2,0,none⟩ (h 0 (by decide)).1,Fs w ⟨3,0,none⟩ (h 0 (by decide)).2⟩
theorem FR.below {w a:A5}(h:FR w)(b:Below w.heap.size w a):FR a:=fun i hi=>
 ⟨(b.cell (p:=⟨2,i,none⟩) h.lt.1).trans (h i hi).1,(b.cell (p:=⟨3,i,none⟩) h.lt.2).trans (h i hi).2⟩
theorem uQ (y:Nat)(f:y<4294967296):bits .or .i64 ((y:Int)*2) 1=((2*y+1:Nat):Int):=by
 have a:=Ch (i:=1) (b:=1) (by omega) y;have c:((y:Int)*2)=((2*y:Nat):Int):=by omega
 rw[c];show IntKind.i64.wrap ((BitVec.ofInt 64 ((2*y:Nat):Int) ||| BitVec.ofInt 64 ((1:Nat):Int)).toNat:Int)=_;rw[C6,C6,D9,C7,C7,Bn (by omega),Bn (by omega)];have d:2*y ||| 1=2*y+1:=by
  have e:(2:Nat)^1=2:=rfl;rw[e] at a;exact a.symm
 rw[d,Cn];omega
theorem Vj {a b c d:Int}{k e:Ad}(h:a=c)(f:b=d):Ending.returned (.tuple #[.int k a,.int e b])=.returned (.tuple #[.int k c,.int e d]):=by rw[h,f]
theorem eY (d:Int)(h:-32<=d/\d<=31)(w:A5)(i:FR w):A9 prog 203 #[.int .i64 d] w fun e n=>e=.returned (.tuple #[.int .i64 (GX d:Nat),.int .i64 (G2 d:Nat)])/\Below w.heap.size w n:=by
 by_cases c:d=0
 ·subst c;have j:w.cell? ⟨2,0,none⟩=some (.int .i64 1):=(i 0 (by decide)).1;have c1:w.cell? ⟨3,0,none⟩=some (.int .i64 1):=(i 0 (by decide)).2
  go_enter func203,ntmps203
  go_wp2
  go_region
  go_wp2
  go_ret2
  exact⟨rfl,(Dm _ w).drew⟩
 by_cases h1:0<d
 ·have f:=Dl (show GX d=2*HS d.toNat by unfold GX;rw[Bb c,Bc h1]);have g:=Dl (show G2 d=CL d.toNat+1 by unfold G2;rw[Bb c,Bc h1]);rw[f.out,g.out];obtain⟨a,k⟩:∃a:Nat,d=a:=⟨d.toNat,by omega⟩;subst k;rw[Do];have b:a<33:=by omega
  obtain⟨j,c1⟩:=i a b;obtain⟨l,m,_,b3⟩:=LK a b;have t0:0<a:=by omega
  generalize HS a=x at j b3 ⊢;generalize CL a=y at c1 l m ⊢;clear f g c h1
  go_enter func203,ntmps203
  go_wp2
  go_region
  go_wp2
  go_ret2
  exact⟨Vj (by omega) (by omega),(Dm _ w).drew⟩
 ·have f:=Dl (show GX d=2*HS (-d).toNat+1 by unfold GX;rw[Bb c,Bb h1]);have g:=Dl (show G2 d=CL (-d).toNat+1 by unfold G2;rw[Bb c,Bb h1]);rw[f.out,g.out];obtain⟨a,k⟩:∃a:Nat,(-d).toNat=a:=⟨_,rfl⟩;have t2:-d=(a:Int):=by omega
  rw[k];have b:a<33:=by omega
  obtain⟨j,c1⟩:=i a b;obtain⟨l,m,_,b3⟩:=LK a b;have t0:decide (0<d)=false:=by simpa using h1
  have t1:decide (d<0)=true:=by simp;omega
  generalize HS a=x at j b3 ⊢;generalize CL a=y at c1 l m ⊢;have O:=Dl (uQ x (by omega));clear f g c h1 k
  go_enter func203,ntmps203
  go_wp2
  go_region
  go_wp2
  go_ret2
  exact⟨Vj O.out (by omega),(Dm _ w).drew⟩
theorem yM (d:Int)(w:A5)(h:FR w):A9 prog 188 #[.int .i64 d] w fun e i=>e=.returned (.tuple #[.string (C2 d),.bool (!(C2 d).data.toList.isEmpty)])/\Below w.heap.size w i:=by
 by_cases c:d < -32
 ·have F:=Dl (Sr (d:=d) (.inl c));have t0:decide (d < -32)=true:=by simpa using c
  clear c;rw[F.out]
  go_enter func188,ntmps188
  go_wp2
  go_ret2
  exact⟨rfl,Dm _ _⟩
 by_cases h1:31<d
 ·have F:=Dl (Sr (d:=d) (.inr h1));have t0:decide (d < -32)=false:=by simpa using c
  have t1:decide (31<d)=true:=by simpa using h1
  clear c h1;rw[F.out]
  go_enter func188,ntmps188
  go_wp2
  go_ret2
  exact⟨rfl,Dm _ _⟩
 have hr:-32<=d/\d<=31:=by omega
 have t0:decide (d < -32)=false:=by simpa using c
 have t1:decide (31<d)=false:=by simpa using h1
 have a:=fun x j=>eY d hr x j;obtain⟨k,l,b2,b3⟩:=RM hr;have G:=Dl (show (!(C2 d).data.toList.isEmpty)=true by rw[vA hr];rfl);have F:=Dl (Tc hr);rw[G.out,F.out];generalize GX d=x at a b2 b3 ⊢;generalize G2 d=y at a k l b2 ⊢;have b:=fun w=>PB (x:Int) (y:Int) w (by omega) (by
  unfold EG;rw[Fb];refine⟨by omega,by omega,by omega,?_⟩;rw[Do]
  exact_mod_cast b2)
 simp only[Do] at b;clear c h1 F G b2
 go_enter func188,ntmps188
 go_wp2_with fail
 refine(a _ h).mono ?_;rintro e n ⟨rfl,f⟩;have g:=f.size
 go_wp2_with fail
 refine(b _).mono ?_;rintro e o ⟨rfl,m⟩
 go_wp2
 go_ret2
 exact⟨rfl,f.trans (m.mono g)⟩
def RU:List Nat:=[2,15,21,23,31,37,36,33,32,7,6,32,6,20,30,15,33,80,14,29,14,81,13,35,13,12,34,82,11,12,83,19,11,84,18,10,17,9,16,8,22,85,21,20,28,27,33,32,31,30,29,28,27,26,34,35,86,87,7,25,5,15,4,14,13,12,19,18,17,16,26,25,24,23,22,21,20,19,24,23,22,21,20,19,18,17,7,6,5,4,36,37,38,39,88,89,90,91,92,93,94,95,3]
def Rt:List Nat:=[2,4,6,7,8,9,9,10,10,11,11,11,3,6,8,10,11,12,4,8,10,12,5,9,10,5,9,12,5,10,12,6,10,12,6,10,6,10,6,10,7,12,7,7,8,8,9,9,9,9,9,9,9,9,11,11,12,12,4,9,11,6,11,6,6,6,7,7,7,7,8,8,8,8,8,8,8,8,9,9,9,9,9,9,9,9,10,10,10,10,11,11,11,11,12,12,12,12,12,12,12,12,7]
def Re:List Nat:=[12,6,4,3,3,3,3,2,2,2,2]
def D1 (i:Nat):Nat:=RU[i]?.getD 0
def AS (i:Nat):Nat:=Rt[i]?.getD 0
def NN (i:Nat):Nat:=Re[i]?.getD 0
theorem JR:∀i,i<103->1<=AS i/\AS i<=12/\D1 i<2^AS i/\D1 i<=95:=by decide +kernel
theorem TX:∀i,i<11->1<=NN i/\NN i<=12:=by decide +kernel
def DE (b:Bool)(a:Nat):Nat:=
 if b then (if a=0 then 3 else if a=1 then 2 else if a<=40 then 1 else 0) else (if a<11 then NN a else if a<=26 then 1 else 0)
theorem Py (a:Bool)(b:Nat):DE a b<=12:=by
 unfold DE;cases a
 ·simp only[Kd,Jb];by_cases h:b<11
  ·rw[Bc h];exact(TX b h).2
  ·rw[Bb h];split <;> omega
 ·simp only[Kl]
  repeat' split
  all_goals omega
def G5 (a:Bool):Nat->Nat
 |0=>0
 |r+1=>G5 a r+DE a r
theorem T8 (a:Bool):∀r,G5 a r<=12*r
 |0=>Ba _
 |r+1=>by
  have:=T8 a r;have:=Py a r;unfold G5;omega
theorem tP (a:Bool){r k:Nat}(h:r<=k):G5 a r<=G5 a k:=by
 induction h with
 |refl=>exact Ba _
 |step _ b=>exact Ea b (Nat.le_add_right _ _)
def JU (a:Bool):Nat:=if a then 58 else 0
def plT (a:Bool)(b c:Nat):Nat:=JU a+G5 a b+(c-1)
def inT (a:Bool)(c b:Nat):Bool:=decide (1<=b)&&decide (b<=DE a c)
theorem dM:∀a:Bool,∀b,b<64->∀c,c<13->inT a b c=true->plT a b c<102:=by decide +kernel
theorem PP {a:Bool}{b c:Nat}(hr:b<64)(h:inT a b c=true):plT a b c<102:=by
 refine dM a b hr c ?_ h;unfold inT at h;rw[Fa,Fb,Fb] at h;have:=Py a b;omega
def D6 (b:Bool)(c:Nat)(a:Int):Nat:=if inT b c a.natAbs then 2*D1 (plT b c a.natAbs)+(if a<0 then 1 else 0) else ((6+b.toNat)*64+c)*256+(a%256).toNat
def D4 (b:Bool)(c:Nat)(a:Int):Nat:=if inT b c a.natAbs then AS (plT b c a.natAbs)+1 else 22
def FC (b:Bool)(c a:Int):ByteArray:=if DY c a then ⟨(AI (D6 b c.toNat a) (D4 b c.toNat a)).toArray⟩ else ⟨#[]⟩
def BD (w:A5):Prop:=
 (∀i,i<103->w.cell? ⟨5,i,none⟩=some (.int .u16 (D1 i:Nat))/\w.cell? ⟨6,i,none⟩=some (.int .u8 (AS i:Nat)))/\
  ∀i,i<11->w.cell? ⟨7,i,none⟩=some (.int .u8 (NN i:Nat))
theorem BD.lt {w:A5}(h:BD w):5<w.heap.size/\6<w.heap.size/\7<w.heap.size:=
 ⟨Fs w ⟨5,0,none⟩ (h.1 0 (by decide)).1,Fs w ⟨6,0,none⟩ (h.1 0 (by decide)).2,Fs w ⟨7,0,none⟩ (h.2 0 (by decide))⟩
theorem BD.below {w b:A5}(h:BD w)(a:Below w.heap.size w b):BD b:=
 ⟨fun i hi=>⟨(a.cell (p:=⟨5,i,none⟩) h.lt.1).trans (h.1 i hi).1,(a.cell (p:=⟨6,i,none⟩) h.lt.2.1).trans (h.1 i hi).2⟩,
  fun i hi=>(a.cell (p:=⟨7,i,none⟩) h.lt.2.2).trans (h.2 i hi)⟩
theorem Tg {a b c d:Int}{k e:Ad}(h:a=c)(f:b=d):Ending.returned (.tuple #[.int k a,.int e b])=.returned (.tuple #[.int k c,.int e d]):=by rw[h,f]
theorem VB (b:Bool)(w:A5):A9 prog 235 #[.bool b] w fun e a=>e=.returned (.int .i64 (b.toNat:Nat))/\w=a:=by
 cases b
 all_goals
  go_enter func235,ntmps235
  go_wp2
  go_ret
  exact⟨rfl,rfl⟩
theorem OQ (i:Nat)(hi:i<103)(w:A5)(a:BD w):A9 prog 234 #[.int .i64 (i:Int)] w fun e b=>e=.returned (.tuple #[.int .i64 (D1 i:Nat),.int .i64 (AS i:Nat)])/\Below w.heap.size w b:=by
 obtain⟨c,c1⟩:=a.1 i hi;obtain⟨d,f,_,b3⟩:=JR i hi;generalize D1 i=x at c b3 ⊢;generalize AS i=y at c1 d f ⊢;clear a
 go_enter func234,ntmps234
 go_wp2
 go_region
 go_wp2
 go_ret2
 exact⟨Tg (by omega) (by omega),(Dm _ w).drew⟩
theorem R1 (i:Nat)(hi:i<103)(w:A5)(c:BD w):A9 prog 236 #[.int .i64 (i:Int)] w fun e d=>e=.returned (.int .i64 ((if i=102 then 22 else AS i+1:Nat):Int))/\Below w.heap.size w d:=by
 have a:=fun x f=>OQ i hi x f;obtain⟨g,j,_,b3⟩:=JR i hi;by_cases h:i=102
 ·subst h
  go_enter func236,ntmps236
  go_wp2_with fail
  refine(a _ c).mono ?_;rintro e k ⟨rfl,b⟩
  go_wp2
  go_ret
  exact⟨rfl,b⟩
 ·rw[Bb h];generalize AS i=y at a g j ⊢;have l:((i:Int)==102)=false:=by rw[Ez];omega
  clear h
  go_enter func236,ntmps236
  go_wp2_with fail
  refine(a _ c).mono ?_;rintro e k ⟨rfl,b⟩
  go_wp2
  go_ret
  exact⟨H0 (by omega),b⟩
theorem Tp (a:Bool)(r:Nat)(hr:r<64)(w:A5)(b:BD w):A9 prog 242 #[.bool a,.int .i64 (r:Int)] w fun e d=>e=.returned (.int .i64 (DE a r:Nat))/\w=d:=by
 cases a with
 |false=>
  by_cases h:r<11
  ·have F:=Dl (show DE false r=NN r by unfold DE;simp[h]);have f:=b.2 r h;obtain⟨g,i⟩:=TX r h;rw[F.out];generalize NN r=y at f g i ⊢;have t0:decide ((r:Int)<11)=true:=by simp;omega
   clear F b
   go_enter L0,Kz
   go_wp2
   go_ret
   exact⟨H0 (by omega),rfl⟩
  ·by_cases h2:r<=26
   ·have F:=Dl (show DE false r=1 by unfold DE;simp[h,h2]);have t0:decide ((r:Int)<11)=false:=by simp;omega
    have t1:decide ((r:Int)<=26)=true:=by simp;omega
    rw[F.out];clear h h2 b
    go_enter L0,Kz
    go_wp2
    go_ret
    exact⟨rfl,rfl⟩
   ·have F:=Dl (show DE false r=0 by unfold DE;simp[h,h2]);have t0:decide ((r:Int)<11)=false:=by simp;omega
    have t1:decide ((r:Int)<=26)=false:=by simp;omega
    rw[F.out];clear h h2 b
    go_enter L0,Kz
    go_wp2
    go_ret
    exact⟨rfl,rfl⟩
 |true=>
  by_cases c:r=0
  ·subst c
   go_enter L0,Kz
   go_wp2
   go_ret
   exact⟨rfl,rfl⟩
  ·have j:((r:Int)==0)=false:=by rw[Ez];omega
   by_cases h1:r=1
   ·subst h1
    go_enter L0,Kz
    go_wp2
    go_ret
    exact⟨rfl,rfl⟩
   ·have k:((r:Int)==1)=false:=by rw[Ez];omega
    by_cases h2:r<=40
    ·have F:=Dl (show DE true r=1 by unfold DE;simp[c,h1,h2]);have t1:decide ((r:Int)<=40)=true:=by simp;omega
     rw[F.out];clear c h1 h2 b
     go_enter L0,Kz
     go_wp2
     go_ret
     exact⟨rfl,rfl⟩
    ·have F:=Dl (show DE true r=0 by unfold DE;simp[c,h1,h2]);have t1:decide ((r:Int)<=40)=false:=by simp;omega
     rw[F.out];clear c h1 h2 b
     go_enter L0,Kz
     go_wp2
     go_ret
     exact⟨rfl,rfl⟩
theorem sI {a c:Int}{k:Ad}{b:Bool}(h:a=c):Ending.returned (.tuple #[.int k a,.bool b])=.returned (.tuple #[.int k c,.bool b]):=by rw[h]
theorem WB (b:Bool)(r:Nat)(c:Int)(hr:r<64)(hl:-128<=c/\c<=127)(w:A5)(L:BD w):A9 prog 233 #[.agg #[.bool b,.int .i64 (r:Int),.int .i64 c]] w fun e Y=>
  e=.returned (.tuple #[.int .i64 ((if inT b r c.natAbs then plT b r c.natAbs else 102:Nat):Int),.bool (inT b r c.natAbs)])/\Below w.heap.size w Y:=by
 have s:∀o,Below w.heap.size w (w.alloc o):=fun o=>(Dm _ w).alloc (Ba _) o;obtain⟨a,N⟩:∃a:Nat,c.natAbs=a:=⟨_,rfl⟩;rw[N];by_cases O:c=0
 ·subst O;obtain rfl:a=0:=by omega
  have F:=Dl (show inT b r 0=false by unfold inT;simp);rw[F.out]
  go_enter func233,ntmps233
  go_wp2
  go_ret2
  exact⟨rfl,s _⟩
 have hm:=Py b r;have d:=fun x H=>Tp b r hr x H;have n:=T8 b r;have t:∀j,j<r->JU b+G5 b (j+1)<=900:=fun j hj=>by have:=T8 b (j+1);have Z:JU b<=58:=by{cases b <;> decide};omega
 have z:plT b r a=JU b+G5 b r+(a-1):=rfl;have h:inT b r a=(decide (1<=a)&&decide (a<=DE b r)):=rfl;have i:∀j,G5 b (j+1)=G5 b j+DE b j:=fun j=>rfl;have f:=fun(j:Nat) (hj:j<r) x H=>Tp b j (by omega) x H;have A:=fun(j:Nat)=>Py b j;have T:=Dl (fun(x:A5) (H:Below w.heap.size w x)=>(L.below H:BD x));by_cases g:a<=DE b r
 ·have F:=Dl (show inT b r a=true by rw[h];simp;omega);rw[F.out,Bc rfl];have B:=Dl z;have C:=Dl i;have P:=Dl t;have p:=Dl f;have U:=Dl A;generalize DE b r=m at d hm g h;have t0:decide ((m:Int)<a)=false:=by simp;omega
  have t1:decide (m<a)=false:=by simp;omega
  have qw:IntKind.i64.wrap (-(a:Int)) = -(a:Int):=Kx _ (by omega);have g0:((a:Int)==0)=false:=by rw[Ez];omega
  have D:c=(a:Int)\/c = -(a:Int):=by omega
  have Q:0<a:=by omega
  have R:a<=128:=by omega
  clear L h O N hl g F z i t f A;have k:Below w.heap.size w (w.alloc (.cells #[.bool b,.int .i64 (r:Int),.int .i64 c] 153 (0,0))):=s _;have l:=T.out _ k;have E:G5 b 0=0:=rfl;generalize G5 b=sm at B C P n E;generalize DE b=V at C p U;generalize q:JU b=bse at B P;have I:=Dl q;have aa:=Dl E
  clear E q n;cases b
  all_goals
   rcases D with rfl|rfl
   all_goals
    go_enter func233,ntmps233
    go_wp2_with fail
    refine(d _ l).mono ?_;rintro e W ⟨rfl,rfl⟩;clear d
    go_wp2
    go_loop [5,32] (fun u v=>∃(j x:Nat),j<=r/\v=.int .i64 j/\u=.int .i64 ((a:Int)-1+x)/\x<=900/\Hid (x=bse+sm j)) (fun _ v=>64-(intOf v).toNat)
    case atStart=>exact⟨0,bse,Dn _,rfl,by rw[<-I.out];simp[JU],by rw[<-I.out];decide,Dl (by rw[aa.out];rfl)⟩
    case round=>
     obtain⟨j,x,hj,rfl,rfl,H,G⟩:=hrel;by_cases J:j<r
     ·have t1:decide ((j:Int)<r)=true:=by simp;omega
      have K:=p.out j J _ l;have M:=U.out j;have S:=Dl (C.out j);have X:=Dl (show x+V j<=900 by have:=P.out j J;rw[S.out] at this;rw[G.out];omega);generalize V j=y at K M S X
      go_wp2_with fail
      refine K.mono ?_;rintro e W ⟨rfl,rfl⟩
      go_wp2
      go_round
      case rel=>exact⟨j+1,x+y,by omega,by go_num,by go_num,X.out,Dl (by rw[G.out,S.out,Bz])⟩
      case measure=>simp[intOf];omega
     ·obtain rfl:j=r:=by omega
      have t2:decide (j<j)=false:=by simp
      go_wp2
      go_ret2
      exact⟨sI (by rw[B.out];have:=G.out;omega),k⟩
 ·have F:=Dl (show inT b r a=false by rw[h];simp;omega);rw[F.out,Bb (by decide)];generalize DE b r=m at d hm g h;have t0:decide ((m:Int)<a)=true:=by simp;omega
  have t1:decide (m<a)=true:=by simp;omega
  have qw:IntKind.i64.wrap (-(a:Int)) = -(a:Int):=Kx _ (by omega);have g0:((a:Int)==0)=false:=by rw[Ez];omega
  have D:c=(a:Int)\/c = -(a:Int):=by omega
  have Q:0<a:=by omega
  have R:a<=128:=by omega
  clear L h O N hl g F z i t f A;have k:Below w.heap.size w (w.alloc (.cells #[.bool b,.int .i64 (r:Int),.int .i64 c] 153 (0,0))):=s _;have l:=T.out _ k;rcases D with rfl|rfl
  all_goals
   go_enter func233,ntmps233
   go_wp2_with fail
   refine(d _ l).mono ?_;rintro e W ⟨rfl,rfl⟩
   go_wp2
   go_ret2
   exact⟨rfl,k⟩
end
section
def Pl (i:Nat):ByteArray:=⟨(AI (D1 i) (AS i)).toArray⟩
def HD (i:Nat):ByteArray×Int:=(Pl i,i)
def allT:List (ByteArray×Int):=(List.range 103).map HD
def rowsT:List (List UInt8):=allT.map AC
theorem Q0:BY rowsT:=by unfold BY;decide +kernel
theorem Qy {i:Nat}(h:i<103):HD i∈allT:=Kq (Bq.2 h)
theorem Xm (i:Nat):AC (HD i)=AI (D1 i) (AS i):=rfl
theorem K1 (i:Nat):(AC (HD i)).length=AS i:=BN _ _
theorem rA {r:List UInt8}(h:r∈rowsT):∃i,i<103/\r=AC (HD i):=by
 obtain⟨x,a,rfl⟩:=Gf.1 h;obtain⟨i,hi,rfl⟩:=Gf.1 a;exact⟨i,Bq.1 hi,rfl⟩
theorem YK {i:Nat}(h:i<103):AC (HD i)∈rowsT:=Kq (Qy h)
def JD (v n i:Nat):Bool:=D1 i / 2^(AS i-n)==v / 2^(n-AS i)
theorem Sc {q:List UInt8}(d:AK q=true){i:Nat}(hi:i<103):JD (num q) q.length i=(q.isPrefixOf (AC (HD i)) || (AC (HD i)).isPrefixOf q):=by
 obtain⟨g,j,b2,_⟩:=JR i hi;rw[Xm];unfold JD;by_cases h:q.length<=AS i
 ·rw[show q.length-AS i=0 by omega,Fm,Fl,U4 d b2,Kp h,Jw];cases hp:(AI (D1 i) (AS i)).isPrefixOf q with
  |false=>rw[Bool.or_false]
  |true=>
   have hl:=H3 hp;rw[BN] at hl;have e:q=AI (D1 i) (AS i):=by
    have:=F4.1 hp;rw[BN,Bh (by omega)] at this;exact this
   have hn:num q=D1 i:=by rw[e,IM,Bn b2]
   rw[hn,show AS i-q.length=0 by omega,Fm,Fl,Bool.or_true];simp
 ·have f:q.isPrefixOf (AI (D1 i) (AS i))=false:=by
   cases hp:q.isPrefixOf (AI (D1 i) (AS i)) with
   |false=>rfl
   |true=>
    have:=H3 hp;rw[BN] at this;exact absurd this h
  rw[show AS i-q.length=0 by omega,Fm,Fl,f,Bool.false_or];have a:num q=num (q.take (AS i))*2^(q.length-AS i)+num (q.drop (AS i)):=by
   rw[<-Bj,<-MZ,Bs]
  have b:num (q.drop (AS i))<2^(q.length-AS i):=by
   have:=O3 (q.drop (AS i)) (FO _ _ d) (q.drop (AS i)).length (Ba _);rw[Bh (Ba _),Bj] at this;exact this
  have c:num q / 2^(q.length-AS i)=num (q.take (AS i)):=by
   rw[a,Ca,Nat.mul_add_div (Cc _),Cx b,Cw]
  rw[c,Ju,Bm,F4,BN];constructor
  ·intro e;have h2:=L1 (q.take (AS i)) (HZ _ _ d);rw[Be,Bw (by omega),<-e] at h2;exact h2.symm
  ·intro e;rw[e,IM,Bn b2]
theorem YQ {rows:List (List UInt8)}(c:BY rows){b r:List UInt8}(hr:r∈rows)(d:b.isPrefixOf r=true)(hl:b.length<r.length):∀{k m:Nat},m<=b.length+1->b.length+2<=m+k->tk rows b k m=(2,0)
 |0,m,h1,h2=>by omega
 |k+1,m,h1,h2=>by
  by_cases hs:b.length<m
  ·exact TN hs
  ·have a:(b.take m).isPrefixOf r=true:=MI (MP b m) d;rw[Qm (by omega) (fun hm=>?_) hr a]
   ·exact YQ c hr d hl (by omega) (by omega)
   ·have e:=C8 List.length (N2 c hm hr a);rw[Be] at e;omega
theorem YO {rows:List (List UInt8)}{b:List UInt8}{n:Nat}(hn:n<=b.length)(h:∀r∈rows,(b.take n).isPrefixOf r=false/\r.isPrefixOf (b.take n)=false):∀{k m:Nat},m<=n->tk rows b k m=(3,0)
 |0,_,_=>rfl
 |k+1,m,hm=>by
  unfold tk;rw[Bb (by omega),Bb]
  ·split
   ·rename_i a
    obtain⟨r,hr,d⟩:=K8.1 a;by_cases e:m=n
    ·subst e;rw[(h r hr).1] at d;cases d
    ·exact YO hn h (by omega)
   ·rfl
  ·intro c;have:=(h _ c).2;rw[show (b.take m).isPrefixOf (b.take n)=true by rw[Jt];exact(List.take_prefix_take_left hm)] at this;cases this
theorem WE {b:List UInt8}{n i:Nat}(hn:n=min 12 b.length)(hi:i<103)(h:JD (num (b.take n)) n i=true)(c:AK b=true)(hl:AS i<=n):gtk allT b=((i:Int),0,AS i)/\AS i<=b.length:=by
 have a:(b.take n).length=n:=by rw[Be];omega
 have h2:=Sc (HZ b n c) hi;rw[a,h] at h2;have d:(AC (HD i)).isPrefixOf (b.take n)=true:=by
  rcases (Cu _ _).mp h2.symm with h3|h3
  ·have:=H3 h3;rw[a,K1] at this;have e:b.take n=AC (HD i):=by
    have:=F4.1 h3;rw[Bh (by rw[a,K1];omega)] at this;exact this.symm
   rw[e,IF]
  ·exact h3
 obtain⟨f,g,_,_⟩:=JR i hi;have:=P7 Q0 (Qy hi) (by rw[K1];exact f) (by rw[K1];omega) (MI d (MP b n));rw[K1] at this;exact⟨this,by omega⟩
theorem Ub {b:List UInt8}{n i:Nat}(hn:n=min 12 b.length)(hi:i<103)(h:JD (num (b.take n)) n i=true)(c:AK b=true)(hl:n<AS i):gtk allT b=(0,2,0):=by
 obtain⟨e,f,_,_⟩:=JR i hi;have a:n=b.length:=by omega
 have d:b.take n=b:=Bh (by omega);have h2:=Sc c hi;rw[d,a] at h;rw[h] at h2;refine MW (n:=0) (YQ Q0 (YK hi) (b:=b) ?_ (by rw[K1];omega) (by omega) (by omega)) (by decide);rcases (Cu _ _).mp h2.symm with h3|h3
 ·exact h3
 ·have:=H3 h3;rw[K1] at this;omega
theorem VN {b:List UInt8}{n:Nat}(hn:n=min 12 b.length)(h:∀i,i<103->JD (num (b.take n)) n i=false)(e:AK b=true):gtk allT b=(0,3,0):=by
 have c:(b.take n).length=n:=by rw[Be];omega
 have a:∀r∈rowsT,(b.take n).isPrefixOf r=false/\r.isPrefixOf (b.take n)=false:=by
  intro r hr;obtain⟨i,hi,rfl⟩:=rA hr;have h2:=Sc (HZ b n e) hi;rw[c,h i hi] at h2;exact(Bool.or_eq_false_iff).mp h2.symm
 have h1:1<=n:=by
  rcases Nat.eq_zero_or_pos n with d|d
  ·have:=(a _ (YK (i:=0) (by decide))).1;rw[d,Bk] at this;simp at this
  ·exact d
 exact MW (n:=0) (YO (by omega) a h1) (by decide)
def evZ:List (Bool×Nat×Nat):=(List.range 27).flatMap (fun r=>(List.range (DE false r)).map fun i=>(false,r,i+1))++(List.range 41).flatMap (fun r=>(List.range (DE true r)).map fun i=>(true,r,i+1))
def evT (p:Nat):Bool×Nat×Nat:=evZ[p]?.getD (false,0,0)
theorem Yp:∀p,p<102->(inT (evT p).1 (evT p).2.1 (evT p).2.2=true/\plT (evT p).1 (evT p).2.1 (evT p).2.2=p/\(evT p).2.1<41)/\(evT p).1=decide (58<=p)/\1<=(evT p).2.2/\(evT p).2.2<=12:=by decide +kernel
theorem qH:∀a:Bool,∀b,b<64->∀c,c<13->inT a b c=true->evT (plT a b c)=(a,b,c):=by decide +kernel
theorem Yd {a:Bool}{c b:Nat}:inT a c b=true↔1<=b/\b<=DE a c:=by
 unfold inT;rw[Fa,Fb,Fb]
theorem uT {a:Bool}{b c:Nat}(hr:b<64)(h:inT a b c=true):evT (plT a b c)=(a,b,c):=by
 have:=(Yd.1 h).2;have:=Py a b;exact qH a b hr c (by omega) h
def EJ (v:Nat):Bool×Nat×Int:=(v / 16384%2==1,v / 256%64,if 127<v%256 then ((v%256:Nat):Int)-256 else ((v%256:Nat):Int))
def NA (x:Bool×Nat×Nat)(s:Bool):Bool×Nat×Int:=(x.1,x.2.1,if s then -(x.2.2:Int) else (x.2.2:Int))
def etk (b:List UInt8):(Bool×Nat×Int)×Int×Nat:=
 if (gtk allT b).2.1≠0 then ((false,0,0),(gtk allT b).2.1,0) else
 if (gtk allT b).1.toNat=102 then
  if b.length<22 then ((false,0,0),2,0) else
  if DY (EJ (num (b.take 22))).2.1 (EJ (num (b.take 22))).2.2 && !inT (EJ (num (b.take 22))).1 (EJ (num (b.take 22))).2.1 (EJ (num (b.take 22))).2.2.natAbs then (EJ (num (b.take 22)),0,22) else ((false,0,0),7,0)
 else
  if b.length<AS (gtk allT b).1.toNat+1 then ((false,0,0),2,0) else
  (NA (evT (gtk allT b).1.toNat) (num (b.take (AS (gtk allT b).1.toNat+1))%2==1),0,AS (gtk allT b).1.toNat+1)
theorem UF {b:List UInt8}{f:Int}(h:gtk allT b=(0,f,0))(a:f≠0):etk b=((false,0,0),f,0):=by
 unfold etk;rw[h,Bc a]
theorem Uv {b:List UInt8}{i n:Nat}(h:gtk allT b=((i:Int),0,n))(hl:b.length<if i=102 then 22 else AS i+1):etk b=((false,0,0),2,0):=by
 unfold etk;rw[h,Bb (fun h=>h rfl),Do];by_cases hi:i=102
 ·rw[Bc hi] at hl;rw[Bc hi,Bc hl]
 ·rw[Bb hi] at hl;rw[Bb hi,Bc hl]
theorem Sz {b:List UInt8}{i n:Nat}(h:gtk allT b=((i:Int),0,n))(hi:i≠102)(hl:AS i+1<=b.length):etk b=(NA (evT i) (num (b.take (AS i+1))%2==1),0,AS i+1):=by
 unfold etk;rw[h,Bb (fun h=>h rfl),Do,Bb hi,Bb (by omega)]
theorem T6 {b:List UInt8}{n:Nat}(h:gtk allT b=((102:Int),0,n))(hl:22<=b.length):etk b=if DY (EJ (num (b.take 22))).2.1 (EJ (num (b.take 22))).2.2 && !inT (EJ (num (b.take 22))).1 (EJ (num (b.take 22))).2.1 (EJ (num (b.take 22))).2.2.natAbs then (EJ (num (b.take 22)),0,22) else ((false,0,0),7,0):=by
 unfold etk;rw[h,Bb (fun h=>h rfl),Bc (show ((102:Int),(0:Int),n).1.toNat=102 from rfl),Bb (by omega)]
theorem XL (v:Nat):(EJ v).2.1<64∧-128<=(EJ v).2.2/\(EJ v).2.2<=127:=by
 unfold EJ;refine⟨Nat.mod_lt _ (by decide),?_⟩;show -128<=(if 127<v%256 then ((v%256:Nat):Int)-256 else ((v%256:Nat):Int))/\(if 127<v%256 then ((v%256:Nat):Int)-256 else ((v%256:Nat):Int))<=127
 split <;> omega
def ID (i:Nat):ByteArray×Int:=(C2 ((i:Int)-32),(i:Int)-32)
def allD:List (ByteArray×Int):=(List.range 64).map ID
def rowsD:List (List UInt8):=allD.map AC
def dtk (b:List UInt8):Int×Int×Nat:=gtk allD b
theorem RJ:BY rowsD:=by unfold BY;decide +kernel
theorem yB:∀x∈allD,BM (AC x)=true:=by decide +kernel
theorem Qk {i:Nat}(h:i<64):ID i∈allD:=Kq (Bq.2 h)
theorem Tk {i:Nat}(h:i<64):AC (ID i)∈rowsD:=Kq (Qk h)
theorem NX (i:Nat):(CO i).length=CL i:=BN _ _
theorem vM:∀i,i<33->∀j,j<33->i≠j->(CO i).isPrefixOf (CO j)=false:=by decide +kernel
theorem Vo:∀r∈rowsD,r=CO 0\/∃i∈List.range 33,r.dropLast=CO i/\1<r.length:=by decide +kernel
theorem YE:CO 0=AC (ID 32):=by decide +kernel
theorem ZT:∀i,i<32->0<i->CO i++[48]=AC (ID (32+i)):=by decide +kernel
theorem QA:∀i,i<33->0<i->CO i++[49]=AC (ID (32-i)):=by decide +kernel
theorem cD:∀r∈rowsD,(CO 32++[48]).isPrefixOf r=false:=by decide +kernel
theorem T7 {i:Nat}(h:i<33):∃r∈rowsD,(CO i).isPrefixOf r=true:=by
 by_cases a:i=0
 ·subst a;exact⟨_,Tk (i:=32) (by decide),by rw[YE,IF]⟩
 ·refine⟨_,Tk (i:=32-i) (by omega),?_⟩;rw[<-QA i h (by omega),Jt];exact Kb _ _
theorem oF {i j:Nat}(hi:i<33)(hj:j<33)(h:(CO i).isPrefixOf (CO j)=true):i=j:=by
 by_cases e:i=j
 ·exact e
 ·rw[vM i hi j hj e] at h;cases h
theorem Y8 {i:Nat}(hi:i<33)(a:i≠0):CO i∉rowsD:=by
 intro h;have e:=N2 RJ h (Tk (i:=32-i) (by omega)) (by rw[<-QA i hi (by omega),Jt];exact Kb _ _);rw[<-QA i hi (by omega)] at e;have:=C8 List.length e;rw[B9,Bo] at this;omega
def MF (q:List UInt8):Prop:=∀i,i<33->(CO i).isPrefixOf q=false
theorem dO:MF []:=by unfold MF;decide +kernel
theorem uM {b r:List UInt8}{n:Nat}(hn:n+1<=b.length)(c:MF (b.take n))(hr:r∈rowsD)(a:(b.take (n+1)).isPrefixOf r=true):∃i,i<33/\(b.take (n+1)).isPrefixOf (CO i)=true:=by
 have hl:(b.take (n+1)).length=n+1:=by rw[Be];omega
 rcases Vo r hr with rfl|⟨i,hi,hd,h1⟩
 ·exact⟨0,by decide,a⟩
 ·rw[Bq] at hi;refine⟨i,hi,?_⟩;by_cases d:(b.take (n+1)).length<r.length
  ·rw[<-hd];exact eE a d
  ·exfalso;have f:=H3 a;have e:b.take (n+1)=r:=by
    have:=F4.1 a;rw[Bh (by omega)] at this;exact this.symm
   have h2:(CO i).isPrefixOf (b.take n)=true:=by
    rw[<-hd,<-e,Kv,Cj,hl,show min (n+1-1) (n+1)=n by omega,IF]
   rw[c i hi] at h2;cases h2
theorem kT {b:List UInt8}{k n:Nat}(hn:n+1<=b.length)(a:MF (b.take n))(h:∀i,i<33->(b.take (n+1)).isPrefixOf (CO i)=false):tk rowsD b (k+1) (n+1)=(3,0):=by
 refine XF hn fun r hr=>?_;cases hp:(b.take (n+1)).isPrefixOf r with
 |false=>rfl
 |true=>
  obtain⟨i,hi,h2⟩:=uM hn a hr hp;rw[h i hi] at h2;cases h2
theorem mJ {b:List UInt8}{k n i:Nat}(hn:n+1<=b.length)(d:MF (b.take n))(hi:i<33)(h:(b.take (n+1)).isPrefixOf (CO i)=true)(g:CL i≠n+1):
  tk rowsD b (k+1) (n+1)=tk rowsD b k (n+2)/\MF (b.take (n+1)):=by
 have hl:(b.take (n+1)).length=n+1:=by rw[Be];omega
 have f:=H3 h;rw[hl,NX] at f;have a:MF (b.take (n+1)):=by
  intro j hj;cases c:(CO j).isPrefixOf (b.take (n+1)) with
  |false=>rfl
  |true=>
   have e:=oF hj hi (MI c h);subst e;have:=H3 c;rw[hl,NX] at this;omega
 refine⟨?_,a⟩;obtain⟨r,hr,c⟩:=T7 hi;refine Qm hn (fun hm=>?_) hr (MI h c);rcases Vo _ hm with e|⟨j,hj,hd,_⟩
 ·have:=a 0 (by decide);rw[e,IF] at this;cases this
 ·have:=d j (Bq.1 hj);rw[<-hd,Kv,Cj,hl,show min (n+1-1) (n+1)=n by omega,IF] at this;cases this
theorem wJ {b:List UInt8}{i n:Nat}(hn:n<=b.length)(h:(b.take n).isPrefixOf (CO i)=true)(a:CL i=n):b.take n=CO i:=by
 have:=F4.1 h;rw[Bh (by rw[NX,Be];omega)] at this;exact this.symm
theorem gJ {b:List UInt8}(c:b.take (CL 0)=CO 0):dtk b=(0,0,1):=by
 have a:(CO 0).isPrefixOf b=true:=by rw[<-c];exact MP _ _
 rw[YE] at a;have:=P7 RJ (Qk (i:=32) (by decide)) (by decide +kernel) (by decide +kernel) a;rw[show (AC (ID 32)).length=1 by decide +kernel] at this;exact this
theorem yU {b:List UInt8}{i n:Nat}(hi:i<33)(c:i≠0)(f:CL i=n)(hn:n<=b.length)(a:b.take n=CO i)(ht:tk rowsD b 25 1=tk rowsD b (26-n) n)(hs:b.length<n+1):dtk b=(0,2,0):=by
 have d:=(LK i hi).2.1;obtain⟨r,hr,e⟩:=T7 hi;refine MW (n:=0) (ht.trans ?_) (by decide);rw[show 26-n=(24-n)+1+1 by omega,Qm hn (by rw[a];exact Y8 hi c) hr (by rw[a];exact e)];exact TN hs
theorem QZ {b:List UInt8}{i n:Nat}(hn:n<b.length)(a:b.take n=CO i){c:UInt8}(hc:b[n]=c):b.take (n+1)=CO i++[c]:=by
 rw[Bd hn,a,hc]
theorem aV {b:List UInt8}{n:Nat}(c:CL 32=n)(hn:n<b.length)(a:b.take n=CO 32)(hc:b[n]=48)(ht:tk rowsD b 25 1=tk rowsD b (26-n) n):dtk b=(0,3,0):=by
 have d:n<=12:=by rw[<-c];exact(LK 32 (by decide)).2.1
 obtain⟨r,hr,e⟩:=T7 (i:=32) (by decide);refine MW (n:=0) (ht.trans ?_) (by decide);rw[show 26-n=(24-n)+1+1 by omega,Qm (by omega) (by rw[a];exact Y8 (by decide) (by decide)) hr (by rw[a];exact e)];refine XF (by omega) fun r hr=>?_;rw[QZ hn a hc];exact cD r hr
theorem S0 {b:List UInt8}{j:Nat}(hj:j<64)(a:(AC (ID j)).isPrefixOf b=true):dtk b=((j:Int)-32,0,(AC (ID j)).length):=by
 obtain⟨h1,h2,_⟩:=GI (yB _ (Qk hj));exact P7 RJ (Qk hj) (by have:=Ky.2 h1;omega) h2 a
theorem fL {b:List UInt8}{i n:Nat}(hi:i<32)(a:0<i)(c:CL i=n)(hn:n<b.length)(d:b.take n=CO i)(hc:b[n]=48):dtk b=((i:Int),0,n+1):=by
 have e:=ZT i hi a;have f:(AC (ID (32+i))).isPrefixOf b=true:=by rw[<-e,<-QZ hn d hc];exact MP _ _
 rw[S0 (by omega) f,<-e,B9,NX,c,show ((32+i:Nat):Int)-32=i by omega]
 rfl
theorem mU {b:List UInt8}{i n:Nat}(hi:i<33)(a:0<i)(c:CL i=n)(hn:n<b.length)(d:b.take n=CO i)(hc:b[n]=49):dtk b=(-(i:Int),0,n+1):=by
 have e:=QA i hi a;have f:(AC (ID (32-i))).isPrefixOf b=true:=by rw[<-e,<-QZ hn d hc];exact MP _ _
 rw[S0 (by omega) f,<-e,B9,NX,c,show ((32-i:Nat):Int)-32 = -(i:Int) by omega]
 rfl
end
section
open Go.RowKit Go.Lib
theorem BD.under {w c:A5}{B:Nat}(h:BD w)(a:Below B w c)(b:5<B/\6<B/\7<B):BD c:=
 ⟨fun i hi=>⟨(a.cell (p:=⟨5,i,none⟩) b.1).trans (h.1 i hi).1,(a.cell (p:=⟨6,i,none⟩) b.2.1).trans (h.1 i hi).2⟩,
  fun i hi=>(a.cell (p:=⟨7,i,none⟩) b.2.2).trans (h.2 i hi)⟩
theorem tU {a b c:A5}{row:Option Nat}{B:Nat}(h:a.grownBy b row)(d:Below B b c)(g:a.heap.size<=B):a.grownBy c row:=
 ⟨d.os.trans h.os,d.tape.trans h.tape,d.output.trans h.output,Ea h.size d.size,fun k f e=>(d.block k (by omega)).trans (h.block k f e)⟩
structure Ybq (N:Nat) (w:A5):Prop where
 pats:IK w
 mvd:FR w
 steps:GQ w
 tcoef:BD w
 lo:1<N/\2<N/\3<N/\0<N/\5<N/\6<N/\7<N
theorem Ybq.here {w:A5}(h1:IK w)(h2:FR w)(h3:GQ w)(h4:BD w):Ybq w.heap.size w:=
 ⟨h1,h2,h3,h4,h1.lt,h2.lt.1,h2.lt.2,h3.lt,h4.lt.1,h4.lt.2.1,h4.lt.2.2⟩
theorem Ybq.below {N:Nat}{w x:A5}(h:Ybq N w)(a:Below N w x):Ybq N x:=by
 obtain⟨h1,h2,h3,h4,c,d,e,b,f,g,j⟩:=h;refine⟨fun i hi=>?_,fun i hi=>⟨?_,?_⟩,fun i hi=>⟨?_,?_⟩,h4.under a ⟨f,g,j⟩,c,d,e,b,f,g,j⟩
 ·exact(a.cell (p:=⟨1,i,none⟩) c).trans (h1 i hi)
 ·exact(a.cell (p:=⟨2,i,none⟩) d).trans (h2 i hi).1
 ·exact(a.cell (p:=⟨3,i,none⟩) e).trans (h2 i hi).2
 ·exact(a.cell (p:=⟨0,2*i,none⟩) b).trans (h3 i hi).1
 ·exact(a.cell (p:=⟨0,2*i+1,none⟩) b).trans (h3 i hi).2
theorem WC:(Rows.laid_overspill_mvd_codes:DataW Unit)=tabData .i64 (Th.map fun z:Nat=>(z:Int))/\(Rows.laid_overspill_mvd_lengths:DataW Unit)=tabData .i64 (OH.map fun z:Nat=>(z:Int)):=⟨by kernel_rfl,by kernel_rfl⟩
theorem oG (l:List Nat)(i:Nat)(h:i<(l.map fun z:Nat=>(z:Int)).length):(l.map fun z:Nat=>(z:Int))[i]=((l[i]?.getD 0:Nat):Int):=by
 have h2:i<l.length:=by simpa using h
 rw[Gl,Fe h2]
 rfl
theorem vX {laid : List (String × DataW Unit)} {W : World} (hL : laidMetH prog laid W) (hm : (("overspill/mvd.codes", Rows.laid_overspill_mvd_codes) ∈ laid ∧ ("overspill/mvd.lengths", Rows.laid_overspill_mvd_lengths) ∈ laid) ∧ (laid.all fun x => x.2.handleName?.isNone) = true) : FR W := by
 rw[Jh _ _ _ hm.2] at hL;obtain⟨ps,hv,_,_⟩:=hL;obtain⟨h1,h2⟩:=hm.1;rw[WC.1] at h1;rw[WC.2] at h2;have hlc:(Th.map fun z:Nat=>(z:Int)).length=33:=rfl;have hll:(OH.map fun z:Nat=>(z:Int)).length=33:=rfl;intro i hi;have g1:=Wa hv h1 (g:=2) (t:=248) (by kernel_rfl) (by kernel_rfl) underlying248 Ji (by kernel_rfl) (by kernel_rfl) i (by rw[hlc];exact hi)
 have g2:=Wa hv h2 (g:=3) (t:=248) (by kernel_rfl) (by kernel_rfl) underlying248 Ji (by kernel_rfl) (by kernel_rfl) i (by rw[hll];exact hi);rw[oG] at g1 g2;exact⟨g1,g2⟩
end
end Go.Proofs.YtjjmalchelniiaaGreatDoor
