/- StripsWrites, 18. No condition. -/
import Derived.Test.YtjjmalchelniiaaGreatDoorStripsWritesMb
import Derived.Test.YtjjmalchelniiaaGreatDoorStripsWritesMg
import Derived.Test.YtjjmalchelniiaaGreatDoorStripsWritesMm
import Derived.Lib.Strings
open Go.Proofs.Tryz
open Go renaming World->A5,Calls->A9,Value->A0,DataW->Ab,TypeId->A7
set_option maxHeartbeats 1000000
namespace Go.Proofs.YtjjmalchelniiaaGreatDoor
open Go.RowKit Go.Lib
abbrev Jd:=@Prod.mk.injEq
abbrev Je:=@MakeChecks.laidMetH_plain
abbrev Jf:=@true_and
abbrev Jg:=@beq_self_eq_true
abbrev Jh:=@and_true
abbrev Ji:=@underlying3
def EH:List ByteArray:=[⟨#[48,48,49,49]⟩,⟨#[48,48,49,48,49]⟩,⟨#[48,48,49,48,48]⟩,⟨#[49,48,48,49]⟩,⟨#[48,48,48,49,49]⟩,⟨#[48,49,49,49]⟩,⟨#[48,48,48,48,49,48]⟩,⟨#[49,48,49,49]⟩,⟨#[48,48,48,49,48]⟩,⟨#[48,48,48,48,49,49]⟩,⟨#[48,49,48,49]⟩,⟨#[49,48,49,48]⟩,⟨#[48,49,48,48]⟩,⟨#[49,48,48,48]⟩,⟨#[48,49,49,48]⟩,⟨#[49,49]⟩]
theorem HI:EH.length=16:=rfl
def EM (intra:Bool)(i:Nat):Nat:=if intra then i else 15-i
def DF (intra:Bool)(k:Int):ByteArray:=if 0<=k/\k<16 then EH[EM intra k.toNat]?.getD ⟨#[]⟩ else ⟨#[]⟩
theorem Ra {intra:Bool}{k:Int}(h:k<0\/16<=k):DF intra k=⟨#[]⟩:=by
 unfold DF;rw[Bb (by omega)]
def JA (w:A5):Prop:=∀i,(h:i<16)->w.cell? ⟨1,i,none⟩=some (.string (EH[i]'(by rw[HI];exact h)))
theorem JA.lt {w:A5}(h:JA w):1<w.heap.size:=Fc w ⟨1,0,none⟩ (h 0 (by decide))
theorem JA.below {w a:A5}(h:JA w)(b:Below w.heap.size w a):JA a:=fun i hi=>(b.cell (p:=⟨1,i,none⟩) h.lt).trans (h i hi)
theorem eN (intra:Bool)(k:Int)(b:-1000<=k)(h1:k<=1000)(w:A5):A9 prog 202 #[.bool intra,.int .i64 k] w fun e a=>e=.returned (.int .i64 (if intra then k else 15-k))/\w=a:=by
 cases intra with
 |true=>
  go_enter func202,ntmps202
  go_wp2
  go_ret
  exact⟨rfl,rfl⟩
 |false=>
  go_enter func202,ntmps202
  go_wp2
  go_ret
  exact⟨rfl,rfl⟩
theorem Qr {intra:Bool}{i:Nat}(h:i<16):EM intra i<16:=by
 unfold EM
 split <;> omega
theorem nV {intra:Bool}{i:Nat}(h:i<16):EM intra (EM intra i)=i:=by
 unfold EM
 split <;> omega
theorem Zj (intra:Bool)(i:Nat)(h:i<16)(w:A5):A9 prog 202 #[.bool intra,.int .i64 (i:Int)] w fun e a=>e=.returned (.int .i64 (EM intra i:Nat))/\w=a:=by
 refine(eN intra i (by omega) (by omega) w).mono ?_;rintro e a ⟨rfl,rfl⟩;have e:(if intra then (i:Int) else 15-(i:Int))=(EM intra i:Nat):=by
  unfold EM;cases intra
  ·simp;omega
  ·rfl
 exact⟨by rw[<-e],rfl⟩
theorem gU:∀j,(h:j<16)->(EH[j]'(by rw[HI];exact h)).data.toList.isEmpty=false:=by decide +kernel
theorem Ub {intra:Bool}{a j:Nat}(h:a<16)(hj:EM intra a=j):DF intra (a:Int)=EH[j]'(by rw[HI,<-hj];exact Qr h):=by
 unfold DF;have b:j<EH.length:=by rw[HI,<-hj];exact Qr h
 rw[Bc (by omega),Dr];have e:EH[EM intra a]? =some EH[j]:=by rw[hj];exact Fj b
 rw[e]
 rfl
theorem jX (intra:Bool)(k:Int)(w:A5)(h:JA w):A9 prog 186 #[.bool intra,.int .i64 k] w fun e i=>e=.returned (.tuple #[.string (DF intra k),.bool (!(DF intra k).data.toList.isEmpty)])/\Below w.heap.size w i:=by
 by_cases d:k<0
 ·have F:=Dp (Ra (intra:=intra) (.inl d));have t0:decide (k<0)=true:=by simpa using d
  clear d;rw[F.out]
  go_enter func186,ntmps186
  go_wp2
  go_ret2
  exact⟨rfl,Dq _ _⟩
 by_cases h4:16<=k
 ·have F:=Dp (Ra (intra:=intra) (.inr h4));have t0:decide (k<0)=false:=by simpa using d
  have t1:decide (16<=k)=true:=by simpa using h4
  clear d h4;rw[F.out]
  go_enter func186,ntmps186
  go_wp2
  go_ret2
  exact⟨rfl,Dq _ _⟩
 obtain⟨a,rfl⟩:∃a:Nat,k=a:=⟨k.toNat,by omega⟩;have t0:decide ((a:Int)<0)=false:=by simp
 have t1:decide (16<=(a:Int))=false:=by simp;omega
 have g:a<16:=by omega
 obtain⟨j,hj⟩:=Ah (EM intra a);have b:j<16:=by rw[<-hj];exact Qr g
 have c:=fun x=>Zj intra a g x;rw[hj] at c;have F:=Dp (Ub (intra:=intra) g hj);obtain⟨s,hs⟩:∃s,EH[j]'(by rw[HI];exact b)=s:=⟨_,rfl⟩;have f:s.data.toList.isEmpty=false:=by rw[<-hs];exact gU j b
 have l:w.cell? ⟨1,j,none⟩=some (.string s):=(h j b).trans (by rw[<-hs]);rw[hs] at F;have G:=Dp (show (!s.data.toList.isEmpty)=true by rw[f];rfl);rw[F.out,G.out];clear d h4 hj hs f F h
 go_enter func186,ntmps186
 go_wp2_with fail
 refine(c _).mono ?_;rintro e m ⟨rfl,rfl⟩
 go_wp2
 go_ret2
 exact⟨rfl,Dq _ _⟩
def Tp:List Int:=[-1,-2,1,2]
def bG:List ByteArray:=[⟨#[48,48]⟩,⟨#[48,49]⟩,⟨#[49,48]⟩,⟨#[49,49]⟩]
def OO (v:Nat):Int:=Tp[v]?.getD 0
def C0 (s:Int):ByteArray:=if s = -1 then ⟨#[48,48]⟩ else if s = -2 then ⟨#[48,49]⟩ else if s=1 then ⟨#[49,48]⟩ else if s=2 then ⟨#[49,49]⟩ else ⟨#[]⟩
theorem Un {s:Int}(h:¬ s = -1/\¬ s = -2/\¬ s=1/\¬ s=2):C0 s=⟨#[]⟩:=by
 unfold C0;rw[Bb h.1,Bb h.2.1,Bb h.2.2.1,Bb h.2.2.2]
def stk (b:List UInt8):Int×Int×Nat:=if b.length<2 then (0,2,0) else (OO (num (b.take 2)),0,2)
theorem bT {b:List UInt8}(h:b.length<2):stk b=(0,2,0):=Bc h
theorem Tx {b:List UInt8}(h:2<=b.length):stk b=(OO (num (b.take 2)),0,2):=Bb (by omega)
def R0 (q s:Int):Int:=MB (MB q 1 31+MB s (-2) 2) 1 31
def HA (w:A5):Prop:=∀i,(h:i<4)->w.cell? ⟨0,2*i,none⟩=some (.string (bG[i]'h))/\w.cell? ⟨0,2*i+1,none⟩=some (.int .i64 (Tp[i]'h))
theorem HA.lt {w:A5}(h:HA w):0<w.heap.size:=Fc w ⟨0,0,none⟩ (h 0 (by decide)).1
theorem HA.below {w a:A5}(h:HA w)(b:Below w.heap.size w a):HA a:=fun i hi=>
 ⟨(b.cell (p:=⟨0,2*i,none⟩) h.lt).trans (h i hi).1,(b.cell (p:=⟨0,2*i+1,none⟩) h.lt).trans (h i hi).2⟩
theorem HA.grown {w a:A5}{b:Nat}(h:HA w)(d:w.grownBy a (some b))(c:0≠b):HA a:=fun i hi=>by
 have e:∀o,a.cell? ⟨0,o,none⟩=w.cell? ⟨0,o,none⟩:=fun o=>by
  have:=d.block 0 h.lt (by simpa using c);unfold World.cell?;rw[this]
 exact⟨(e _).trans (h i hi).1,(e _).trans (h i hi).2⟩
def TF (a b:Int)(i:Nat):Prop:=∀j:Nat,j<i->R0 a (j:Int)≠b/\R0 a (-(j:Int))≠b
theorem TF.next {a b:Int}{i:Nat}(h:TF a b i)(h1:R0 a (i:Int)≠b)(h2:R0 a (-(i:Int))≠b):TF a b (i+1):=fun j hj=>by
 by_cases e:j=i
 ·subst e;exact⟨h1,h2⟩
 ·exact h j (by omega)
def LM (s:Int)(i:Nat):Prop:=∀j,j<i->OO j≠s
theorem LM.first (s:Int):LM s 0:=fun j h=>absurd h (Fk j)
theorem LM.next {s:Int}{i:Nat}(h:LM s i)(h1:OO i≠s):LM s (i+1):=fun j hj=>by
 by_cases e:j=i
 ·subst e;exact h1
 ·exact h j (by omega)
theorem LM.all {s:Int}(h:LM s 4):¬ s = -1/\¬ s = -2/\¬ s=1/\¬ s=2:=
 ⟨fun e=>h 0 (by decide) e.symm,fun e=>h 1 (by decide) e.symm,fun e=>h 2 (by decide) e.symm,fun e=>h 3 (by decide) e.symm⟩
theorem Rl (s:Int)(i:Nat)(z:Int)(h:OO i=z):((z==z)=true/\s=z)\/((z==s)=false/\OO i≠s):=by
 by_cases e:s=z
 ·exact .inl ⟨Jg z,e⟩
 ·exact .inr ⟨by rw[Fg];exact fun h=>e h.symm,by rw[h];exact fun h=>e h.symm⟩
def OM:A0:=.agg #[.string ⟨#[48,48]⟩,.int .i64 (-1),.string ⟨#[48,49]⟩,.int .i64 (-2),.string ⟨#[49,48]⟩,.int .i64 1,.string ⟨#[49,49]⟩,.int .i64 2]
theorem Q9 (w:A5):(Instr.index 195 OM (.int .i64 0)).run prog w=.ok (.agg #[.string ⟨#[48,48]⟩,.int .i64 (-1)]) w/\(Instr.index 195 OM (.int .i64 1)).run prog w=.ok (.agg #[.string ⟨#[48,49]⟩,.int .i64 (-2)]) w/\
  (Instr.index 195 OM (.int .i64 2)).run prog w=.ok (.agg #[.string ⟨#[49,48]⟩,.int .i64 1]) w/\(Instr.index 195 OM (.int .i64 3)).run prog w=.ok (.agg #[.string ⟨#[49,49]⟩,.int .i64 2]) w:=
 ⟨by kernel_rfl,by kernel_rfl,by kernel_rfl,by kernel_rfl⟩
theorem aA (s:Int)(w:A5)(d:HA w):A9 prog 150 #[.int .i64 s] w fun e m=>e=.returned (.tuple #[.string (C0 s),.bool (!(C0 s).data.toList.isEmpty)])/\Below w.heap.size w m:=by
 have n:w.cell? ⟨0,0,none⟩=some (.string ⟨#[48,48]⟩):=(d 0 (by decide)).1;have c1:w.cell? ⟨0,1,none⟩=some (.int .i64 (-1)):=(d 0 (by decide)).2;have c2:w.cell? ⟨0,2,none⟩=some (.string ⟨#[48,49]⟩):=(d 1 (by decide)).1;have c3:w.cell? ⟨0,3,none⟩=some (.int .i64 (-2)):=(d 1 (by decide)).2;have c4:w.cell? ⟨0,4,none⟩=some (.string ⟨#[49,48]⟩):=(d 2 (by decide)).1
 have p:w.cell? ⟨0,5,none⟩=some (.int .i64 1):=(d 2 (by decide)).2;have q:w.cell? ⟨0,6,none⟩=some (.string ⟨#[49,49]⟩):=(d 3 (by decide)).1;have r:w.cell? ⟨0,7,none⟩=some (.int .i64 2):=(d 3 (by decide)).2;have k:=Dp (show Value.agg #[.string ⟨#[48,48]⟩,.int .i64 (-1),.string ⟨#[48,49]⟩,.int .i64 (-2),.string ⟨#[49,48]⟩,.int .i64 1,.string ⟨#[49,49]⟩,.int .i64 2]=OM from rfl)
 go_enter func150,ntmps150
 go_wp2
 rw[k.out];clear n c1 c2 c3 c4 p q r d k;have x:=fun w=>(Q9 w).1;have y:=fun w=>(Q9 w).2.1;have z:=fun w=>(Q9 w).2.2.1;have A:=fun w=>(Q9 w).2.2.2;generalize OM=C at *;obtain⟨B,g⟩:=Ah w.heap.size;have h:Below B w w:=Dq _ _;have j:B<=w.heap.size:=by omega
 go_loopw [7] (fun v wr=>∃i:Nat,i<=4/\v=.int .i64 i/\Hid (LM s i)/\Below B w wr/\B<=wr.heap.size) (fun v _=>4-(intOf v).toNat)
 case atStart=>exact⟨0,by omega,rfl,Dp (LM.first s),h,j⟩
 case round=>
  obtain⟨i,t,rfl,b,l,u⟩:=hrel;have a:=fun o=>l.alloc u o;clear h j;rcases (by omega:i=4\/i=0\/i=1\/i=2\/i=3) with rfl|rfl|rfl|rfl|rfl
  ·have R:=Dp (Un b.out.all)
   go_wp2
   go_ret2
   exact⟨by rw[R.out];rfl,by rw[g];exact l⟩
  ·rcases Rl s 0 (-1) rfl with ⟨f,rfl⟩|⟨f,c⟩
   ·go_wp2
    go_ret2
    exact⟨rfl,by rw[g];exact a _⟩
   ·have N:=Dp (b.out.next c);clear c
    go_wp2
    go_roundw
    case rel=>exact⟨1,by omega,by go_num,N,a _,by simp;omega⟩
    case measure=>simp[intOf]
  ·rcases Rl s 1 (-2) rfl with ⟨f,rfl⟩|⟨f,c⟩
   ·go_wp2
    go_ret2
    exact⟨rfl,by rw[g];exact a _⟩
   ·have N:=Dp (b.out.next c);clear c
    go_wp2
    go_roundw
    case rel=>exact⟨2,by omega,by go_num,N,a _,by simp;omega⟩
    case measure=>simp[intOf]
  ·rcases Rl s 2 1 rfl with ⟨f,rfl⟩|⟨f,c⟩
   ·go_wp2
    go_ret2
    exact⟨rfl,by rw[g];exact a _⟩
   ·have N:=Dp (b.out.next c);clear c
    go_wp2
    go_roundw
    case rel=>exact⟨3,by omega,by go_num,N,a _,by simp;omega⟩
    case measure=>simp[intOf]
  ·rcases Rl s 3 2 rfl with ⟨f,rfl⟩|⟨f,c⟩
   ·go_wp2
    go_ret2
    exact⟨rfl,by rw[g];exact a _⟩
   ·have N:=Dp (b.out.next c);clear c
    go_wp2
    go_roundw
    case rel=>exact⟨4,by omega,by go_num,N,a _,by simp;omega⟩
    case measure=>simp[intOf]
def Wv (s:ByteArray)(rb p:Nat)(w:A5)(e:Ending)(a:A5):Prop:=
 e=.returned (.tuple #[.int .i64 (stk ((A2 s.data.toList).drop p)).1,.int .i64 (stk ((A2 s.data.toList).drop p)).2.1])/\
  AI a rb s (p+(stk ((A2 s.data.toList).drop p)).2.2)/\w.grownBy a (some rb)
theorem oT (s:ByteArray)(p:Nat):((A2 s.data.toList).drop p).length=8*s.size-p:=by rw[Bj,BO];rfl
theorem vT (w:A5)(rb:Nat)(s:ByteArray)(p:Nat)(l:HA w)(k:0≠rb)(hr:AI w rb s p):A9 prog 212 #[.pointer (some ⟨rb,0,none⟩)] w (Wv s rb p w):=by
 have n:=hr.2.1;have hl:=oT s p;have h:s.data.toList.length=s.size:=rfl;unfold Wv;have hc:=JF w rb s p 2 hr;by_cases h2:8*s.size-p<2
 ·have hs:=bT (b:=(A2 s.data.toList).drop p) (by omega);have f:ask s.data.toList p 2=(0,2):=FM (by omega) (by rw[h];omega);have a:CF s.data.toList p 2=p:=by unfold CF;rw[f];rfl
  rw[f,a] at hc;rw[hs];clear hs f a hl
  go_enter func212,ntmps212
  go_wp2_with fail
  refine hc.mono ?_;rintro e i ⟨rfl,g,c⟩
  go_wp2
  go_ret2
  exact⟨rfl,g,c⟩
 ·have hs:=Tx (b:=(A2 s.data.toList).drop p) (by omega);have f:ask s.data.toList p 2=(((AE s.data.toList p 2:Nat):Int),0):=EL (by omega) (by rw[h];omega);have a:CF s.data.toList p 2=p+2:=by unfold CF;rw[f];rfl
  have hv:=F1 s.data.toList p 2;have ht:num (((A2 s.data.toList).drop p).take 2)=AE s.data.toList p 2:=rfl;rw[f,a] at hc;rw[hs,ht];obtain⟨v,j⟩:=Ah (AE s.data.toList p 2);rw[j] at hc hv ⊢;have o:=Dp (fun m (q:w.grownBy m (some rb))=>(l.grown q k:HA m));clear hs f a hl ht j l;rcases (by omega:v=0\/v=1\/v=2\/v=3) with rfl|rfl|rfl|rfl
  all_goals
   go_enter func212,ntmps212
   go_wp2_with fail
   refine hc.mono ?_;rintro e i ⟨rfl,g,c⟩;have d:=o.out _ c;have c1:i.cell? ⟨0,1,none⟩=some (.int .i64 (-1)):=(d 0 (by decide)).2;have c3:i.cell? ⟨0,3,none⟩=some (.int .i64 (-2)):=(d 1 (by decide)).2;have r:i.cell? ⟨0,5,none⟩=some (.int .i64 1):=(d 2 (by decide)).2;have t:i.cell? ⟨0,7,none⟩=some (.int .i64 2):=(d 3 (by decide)).2
   go_wp2
   go_ret2
   exact⟨rfl,g,c⟩
theorem ZP (s:Int)(w:A5):A9 prog 111 #[.int .i64 s] w fun e b=>e=.returned (.string (C0 s))/\Below w.heap.size w b:=by
 by_cases a:s < -2
 ·have F:=Dp (Un (s:=s) (by omega));have t0:decide (s < -2)=true:=by simpa using a
  clear a;rw[F.out]
  go_enter func111,ntmps111
  go_wp2
  go_ret
  exact⟨rfl,Dq _ _⟩
 by_cases h1:2<s
 ·have F:=Dp (Un (s:=s) (by omega));have t0:decide (s < -2)=false:=by simpa using a
  have t1:decide (2<s)=true:=by simpa using h1
  clear a h1;rw[F.out]
  go_enter func111,ntmps111
  go_wp2
  go_ret
  exact⟨rfl,Dq _ _⟩
 rcases (by omega:s = -2\/s = -1\/s=0\/s=1\/s=2) with rfl|rfl|rfl|rfl|rfl
 all_goals
  clear a h1
  go_enter func111,ntmps111
  go_wp2
  go_ret
  first
   |exact⟨rfl,Dq _ _⟩
   |exact⟨rfl,(Dq _ w).alloc (Ba _) _⟩
theorem zX:(Rows.laid_overspill_cbpy_rows:Ab Unit)=.agg ((EH.map fun x=>x.data.toList).map fun l=>.lit (.string l)):=by kernel_rfl
theorem sR {laid : List (String × DataW Unit)} {W : World} (hL : laidMetH prog laid W) (hm : ("overspill/cbpy.rows", Rows.laid_overspill_cbpy_rows) ∈ laid ∧ (laid.all fun x => x.2.handleName?.isNone) = true) : JA W := by
 rw[MakeChecks.laidMetH_plain _ _ _ hm.2] at hL;obtain⟨ps,hv,_,_⟩:=hL;obtain⟨g,t,cs,fuel,p,hg,ht,hc,hd⟩:=PI hv hm.1;obtain rfl := Option.some.inj ((show prog.globalNamed "overspill/cbpy.rows" = some 1 by kernel_rfl).symm.trans hg)
 obtain rfl:=Fm ((show (prog.globals[1]?).map (·.type)=some 226 by kernel_rfl).symm.trans ht);rw[zX] at hd;intro i hi;obtain⟨s,h1,h2⟩:=Ys8 underlying226 Dx (by kernel_rfl) (by kernel_rfl) hd i hi;have hcell:=Ij hg hc i;have hs:s=EH[i]'(by rw[HI];exact hi):=by
  rw[Ig,Fj (by rw[HI];exact hi)] at h2;apply Da;apply Array.ext';exact(Fm h2).symm
 rw[hcell,<-hs,<-Ii];exact h1
theorem zF {H:Type}{enc:A7×A0->H}{P:Program}{w:A5}{base:Nat}{i:Nat->Bool}{a:Bool}{e f g:A7}{f0 f1:Field}
  (t:P.underlying e=some (.struct #[f0,f1]))(b:P.underlying f=some .string)(hi:P.underlying g=some (.int .i64))(u:f0.type=f)(v:f1.type=g)(y:f0.offset=0)(A:f1.offset=1)(cs:P.cellsOf f=1)(B:P.cellsOf g=1)
  {k:Nat}{vs:List A0}{x:List UInt8}{z:Int}{q:List MemPlace}(hl:vs.length=2)(h:DataW.trod enc P w base i a k e vs=some (.agg [.lit (.string x),.lit (.int .i64 z)],q)):
  ∃s:ByteArray,vs=[.string s,.int .i64 z]/\s.data.toList=x:=by
 obtain⟨C,k,F,c,_,j,d⟩:=DataW.trod_struct t h
 match C,j,vs,hl with
 |[y0,y1],_,[v0,v1],_=>
  have p:=d 0 f0 rfl;have r:=d 1 f1 rfl;rw[u,y,cs] at p;rw[v,A,B] at r;obtain⟨D,l,m,w0⟩:=DataW.trod_string b (show DataW.trod _ P w base i a k f [v0]=some y0 from p);obtain⟨G,n,o,I⟩:=DataW.trod_int hi (show DataW.trod _ P w base i a k g [v1]=some y1 from r);subst m o;injection l with l;injection n with n;subst l n
  simp only[Cm,Ct,Jd,DataW.agg.injEq,List.cons.injEq,DataW.lit.injEq,Lit.string.injEq,Lit.int.injEq,Jf,Jh] at c;obtain⟨⟨E,r1⟩,_⟩:=c;subst E r1;exact⟨D,rfl,rfl⟩
theorem rY {H:Type}{enc:A7×A0->H}{P:Program}{w:A5}{base:Nat}{o:Nat->Bool}{f:Bool}{a:Nat}{t e:A7}{n c:Nat}{cs:List A0}{g:List (Ab H)}{p:List MemPlace}
  (ht:P.underlying t=some (.array n e))(j:P.cellsOf e=c)(l:P.cellsOf t=n*c)
  (h:DataW.trod enc P w base o f a t cs=some (.agg g,p)):cs.length=n*c/\∀i,i<n->∃k d q,g[i]? =some d/\DataW.trod enc P w base o f k e ((cs.drop (i*c)).take c)=some (d,q):=by
 cases a with
 |zero=>simp[DataW.trod] at h
 |succ a=>
  simp only[DataW.trod,ht,j,l] at h
  split at h
  ·rename_i hl
   obtain⟨r,hm,s⟩:=Ih.1 h;have m:r.map (·.1)=g:=by
    have:=C6 Prod.fst s
    simpa using this
   refine⟨hl,fun i hi=>?_⟩;obtain⟨b,u,v⟩:=mapM_at hm i i (by simp[hi]);refine⟨a,b.1,b.2,?_,v⟩;rw[<-m];simp[u]
  ·cases h
theorem oF:(Rows.laid_overspill_steps_codes:Ab Unit)=.agg [.agg [.lit (.string [48,48]),.lit (.int .i64 (-1))],.agg [.lit (.string [48,49]),.lit (.int .i64 (-2))],.agg [.lit (.string [49,48]),.lit (.int .i64 1)],.agg [.lit (.string [49,49]),.lit (.int .i64 2)]]:=by kernel_rfl
theorem yB {cs:List A0}{i:Nat}{a b:A0}(h:(cs.drop i).take 2=[a,b]):cs[i]? =some a/\cs[i+1]? =some b:=by
 have c:=C6 (·[0]?) h;have h1:=C6 (·[1]?) h;simp only[List.getElem?_take,El] at c h1;exact⟨by simpa using c,by simpa using h1⟩
theorem Qap {laid : List (String × DataW Unit)} {W : World} (hL : laidMetH prog laid W) (hm : ("overspill/steps.codes", Rows.laid_overspill_steps_codes) ∈ laid ∧ (laid.all fun x => x.2.handleName?.isNone) = true) : HA W := by
 rw[MakeChecks.laidMetH_plain _ _ _ hm.2] at hL;obtain⟨ps,hv,_,_⟩:=hL;obtain⟨g,t,cs,fuel,p,hg,ht,hc,hd⟩:=PI hv hm.1;obtain rfl := Option.some.inj ((show prog.globalNamed "overspill/steps.codes" = some 0 by kernel_rfl).symm.trans hg)
 obtain rfl:=Fm ((show (prog.globals[0]?).map (·.type)=some 195 by kernel_rfl).symm.trans ht);rw[oF] at hd;obtain⟨hl,hp⟩:=rY (c:=2) underlying195 (by kernel_rfl) (by kernel_rfl) hd;have hcell:=Ij hg hc;have key:∀i,(hi:i<4)->∃s:ByteArray,(cs.toList.drop (i*2)).take 2=[.string s,.int .i64 (Tp[i]'hi)]/\s=bG[i]'hi:=by
  intro i hi;obtain⟨k,d,q,hd1,hd2⟩:=hp i hi;have hlen:((cs.toList.drop (i*2)).take 2).length=2:=by rw[Bf,Bj,hl];omega
  rcases (by omega:i=0\/i=1\/i=2\/i=3) with rfl|rfl|rfl|rfl
  all_goals
   obtain rfl:=Fm hd1;obtain⟨s,h1,h2⟩:=zF underlying194 Dx Ji rfl rfl rfl rfl (by kernel_rfl) (by kernel_rfl) hlen hd2;exact⟨s,h1,by apply Da;apply Array.ext';exact h2⟩
 intro i hi;obtain⟨s,h1,rfl⟩:=key i hi;obtain⟨h2,h3⟩:=yB h1;rw[hcell,hcell,C9 2 i,<-Ii,<-Ii];exact⟨h2,h3⟩
end Go.Proofs.YtjjmalchelniiaaGreatDoor