/- No condition. -/
import Derived.Test.YtjjmalchelniiaaGreatDoorZpb
import Derived.Test.YtjjmalchelniiaaGreatDoorZpg
import Derived.Test.YtjjmalchelniiaaGreatDoorZpm
import Derived.Lib.Strings
open Go.Proofs.Tryz
open Go renaming World->A5,Calls->A9,Value->A0,DataW->Ad,TypeId->A7
set_option maxHeartbeats 1000000
namespace Go.Proofs.YtjjmalchelniiaaGreatDoor
open Go.RowKit Go.Lib
theorem Wcu{p:Prop}(h:p:=by
 rw[F.out]
 go_enter func186,ntmps186
 go_wp2
 go_ret2
 exact⟨rfl,Dn _ _⟩):p:=h
theorem Wct{p:Prop}(h:p:=by
 go_wp2
 go_ret2
 exact⟨rfl,vL⟩):p:=h
theorem vJ{p:Prop}(h:p:=by simpa using c):p:=h
theorem vK{p:Prop}(h:p:=by rw[HK];exact h):p:=h
theorem vL{p:Prop}(h:p:=by rw[d];exact a _):p:=h
abbrev J1:=@Prod.mk.injEq
abbrev J2:=@World.block_lt_of_cell?
abbrev J3:=@MakeChecks.laidMetH_plain
abbrev J4:=@true_and
abbrev J5:=@beq_self_eq_true
abbrev J6:=@and_true
abbrev J7:=@underlying3
def EM:List ByteArray:=[⟨#[48,48,49,49]⟩,⟨#[48,48,49,48,49]⟩,⟨#[48,48,49,48,48]⟩,⟨#[49,48,48,49]⟩,⟨#[48,48,48,49,49]⟩,⟨#[48,49,49,49]⟩,⟨#[48,48,48,48,49,48]⟩,⟨#[49,48,49,49]⟩,⟨#[48,48,48,49,48]⟩,⟨#[48,48,48,48,49,49]⟩,⟨#[48,49,48,49]⟩,⟨#[49,48,49,48]⟩,⟨#[48,49,48,48]⟩,⟨#[49,48,48,48]⟩,⟨#[48,49,49,48]⟩,⟨#[49,49]⟩]
theorem HK:EM.length=16:=rfl
def EX (intra:Bool)(i:Nat):Nat:=if intra then i else 15-i
def F4 (intra:Bool)(k:Int):ByteArray:=if 0<=k/\k<16 then EM[EX intra k.toNat]?.getD ⟨#[]⟩ else ⟨#[]⟩
theorem bZ {intra:Bool}{k:Int}(h:k<0\/16<=k):F4 intra k=⟨#[]⟩:=by
 unfold F4;rw[Ba sX]
def JN (w:A5):Prop:=∀i,(h:i<16)->w.cell? ⟨1,i,none⟩=some (.string (EM[i]' vK))
theorem JN.lt {w:A5}(h:JN w):1<w.heap.size:=J2 w ⟨1,0,none⟩ (h 0 sY)
theorem JN.below {w a:A5}(h:JN w)(b:Below w.heap.size w a):JN a:=fun i hi=>(b.cell (p:=⟨1,i,none⟩) h.lt).trans (h i hi)
theorem Qhk (intra:Bool)(k:Int)(b:-1000<=k)(h1:k<=1000)(w:A5):A9 prog 202 #[.bool intra,.int .i64 k] w fun e a=>e=.returned (.int .i64 (if intra then k else 15-k))/\w=a:=by
 cases intra with
 |true=>
  go_enter func202,ntmps202
  go_wp2
  go_ret
  exact⟨rfl,rfl⟩
 |false=>
  go_enter func202,ntmps202
  go_wp2
  go_ret
  exact⟨rfl,rfl⟩
theorem QA {intra:Bool}{i:Nat}(h:i<16):EX intra i<16:=by
 unfold EX
 split <;> omega
theorem Qcc {intra:Bool}{i:Nat}(h:i<16):EX intra (EX intra i)=i:=by
 unfold EX
 split <;> omega
theorem Yd (intra:Bool)(i:Nat)(h:i<16)(w:A5):A9 prog 202 #[.bool intra,.int .i64 (i:Int)] w fun e a=>e=.returned (.int .i64 (EX intra i:Nat))/\w=a:=by
 refine(Qhk intra i sX sX w).mono ?_;rintro e a ⟨rfl,rfl⟩;have e:(if intra then (i:Int) else 15-(i:Int))=(EX intra i:Nat):=by
  unfold EX;cases intra
  ·simp;omega
  ·rfl
 exact⟨by rw[<-e],rfl⟩
theorem nK:∀j,(h:j<16)->(EM[j]' vK).data.toList.isEmpty=false:=uB
theorem dT {intra:Bool}{a j:Nat}(h:a<16)(hj:EX intra a=j):F4 intra (a:Int)=EM[j]'(by rw[HK,<-hj];exact QA h):=by
 unfold F4;have b:j<EM.length:=by rw[HK,<-hj];exact QA h
 rw[Bb sX,Dp];have e:EM[EX intra a]? =some EM[j]:=by rw[hj];exact Fh b
 rw[e]
 rfl
theorem Qgy (intra:Bool)(k:Int)(w:A5)(h:JN w):A9 prog 186 #[.bool intra,.int .i64 k] w fun e i=>e=.returned (.tuple #[.string (F4 intra k),.bool (!(F4 intra k).data.toList.isEmpty)])/\Below w.heap.size w i:=by
 by_cases d:k<0
 ·have F:=Dm (bZ (intra:=intra) (.inl d));have t0:decide (k<0)=true:=tS;clear d;exact Wcu
 by_cases h4:16<=k
 ·have F:=Dm (bZ (intra:=intra) (.inr h4));have t0:decide (k<0)=false:=tS;have t1:decide (16<=k)=true:=by simpa using h4
  clear d h4;exact Wcu
 obtain⟨a,rfl⟩:∃a:Nat,k=a:=⟨k.toNat,sX⟩;have t0:decide ((a:Int)<0)=false:=sZ;have t1:decide (16<=(a:Int))=false:=tO;have g:a<16:=sX;obtain⟨j,hj⟩:=Ah (EX intra a);have b:j<16:=by rw[<-hj];exact QA g
 have c:=fun x=>Yd intra a g x;rw[hj] at c;have F:=Dm (dT (intra:=intra) g hj);obtain⟨s,hs⟩:∃s,EM[j]'(by rw[HK];exact b)=s:=⟨_,rfl⟩;have f:s.data.toList.isEmpty=false:=by rw[<-hs];exact nK j b
 have c0:w.cell? ⟨1,j,none⟩=some (.string s):=(h j b).trans (by rw[<-hs]);rw[hs] at F;have G:=Dm (show (!s.data.toList.isEmpty)=true by rw[f];rfl);rw[F.out,G.out];clear d h4 hj hs f F h
 go_enter func186,ntmps186
 go_wp2_with fail
 refine(c _).mono ?_;rintro e l ⟨rfl,rfl⟩
 go_wp2
 go_ret2
 exact⟨rfl,Dn _ _⟩
def Wa:List Int:=[-1,-2,1,2]
def Z0:List ByteArray:=[⟨#[48,48]⟩,⟨#[48,49]⟩,⟨#[49,48]⟩,⟨#[49,49]⟩]
def Qe (v:Nat):Int:=Wa[v]?.getD 0
def E7 (s:Int):ByteArray:=if s = -1 then ⟨#[48,48]⟩ else if s = -2 then ⟨#[48,49]⟩ else if s=1 then ⟨#[49,48]⟩ else if s=2 then ⟨#[49,49]⟩ else ⟨#[]⟩
theorem oS {s:Int}(h:¬ s = -1/\¬ s = -2/\¬ s=1/\¬ s=2):E7 s=⟨#[]⟩:=by
 unfold E7;rw[Ba h.1,Ba h.2.1,Ba h.2.2.1,Ba h.2.2.2]
def stk (b:List UInt8):Int×Int×Nat:=if b.length<2 then (0,2,0) else (Qe (num (b.take 2)),0,2)
theorem TH {b:List UInt8}(h:b.length<2):stk b=(0,2,0):=Bb h
theorem Sf {b:List UInt8}(h:2<=b.length):stk b=(Qe (num (b.take 2)),0,2):=Ba sX
def SY (q s:Int):Int:=MR (MR q 1 31+MR s (-2) 2) 1 31
def H3 (w:A5):Prop:=∀i,(h:i<4)->w.cell? ⟨0,2*i,none⟩=some (.string (Z0[i]'h))/\w.cell? ⟨0,2*i+1,none⟩=some (.int .i64 (Wa[i]'h))
theorem H3.lt {w:A5}(h:H3 w):0<w.heap.size:=J2 w ⟨0,0,none⟩ (h 0 sY).1
theorem H3.below {w a:A5}(h:H3 w)(b:Below w.heap.size w a):H3 a:=fun i hi=>
 ⟨(b.cell (p:=⟨0,2*i,none⟩) h.lt).trans (h i hi).1,(b.cell (p:=⟨0,2*i+1,none⟩) h.lt).trans (h i hi).2⟩
theorem H3.grown {w a:A5}{b:Nat}(h:H3 w)(hg:w.grownBy a (some b))(c:0≠b):H3 a:=fun i hi=>by
 have e:∀o,a.cell? ⟨0,o,none⟩=w.cell? ⟨0,o,none⟩:=fun o=>by
  have:=hg.block 0 h.lt vJ;unfold World.cell?;rw[this]
 exact⟨(e _).trans (h i hi).1,(e _).trans (h i hi).2⟩
def Ub (a b:Int)(i:Nat):Prop:=∀j:Nat,j<i->SY a (j:Int)≠b/\SY a (-(j:Int))≠b
theorem Ub.next {a b:Int}{i:Nat}(h:Ub a b i)(h1:SY a (i:Int)≠b)(h2:SY a (-(i:Int))≠b):Ub a b (i+1):=fun j hj=>by
 by_cases e:j=i
 ·subst e;exact⟨h1,h2⟩
 ·exact h j sX
def LV (s:Int)(i:Nat):Prop:=∀j,j<i->Qe j≠s
theorem LV.first (s:Int):LV s 0:=fun j h=>absurd h (Fi j)
theorem LV.next {s:Int}{i:Nat}(h:LV s i)(h1:Qe i≠s):LV s (i+1):=fun j hj=>by
 by_cases e:j=i
 ·subst e;exact h1
 ·exact h j sX
theorem LV.all {s:Int}(h:LV s 4):¬ s = -1/\¬ s = -2/\¬ s=1/\¬ s=2:=
 ⟨fun e=>h 0 sY e.symm,fun e=>h 1 sY e.symm,fun e=>h 2 sY e.symm,fun e=>h 3 sY e.symm⟩
theorem Sr (s:Int)(i:Nat)(z:Int)(h:Qe i=z):((z==z)=true/\s=z)\/((z==s)=false/\Qe i≠s):=by
 by_cases e:s=z
 ·exact .inl ⟨J5 z,e⟩
 ·exact .inr ⟨by rw[Fe];exact fun h=>e h.symm,by rw[h];exact fun h=>e h.symm⟩
def PQ:A0:=.agg #[.string ⟨#[48,48]⟩,.int .i64 (-1),.string ⟨#[48,49]⟩,.int .i64 (-2),.string ⟨#[49,48]⟩,.int .i64 1,.string ⟨#[49,49]⟩,.int .i64 2]
theorem RV (w:A5):(Instr.index 195 PQ (.int .i64 0)).run prog w=.ok (.agg #[.string ⟨#[48,48]⟩,.int .i64 (-1)]) w/\(Instr.index 195 PQ (.int .i64 1)).run prog w=.ok (.agg #[.string ⟨#[48,49]⟩,.int .i64 (-2)]) w/\
  (Instr.index 195 PQ (.int .i64 2)).run prog w=.ok (.agg #[.string ⟨#[49,48]⟩,.int .i64 1]) w/\(Instr.index 195 PQ (.int .i64 3)).run prog w=.ok (.agg #[.string ⟨#[49,49]⟩,.int .i64 2]) w:=
 ⟨tN,tN,tN,tN⟩
theorem YA (s:Int)(w:A5)(c:H3 w):A9 prog 150 #[.int .i64 s] w fun e k=>e=.returned (.tuple #[.string (E7 s),.bool (!(E7 s).data.toList.isEmpty)])/\Below w.heap.size w k:=by
 have c0:w.cell? ⟨0,0,none⟩=some (.string ⟨#[48,48]⟩):=(c 0 sY).1;have c1:w.cell? ⟨0,1,none⟩=some (.int .i64 (-1)):=(c 0 sY).2;have c2:w.cell? ⟨0,2,none⟩=some (.string ⟨#[48,49]⟩):=(c 1 sY).1;have c3:w.cell? ⟨0,3,none⟩=some (.int .i64 (-2)):=(c 1 sY).2;have l:w.cell? ⟨0,4,none⟩=some (.string ⟨#[49,48]⟩):=(c 2 sY).1;have c5:w.cell? ⟨0,5,none⟩=some (.int .i64 1):=(c 2 sY).2;have m:w.cell? ⟨0,6,none⟩=some (.string ⟨#[49,49]⟩):=(c 3 sY).1;have n:w.cell? ⟨0,7,none⟩=some (.int .i64 2):=(c 3 sY).2;have h:=Dm (show Value.agg #[.string ⟨#[48,48]⟩,.int .i64 (-1),.string ⟨#[48,49]⟩,.int .i64 (-2),.string ⟨#[49,48]⟩,.int .i64 1,.string ⟨#[49,49]⟩,.int .i64 2]=PQ from rfl)
 go_enter func150,ntmps150
 go_wp2
 rw[h.out];clear c0 c1 c2 c3 l c5 m n c h;have r:=fun w=>(RV w).1;have t:=fun w=>(RV w).2.1;have u:=fun w=>(RV w).2.2.1;have x:=fun w=>(RV w).2.2.2;generalize PQ=y at *;obtain⟨B,d⟩:=Ah w.heap.size;have f:Below B w w:=Dn _ _;have g:B<=w.heap.size:=sX
 go_loopw [7] (fun v wr=>∃i:Nat,i<=4/\v=.int .i64 i/\Hid (LV s i)/\Below B w wr/\B<=wr.heap.size) (fun v _=>4-(intOf v).toNat)
 case atStart=>exact⟨0,sX,rfl,Dm (LV.first s),f,g⟩
 case round=>
  obtain⟨i,p,rfl,b,j,q⟩:=hrel;have a:=fun o=>j.alloc q o;clear f g;rcases (by omega:i=4\/i=0\/i=1\/i=2\/i=3) with rfl|rfl|rfl|rfl|rfl
  ·have R:=Dm (oS b.out.all)
   go_wp2
   go_ret2
   exact⟨by rw[R.out];rfl,by rw[d];exact j⟩
  ·rcases Sr s 0 (-1) rfl with ⟨e1,rfl⟩|⟨e1,e2⟩
   ·exact Wct
   ·have N:=Dm (b.out.next e2);clear e2
    go_wp2
    go_roundw
    case rel=>exact⟨1,sX,tP,N,a _,tO⟩
    case measure=>simp[intOf]
  ·rcases Sr s 1 (-2) rfl with ⟨e1,rfl⟩|⟨e1,e2⟩
   ·exact Wct
   ·have N:=Dm (b.out.next e2);clear e2
    go_wp2
    go_roundw
    case rel=>exact⟨2,sX,tP,N,a _,tO⟩
    case measure=>simp[intOf]
  ·rcases Sr s 2 1 rfl with ⟨e1,rfl⟩|⟨e1,e2⟩
   ·exact Wct
   ·have N:=Dm (b.out.next e2);clear e2
    go_wp2
    go_roundw
    case rel=>exact⟨3,sX,tP,N,a _,tO⟩
    case measure=>simp[intOf]
  ·rcases Sr s 3 2 rfl with ⟨e1,rfl⟩|⟨e1,e2⟩
   ·exact Wct
   ·have N:=Dm (b.out.next e2);clear e2
    go_wp2
    go_roundw
    case rel=>exact⟨4,sX,tP,N,a _,tO⟩
    case measure=>simp[intOf]
def Y8 (s:ByteArray)(rb p:Nat)(w:A5)(e:Ending)(a:A5):Prop:=
 e=.returned (.tuple #[.int .i64 (stk ((A2 s.data.toList).drop p)).1,.int .i64 (stk ((A2 s.data.toList).drop p)).2.1])/\
  AE a rb s (p+(stk ((A2 s.data.toList).drop p)).2.2)/\w.grownBy a (some rb)
theorem Qpr (s:ByteArray)(p:Nat):((A2 s.data.toList).drop p).length=8*s.size-p:=by rw[Bf,AZ];rfl
theorem mC (w:A5)(rb:Nat)(s:ByteArray)(p:Nat)(l:H3 w)(k:0≠rb)(hr:AE w rb s p):A9 prog 212 #[.pointer (some ⟨rb,0,none⟩)] w (Y8 s rb p w):=by
 have n:=hr.2.1;have hl:=Qpr s p;have h:s.data.toList.length=s.size:=rfl;unfold Y8;have hc:=JH w rb s p 2 hr;by_cases h2:8*s.size-p<2
 ·have hs:=TH (b:=(A2 s.data.toList).drop p) sX;have f:ask s.data.toList p 2=(0,2):=FS sX (by rw[h];omega);have a:CM s.data.toList p 2=p:=by unfold CM;rw[f];rfl
  rw[f,a] at hc;rw[hs];clear hs f a hl
  go_enter func212,ntmps212
  go_wp2_with fail
  refine hc.mono ?_;rintro e i ⟨rfl,g,c⟩
  go_wp2
  go_ret2
  exact⟨rfl,g,c⟩
 ·have hs:=Sf (b:=(A2 s.data.toList).drop p) sX;have f:ask s.data.toList p 2=(((AB s.data.toList p 2:Nat):Int),0):=EK sX (by rw[h];omega);have a:CM s.data.toList p 2=p+2:=by unfold CM;rw[f];rfl
  have hv:=EB s.data.toList p 2;have ht:num (((A2 s.data.toList).drop p).take 2)=AB s.data.toList p 2:=rfl;rw[f,a] at hc;rw[hs,ht];obtain⟨v,j⟩:=Ah (AB s.data.toList p 2);rw[j] at hc hv ⊢;have o:=Dm (fun m (hg:w.grownBy m (some rb))=>(l.grown hg k:H3 m));clear hs f a hl ht j l;rcases (by omega:v=0\/v=1\/v=2\/v=3) with rfl|rfl|rfl|rfl
  all_goals
   go_enter func212,ntmps212
   go_wp2_with fail
   refine hc.mono ?_;rintro e i ⟨rfl,g,c⟩;have d:=o.out _ c;have c1:i.cell? ⟨0,1,none⟩=some (.int .i64 (-1)):=(d 0 sY).2;have c3:i.cell? ⟨0,3,none⟩=some (.int .i64 (-2)):=(d 1 sY).2;have c5:i.cell? ⟨0,5,none⟩=some (.int .i64 1):=(d 2 sY).2;have q:i.cell? ⟨0,7,none⟩=some (.int .i64 2):=(d 3 sY).2
   go_wp2
   go_ret2
   exact⟨rfl,g,c⟩
def TA (b:List UInt8)(at_:Nat)(w:A5)(e:Ending)(a:A5):Prop:=
 e=.returned (.tuple #[.int .i64 (stk b).1,.int .i64 ((at_+(stk b).2.2:Nat):Int),.int .i64 (stk b).2.1])/\Below w.heap.size w a
theorem kW (s:ByteArray)(at_:Nat)(w:A5)(hs:s.size<=140737488355328)(d:at_<=s.size)(hr:AH s.data.toList=true):
  A9 prog 96 #[.string s,.int .i64 (at_:Int)] w (TA (s.data.toList.drop at_) at_ w):=by
 have hl:(s.data.toList.drop at_).length=s.size-at_:=by rw[Bf];rfl
 unfold TA;by_cases h2:s.size-at_<2
 ·have h:=TH (b:=s.data.toList.drop at_) sX;have t0:decide ((s.size:Int)-(at_:Int)<2)=true:=tO;rw[h];clear h hl h2
  go_enter func96,ntmps96
  go_wp2
  go_ret3
  exact⟨rfl,Dn _ _⟩
 ·have h:=Sf (b:=s.data.toList.drop at_) sX;have t0:decide ((s.size:Int)-(at_:Int)<2)=false:=tO;have a:(s.extract at_ (at_+2)).data.toList=(s.data.toList.drop at_).take 2:=by
   rw[Xg s.data.toList at_ (at_+2),Cu,show at_+2-at_=2 by omega]
  have hn:=fun w=>ND (s.extract at_ (at_+2)) (by rw[ByteArray.size_extract];omega) (by rw[a];exact ET _ _ (DH _ _ hr)) w;rw[a] at hn;have hv:num ((s.data.toList.drop at_).take 2)<4:=K0 _ (DH _ _ hr) 2 sX;rw[h];obtain⟨v,c⟩:=Ah (num ((s.data.toList.drop at_).take 2));rw[c] at hn hv ⊢;clear h hl c a;rcases (by omega:v=0\/v=1\/v=2\/v=3) with rfl|rfl|rfl|rfl
  all_goals
   go_enter func96,ntmps96
   go_wp2_with fail
   refine(hn _).mono ?_;rintro e f ⟨rfl,rfl⟩
   go_wp2
   go_ret3
   exact⟨rfl,(Dn _ w).alloc (B9 _) _⟩
theorem Qgv:(Rows.laid_overspill_cbpy_rows:Ad Unit)=.agg ((EM.map fun x=>x.data.toList).map fun l=>.lit (.string l)):=tN
theorem gX {laid : List (String × DataW Unit)} {W : World} (hL : laidMetH prog laid W) (hm : ("overspill/cbpy.rows", Rows.laid_overspill_cbpy_rows) ∈ laid ∧ (laid.all fun x => x.2.handleName?.isNone) = true) : JN W := by
 rw[MakeChecks.laidMetH_plain _ _ _ hm.2] at hL;obtain⟨ps,hv,_,_⟩:=hL;obtain⟨g,t,cs,fuel,p,hg,ht,hc,hd⟩:=Qs hv hm.1;obtain rfl := Option.some.inj ((show prog.globalNamed "overspill/cbpy.rows" = some 1 by kernel_rfl).symm.trans hg)
 obtain rfl:=Fk ((show (prog.globals[1]?).map (·.type)=some 226 by kernel_rfl).symm.trans ht);rw[Qgv] at hd;intro i hi;obtain⟨s,h1,h2⟩:=kG underlying226 Du tN tN hd i hi;have hcell:=Ij hg hc i;have hs:s=EM[i]'(by rw[HK];exact hi):=by
  rw[Ig,Fh (by rw[HK];exact hi)] at h2;apply De;apply Array.ext';exact(Fk h2).symm
 rw[hcell,<-hs,<-Ii];exact h1
theorem qS {H:Type}{enc:A7×A0->H}{P:Program}{w:A5}{base:Nat}{i:Nat->Bool}{a:Bool}{e f g:A7}{f0 f1:Field}
  (t:P.underlying e=some (.struct #[f0,f1]))(b:P.underlying f=some .string)(hi:P.underlying g=some (.int .i64))(e0:f0.type=f)(e1:f1.type=g)(u:f0.offset=0)(v:f1.offset=1)(cs:P.cellsOf f=1)(y:P.cellsOf g=1)
  {k:Nat}{vs:List A0}{x:List UInt8}{z:Int}{q:List MemPlace}(hl:vs.length=2)(h:DataW.trod enc P w base i a k e vs=some (.agg [.lit (.string x),.lit (.int .i64 z)],q)):
  ∃s:ByteArray,vs=[.string s,.int .i64 z]/\s.data.toList=x:=by
 obtain⟨A,k,hk,c,_,j,d⟩:=DataW.trod_struct t h
 match A,j,vs,hl with
 |[y0,y1],_,[v0,v1],_=>
  have p:=d 0 f0 rfl;have r:=d 1 f1 rfl;rw[e0,u,cs] at p;rw[e1,v,y] at r;obtain⟨B,l,m,w0⟩:=DataW.trod_string b (show DataW.trod _ P w base i a k f [v0]=some y0 from p);obtain⟨x1,n,o,D⟩:=DataW.trod_int hi (show DataW.trod _ P w base i a k g [v1]=some y1 from r);subst m o;injection l with l;injection n with n;subst l n;simp only[Cn,Cs,J1,DataW.agg.injEq,List.cons.injEq,DataW.lit.injEq,Lit.string.injEq,Lit.int.injEq,J4,J6] at c;obtain⟨⟨C,r1⟩,_⟩:=c;subst C r1;exact⟨B,rfl,rfl⟩
theorem kD {H:Type}{enc:A7×A0->H}{P:Program}{w:A5}{base:Nat}{o:Nat->Bool}{f:Bool}{a:Nat}{t e:A7}{n c:Nat}{cs:List A0}{g:List (Ad H)}{p:List MemPlace}
  (ht:P.underlying t=some (.array n e))(j:P.cellsOf e=c)(l:P.cellsOf t=n*c)
  (h:DataW.trod enc P w base o f a t cs=some (.agg g,p)):cs.length=n*c/\∀i,i<n->∃k d q,g[i]? =some d/\DataW.trod enc P w base o f k e ((cs.drop (i*c)).take c)=some (d,q):=by
 cases a with
 |zero=>simp[DataW.trod] at h
 |succ a=>
  simp only[DataW.trod,ht,j,l] at h
  split at h
  ·rename_i hl
   obtain⟨r,hm,s⟩:=Ih.1 h;have m:r.map (·.1)=g:=by
    have:=Bz Prod.fst s
    simpa using this
   refine⟨hl,fun i hi=>?_⟩;obtain⟨b,u,v⟩:=mapM_at hm i i (by simp[hi]);refine⟨a,b.1,b.2,?_,v⟩;rw[<-m];simp[u]
  ·cases h
theorem kQ:(Rows.laid_overspill_steps_codes:Ad Unit)=.agg [.agg [.lit (.string [48,48]),.lit (.int .i64 (-1))],.agg [.lit (.string [48,49]),.lit (.int .i64 (-2))],.agg [.lit (.string [49,48]),.lit (.int .i64 1)],.agg [.lit (.string [49,49]),.lit (.int .i64 2)]]:=tN
theorem Y33 {cs:List A0}{i:Nat}{a b:A0}(h:(cs.drop i).take 2=[a,b]):cs[i]? =some a/\cs[i+1]? =some b:=by
 have c:=Bz (·[0]?) h;have h1:=Bz (·[1]?) h;simp only[Er,Ei] at c h1;exact⟨vJ,uD⟩
theorem lO {laid : List (String × DataW Unit)} {W : World} (hL : laidMetH prog laid W) (hm : ("overspill/steps.codes", Rows.laid_overspill_steps_codes) ∈ laid ∧ (laid.all fun x => x.2.handleName?.isNone) = true) : H3 W := by
 rw[MakeChecks.laidMetH_plain _ _ _ hm.2] at hL;obtain⟨ps,hv,_,_⟩:=hL;obtain⟨g,t,cs,fuel,p,hg,ht,hc,hd⟩:=Qs hv hm.1;obtain rfl := Option.some.inj ((show prog.globalNamed "overspill/steps.codes" = some 0 by kernel_rfl).symm.trans hg)
 obtain rfl:=Fk ((show (prog.globals[0]?).map (·.type)=some 195 by kernel_rfl).symm.trans ht);rw[kQ] at hd;obtain⟨hl,hp⟩:=kD (c:=2) underlying195 tN tN hd;have hcell:=Ij hg hc;have key:∀i,(hi:i<4)->∃s:ByteArray,(cs.toList.drop (i*2)).take 2=[.string s,.int .i64 (Wa[i]'hi)]/\s=Z0[i]'hi:=by
  intro i hi;obtain⟨k,d,q,hd1,hd2⟩:=hp i hi;have hlen:((cs.toList.drop (i*2)).take 2).length=2:=by rw[Be,Bf,hl];omega
  rcases (by omega:i=0\/i=1\/i=2\/i=3) with rfl|rfl|rfl|rfl
  all_goals
   obtain rfl:=Fk hd1;obtain⟨s,h1,h2⟩:=qS underlying194 Du J7 rfl rfl rfl rfl tN tN hlen hd2;exact⟨s,h1,by apply De;apply Array.ext';exact h2⟩
 intro i hi;obtain⟨s,h1,rfl⟩:=key i hi;obtain⟨h2,h3⟩:=Y33 h1;rw[hcell,hcell,Ca 2 i,<-Ii,<-Ii];exact⟨h2,h3⟩
end Go.Proofs.YtjjmalchelniiaaGreatDoor