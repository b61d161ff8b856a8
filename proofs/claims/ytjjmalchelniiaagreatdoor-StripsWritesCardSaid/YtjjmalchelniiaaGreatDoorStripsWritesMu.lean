/- StripsWrites, 21. No condition. -/
import Derived.Test.YtjjmalchelniiaaGreatDoorStripsWritesMd
import Derived.Test.YtjjmalchelniiaaGreatDoorStripsWritesMg
import Derived.Test.YtjjmalchelniiaaGreatDoorStripsWritesMm
import Derived.Test.YtjjmalchelniiaaGreatDoorStripsWritesMr
import Derived.Test.YtjjmalchelniiaaGreatDoorStripsWritesMt
open Go.Proofs.Tryz
open Go renaming World->A5,Calls->A9
set_option maxHeartbeats 2000000
namespace Go.Proofs.YtjjmalchelniiaaGreatDoor
section
open Go.RowKit Go.Lib
abbrev L0:=@List.length_pos_iff
def Tu:List Nat:=[1,1,1,1,3,5,4,3,11,10,9,17,16,15,14,13,12,11,10,9,8,7,6,5,4,7,6,5,4,3,2,3,2]
def ON:List Nat:=[1,2,3,4,6,7,7,7,9,9,9,10,10,10,10,10,10,10,10,10,10,10,10,10,10,11,11,11,11,11,11,12,12]
def IN (i:Nat):Nat:=Tu[i]?.getD 0
def D0 (i:Nat):Nat:=ON[i]?.getD 0
theorem LW:∀i,i<33->1<=D0 i/\D0 i<=12/\IN i<2^D0 i/\IN i<=17:=by decide +kernel
def CI (i:Nat):List UInt8:=AB (IN i) (D0 i)
def HD (d:Int):Nat:=if d=0 then 1 else if 0<d then 2*IN d.toNat else 2*IN (-d).toNat+1
def GL (d:Int):Nat:=if d=0 then 1 else if 0<d then D0 d.toNat+1 else D0 (-d).toNat+1
def B3 (d:Int):ByteArray:=if -32<=d/\d<=31 then ⟨(AB (HD d) (GL d)).toArray⟩ else ⟨#[]⟩
theorem Qu {d:Int}(h:d < -32\/31<d):B3 d=⟨#[]⟩:=by
 unfold B3;rw[Bb (by omega)]
theorem Sc {d:Int}(h:-32<=d/\d<=31):B3 d=⟨(AB (HD d) (GL d)).toArray⟩:=by
 unfold B3;rw[Bc h]
theorem Sk {d:Int}(h:-32<=d/\d<=31):1<=GL d/\GL d<=13/\HD d<2^GL d/\HD d<=35:=by
 have e:∀i:Nat,i<64->1<=GL ((i:Int)-32)/\GL ((i:Int)-32)<=13/\HD ((i:Int)-32)<2^GL ((i:Int)-32)/\HD ((i:Int)-32)<=35:=by decide +kernel
 have:=e (d+32).toNat (by omega);rwa [show (((d+32).toNat:Nat):Int)-32=d by omega] at this
theorem yY {d:Int}(h:-32<=d/\d<=31):(B3 d).data.toList.isEmpty=false:=by
 rw[Sc h];show (AB (HD d) (GL d)).isEmpty=false;have:=Sk h;cases hl:AB (HD d) (GL d) with
 |nil=>
  have e:=BB (HD d) (GL d);rw[hl] at e;simp at e;omega
 |cons a l=>rfl
def GC (w:A5):Prop:=∀i,i<33->w.cell? ⟨2,i,none⟩=some (.int .i64 (IN i:Nat))/\w.cell? ⟨3,i,none⟩=some (.int .i64 (D0 i:Nat))
theorem GC.lt {w:A5}(h:GC w):2<w.heap.size/\3<w.heap.size:=
 ⟨Fc w ⟨2,0,none⟩ (h 0 (by decide)).1,Fc w ⟨3,0,none⟩ (h 0 (by decide)).2⟩
theorem GC.below {w a:A5}(h:GC w)(b:Below w.heap.size w a):GC a:=fun i hi=>
 ⟨(b.cell (p:=⟨2,i,none⟩) h.lt.1).trans (h i hi).1,(b.cell (p:=⟨3,i,none⟩) h.lt.2).trans (h i hi).2⟩
theorem jC (y:Nat)(f:y<4294967296):bits .or .i64 ((y:Int)*2) 1=((2*y+1:Nat):Int):=by
 have a:=Ck (i:=1) (b:=1) (by omega) y;have c:((y:Int)*2)=((2*y:Nat):Int):=by omega
 rw[c];show IntKind.i64.wrap ((BitVec.ofInt 64 ((2*y:Nat):Int) ||| BitVec.ofInt 64 ((1:Nat):Int)).toNat:Int)=_;rw[C7,C7,Dc,Ca,Ca,Bp (by omega),Bp (by omega)];have d:2*y ||| 1=2*y+1:=by
  have e:(2:Nat)^1=2:=rfl;rw[e] at a;exact a.symm
 rw[d,Cq];omega
theorem YR {a b c d:Int}{k e:IntKind}(h:a=c)(f:b=d):Ending.returned (.tuple #[.int k a,.int e b])=.returned (.tuple #[.int k c,.int e d]):=by rw[h,f]
theorem jW (d:Int)(h:-32<=d/\d<=31)(w:A5)(i:GC w):A9 prog 203 #[.int .i64 d] w fun e n=>e=.returned (.tuple #[.int .i64 (HD d:Nat),.int .i64 (GL d:Nat)])/\Below w.heap.size w n:=by
 by_cases c:d=0
 ·subst c;have j:w.cell? ⟨2,0,none⟩=some (.int .i64 1):=(i 0 (by decide)).1;have c1:w.cell? ⟨3,0,none⟩=some (.int .i64 1):=(i 0 (by decide)).2
  go_enter func203,ntmps203
  go_wp2
  go_region
  go_wp2
  go_ret2
  exact⟨rfl,(Dq _ w).drew⟩
 by_cases h1:0<d
 ·have f:=Dp (show HD d=2*IN d.toNat by unfold HD;rw[Bb c,Bc h1]);have g:=Dp (show GL d=D0 d.toNat+1 by unfold GL;rw[Bb c,Bc h1]);rw[f.out,g.out];obtain⟨a,k⟩:∃a:Nat,d=a:=⟨d.toNat,by omega⟩;subst k;rw[Dr];have b:a<33:=by omega
  obtain⟨j,c1⟩:=i a b;obtain⟨l,m,_,b3⟩:=LW a b;have t0:0<a:=by omega
  generalize IN a=x at j b3 ⊢;generalize D0 a=y at c1 l m ⊢;clear f g c h1
  go_enter func203,ntmps203
  go_wp2
  go_region
  go_wp2
  go_ret2
  exact⟨YR (by omega) (by omega),(Dq _ w).drew⟩
 ·have f:=Dp (show HD d=2*IN (-d).toNat+1 by unfold HD;rw[Bb c,Bb h1]);have g:=Dp (show GL d=D0 (-d).toNat+1 by unfold GL;rw[Bb c,Bb h1]);rw[f.out,g.out];obtain⟨a,k⟩:∃a:Nat,(-d).toNat=a:=⟨_,rfl⟩;have t2:-d=(a:Int):=by omega
  rw[k];have b:a<33:=by omega
  obtain⟨j,c1⟩:=i a b;obtain⟨l,m,_,b3⟩:=LW a b;have t0:decide (0<d)=false:=by simpa using h1
  have t1:decide (d<0)=true:=by simp;omega
  generalize IN a=x at j b3 ⊢;generalize D0 a=y at c1 l m ⊢;have O:=Dp (jC x (by omega));clear f g c h1 k
  go_enter func203,ntmps203
  go_wp2
  go_region
  go_wp2
  go_ret2
  exact⟨YR O.out (by omega),(Dq _ w).drew⟩
theorem mD (d:Int)(w:A5)(h:GC w):A9 prog 188 #[.int .i64 d] w fun e i=>e=.returned (.tuple #[.string (B3 d),.bool (!(B3 d).data.toList.isEmpty)])/\Below w.heap.size w i:=by
 by_cases c:d < -32
 ·have F:=Dp (Qu (d:=d) (.inl c));have t0:decide (d < -32)=true:=by simpa using c
  clear c;rw[F.out]
  go_enter func188,ntmps188
  go_wp2
  go_ret2
  exact⟨rfl,Dq _ _⟩
 by_cases h1:31<d
 ·have F:=Dp (Qu (d:=d) (.inr h1));have t0:decide (d < -32)=false:=by simpa using c
  have t1:decide (31<d)=true:=by simpa using h1
  clear c h1;rw[F.out]
  go_enter func188,ntmps188
  go_wp2
  go_ret2
  exact⟨rfl,Dq _ _⟩
 have hr:-32<=d/\d<=31:=by omega
 have t0:decide (d < -32)=false:=by simpa using c
 have t1:decide (31<d)=false:=by simpa using h1
 have a:=fun x j=>jW d hr x j;obtain⟨k,l,b2,b3⟩:=Sk hr;have G:=Dp (show (!(B3 d).data.toList.isEmpty)=true by rw[yY hr];rfl);have F:=Dp (Sc hr);rw[G.out,F.out];generalize HD d=x at a b2 b3 ⊢;generalize GL d=y at a k l b2 ⊢;have b:=fun w=>Qx (x:Int) (y:Int) w (by omega) (by
  unfold F4;rw[Fi];refine⟨by omega,by omega,by omega,?_⟩;rw[Dr]
  exact_mod_cast b2)
 simp only[Dr] at b;clear c h1 F G b2
 go_enter func188,ntmps188
 go_wp2_with fail
 refine(a _ h).mono ?_;rintro e n ⟨rfl,f⟩;have g:=f.size
 go_wp2_with fail
 refine(b _).mono ?_;rintro e o ⟨rfl,m⟩
 go_wp2
 go_ret2
 exact⟨rfl,f.trans (m.mono g)⟩
end
section
def JG (i:Nat):ByteArray×Int:=(B3 ((i:Int)-32),(i:Int)-32)
def allD:List (ByteArray×Int):=(List.range 64).map JG
def rowsD:List (List UInt8):=allD.map AC
def dtk (b:List UInt8):Int×Int×Nat:=gtk allD b
theorem UX:CH rowsD:=by unfold CH;decide +kernel
theorem bW:∀x∈allD,BX (AC x)=true:=by decide +kernel
theorem QW {i:Nat}(h:i<64):JG i∈allD:=Ko (Bt.2 h)
theorem U5 {i:Nat}(h:i<64):AC (JG i)∈rowsD:=Ko (QW h)
theorem NG (i:Nat):(CI i).length=D0 i:=BB _ _
theorem zV:∀i,i<33->∀j,j<33->i≠j->(CI i).isPrefixOf (CI j)=false:=by decide +kernel
theorem ZT:∀r∈rowsD,r=CI 0\/∃i∈List.range 33,r.dropLast=CI i/\1<r.length:=by decide +kernel
theorem SJ:CI 0=AC (JG 32):=by decide +kernel
theorem VD:∀i,i<32->0<i->CI i++[48]=AC (JG (32+i)):=by decide +kernel
theorem P3:∀i,i<33->0<i->CI i++[49]=AC (JG (32-i)):=by decide +kernel
theorem gJ:∀r∈rowsD,(CI 32++[48]).isPrefixOf r=false:=by decide +kernel
theorem UE {i:Nat}(h:i<33):∃r∈rowsD,(CI i).isPrefixOf r=true:=by
 by_cases a:i=0
 ·subst a;exact⟨_,U5 (i:=32) (by decide),by rw[SJ,JO]⟩
 ·refine⟨_,U5 (i:=32-i) (by omega),?_⟩;rw[<-P3 i h (by omega),Jq];exact Ka _ _
theorem kL {i j:Nat}(hi:i<33)(hj:j<33)(h:(CI i).isPrefixOf (CI j)=true):i=j:=by
 by_cases e:i=j
 ·exact e
 ·rw[zV i hi j hj e] at h;cases h
theorem VF {i:Nat}(hi:i<33)(a:i≠0):CI i∉rowsD:=by
 intro h;have e:=N8 UX h (U5 (i:=32-i) (by omega)) (by rw[<-P3 i hi (by omega),Jq];exact Ka _ _);rw[<-P3 i hi (by omega)] at e;have:=C6 List.length e;rw[B9,Bq] at this;omega
def MD (q:List UInt8):Prop:=∀i,i<33->(CI i).isPrefixOf q=false
theorem jE:MD []:=by unfold MD;decide +kernel
theorem Qke {b r:List UInt8}{n:Nat}(hn:n+1<=b.length)(c:MD (b.take n))(hr:r∈rowsD)(a:(b.take (n+1)).isPrefixOf r=true):∃i,i<33/\(b.take (n+1)).isPrefixOf (CI i)=true:=by
 have hl:(b.take (n+1)).length=n+1:=by rw[Bf];omega
 rcases ZT r hr with rfl|⟨i,hi,hd,h1⟩
 ·exact⟨0,by decide,a⟩
 ·rw[Bt] at hi;refine⟨i,hi,?_⟩;by_cases d:(b.take (n+1)).length<r.length
  ·rw[<-hd];exact Qj2 a d
  ·exfalso;have f:=HT a;have e:b.take (n+1)=r:=by
    have:=FJ.1 a;rw[Bk (by omega)] at this;exact this.symm
   have h2:(CI i).isPrefixOf (b.take n)=true:=by
    rw[<-hd,<-e,Kw,Cn,hl,show min (n+1-1) (n+1)=n by omega,JO]
   rw[c i hi] at h2;cases h2
theorem jD {b:List UInt8}{k n:Nat}(hn:n+1<=b.length)(a:MD (b.take n))(h:∀i,i<33->(b.take (n+1)).isPrefixOf (CI i)=false):tk rowsD b (k+1) (n+1)=(3,0):=by
 refine Vc hn fun r hr=>?_;cases hp:(b.take (n+1)).isPrefixOf r with
 |false=>rfl
 |true=>
  obtain⟨i,hi,h2⟩:=Qke hn a hr hp;rw[h i hi] at h2;cases h2
theorem sM {b:List UInt8}{k n i:Nat}(hn:n+1<=b.length)(d:MD (b.take n))(hi:i<33)(h:(b.take (n+1)).isPrefixOf (CI i)=true)(g:D0 i≠n+1):
  tk rowsD b (k+1) (n+1)=tk rowsD b k (n+2)/\MD (b.take (n+1)):=by
 have hl:(b.take (n+1)).length=n+1:=by rw[Bf];omega
 have f:=HT h;rw[hl,NG] at f;have a:MD (b.take (n+1)):=by
  intro j hj;cases c:(CI j).isPrefixOf (b.take (n+1)) with
  |false=>rfl
  |true=>
   have e:=kL hj hi (NH c h);subst e;have:=HT c;rw[hl,NG] at this;omega
 refine⟨?_,a⟩;obtain⟨r,hr,c⟩:=UE hi;refine RG hn (fun hm=>?_) hr (NH h c);rcases ZT _ hm with e|⟨j,hj,hd,_⟩
 ·have:=a 0 (by decide);rw[e,JO] at this;cases this
 ·have:=d j (Bt.1 hj);rw[<-hd,Kw,Cn,hl,show min (n+1-1) (n+1)=n by omega,JO] at this;cases this
theorem yP {b:List UInt8}{i n:Nat}(hn:n<=b.length)(h:(b.take n).isPrefixOf (CI i)=true)(a:D0 i=n):b.take n=CI i:=by
 have:=FJ.1 h;rw[Bk (by rw[NG,Bf];omega)] at this;exact this.symm
theorem xO {b:List UInt8}(c:b.take (D0 0)=CI 0):dtk b=(0,0,1):=by
 have a:(CI 0).isPrefixOf b=true:=by rw[<-c];exact NX _ _
 rw[SJ] at a;have:=Qc UX (QW (i:=32) (by decide)) (by decide +kernel) (by decide +kernel) a;rw[show (AC (JG 32)).length=1 by decide +kernel] at this;exact this
theorem mV {b:List UInt8}{i n:Nat}(hi:i<33)(c:i≠0)(f:D0 i=n)(hn:n<=b.length)(a:b.take n=CI i)(ht:tk rowsD b 25 1=tk rowsD b (26-n) n)(hs:b.length<n+1):dtk b=(0,2,0):=by
 have d:=(LW i hi).2.1;obtain⟨r,hr,e⟩:=UE hi;refine NK (n:=0) (ht.trans ?_) (by decide);rw[show 26-n=(24-n)+1+1 by omega,RG hn (by rw[a];exact VF hi c) hr (by rw[a];exact e)];exact SM hs
theorem RZ {b:List UInt8}{i n:Nat}(hn:n<b.length)(a:b.take n=CI i){c:UInt8}(hc:b[n]=c):b.take (n+1)=CI i++[c]:=by
 rw[Be hn,a,hc]
theorem mX {b:List UInt8}{n:Nat}(c:D0 32=n)(hn:n<b.length)(a:b.take n=CI 32)(hc:b[n]=48)(ht:tk rowsD b 25 1=tk rowsD b (26-n) n):dtk b=(0,3,0):=by
 have d:n<=12:=by rw[<-c];exact(LW 32 (by decide)).2.1
 obtain⟨r,hr,e⟩:=UE (i:=32) (by decide);refine NK (n:=0) (ht.trans ?_) (by decide);rw[show 26-n=(24-n)+1+1 by omega,RG (by omega) (by rw[a];exact VF (by decide) (by decide)) hr (by rw[a];exact e)];refine Vc (by omega) fun r hr=>?_;rw[RZ hn a hc];exact gJ r hr
theorem Ui {b:List UInt8}{j:Nat}(hj:j<64)(a:(AC (JG j)).isPrefixOf b=true):dtk b=((j:Int)-32,0,(AC (JG j)).length):=by
 obtain⟨h1,h2,_⟩:=GK (bW _ (QW hj));exact Qc UX (QW hj) (by have:=L0.2 h1;omega) h2 a
theorem Y8i {b:List UInt8}{i n:Nat}(hi:i<32)(a:0<i)(c:D0 i=n)(hn:n<b.length)(d:b.take n=CI i)(hc:b[n]=48):dtk b=((i:Int),0,n+1):=by
 have e:=VD i hi a;have f:(AC (JG (32+i))).isPrefixOf b=true:=by rw[<-e,<-RZ hn d hc];exact NX _ _
 rw[Ui (by omega) f,<-e,B9,NG,c,show ((32+i:Nat):Int)-32=i by omega]
 rfl
theorem zM {b:List UInt8}{i n:Nat}(hi:i<33)(a:0<i)(c:D0 i=n)(hn:n<b.length)(d:b.take n=CI i)(hc:b[n]=49):dtk b=(-(i:Int),0,n+1):=by
 have e:=P3 i hi a;have f:(AC (JG (32-i))).isPrefixOf b=true:=by rw[<-e,<-RZ hn d hc];exact NX _ _
 rw[Ui (by omega) f,<-e,B9,NG,c,show ((32-i:Nat):Int)-32 = -(i:Int) by omega]
 rfl
end
section
open Go.RowKit Go.Lib
def MH:List ByteArray:=[⟨#[49,49]⟩,⟨#[48,49,49,48]⟩,⟨#[49,48,48,48]⟩,⟨#[48,49,48,48]⟩,⟨#[49,48,49,48]⟩,⟨#[48,49,48,49]⟩,⟨#[48,48,48,48,49,49]⟩,⟨#[48,48,48,49,48]⟩,⟨#[49,48,49,49]⟩,⟨#[48,48,48,48,49,48]⟩,⟨#[48,49,49,49]⟩,⟨#[48,48,48,49,49]⟩,⟨#[49,48,48,49]⟩,⟨#[48,48,49,48,48]⟩,⟨#[48,48,49,48,49]⟩,⟨#[48,48,49,49]⟩]
theorem PK:MH.length=16:=rfl
theorem VQ:∀i,(h:i<16)->MH[i]'(by rw[PK];exact h)=EH[15-i]'(by rw[HI];omega):=by decide +kernel
theorem Xg (w:A5):A9 prog 132 #[] w fun e a=>e=.returned (.slice (some ⟨w.heap.size,0,none⟩) 16 16)/\Jx a (some ⟨w.heap.size,0,none⟩) MH/\Below w.heap.size w a:=by
 go_enter func132,ntmps132
 go_wp2
 go_ret
 exact⟨rfl,Rj (T:=9) (l:=MH) (heap_alloc_new w _),(Dq _ w).alloc (Ba _) _⟩
set_option maxRecDepth 100000 in
theorem jV (intra:Bool)(k:Int)(w:A5):A9 prog 110 #[.bool intra,.int .i64 k] w fun e l=>e=.returned (.string (DF intra k))/\Below w.heap.size w l:=by
 by_cases c:k<0
 ·have F:=Dp (Ra (intra:=intra) (.inl c));have t0:decide (k<0)=true:=by simpa using c
  clear c;rw[F.out]
  go_enter func110,ntmps110
  go_wp2
  go_ret
  exact⟨rfl,Dq _ _⟩
 by_cases h4:15<k
 ·have F:=Dp (Ra (intra:=intra) (k:=k) (.inr (by omega)));have t0:decide (k<0)=false:=by simpa using c
  have t1:decide (15<k)=true:=by simpa using h4
  clear c h4;rw[F.out]
  go_enter func110,ntmps110
  go_wp2
  go_ret
  exact⟨rfl,Dq _ _⟩
 obtain⟨a,rfl⟩:∃a:Nat,k=a:=⟨k.toNat,by omega⟩;have t0:decide ((a:Int)<0)=false:=by simp
 have t1:decide (15<(a:Int))=false:=by simp;omega
 have j:a<16:=by omega
 have f:=Ub (intra:=intra) j rfl;cases intra with
 |true=>
  have hj:15-a<MH.length:=by rw[PK];omega
  have F:=Dp (f.trans (show EH[EM true a]'_=MH[15-a]'hj by rw[VQ (15-a) (by omega)];congr 1;show a=_;omega));have h:(15:Int)-a=((15-a:Nat):Int):=by omega
  clear f c h4;rw[F.out]
  go_enter func110,ntmps110
  go_wp2_with fail
  refine(Xg _).mono ?_;rintro e n ⟨rfl,d,i⟩;obtain⟨b,o,e,_,hc⟩:=d.at (by rw[PK];omega);cases e;have g:=hc (15-a) hj;rw[Bo] at g;clear hc;obtain⟨m,hm⟩:=Ah (15-a);rw[hm] at h;simp only[hm] at g
  go_wp2
  go_ret
  subst hm;exact⟨rfl,i⟩
 |false=>
  have hj:a<MH.length:=by rw[PK];omega
  have F:=Dp (f.trans (show EH[EM false a]'_=MH[a]'hj by rw[VQ a j];rfl));clear f c h4;rw[F.out]
  go_enter func110,ntmps110
  go_wp2_with fail
  refine(Xg _).mono ?_;rintro e n ⟨rfl,d,i⟩;obtain⟨b,o,e,_,hc⟩:=d.at (by rw[PK];omega);cases e;have g:=hc a hj;rw[Bo] at g;clear hc
  go_wp2
  go_ret
  exact⟨rfl,i⟩
def K5:List ByteArray:=[⟨#[49]⟩,⟨#[48,49]⟩,⟨#[48,48,49]⟩,⟨#[48,48,48,49]⟩,⟨#[48,48,48,48,49,49]⟩,⟨#[48,48,48,48,49,48,49]⟩,⟨#[48,48,48,48,49,48,48]⟩,⟨#[48,48,48,48,48,49,49]⟩,⟨#[48,48,48,48,48,49,48,49,49]⟩,⟨#[48,48,48,48,48,49,48,49,48]⟩,⟨#[48,48,48,48,48,49,48,48,49]⟩,⟨#[48,48,48,48,48,49,48,48,48,49]⟩,⟨#[48,48,48,48,48,49,48,48,48,48]⟩,⟨#[48,48,48,48,48,48,49,49,49,49]⟩,⟨#[48,48,48,48,48,48,49,49,49,48]⟩,⟨#[48,48,48,48,48,48,49,49,48,49]⟩,⟨#[48,48,48,48,48,48,49,49,48,48]⟩,⟨#[48,48,48,48,48,48,49,48,49,49]⟩,⟨#[48,48,48,48,48,48,49,48,49,48]⟩,⟨#[48,48,48,48,48,48,49,48,48,49]⟩,⟨#[48,48,48,48,48,48,49,48,48,48]⟩,⟨#[48,48,48,48,48,48,48,49,49,49]⟩,⟨#[48,48,48,48,48,48,48,49,49,48]⟩,⟨#[48,48,48,48,48,48,48,49,48,49]⟩,⟨#[48,48,48,48,48,48,48,49,48,48]⟩,⟨#[48,48,48,48,48,48,48,48,49,49,49]⟩,⟨#[48,48,48,48,48,48,48,48,49,49,48]⟩,⟨#[48,48,48,48,48,48,48,48,49,48,49]⟩,⟨#[48,48,48,48,48,48,48,48,49,48,48]⟩,⟨#[48,48,48,48,48,48,48,48,48,49,49]⟩,⟨#[48,48,48,48,48,48,48,48,48,49,48]⟩,⟨#[48,48,48,48,48,48,48,48,48,48,49,49]⟩,⟨#[48,48,48,48,48,48,48,48,48,48,49,48]⟩]
theorem KO:K5.length=33:=rfl
theorem dN:∀i,(h:i<33)->(K5[i]'(by rw[KO];exact h)).data.toList=CI i:=by decide +kernel
theorem QU {i:Nat}(h:i<33):K5[i]'(by rw[KO];exact h)=⟨(CI i).toArray⟩:=IU.2 (dN i h)
theorem ZF {i:Nat}(h:i<33):(K5[i]'(by rw[KO];exact h)).size<=12:=by
 rw[QU h,HX,NG];exact(LW i h).2.1
theorem yR:B3 0=⟨(CI 0).toArray⟩:=IU.2 SJ.symm
theorem zT {i:Nat}(h:i<32)(a:0<i):B3 (i:Int)=⟨(CI i).toArray⟩++⟨#[48]⟩:=by
 rw[show (⟨#[48]⟩:ByteArray)=⟨[48].toArray⟩ from rfl,L2,VD i h a];refine IU.2 ?_;show _=(B3 (((32+i:Nat):Int)-32)).data.toList;rw[show ((32+i:Nat):Int)-32=i by omega]
theorem qU {i:Nat}(h:i<33)(a:0<i):B3 (-(i:Int))=⟨(CI i).toArray⟩++⟨#[49]⟩:=by
 rw[show (⟨#[49]⟩:ByteArray)=⟨[49].toArray⟩ from rfl,L2,P3 i h a];refine IU.2 ?_;show _=(B3 (((32-i:Nat):Int)-32)).data.toList;rw[show ((32-i:Nat):Int)-32 = -(i:Int) by omega]
set_option maxRecDepth 100000 in
theorem TZ (w:A5):A9 prog 145 #[] w fun e a=>e=.returned (.slice (some ⟨w.heap.size,0,none⟩) 33 33)/\Jx a (some ⟨w.heap.size,0,none⟩) K5/\Below w.heap.size w a:=by
 go_enter func145,ntmps145
 go_wp2
 go_ret
 exact⟨rfl,Rj (T:=9) (l:=K5) (heap_alloc_new w _),(Dq _ w).alloc (Ba _) _⟩
set_option maxRecDepth 100000 in
theorem gV (d:Int)(w:A5):A9 prog 112 #[.int .i64 d] w fun e n=>e=.returned (.string (B3 d))/\Below w.heap.size w n:=by
 by_cases g:d < -32
 ·have F:=Dp (Qu (d:=d) (.inl g));have t0:decide (d < -32)=true:=by simpa using g
  clear g;rw[F.out]
  go_enter func112,ntmps112
  go_wp2
  go_ret
  exact⟨rfl,Dq _ _⟩
 by_cases h1:31<d
 ·have F:=Dp (Qu (d:=d) (.inr h1));have t0:decide (d < -32)=false:=by simpa using g
  have t1:decide (31<d)=true:=by simpa using h1
  clear g h1;rw[F.out]
  go_enter func112,ntmps112
  go_wp2
  go_ret
  exact⟨rfl,Dq _ _⟩
 have t0:decide (d < -32)=false:=by simpa using g
 have t1:decide (31<d)=false:=by simpa using h1
 by_cases h2:d<0
 ·obtain⟨a,l⟩:∃a:Nat,(-d).toNat=a:=⟨_,rfl⟩;have p:-d=(a:Int):=by omega
  have hj:a<33:=by omega
  have F:=Dp (show B3 d=K5[a]'(by rw[KO];exact hj)++⟨#[49]⟩ by rw[QU hj,<-qU hj (by omega)];congr 1;omega);have t2:decide (d<0)=true:=by simpa using h2
  obtain⟨r,c⟩:∃r,K5[a]'(by rw[KO];exact hj)=r:=⟨_,rfl⟩;have h:=ZF hj;rw[c] at F h;clear g h1 h2 l;rw[F.out]
  go_enter func112,ntmps112
  go_wp2_with fail
  refine(TZ _).mono ?_;rintro e k ⟨rfl,f,i⟩;obtain⟨b,o,e,_,hc⟩:=f.at (by rw[KO];omega);cases e;have j:k.cell? ⟨w.heap.size,0+a,none⟩=some (.string r):=(hc a hj).trans (C6 (fun x=>some (Value.string x)) c);rw[Bo] at j;clear hc
  go_wp2
  go_ret
  exact⟨rfl,i⟩
 ·have t2:decide (d<0)=false:=by simpa using h2
  by_cases h3:0<d
  ·obtain⟨a,l⟩:∃a:Nat,d.toNat=a:=⟨_,rfl⟩;obtain rfl:d=(a:Int):=by omega
   have hj:a<33:=by omega
   have m:0<a:=by omega
   have F:=Dp (show B3 (a:Int)=K5[a]'(by rw[KO];exact hj)++⟨#[48]⟩ by rw[QU hj,<-zT (by omega) m]);obtain⟨r,c⟩:∃r,K5[a]'(by rw[KO];exact hj)=r:=⟨_,rfl⟩;have h:=ZF hj;rw[c] at F h;clear g h1 h2 h3 l;rw[F.out]
   go_enter func112,ntmps112
   go_wp2_with fail
   refine(TZ _).mono ?_;rintro e k ⟨rfl,f,i⟩;obtain⟨b,o,e,_,hc⟩:=f.at (by rw[KO];omega);cases e;have j:k.cell? ⟨w.heap.size,0+a,none⟩=some (.string r):=(hc a hj).trans (C6 (fun x=>some (Value.string x)) c);rw[Bo] at j;clear hc
   go_wp2
   go_ret
   exact⟨rfl,i⟩
  ·obtain rfl:d=0:=by omega
   have F:=Dp (show B3 0=K5[0]'(by decide) by rw[QU (by decide),yR]);clear g h1 h2 h3 t0 t1 t2;rw[F.out]
   go_enter func112,ntmps112
   go_wp2_with fail
   refine(TZ _).mono ?_;rintro e k ⟨rfl,f,i⟩;obtain⟨b,o,e,_,hc⟩:=f.at (by rw[KO];omega);cases e;have j:=hc 0 (by decide);rw[Bo] at j;clear hc
   go_wp2
   go_ret
   exact⟨rfl,i⟩
theorem WT:(Rows.laid_overspill_mvd_codes:DataW Unit)=tabData .i64 (Tu.map fun z:Nat=>(z:Int))/\(Rows.laid_overspill_mvd_lengths:DataW Unit)=tabData .i64 (ON.map fun z:Nat=>(z:Int)):=⟨by kernel_rfl,by kernel_rfl⟩
theorem Qor (l:List Nat)(i:Nat)(h:i<(l.map fun z:Nat=>(z:Int)).length):(l.map fun z:Nat=>(z:Int))[i]=((l[i]?.getD 0:Nat):Int):=by
 have h2:i<l.length:=by simpa using h
 rw[Kq,Fj h2]
 rfl
theorem fA {laid : List (String × DataW Unit)} {W : World} (hL : laidMetH prog laid W) (hm : (("overspill/mvd.codes", Rows.laid_overspill_mvd_codes) ∈ laid ∧ ("overspill/mvd.lengths", Rows.laid_overspill_mvd_lengths) ∈ laid) ∧ (laid.all fun x => x.2.handleName?.isNone) = true) : GC W := by
 rw[Je _ _ _ hm.2] at hL;obtain⟨ps,hv,_,_⟩:=hL;obtain⟨h1,h2⟩:=hm.1;rw[WT.1] at h1;rw[WT.2] at h2;have hlc:(Tu.map fun z:Nat=>(z:Int)).length=33:=rfl;have hll:(ON.map fun z:Nat=>(z:Int)).length=33:=rfl;intro i hi;have g1:=VO hv h1 (g:=2) (t:=248) (by kernel_rfl) (by kernel_rfl) underlying248 Ji (by kernel_rfl) (by kernel_rfl) i (by rw[hlc];exact hi)
 have g2:=VO hv h2 (g:=3) (t:=248) (by kernel_rfl) (by kernel_rfl) underlying248 Ji (by kernel_rfl) (by kernel_rfl) i (by rw[hll];exact hi);rw[Qor] at g1 g2;exact⟨g1,g2⟩
end
end Go.Proofs.YtjjmalchelniiaaGreatDoor
