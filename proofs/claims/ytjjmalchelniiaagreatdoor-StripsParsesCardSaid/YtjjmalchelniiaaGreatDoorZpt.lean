/- No condition. -/
import Derived.Test.YtjjmalchelniiaaGreatDoorZpd
import Derived.Test.YtjjmalchelniiaaGreatDoorZpg
import Derived.Test.YtjjmalchelniiaaGreatDoorZpm
import Derived.Test.YtjjmalchelniiaaGreatDoorZpq
import Derived.Test.YtjjmalchelniiaaGreatDoorZps
open Go.Proofs.Tryz
open Go renaming World->A5,Calls->A9
set_option maxHeartbeats 4000000
namespace Go.Proofs.YtjjmalchelniiaaGreatDoor
section
open Go.RowKit Go.Lib
theorem Wcz{p:Prop}(h:p:=by
 rw[F.out]
 go_enter func112,ntmps112
 go_wp2
 go_ret
 exact⟨rfl,Dn _ _⟩):p:=h
theorem Wcy{p:Prop}(h:p:=by
 rw[F.out]
 go_enter func188,ntmps188
 go_wp2
 go_ret2
 exact⟨rfl,Dn _ _⟩):p:=h
theorem Wcx{p:Prop}(h:p:=by
 rw[F.out]
 go_enter func112,ntmps112
 go_wp2_with fail
 refine(Ul _).mono ?_;rintro e j ⟨rfl,f,i⟩;obtain⟨b,o,e,_,hc⟩:=f.at (by rw[L5];omega);cases e;have c0:j.cell? ⟨w.heap.size,0+a,none⟩=some (.string r):=(hc a hj).trans (Bz (fun x=>some (Value.string x)) c);rw[Bn] at c0;clear hc
 go_wp2
 go_ret
 exact⟨rfl,i⟩):p:=h
theorem vT{p:Prop}(h:p:=by simpa using h):p:=h
theorem vU{p:Prop}(h:p:=by simpa using g):p:=h
theorem vV{p:Prop}(h:p:=by rw[L5];exact hj):p:=h
abbrev Kr:=@List.length_pos_iff
abbrev Ks:=@List.map_map
abbrev Kt:=@Classical.em
def Wi:List Nat:=[1,1,1,1,3,5,4,3,11,10,9,17,16,15,14,13,12,11,10,9,8,7,6,5,4,7,6,5,4,3,2,3,2]
def OX:List Nat:=[1,2,3,4,6,7,7,7,9,9,9,10,10,10,10,10,10,10,10,10,10,10,10,10,10,11,11,11,11,11,11,12,12]
def IS (i:Nat):Nat:=Wi[i]?.getD 0
def D2 (i:Nat):Nat:=OX[i]?.getD 0
theorem LH:∀i,i<33->1<=D2 i/\D2 i<=12/\IS i<2^D2 i/\IS i<=17:=uB
def CL (i:Nat):List UInt8:=AF (IS i) (D2 i)
def HP (d:Int):Nat:=if d=0 then 1 else if 0<d then 2*IS d.toNat else 2*IS (-d).toNat+1
def GM (d:Int):Nat:=if d=0 then 1 else if 0<d then D2 d.toNat+1 else D2 (-d).toNat+1
def BR (d:Int):ByteArray:=if -32<=d/\d<=31 then ⟨(AF (HP d) (GM d)).toArray⟩ else ⟨#[]⟩
theorem Rx {d:Int}(h:d < -32\/31<d):BR d=⟨#[]⟩:=by
 unfold BR;rw[Ba sX]
theorem T4 {d:Int}(h:-32<=d/\d<=31):BR d=⟨(AF (HP d) (GM d)).toArray⟩:=by
 unfold BR;rw[Bb h]
theorem VH {d:Int}(h:-32<=d/\d<=31):1<=GM d/\GM d<=13/\HP d<2^GM d/\HP d<=35:=by
 have e:∀i:Nat,i<64->1<=GM ((i:Int)-32)/\GM ((i:Int)-32)<=13/\HP ((i:Int)-32)<2^GM ((i:Int)-32)/\HP ((i:Int)-32)<=35:=uB;have:=e (d+32).toNat sX;rwa [show (((d+32).toNat:Nat):Int)-32=d by omega] at this
theorem Y49 {d:Int}(h:-32<=d/\d<=31):(BR d).data.toList.isEmpty=false:=by
 rw[T4 h];show (AF (HP d) (GM d)).isEmpty=false;have:=VH h;cases hl:AF (HP d) (GM d) with
 |nil=>
  have e:=BS (HP d) (GM d);rw[hl] at e;simp at e;omega
 |cons a l=>rfl
def FZ (w:A5):Prop:=∀i,i<33->w.cell? ⟨2,i,none⟩=some (.int .i64 (IS i:Nat))/\w.cell? ⟨3,i,none⟩=some (.int .i64 (D2 i:Nat))
theorem FZ.lt {w:A5}(h:FZ w):2<w.heap.size/\3<w.heap.size:=
 ⟨J2 w ⟨2,0,none⟩ (h 0 sY).1,J2 w ⟨3,0,none⟩ (h 0 sY).2⟩
theorem FZ.below {w a:A5}(h:FZ w)(b:Below w.heap.size w a):FZ a:=fun i hi=>
 ⟨(b.cell (p:=⟨2,i,none⟩) h.lt.1).trans (h i hi).1,(b.cell (p:=⟨3,i,none⟩) h.lt.2).trans (h i hi).2⟩
theorem Qqu (y:Nat)(c:y<4294967296):bits .or .i64 ((y:Int)*2) 1=((2*y+1:Nat):Int):=by
 have a:=Cm (i:=1) (b:=1) sX y;have e1:((y:Int)*2)=((2*y:Nat):Int):=sX;rw[e1];show IntKind.i64.wrap ((BitVec.ofInt 64 ((2*y:Nat):Int) ||| BitVec.ofInt 64 ((1:Nat):Int)).toNat:Int)=_;rw[C7,C7,D9,C8,C8,Bq sX,Bq sX];have e2:2*y ||| 1=2*y+1:=by
  have e:(2:Nat)^1=2:=rfl;rw[e] at a;exact a.symm
 rw[e2,Cr];omega
theorem bV {a b c d:Int}{k e:IntKind}(h:a=c)(f:b=d):Ending.returned (.tuple #[.int k a,.int e b])=.returned (.tuple #[.int k c,.int e d]):=by rw[h,f]
theorem Qaj (d:Int)(h:-32<=d/\d<=31)(w:A5)(i:FZ w):A9 prog 203 #[.int .i64 d] w fun e m=>e=.returned (.tuple #[.int .i64 (HP d:Nat),.int .i64 (GM d:Nat)])/\Below w.heap.size w m:=by
 by_cases c:d=0
 ·subst c;have c0:w.cell? ⟨2,0,none⟩=some (.int .i64 1):=(i 0 sY).1;have c1:w.cell? ⟨3,0,none⟩=some (.int .i64 1):=(i 0 sY).2
  go_enter func203,ntmps203
  go_wp2
  go_region
  go_wp2
  go_ret2
  exact⟨rfl,(Dn _ w).drew⟩
 by_cases h1:0<d
 ·have f:=Dm (show HP d=2*IS d.toNat by unfold HP;rw[Ba c,Bb h1]);have g:=Dm (show GM d=D2 d.toNat+1 by unfold GM;rw[Ba c,Bb h1]);rw[f.out,g.out];obtain⟨a,j⟩:∃a:Nat,d=a:=⟨d.toNat,sX⟩;subst j;rw[Dp];have b:a<33:=sX;obtain⟨c0,c1⟩:=i a b;obtain⟨k,l,_,b3⟩:=LH a b;have t0:0<a:=sX;generalize IS a=x at c0 b3 ⊢;generalize D2 a=y at c1 k l ⊢;clear f g c h1
  go_enter func203,ntmps203
  go_wp2
  go_region
  go_wp2
  go_ret2
  exact⟨bV sX sX,(Dn _ w).drew⟩
 ·have f:=Dm (show HP d=2*IS (-d).toNat+1 by unfold HP;rw[Ba c,Ba h1]);have g:=Dm (show GM d=D2 (-d).toNat+1 by unfold GM;rw[Ba c,Ba h1]);rw[f.out,g.out];obtain⟨a,j⟩:∃a:Nat,(-d).toNat=a:=⟨_,rfl⟩;have t2:-d=(a:Int):=sX;rw[j];have b:a<33:=sX;obtain⟨c0,c1⟩:=i a b;obtain⟨k,l,_,b3⟩:=LH a b;have t0:decide (0<d)=false:=uD;have t1:decide (d<0)=true:=tO;generalize IS a=x at c0 b3 ⊢;generalize D2 a=y at c1 k l ⊢;have O:=Dm (Qqu x sX);clear f g c h1 j
  go_enter func203,ntmps203
  go_wp2
  go_region
  go_wp2
  go_ret2
  exact⟨bV O.out sX,(Dn _ w).drew⟩
theorem iZ (d:Int)(w:A5)(h:FZ w):A9 prog 188 #[.int .i64 d] w fun e i=>e=.returned (.tuple #[.string (BR d),.bool (!(BR d).data.toList.isEmpty)])/\Below w.heap.size w i:=by
 by_cases c:d < -32
 ·have F:=Dm (Rx (d:=d) (.inl c));have t0:decide (d < -32)=true:=vJ;clear c;exact Wcy
 by_cases h1:31<d
 ·have F:=Dm (Rx (d:=d) (.inr h1));have t0:decide (d < -32)=false:=vJ;have t1:decide (31<d)=true:=uD;clear c h1;exact Wcy
 have hr:-32<=d/\d<=31:=sX;have t0:decide (d < -32)=false:=vJ;have t1:decide (31<d)=false:=uD;have a:=fun x j=>Qaj d hr x j;obtain⟨k,l,b2,b3⟩:=VH hr;have G:=Dm (show (!(BR d).data.toList.isEmpty)=true by rw[Y49 hr];rfl);have F:=Dm (T4 hr);rw[G.out,F.out];generalize HP d=x at a b2 b3 ⊢;generalize GM d=y at a k l b2 ⊢;have b:=fun w=>Qr (x:Int) (y:Int) w sX (by
  unfold EW;rw[Fg];refine⟨sX,sX,sX,?_⟩;rw[Dp]
  exact_mod_cast b2)
 simp only[Dp] at b;clear c h1 F G b2
 go_enter func188,ntmps188
 go_wp2_with fail
 refine(a _ h).mono ?_;rintro e n ⟨rfl,f⟩;have g:=f.size
 go_wp2_with fail
 refine(b _).mono ?_;rintro e o ⟨rfl,m⟩
 go_wp2
 go_ret2
 exact⟨rfl,f.trans (m.mono g)⟩
end
section
def H8 (i:Nat):ByteArray×Int:=(BR ((i:Int)-32),(i:Int)-32)
def allD:List (ByteArray×Int):=(List.range 64).map H8
def rowsD:List (List UInt8):=allD.map rowC
def dtk (b:List UInt8):Int×Int×Nat:=gtk allD b
theorem Tt:CJ rowsD:=by unfold CJ;decide +kernel
theorem Qn4:∀x∈allD,BW (rowC x)=true:=uB
theorem Q3 {i:Nat}(h:i<64):H8 i∈allD:=Kc (Bs.2 h)
theorem Ve {i:Nat}(h:i<64):rowC (H8 i)∈rowsD:=Kc (Q3 h)
theorem OD (i:Nat):(CL i).length=D2 i:=BS _ _
theorem Qjq:∀i,i<33->∀j,j<33->i≠j->(CL i).isPrefixOf (CL j)=false:=uB
theorem XN:∀r∈rowsD,r=CL 0\/∃i∈List.range 33,r.dropLast=CL i/\1<r.length:=uB
theorem VR:CL 0=rowC (H8 32):=uB
theorem Yz:∀i,i<32->0<i->CL i++[48]=rowC (H8 (32+i)):=uB
theorem QD:∀i,i<33->0<i->CL i++[49]=rowC (H8 (32-i)):=uB
theorem lY:∀r∈rowsD,(CL 32++[48]).isPrefixOf r=false:=uB
theorem Vt {i:Nat}(h:i<33):∃r∈rowsD,(CL i).isPrefixOf r=true:=by
 by_cases a:i=0
 ·subst a;exact⟨_,Ve (i:=32) sY,by rw[VR,JE]⟩
 ·refine⟨_,Ve (i:=32-i) sX,?_⟩;rw[<-QD i h sX,Jg];exact Jp _ _
theorem Qn7 {i j:Nat}(hi:i<33)(hj:j<33)(h:(CL i).isPrefixOf (CL j)=true):i=j:=by
 by_cases e:i=j
 ·exact e
 ·rw[Qjq i hi j hj e] at h;cases h
theorem XZ {i:Nat}(hi:i<33)(a:i≠0):CL i∉rowsD:=by
 intro h;have e:=NY Tt h (Ve (i:=32-i) sX) (by rw[<-QD i hi (by omega),Jg];exact Jp _ _);rw[<-QD i hi sX] at e;have:=Bz List.length e;rw[B8,Bo] at this;omega
def MV (q:List UInt8):Prop:=∀i,i<33->(CL i).isPrefixOf q=false
theorem Qln:MV []:=by unfold MV;decide +kernel
theorem Qma {b r:List UInt8}{n:Nat}(hn:n+1<=b.length)(c:MV (b.take n))(hr:r∈rowsD)(a:(b.take (n+1)).isPrefixOf r=true):∃i,i<33/\(b.take (n+1)).isPrefixOf (CL i)=true:=by
 have hl:(b.take (n+1)).length=n+1:=tB;rcases XN r hr with rfl|⟨i,hi,hd,h1⟩
 ·exact⟨0,sY,a⟩
 ·rw[Bs] at hi;refine⟨i,hi,?_⟩;by_cases d:(b.take (n+1)).length<r.length
  ·rw[<-hd];exact Qly a d
  ·exfalso;have f:=HH a;have e:b.take (n+1)=r:=by
    have:=F7.1 a;rw[Bh sX] at this;exact this.symm
   have h2:(CL i).isPrefixOf (b.take n)=true:=by
    rw[<-hd,<-e,Ko,Co,hl,show min (n+1-1) (n+1)=n by omega,JE]
   rw[c i hi] at h2;cases h2
theorem Qkx {b:List UInt8}{k n:Nat}(hn:n+1<=b.length)(a:MV (b.take n))(h:∀i,i<33->(b.take (n+1)).isPrefixOf (CL i)=false):tk rowsD b (k+1) (n+1)=(3,0):=by
 refine eZ hn fun r hr=>?_;cases hp:(b.take (n+1)).isPrefixOf r with
 |false=>rfl
 |true=>
  obtain⟨i,hi,h2⟩:=Qma hn a hr hp;rw[h i hi] at h2;cases h2
theorem iW {b:List UInt8}{k n i:Nat}(hn:n+1<=b.length)(d:MV (b.take n))(hi:i<33)(h:(b.take (n+1)).isPrefixOf (CL i)=true)(g:D2 i≠n+1):
  tk rowsD b (k+1) (n+1)=tk rowsD b k (n+2)/\MV (b.take (n+1)):=by
 have hl:(b.take (n+1)).length=n+1:=tB;have f:=HH h;rw[hl,OD] at f;have a:MV (b.take (n+1)):=by
  intro j hj;cases c:(CL j).isPrefixOf (b.take (n+1)) with
  |false=>rfl
  |true=>
   have e:=Qn7 hj hi (NR c h);subst e;have:=HH c;rw[hl,OD] at this;omega
 refine⟨?_,a⟩;obtain⟨r,hr,c⟩:=Vt hi;refine RU hn (fun hm=>?_) hr (NR h c);rcases XN _ hm with e|⟨j,hj,hd,_⟩
 ·have:=a 0 sY;rw[e,JE] at this;cases this
 ·have:=d j (Bs.1 hj);rw[<-hd,Ko,Co,hl,show min (n+1-1) (n+1)=n by omega,JE] at this;cases this
theorem qW {b:List UInt8}{i n:Nat}(hn:n<=b.length)(h:(b.take n).isPrefixOf (CL i)=true)(a:D2 i=n):b.take n=CL i:=by
 have:=F7.1 h;rw[Bh (by rw[OD,Be];omega)] at this;exact this.symm
theorem Qkz {b:List UInt8}(c:b.take (D2 0)=CL 0):dtk b=(0,0,1):=by
 have a:(CL 0).isPrefixOf b=true:=by rw[<-c];exact OE _ _
 rw[VR] at a;have:=Qw Tt (Q3 (i:=32) sY) uB uB a;rw[show (rowC (H8 32)).length=1 by decide +kernel] at this;exact this
theorem lC {b:List UInt8}{i n:Nat}(hi:i<33)(c:i≠0)(f:D2 i=n)(hn:n<=b.length)(a:b.take n=CL i)(ht:tk rowsD b 25 1=tk rowsD b (26-n) n)(hs:b.length<n+1):dtk b=(0,2,0):=by
 have d:=(LH i hi).2.1;obtain⟨r,hr,e⟩:=Vt hi;refine ML (n:=0) (ht.trans ?_) sY;rw[show 26-n=(24-n)+1+1 by omega,RU hn (by rw[a];exact XZ hi c) hr (by rw[a];exact e)];exact VS hs
theorem Wq {b:List UInt8}{i n:Nat}(hn:n<b.length)(a:b.take n=CL i){c:UInt8}(hc:b[n]=c):b.take (n+1)=CL i++[c]:=by
 rw[Bd hn,a,hc]
theorem Y05 {b:List UInt8}{n:Nat}(c:D2 32=n)(hn:n<b.length)(a:b.take n=CL 32)(hc:b[n]=48)(ht:tk rowsD b 25 1=tk rowsD b (26-n) n):dtk b=(0,3,0):=by
 have d:n<=12:=by rw[<-c];exact(LH 32 (by decide)).2.1
 obtain⟨r,hr,e⟩:=Vt (i:=32) sY;refine ML (n:=0) (ht.trans ?_) sY;rw[show 26-n=(24-n)+1+1 by omega,RU sX (by rw[a];exact XZ (by decide) (by decide)) hr (by rw[a];exact e)];refine eZ sX fun r hr=>?_;rw[Wq hn a hc];exact lY r hr
theorem TE {b:List UInt8}{j:Nat}(hj:j<64)(a:(rowC (H8 j)).isPrefixOf b=true):dtk b=((j:Int)-32,0,(rowC (H8 j)).length):=by
 obtain⟨h1,h2,_⟩:=GS (Qn4 _ (Q3 hj));exact Qw Tt (Q3 hj) (by have:=Kr.2 h1;omega) h2 a
theorem oQ {b:List UInt8}{i n:Nat}(hi:i<32)(a:0<i)(c:D2 i=n)(hn:n<b.length)(d:b.take n=CL i)(hc:b[n]=48):dtk b=((i:Int),0,n+1):=by
 have e:=Yz i hi a;have f:(rowC (H8 (32+i))).isPrefixOf b=true:=by rw[<-e,<-Wq hn d hc];exact OE _ _
 rw[TE sX f,<-e,B8,OD,c,show ((32+i:Nat):Int)-32=i by omega]
 rfl
theorem pK {b:List UInt8}{i n:Nat}(hi:i<33)(a:0<i)(c:D2 i=n)(hn:n<b.length)(d:b.take n=CL i)(hc:b[n]=49):dtk b=(-(i:Int),0,n+1):=by
 have e:=QD i hi a;have f:(rowC (H8 (32-i))).isPrefixOf b=true:=by rw[<-e,<-Wq hn d hc];exact OE _ _
 rw[TE sX f,<-e,B8,OD,c,show ((32-i:Nat):Int)-32 = -(i:Int) by omega]
 rfl
end
section
open Go.RowKit Go.Lib
def LC:List ByteArray:=[⟨#[49,49]⟩,⟨#[48,49,49,48]⟩,⟨#[49,48,48,48]⟩,⟨#[48,49,48,48]⟩,⟨#[49,48,49,48]⟩,⟨#[48,49,48,49]⟩,⟨#[48,48,48,48,49,49]⟩,⟨#[48,48,48,49,48]⟩,⟨#[49,48,49,49]⟩,⟨#[48,48,48,48,49,48]⟩,⟨#[48,49,49,49]⟩,⟨#[48,48,48,49,49]⟩,⟨#[49,48,48,49]⟩,⟨#[48,48,49,48,48]⟩,⟨#[48,48,49,48,49]⟩,⟨#[48,48,49,49]⟩]
theorem Xs:LC.length=16:=rfl
theorem Qph:∀i,(h:i<16)->LC[i]'(by rw[Xs];exact h)=EM[15-i]'(by rw[HK];omega):=uB
theorem Uv (w:A5):A9 prog 132 #[] w fun e a=>e=.returned (.slice (some ⟨w.heap.size,0,none⟩) 16 16)/\DN a (some ⟨w.heap.size,0,none⟩) LC/\Below w.heap.size w a:=by
 go_enter func132,ntmps132
 go_wp2
 go_ret
 exact⟨rfl,R4 (T:=9) (l:=LC) (heap_alloc_new w _),(Dn _ w).alloc (B9 _) _⟩
def JW:List ByteArray:=[⟨#[49]⟩,⟨#[48,49]⟩,⟨#[48,48,49]⟩,⟨#[48,48,48,49]⟩,⟨#[48,48,48,48,49,49]⟩,⟨#[48,48,48,48,49,48,49]⟩,⟨#[48,48,48,48,49,48,48]⟩,⟨#[48,48,48,48,48,49,49]⟩,⟨#[48,48,48,48,48,49,48,49,49]⟩,⟨#[48,48,48,48,48,49,48,49,48]⟩,⟨#[48,48,48,48,48,49,48,48,49]⟩,⟨#[48,48,48,48,48,49,48,48,48,49]⟩,⟨#[48,48,48,48,48,49,48,48,48,48]⟩,⟨#[48,48,48,48,48,48,49,49,49,49]⟩,⟨#[48,48,48,48,48,48,49,49,49,48]⟩,⟨#[48,48,48,48,48,48,49,49,48,49]⟩,⟨#[48,48,48,48,48,48,49,49,48,48]⟩,⟨#[48,48,48,48,48,48,49,48,49,49]⟩,⟨#[48,48,48,48,48,48,49,48,49,48]⟩,⟨#[48,48,48,48,48,48,49,48,48,49]⟩,⟨#[48,48,48,48,48,48,49,48,48,48]⟩,⟨#[48,48,48,48,48,48,48,49,49,49]⟩,⟨#[48,48,48,48,48,48,48,49,49,48]⟩,⟨#[48,48,48,48,48,48,48,49,48,49]⟩,⟨#[48,48,48,48,48,48,48,49,48,48]⟩,⟨#[48,48,48,48,48,48,48,48,49,49,49]⟩,⟨#[48,48,48,48,48,48,48,48,49,49,48]⟩,⟨#[48,48,48,48,48,48,48,48,49,48,49]⟩,⟨#[48,48,48,48,48,48,48,48,49,48,48]⟩,⟨#[48,48,48,48,48,48,48,48,48,49,49]⟩,⟨#[48,48,48,48,48,48,48,48,48,49,48]⟩,⟨#[48,48,48,48,48,48,48,48,48,48,49,49]⟩,⟨#[48,48,48,48,48,48,48,48,48,48,49,48]⟩]
theorem L5:JW.length=33:=rfl
theorem kV:∀i,(h:i<33)->(JW[i]'(by rw[L5];exact h)).data.toList=CL i:=uB
theorem Ta {i:Nat}(h:i<33):JW[i]'(by rw[L5];exact h)=⟨(CL i).toArray⟩:=LO.2 (kV i h)
theorem ZQ {i:Nat}(h:i<33):(JW[i]'(by rw[L5];exact h)).size<=12:=by
 rw[Ta h,LD,OD];exact(LH i h).2.1
theorem Qe9:BR 0=⟨(CL 0).toArray⟩:=LO.2 VR.symm
theorem Qoo {i:Nat}(h:i<32)(a:0<i):BR (i:Int)=⟨(CL i).toArray⟩++⟨#[48]⟩:=by
 rw[show (⟨#[48]⟩:ByteArray)=⟨[48].toArray⟩ from rfl,Uq,Yz i h a];refine LO.2 ?_;show _=(BR (((32+i:Nat):Int)-32)).data.toList;rw[show ((32+i:Nat):Int)-32=i by omega]
theorem Qe8 {i:Nat}(h:i<33)(a:0<i):BR (-(i:Int))=⟨(CL i).toArray⟩++⟨#[49]⟩:=by
 rw[show (⟨#[49]⟩:ByteArray)=⟨[49].toArray⟩ from rfl,Uq,QD i h a];refine LO.2 ?_;show _=(BR (((32-i:Nat):Int)-32)).data.toList;rw[show ((32-i:Nat):Int)-32 = -(i:Int) by omega]
set_option maxRecDepth 100000 in
theorem Ul (w:A5):A9 prog 145 #[] w fun e a=>e=.returned (.slice (some ⟨w.heap.size,0,none⟩) 33 33)/\DN a (some ⟨w.heap.size,0,none⟩) JW/\Below w.heap.size w a:=by
 go_enter func145,ntmps145
 go_wp2
 go_ret
 exact⟨rfl,R4 (T:=9) (l:=JW) (heap_alloc_new w _),(Dn _ w).alloc (B9 _) _⟩
set_option maxRecDepth 100000 in
theorem jQ (d:Int)(w:A5):A9 prog 112 #[.int .i64 d] w fun e m=>e=.returned (.string (BR d))/\Below w.heap.size w m:=by
 by_cases g:d < -32
 ·have F:=Dm (Rx (d:=d) (.inl g));have t0:decide (d < -32)=true:=vU;clear g;exact Wcz
 by_cases h1:31<d
 ·have F:=Dm (Rx (d:=d) (.inr h1));have t0:decide (d < -32)=false:=vU;have t1:decide (31<d)=true:=uD;clear g h1;exact Wcz
 have t0:decide (d < -32)=false:=vU;have t1:decide (31<d)=false:=uD;by_cases h2:d<0
 ·obtain⟨a,k⟩:∃a:Nat,(-d).toNat=a:=⟨_,rfl⟩;have e2:-d=(a:Int):=sX;have hj:a<33:=sX;have F:=Dm (show BR d=JW[a]' vV++⟨#[49]⟩ by rw[Ta hj,<-Qe8 hj sX];congr 1;omega);have t2:decide (d<0)=true:=uG;obtain⟨r,c⟩:∃r,JW[a]' vV=r:=⟨_,rfl⟩;have h:=ZQ hj;rw[c] at F h;clear g h1 h2 k;exact Wcx
 ·have t2:decide (d<0)=false:=uG;by_cases h3:0<d
  ·obtain⟨a,k⟩:∃a:Nat,d.toNat=a:=⟨_,rfl⟩;obtain rfl:d=(a:Int):=sX;have hj:a<33:=sX;have l:0<a:=sX;have F:=Dm (show BR (a:Int)=JW[a]' vV++⟨#[48]⟩ by rw[Ta hj,<-Qoo sX l]);obtain⟨r,c⟩:∃r,JW[a]' vV=r:=⟨_,rfl⟩;have h:=ZQ hj;rw[c] at F h;clear g h1 h2 h3 k;exact Wcx
  ·obtain rfl:d=0:=sX;have F:=Dm (show BR 0=JW[0]' sY by rw[Ta sY,Qe9]);clear g h1 h2 h3 t0 t1 t2;rw[F.out]
   go_enter func112,ntmps112
   go_wp2_with fail
   refine(Ul _).mono ?_;rintro e j ⟨rfl,f,i⟩;obtain⟨b,o,e,_,hc⟩:=f.at (by rw[L5];omega);cases e;have c0:=hc 0 sY;rw[Bn] at c0;clear hc
   go_wp2
   go_ret
   exact⟨rfl,i⟩
def F3 (i:Nat):List ByteArray:=(List.range i).map fun j=>(H8 j).1
theorem Qu (i:Nat):(F3 i).length=i:=by simp[F3]
theorem pT (i:Nat):F3 (i+1)=F3 i++[(H8 i).1]:=by
 unfold F3;rw[Ck,Cc]
 rfl
theorem rO:(F3 64).map (fun x=>x.data.toList)=rowsD:=by
 unfold F3 rowsD allD;rw[Ks,Ks]
 rfl
theorem nL {i:Nat}(h:i<(F3 64).length):(F3 64)[i].data.toList=rowC (H8 i):=by
 have:(F3 64)[i]=(H8 i).1:=by simp[F3]
 rw[this]
 rfl
def RL (b:List UInt8)(at_:Nat)(w:A5)(e:Ending)(a:A5):Prop:=
 e=.returned (.tuple #[.int .i64 (dtk b).1,.int .i64 ((at_+(dtk b).2.2:Nat):Int),.int .i64 (dtk b).2.1])/\Below w.heap.size w a
theorem aX {b:List UInt8}{at_ n z:Nat}{w c:A5}{a f:Int}(h:dtk b=(a,f,n))(ht:at_+n=z)(d:Below w.heap.size w c):
  RL b at_ w (.returned (.tuple #[.int .i64 a,.int .i64 (z:Int),.int .i64 f])) c:=by
 subst ht;unfold RL;rw[h];exact⟨rfl,d⟩
set_option maxRecDepth 100000 in
theorem Y5c (s:ByteArray)(at_:Nat)(w:A5)(hs:s.size<=1048576)(ha:at_<=s.size):
  A9 prog 97 #[.string s,.int .i64 (at_:Int)] w (RL (s.data.toList.drop at_) at_ w):=by
 obtain⟨i0,hi,M,N,O⟩:=Ds Q1;obtain⟨P,t⟩:=Ah (s.data.toList.drop at_);have a:=fun(q:Option Addr) (X:Nat) (x:A5) (I:DN x q (F3 64))=>SB (F3 64) q X s at_ x I (by rw[Qu];decide) hs ha;rw[Qu] at a;rw[t] at a ⊢;clear t;obtain⟨f,n,hk⟩:∃f n,tk rowsD P 25 1=(f,n):=⟨_,_,rfl⟩;have l:=Qf rowsD P 25 1;have Y:=Dm hk;have Z:Hid (tk ((F3 64).map fun x=>x.data.toList) P 25 1=(f,n)):=Dm (by rw[rO];exact hk);rw[hk] at l;have Q:=Dm l;have k:=Dm a;clear hk l a;obtain⟨B,hB⟩:=Ah w.heap.size;have aa:=Dm hB;have z:Below B w w:=Dn _ _;have A:B<=w.heap.size:=sX;have c:w.ownsRow B 9 1 (.slice none 0 0) 0 (DA (F3 0)):=Dj _ _ _ _;clear hB
 go_enter func97,ntmps97
 go_wp2
 go_loopw [7,8] (fun u v wr=>∃i:Nat,i<=64/\v=.int .i64 ((i:Int)-32)/\wr.ownsRow B 9 1 u i (DA (F3 i))/\Below B w wr/\B<=wr.heap.size) (fun _ v _=>(32-intOf v).toNat)
 case atStart=>exact⟨0,sX,rfl,c,z,A⟩
 case round=>
  clear c z A;obtain⟨i,ab,rfl,J,R,K⟩:=hrel;by_cases ac:i<64
  ·have a:=fun(x:A5)=>jQ ((i:Int)-32) x;obtain⟨y,S⟩:=Ah (BR ((i:Int)-32));have ad:=Dm (show DA (F3 (i+1))=DA (F3 i)++[.string y] by rw[pT,OP,<-S];rfl);rw[S] at a;have t0:decide ((i:Int)-32<=31)=true:=tO;clear S;have C:∀x,Below wr.heap.size wr x->x.ownsRow B 9 1 u7 i (DA (F3 i)):=fun x hx=>J.kept (BF hx none) (Kt _);have ae:=Dm C;have hw:IntKind.i64.wrap ((i:Int)-32+1)=((i+1:Nat):Int)-32:=(Kd _ sX).trans sX;clear J C
   go_wp2_with (first
    |(go_at_call 112;refine(a _).mono ?_;rintro e w1 ⟨rfl,m⟩;have D:=ae.out _ m;have d:=R.trans (m.mono K);have T:B<=w1.heap.size:=Ef K m.size)
    |(at_builtin;refine S5 (y0:=y) rfl rfl underlying163 hi M rfl N O rfl (D.alloc _) rfl ?d1 ?d2 ?d3 ?_;(case d1=>go_cell);(case d2=>omega);(case d3=>(simp;omega));intro v2 L U g;have hg4:World.grownBy _ L (Value.ownBlock u7):=g;have V:=(d.alloc T _).grown hg4 tO (FT D);have W:B<=L.heap.size:=Ef tO hg4.size;clear g))
   go_roundw
   case rel=>exact⟨i+1,sX,tP,by rw[ad.out];exact U,V,W⟩
   case measure=>simp[intOf];omega
  ·obtain rfl:i=64:=sX;have E:wr.ownsRow B 9 1 u7 (F3 64).length (DA (F3 64)):=by rw[Qu];exact J
   obtain⟨q,X,rfl,I⟩:=Tg E;rw[Qu];have t0:decide (((64:Nat):Int)-32<=31)=false:=sY;clear J E;by_cases r:f=0
   ·subst r
    go_wp2_with fail
    refine(k.out _ _ _ I).mono ?_;rintro e L ⟨j,rfl,b,_,d⟩;rw[Z.out] at b ⊢;obtain⟨o,G⟩:=b rfl;have H:j<64:=by rw[Qu] at o;exact o
    have F:=Dm (VT Tt Y.out (Q3 H) (by rw[<-nL o];exact G));have p:=R.trans (d.mono K);clear G b
    go_wp2
    go_ret3
    exact aX F.out rfl (by rw[aa.out];exact p)
   ·have hn:n=0:=by
     rcases Q.out with h|h|h
     ·exact absurd h r
     ·exact h.2
     ·exact h.2
    subst hn;have F:=Dm (ML (all:=allD) Y.out r);have g0:(f==0)=false:=by rw[Fe];exact r
    have af:=Dm r;clear r
    go_wp2_with fail
    refine(k.out _ _ _ I).mono ?_;rintro e L ⟨j,rfl,_,b,d⟩;rw[Z.out] at b ⊢;obtain rfl:=b af.out;have p:=R.trans (d.mono K);clear b
    go_wp2
    go_ret3
    exact aX F.out (C6 _) (by rw[aa.out];exact p)
theorem Xm:(Rows.laid_overspill_mvd_codes:DataW Unit)=tabData .i64 (Wi.map fun z:Nat=>(z:Int))/\(Rows.laid_overspill_mvd_lengths:DataW Unit)=tabData .i64 (OX.map fun z:Nat=>(z:Int)):=⟨tN,tN⟩
theorem Qqr (l:List Nat)(i:Nat)(h:i<(l.map fun z:Nat=>(z:Int)).length):(l.map fun z:Nat=>(z:Int))[i]=((l[i]?.getD 0:Nat):Int):=by
 have h2:i<l.length:=vT;rw[Ke,Fh h2]
 rfl
theorem Qll {laid : List (String × DataW Unit)} {W : World} (hL : laidMetH prog laid W) (hm : (("overspill/mvd.codes", Rows.laid_overspill_mvd_codes) ∈ laid ∧ ("overspill/mvd.lengths", Rows.laid_overspill_mvd_lengths) ∈ laid) ∧ (laid.all fun x => x.2.handleName?.isNone) = true) : FZ W := by
 rw[J3 _ _ _ hm.2] at hL;obtain⟨ps,hv,_,_⟩:=hL;obtain⟨h1,h2⟩:=hm.1;rw[Xm.1] at h1;rw[Xm.2] at h2;have hlc:(Wi.map fun z:Nat=>(z:Int)).length=33:=rfl;have hll:(OX.map fun z:Nat=>(z:Int)).length=33:=rfl;intro i hi;have g1:=Z5 hv h1 (g:=2) (t:=248) tN tN underlying248 J7 tN tN i (by rw[hlc];exact hi);have g2:=Z5 hv h2 (g:=3) (t:=248) tN tN underlying248 J7 tN tN i (by rw[hll];exact hi);rw[Qqr] at g1 g2;exact⟨g1,g2⟩
end
end Go.Proofs.YtjjmalchelniiaaGreatDoor
