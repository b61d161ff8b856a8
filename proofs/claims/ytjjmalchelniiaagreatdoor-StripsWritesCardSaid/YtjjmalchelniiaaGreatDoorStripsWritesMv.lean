/- StripsWrites, 22. No condition. -/
import Derived.Test.YtjjmalchelniiaaGreatDoorStripsWritesMd
import Derived.Test.YtjjmalchelniiaaGreatDoorStripsWritesMg
import Derived.Test.YtjjmalchelniiaaGreatDoorStripsWritesMh
import Derived.Test.YtjjmalchelniiaaGreatDoorStripsWritesMm
import Derived.Test.YtjjmalchelniiaaGreatDoorStripsWritesMr
import Derived.Test.YtjjmalchelniiaaGreatDoorStripsWritesMt
import Derived.Test.YtjjmalchelniiaaGreatDoorStripsWritesMu
open Go.Proofs.Tryz
open Go renaming World->A5,Calls->A9
set_option maxHeartbeats 1000000
namespace Go.Proofs.YtjjmalchelniiaaGreatDoor
section
open Go.RowKit Go.Lib
abbrev L4:=@ntmps242
abbrev L7:=@func242
def UR:List Nat:=[2,15,21,23,31,37,36,33,32,7,6,32,6,20,30,15,33,80,14,29,14,81,13,35,13,12,34,82,11,12,83,19,11,84,18,10,17,9,16,8,22,85,21,20,28,27,33,32,31,30,29,28,27,26,34,35,86,87,7,25,5,15,4,14,13,12,19,18,17,16,26,25,24,23,22,21,20,19,24,23,22,21,20,19,18,17,7,6,5,4,36,37,38,39,88,89,90,91,92,93,94,95,3]
def UM:List Nat:=[2,4,6,7,8,9,9,10,10,11,11,11,3,6,8,10,11,12,4,8,10,12,5,9,10,5,9,12,5,10,12,6,10,12,6,10,6,10,6,10,7,12,7,7,8,8,9,9,9,9,9,9,9,9,11,11,12,12,4,9,11,6,11,6,6,6,7,7,7,7,8,8,8,8,8,8,8,8,9,9,9,9,9,9,9,9,10,10,10,10,11,11,11,11,12,12,12,12,12,12,12,12,7]
def Ua:List Nat:=[12,6,4,3,3,3,3,2,2,2,2]
def DK (i:Nat):Nat:=UR[i]?.getD 0
def AU (i:Nat):Nat:=UM[i]?.getD 0
def OY (i:Nat):Nat:=Ua[i]?.getD 0
theorem IY:∀i,i<103->1<=AU i/\AU i<=12/\DK i<2^AU i/\DK i<=95:=by decide +kernel
theorem Y6:∀i,i<11->1<=OY i/\OY i<=12:=by decide +kernel
def CJ (last:Bool)(a:Nat):Nat:=
 if last then (if a=0 then 3 else if a=1 then 2 else if a<=40 then 1 else 0) else (if a<11 then OY a else if a<=26 then 1 else 0)
theorem Q0 (last:Bool)(a:Nat):CJ last a<=12:=by
 unfold CJ;cases last
 ·simp only[K8,J9];by_cases h:a<11
  ·rw[Bc h];exact(Y6 a h).2
  ·rw[Bb h];split <;> omega
 ·simp only[Kg]
  repeat' split
  all_goals omega
def F8 (last:Bool):Nat->Nat
 |0=>0
 |r+1=>F8 last r+CJ last r
theorem U2 (last:Bool):∀r,F8 last r<=12*r
 |0=>Ba _
 |r+1=>by
  have:=U2 last r;have:=Q0 last r;unfold F8;omega
theorem zI (last:Bool){r k:Nat}(h:r<=k):F8 last r<=F8 last k:=by
 induction h with
 |refl=>exact Ba _
 |step _ a=>exact Eg a (Nat.le_add_right _ _)
def HO (last:Bool):Nat:=if last then 58 else 0
def plT (last:Bool)(a b:Nat):Nat:=HO last+F8 last a+(b-1)
def inT (last:Bool)(b a:Nat):Bool:=decide (1<=a)&&decide (a<=CJ last b)
theorem sT:∀last:Bool,∀a,a<64->∀b,b<13->inT last a b=true->plT last a b<102:=by decide +kernel
theorem Py {last:Bool}{a b:Nat}(hr:a<64)(h:inT last a b=true):plT last a b<102:=by
 refine sT last a hr b ?_ h;unfold inT at h;rw[Fh,Fi,Fi] at h;have:=Q0 last a;omega
def DD (last:Bool)(b:Nat)(a:Int):Nat:=if inT last b a.natAbs then 2*DK (plT last b a.natAbs)+(if a<0 then 1 else 0) else ((6+last.toNat)*64+b)*256+(a%256).toNat
def DC (last:Bool)(b:Nat)(a:Int):Nat:=if inT last b a.natAbs then AU (plT last b a.natAbs)+1 else 22
def DL (last:Bool)(b a:Int):ByteArray:=if DY b a then ⟨(AB (DD last b.toNat a) (DC last b.toNat a)).toArray⟩ else ⟨#[]⟩
def BK (w:A5):Prop:=
 (∀i,i<103->w.cell? ⟨5,i,none⟩=some (.int .u16 (DK i:Nat))/\w.cell? ⟨6,i,none⟩=some (.int .u8 (AU i:Nat)))/\
  ∀i,i<11->w.cell? ⟨7,i,none⟩=some (.int .u8 (OY i:Nat))
theorem BK.lt {w:A5}(h:BK w):5<w.heap.size/\6<w.heap.size/\7<w.heap.size:=
 ⟨Fc w ⟨5,0,none⟩ (h.1 0 (by decide)).1,Fc w ⟨6,0,none⟩ (h.1 0 (by decide)).2,Fc w ⟨7,0,none⟩ (h.2 0 (by decide))⟩
theorem BK.below {w b:A5}(h:BK w)(a:Below w.heap.size w b):BK b:=
 ⟨fun i hi=>⟨(a.cell (p:=⟨5,i,none⟩) h.lt.1).trans (h.1 i hi).1,(a.cell (p:=⟨6,i,none⟩) h.lt.2.1).trans (h.1 i hi).2⟩,
  fun i hi=>(a.cell (p:=⟨7,i,none⟩) h.lt.2.2).trans (h.2 i hi)⟩
theorem UH {a b c d:Int}{k e:IntKind}(h:a=c)(f:b=d):Ending.returned (.tuple #[.int k a,.int e b])=.returned (.tuple #[.int k c,.int e d]):=by rw[h,f]
theorem Ze (b:Bool)(w:A5):A9 prog 235 #[.bool b] w fun e a=>e=.returned (.int .i64 (b.toNat:Nat))/\w=a:=by
 cases b
 all_goals
  go_enter func235,ntmps235
  go_wp2
  go_ret
  exact⟨rfl,rfl⟩
theorem PY (i:Nat)(hi:i<103)(w:A5)(a:BK w):A9 prog 234 #[.int .i64 (i:Int)] w fun e b=>e=.returned (.tuple #[.int .i64 (DK i:Nat),.int .i64 (AU i:Nat)])/\Below w.heap.size w b:=by
 obtain⟨c,c1⟩:=a.1 i hi;obtain⟨d,f,_,b3⟩:=IY i hi;generalize DK i=x at c b3 ⊢;generalize AU i=y at c1 d f ⊢;clear a
 go_enter func234,ntmps234
 go_wp2
 go_region
 go_wp2
 go_ret2
 exact⟨UH (by omega) (by omega),(Dq _ w).drew⟩
theorem TD (i:Nat)(hi:i<103)(w:A5)(c:BK w):A9 prog 236 #[.int .i64 (i:Int)] w fun e d=>e=.returned (.int .i64 ((if i=102 then 22 else AU i+1:Nat):Int))/\Below w.heap.size w d:=by
 have a:=fun x f=>PY i hi x f;obtain⟨g,j,_,b3⟩:=IY i hi;by_cases h:i=102
 ·subst h
  go_enter func236,ntmps236
  go_wp2_with fail
  refine(a _ c).mono ?_;rintro e k ⟨rfl,b⟩
  go_wp2
  go_ret
  exact⟨rfl,b⟩
 ·rw[Bb h];generalize AU i=y at a g j ⊢;have l:((i:Int)==102)=false:=by rw[Fg];omega
  clear h
  go_enter func236,ntmps236
  go_wp2_with fail
  refine(a _ c).mono ?_;rintro e k ⟨rfl,b⟩
  go_wp2
  go_ret
  exact⟨FT (by omega),b⟩
theorem UT (last:Bool)(r:Nat)(hr:r<64)(w:A5)(a:BK w):A9 prog 242 #[.bool last,.int .i64 (r:Int)] w fun e c=>e=.returned (.int .i64 (CJ last r:Nat))/\w=c:=by
 cases last with
 |false=>
  by_cases h:r<11
  ·have F:=Dp (show CJ false r=OY r by unfold CJ;simp[h]);have d:=a.2 r h;obtain⟨f,g⟩:=Y6 r h;rw[F.out];generalize OY r=y at d f g ⊢;have t0:decide ((r:Int)<11)=true:=by simp;omega
   clear F a
   go_enter L7,L4
   go_wp2
   go_ret
   exact⟨FT (by omega),rfl⟩
  ·by_cases h2:r<=26
   ·have F:=Dp (show CJ false r=1 by unfold CJ;simp[h,h2]);have t0:decide ((r:Int)<11)=false:=by simp;omega
    have t1:decide ((r:Int)<=26)=true:=by simp;omega
    rw[F.out];clear h h2 a
    go_enter L7,L4
    go_wp2
    go_ret
    exact⟨rfl,rfl⟩
   ·have F:=Dp (show CJ false r=0 by unfold CJ;simp[h,h2]);have t0:decide ((r:Int)<11)=false:=by simp;omega
    have t1:decide ((r:Int)<=26)=false:=by simp;omega
    rw[F.out];clear h h2 a
    go_enter L7,L4
    go_wp2
    go_ret
    exact⟨rfl,rfl⟩
 |true=>
  by_cases b:r=0
  ·subst b
   go_enter L7,L4
   go_wp2
   go_ret
   exact⟨rfl,rfl⟩
  ·have i:((r:Int)==0)=false:=by rw[Fg];omega
   by_cases h1:r=1
   ·subst h1
    go_enter L7,L4
    go_wp2
    go_ret
    exact⟨rfl,rfl⟩
   ·have j:((r:Int)==1)=false:=by rw[Fg];omega
    by_cases h2:r<=40
    ·have F:=Dp (show CJ true r=1 by unfold CJ;simp[b,h1,h2]);have t1:decide ((r:Int)<=40)=true:=by simp;omega
     rw[F.out];clear b h1 h2 a
     go_enter L7,L4
     go_wp2
     go_ret
     exact⟨rfl,rfl⟩
    ·have F:=Dp (show CJ true r=0 by unfold CJ;simp[b,h1,h2]);have t1:decide ((r:Int)<=40)=false:=by simp;omega
     rw[F.out];clear b h1 h2 a
     go_enter L7,L4
     go_wp2
     go_ret
     exact⟨rfl,rfl⟩
theorem hJ {a c:Int}{k:IntKind}{b:Bool}(h:a=c):Ending.returned (.tuple #[.int k a,.bool b])=.returned (.tuple #[.int k c,.bool b]):=by rw[h]
theorem Xq (last:Bool)(r:Nat)(b:Int)(hr:r<64)(hl:-128<=b/\b<=127)(w:A5)(K:BK w):A9 prog 233 #[.agg #[.bool last,.int .i64 (r:Int),.int .i64 b]] w fun e X=>
  e=.returned (.tuple #[.int .i64 ((if inT last r b.natAbs then plT last r b.natAbs else 102:Nat):Int),.bool (inT last r b.natAbs)])/\Below w.heap.size w X:=by
 have q:∀o,Below w.heap.size w (w.alloc o):=fun o=>(Dq _ w).alloc (Ba _) o;obtain⟨a,L⟩:∃a:Nat,b.natAbs=a:=⟨_,rfl⟩;rw[L];by_cases N:b=0
 ·subst N;obtain rfl:a=0:=by omega
  have F:=Dp (show inT last r 0=false by unfold inT;simp);rw[F.out]
  go_enter func233,ntmps233
  go_wp2
  go_ret2
  exact⟨rfl,q _⟩
 have hm:=Q0 last r;have c:=fun x G=>UT last r hr x G;have l:=U2 last r;have s:∀j,j<r->HO last+F8 last (j+1)<=900:=fun j hj=>by have:=U2 last (j+1);have Y:HO last<=58:=by{cases last <;> decide};omega
 have t:plT last r a=HO last+F8 last r+(a-1):=rfl;have g:inT last r a=(decide (1<=a)&&decide (a<=CJ last r)):=rfl;have h:∀j,F8 last (j+1)=F8 last j+CJ last j:=fun j=>rfl;have d:=fun(j:Nat) (hj:j<r) x G=>UT last j (by omega) x G;have z:=fun(j:Nat)=>Q0 last j;have R:=Dp (fun(x:A5) (G:Below w.heap.size w x)=>(K.below G:BK x));by_cases f:a<=CJ last r
 ·have F:=Dp (show inT last r a=true by rw[g];simp;omega);rw[F.out,Bc rfl];have A:=Dp t;have B:=Dp h;have O:=Dp s;have n:=Dp d;have T:=Dp z;generalize CJ last r=m at c hm f g;have t0:decide ((m:Int)<a)=false:=by simp;omega
  have t1:decide (m<a)=false:=by simp;omega
  have Z:IntKind.i64.wrap (-(a:Int)) = -(a:Int):=Kp _ (by omega);have g0:((a:Int)==0)=false:=by rw[Fg];omega
  have C:b=(a:Int)\/b = -(a:Int):=by omega
  have P:0<a:=by omega
  have Q:a<=128:=by omega
  clear K g N L hl f F t h s d z;have i:Below w.heap.size w (w.alloc (.cells #[.bool last,.int .i64 (r:Int),.int .i64 b] 153 (0,0))):=q _;have k:=R.out _ i;have D:F8 last 0=0:=rfl;generalize F8 last=sm at A B O l D;generalize CJ last=U at B n T;generalize p:HO last=bse at A O;have H:=Dp p;have aa:=Dp D
  clear D p l;cases last
  all_goals
   rcases C with rfl|rfl
   all_goals
    go_enter func233,ntmps233
    go_wp2_with fail
    refine(c _ k).mono ?_;rintro e V ⟨rfl,rfl⟩;clear c
    go_wp2
    go_loop [5,32] (fun u v=>∃(j x:Nat),j<=r/\v=.int .i64 j/\u=.int .i64 ((a:Int)-1+x)/\x<=900/\Hid (x=bse+sm j)) (fun _ v=>64-(intOf v).toNat)
    case atStart=>exact⟨0,bse,Ds _,rfl,by rw[<-H.out];simp[HO],by rw[<-H.out];decide,Dp (by rw[aa.out];rfl)⟩
    case round=>
     obtain⟨j,x,hj,rfl,rfl,G,E⟩:=hrel;by_cases I:j<r
     ·have t1:decide ((j:Int)<r)=true:=by simp;omega
      have J:=n.out j I _ k;have M:=T.out j;have S:=Dp (B.out j);have W:=Dp (show x+U j<=900 by have:=O.out j I;rw[S.out] at this;rw[E.out];omega);generalize U j=y at J M S W
      go_wp2_with fail
      refine J.mono ?_;rintro e V ⟨rfl,rfl⟩
      go_wp2
      go_round
      case rel=>exact⟨j+1,x+y,by omega,by go_num,by go_num,W.out,Dp (by rw[E.out,S.out,Bz])⟩
      case measure=>simp[intOf];omega
     ·obtain rfl:j=r:=by omega
      have t2:decide (j<j)=false:=by simp
      go_wp2
      go_ret2
      exact⟨hJ (by rw[A.out];have:=E.out;omega),i⟩
 ·have F:=Dp (show inT last r a=false by rw[g];simp;omega);rw[F.out,Bb (by decide)];generalize CJ last r=m at c hm f g;have t0:decide ((m:Int)<a)=true:=by simp;omega
  have t1:decide (m<a)=true:=by simp;omega
  have Z:IntKind.i64.wrap (-(a:Int)) = -(a:Int):=Kp _ (by omega);have g0:((a:Int)==0)=false:=by rw[Fg];omega
  have C:b=(a:Int)\/b = -(a:Int):=by omega
  have P:0<a:=by omega
  have Q:a<=128:=by omega
  clear K g N L hl f F t h s d z;have i:Below w.heap.size w (w.alloc (.cells #[.bool last,.int .i64 (r:Int),.int .i64 b] 153 (0,0))):=q _;have k:=R.out _ i;rcases C with rfl|rfl
  all_goals
   go_enter func233,ntmps233
   go_wp2_with fail
   refine(c _ k).mono ?_;rintro e V ⟨rfl,rfl⟩
   go_wp2
   go_ret2
   exact⟨rfl,i⟩
end
section
def IM (i:Nat):ByteArray:=⟨(AB (DK i) (AU i)).toArray⟩
def HK (i:Nat):ByteArray×Int:=(IM i,i)
def allT:List (ByteArray×Int):=(List.range 103).map HK
def rowsT:List (List UInt8):=allT.map AC
theorem Rn:CH rowsT:=by unfold CH;decide +kernel
theorem Q8 {i:Nat}(h:i<103):HK i∈allT:=Ko (Bt.2 h)
theorem Xa (i:Nat):AC (HK i)=AB (DK i) (AU i):=rfl
theorem K3 (i:Nat):(AC (HK i)).length=AU i:=BB _ _
theorem rM {r:List UInt8}(h:r∈rowsT):∃i,i<103/\r=AC (HK i):=by
 obtain⟨x,a,rfl⟩:=Gf.1 h;obtain⟨i,hi,rfl⟩:=Gf.1 a;exact⟨i,Bt.1 hi,rfl⟩
theorem Yg {i:Nat}(h:i<103):AC (HK i)∈rowsT:=Ko (Q8 h)
def JW (v n i:Nat):Bool:=DK i / 2^(AU i-n)==v / 2^(n-AU i)
theorem U7 {q:List UInt8}(d:AL q=true){i:Nat}(hi:i<103):JW (num q) q.length i=(q.isPrefixOf (AC (HK i)) || (AC (HK i)).isPrefixOf q):=by
 obtain⟨g,j,b2,_⟩:=IY i hi;rw[Xa];unfold JW;by_cases h:q.length<=AU i
 ·rw[show q.length-AU i=0 by omega,Ft,Fs,XP d b2,Kn h,Jt];cases hp:(AB (DK i) (AU i)).isPrefixOf q with
  |false=>rw[Bool.or_false]
  |true=>
   have hl:=HT hp;rw[BB] at hl;have e:q=AB (DK i) (AU i):=by
    have:=FJ.1 hp;rw[BB,Bk (by omega)] at this;exact this
   have hn:num q=DK i:=by rw[e,IF,Bp b2]
   rw[hn,show AU i-q.length=0 by omega,Ft,Fs,Bool.or_true];simp
 ·have f:q.isPrefixOf (AB (DK i) (AU i))=false:=by
   cases hp:q.isPrefixOf (AB (DK i) (AU i)) with
   |false=>rfl
   |true=>
    have:=HT hp;rw[BB] at this;exact absurd this h
  rw[show AU i-q.length=0 by omega,Ft,Fs,f,Bool.false_or];have a:num q=num (q.take (AU i))*2^(q.length-AU i)+num (q.drop (AU i)):=by
   rw[<-Bj,<-MI,Bs]
  have b:num (q.drop (AU i))<2^(q.length-AU i):=by
   have:=M2 (q.drop (AU i)) (FR _ _ d) (q.drop (AU i)).length (Ba _);rw[Bk (Ba _),Bj] at this;exact this
  have c:num q / 2^(q.length-AU i)=num (q.take (AU i)):=by
   rw[a,C9,Nat.mul_add_div (Cf _),Cz b,Cy]
  rw[c,Jr,Bm,FJ,BB];constructor
  ·intro e;have h2:=KR (q.take (AU i)) (I1 _ _ d);rw[Bf,Bw (by omega),<-e] at h2;exact h2.symm
  ·intro e;rw[e,IF,Bp b2]
theorem VH {rows:List (List UInt8)}(c:CH rows){b r:List UInt8}(hr:r∈rows)(d:b.isPrefixOf r=true)(hl:b.length<r.length):∀{k m:Nat},m<=b.length+1->b.length+2<=m+k->tk rows b k m=(2,0)
 |0,m,h1,h2=>by omega
 |k+1,m,h1,h2=>by
  by_cases hs:b.length<m
  ·exact SM hs
  ·have a:(b.take m).isPrefixOf r=true:=NH (NX b m) d;rw[RG (by omega) (fun hm=>?_) hr a]
   ·exact VH c hr d hl (by omega) (by omega)
   ·have e:=C6 List.length (N8 c hm hr a);rw[Bf] at e;omega
theorem ZO {rows:List (List UInt8)}{b:List UInt8}{n:Nat}(hn:n<=b.length)(h:∀r∈rows,(b.take n).isPrefixOf r=false/\r.isPrefixOf (b.take n)=false):∀{k m:Nat},m<=n->tk rows b k m=(3,0)
 |0,_,_=>rfl
 |k+1,m,hm=>by
  unfold tk;rw[Bb (by omega),Bb]
  ·split
   ·rename_i a
    obtain⟨r,hr,d⟩:=Jy.1 a;by_cases e:m=n
    ·subst e;rw[(h r hr).1] at d;cases d
    ·exact ZO hn h (by omega)
   ·rfl
  ·intro c;have:=(h _ c).2;rw[show (b.take m).isPrefixOf (b.take n)=true by rw[Jq];exact(List.take_prefix_take_left hm)] at this;cases this
theorem Yk {b:List UInt8}{n i:Nat}(hn:n=min 12 b.length)(hi:i<103)(h:JW (num (b.take n)) n i=true)(c:AL b=true)(hl:AU i<=n):gtk allT b=((i:Int),0,AU i)/\AU i<=b.length:=by
 have a:(b.take n).length=n:=by rw[Bf];omega
 have h2:=U7 (I1 b n c) hi;rw[a,h] at h2;have d:(AC (HK i)).isPrefixOf (b.take n)=true:=by
  rcases (Cw _ _).mp h2.symm with h3|h3
  ·have:=HT h3;rw[a,K3] at this;have e:b.take n=AC (HK i):=by
    have:=FJ.1 h3;rw[Bk (by rw[a,K3];omega)] at this;exact this.symm
   rw[e,JO]
  ·exact h3
 obtain⟨f,g,_,_⟩:=IY i hi;have:=Qc Rn (Q8 hi) (by rw[K3];exact f) (by rw[K3];omega) (NH d (NX b n));rw[K3] at this;exact⟨this,by omega⟩
theorem bD {b:List UInt8}{n i:Nat}(hn:n=min 12 b.length)(hi:i<103)(h:JW (num (b.take n)) n i=true)(c:AL b=true)(hl:n<AU i):gtk allT b=(0,2,0):=by
 obtain⟨e,f,_,_⟩:=IY i hi;have a:n=b.length:=by omega
 have d:b.take n=b:=Bk (by omega);have h2:=U7 c hi;rw[d,a] at h;rw[h] at h2;refine NK (n:=0) (VH Rn (Yg hi) (b:=b) ?_ (by rw[K3];omega) (by omega) (by omega)) (by decide);rcases (Cw _ _).mp h2.symm with h3|h3
 ·exact h3
 ·have:=HT h3;rw[K3] at this;omega
theorem Zv {b:List UInt8}{n:Nat}(hn:n=min 12 b.length)(h:∀i,i<103->JW (num (b.take n)) n i=false)(e:AL b=true):gtk allT b=(0,3,0):=by
 have c:(b.take n).length=n:=by rw[Bf];omega
 have a:∀r∈rowsT,(b.take n).isPrefixOf r=false/\r.isPrefixOf (b.take n)=false:=by
  intro r hr;obtain⟨i,hi,rfl⟩:=rM hr;have h2:=U7 (I1 b n e) hi;rw[c,h i hi] at h2;exact(Bool.or_eq_false_iff).mp h2.symm
 have h1:1<=n:=by
  rcases Nat.eq_zero_or_pos n with d|d
  ·have:=(a _ (Yg (i:=0) (by decide))).1;rw[d,Bi] at this;simp at this
  ·exact d
 exact NK (n:=0) (ZO (by omega) a h1) (by decide)
def evZ:List (Bool×Nat×Nat):=(List.range 27).flatMap (fun r=>(List.range (CJ false r)).map fun i=>(false,r,i+1))++(List.range 41).flatMap (fun r=>(List.range (CJ true r)).map fun i=>(true,r,i+1))
def evT (p:Nat):Bool×Nat×Nat:=evZ[p]?.getD (false,0,0)
theorem aZ:∀p,p<102->(inT (evT p).1 (evT p).2.1 (evT p).2.2=true/\plT (evT p).1 (evT p).2.1 (evT p).2.2=p/\(evT p).2.1<41)/\(evT p).1=decide (58<=p)/\1<=(evT p).2.2/\(evT p).2.2<=12:=by decide +kernel
theorem oZ:∀last:Bool,∀a,a<64->∀b,b<13->inT last a b=true->evT (plT last a b)=(last,a,b):=by decide +kernel
theorem Rc {last:Bool}{b a:Nat}:inT last b a=true↔1<=a/\a<=CJ last b:=by
 unfold inT;rw[Fh,Fi,Fi]
theorem fW {last:Bool}{a b:Nat}(hr:a<64)(h:inT last a b=true):evT (plT last a b)=(last,a,b):=by
 have:=(Rc.1 h).2;have:=Q0 last a;exact oZ last a hr b (by omega) h
def EW (v:Nat):Bool×Nat×Int:=(v / 16384%2==1,v / 256%64,if 127<v%256 then ((v%256:Nat):Int)-256 else ((v%256:Nat):Int))
def NE (x:Bool×Nat×Nat)(s:Bool):Bool×Nat×Int:=(x.1,x.2.1,if s then -(x.2.2:Int) else (x.2.2:Int))
def etk (b:List UInt8):(Bool×Nat×Int)×Int×Nat:=
 if (gtk allT b).2.1≠0 then ((false,0,0),(gtk allT b).2.1,0) else
 if (gtk allT b).1.toNat=102 then
  if b.length<22 then ((false,0,0),2,0) else
  if DY (EW (num (b.take 22))).2.1 (EW (num (b.take 22))).2.2 && !inT (EW (num (b.take 22))).1 (EW (num (b.take 22))).2.1 (EW (num (b.take 22))).2.2.natAbs then (EW (num (b.take 22)),0,22) else ((false,0,0),7,0)
 else
  if b.length<AU (gtk allT b).1.toNat+1 then ((false,0,0),2,0) else
  (NE (evT (gtk allT b).1.toNat) (num (b.take (AU (gtk allT b).1.toNat+1))%2==1),0,AU (gtk allT b).1.toNat+1)
theorem WF {b:List UInt8}{f:Int}(h:gtk allT b=(0,f,0))(a:f≠0):etk b=((false,0,0),f,0):=by
 unfold etk;rw[h,Bc a]
theorem XV {b:List UInt8}{i n:Nat}(h:gtk allT b=((i:Int),0,n))(hl:b.length<if i=102 then 22 else AU i+1):etk b=((false,0,0),2,0):=by
 unfold etk;rw[h,Bb (fun h=>h rfl),Dr];by_cases hi:i=102
 ·rw[Bc hi] at hl;rw[Bc hi,Bc hl]
 ·rw[Bb hi] at hl;rw[Bb hi,Bc hl]
theorem Uf {b:List UInt8}{i n:Nat}(h:gtk allT b=((i:Int),0,n))(hi:i≠102)(hl:AU i+1<=b.length):etk b=(NE (evT i) (num (b.take (AU i+1))%2==1),0,AU i+1):=by
 unfold etk;rw[h,Bb (fun h=>h rfl),Dr,Bb hi,Bb (by omega)]
theorem UU {b:List UInt8}{n:Nat}(h:gtk allT b=((102:Int),0,n))(hl:22<=b.length):etk b=if DY (EW (num (b.take 22))).2.1 (EW (num (b.take 22))).2.2 && !inT (EW (num (b.take 22))).1 (EW (num (b.take 22))).2.1 (EW (num (b.take 22))).2.2.natAbs then (EW (num (b.take 22)),0,22) else ((false,0,0),7,0):=by
 unfold etk;rw[h,Bb (fun h=>h rfl),Bc (show ((102:Int),(0:Int),n).1.toNat=102 from rfl),Bb (by omega)]
theorem VW (v:Nat):(EW v).2.1<64∧-128<=(EW v).2.2/\(EW v).2.2<=127:=by
 unfold EW;refine⟨Nat.mod_lt _ (by decide),?_⟩;show -128<=(if 127<v%256 then ((v%256:Nat):Int)-256 else ((v%256:Nat):Int))/\(if 127<v%256 then ((v%256:Nat):Int)-256 else ((v%256:Nat):Int))<=127
 split <;> omega
end
section
open Go.RowKit Go.Lib
theorem BK.under {w c:A5}{B:Nat}(h:BK w)(a:Below B w c)(b:5<B/\6<B/\7<B):BK c:=
 ⟨fun i hi=>⟨(a.cell (p:=⟨5,i,none⟩) b.1).trans (h.1 i hi).1,(a.cell (p:=⟨6,i,none⟩) b.2.1).trans (h.1 i hi).2⟩,
  fun i hi=>(a.cell (p:=⟨7,i,none⟩) b.2.2).trans (h.2 i hi)⟩
theorem Y3e {a b c:A5}{row:Option Nat}{B:Nat}(h:a.grownBy b row)(d:Below B b c)(g:a.heap.size<=B):a.grownBy c row:=
 ⟨d.os.trans h.os,d.tape.trans h.tape,d.output.trans h.output,Eg h.size d.size,fun k f e=>(d.block k (by omega)).trans (h.block k f e)⟩
structure Ybw (N:Nat) (w:A5):Prop where
 pats:JA w
 mvd:GC w
 steps:HA w
 tcoef:BK w
 lo:1<N/\2<N/\3<N/\0<N/\5<N/\6<N/\7<N
theorem Ybw.here {w:A5}(h1:JA w)(h2:GC w)(h3:HA w)(h4:BK w):Ybw w.heap.size w:=
 ⟨h1,h2,h3,h4,h1.lt,h2.lt.1,h2.lt.2,h3.lt,h4.lt.1,h4.lt.2.1,h4.lt.2.2⟩
theorem Ybw.below {N:Nat}{w x:A5}(h:Ybw N w)(a:Below N w x):Ybw N x:=by
 obtain⟨h1,h2,h3,h4,c,d,e,b,f,g,j⟩:=h;refine⟨fun i hi=>?_,fun i hi=>⟨?_,?_⟩,fun i hi=>⟨?_,?_⟩,h4.under a ⟨f,g,j⟩,c,d,e,b,f,g,j⟩
 ·exact(a.cell (p:=⟨1,i,none⟩) c).trans (h1 i hi)
 ·exact(a.cell (p:=⟨2,i,none⟩) d).trans (h2 i hi).1
 ·exact(a.cell (p:=⟨3,i,none⟩) e).trans (h2 i hi).2
 ·exact(a.cell (p:=⟨0,2*i,none⟩) b).trans (h3 i hi).1
 ·exact(a.cell (p:=⟨0,2*i+1,none⟩) b).trans (h3 i hi).2
end
end Go.Proofs.YtjjmalchelniiaaGreatDoor
