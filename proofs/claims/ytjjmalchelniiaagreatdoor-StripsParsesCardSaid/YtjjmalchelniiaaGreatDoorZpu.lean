/- No condition. -/
import Derived.Test.YtjjmalchelniiaaGreatDoorZpd
import Derived.Test.YtjjmalchelniiaaGreatDoorZpg
import Derived.Test.YtjjmalchelniiaaGreatDoorZph
import Derived.Test.YtjjmalchelniiaaGreatDoorZpm
import Derived.Test.YtjjmalchelniiaaGreatDoorZpq
import Derived.Test.YtjjmalchelniiaaGreatDoorZps
import Derived.Test.YtjjmalchelniiaaGreatDoorZpt
open Go.Proofs.Tryz
open Go renaming World->A5,Calls->A9
set_option maxHeartbeats 1000000
namespace Go.Proofs.YtjjmalchelniiaaGreatDoor
section
open Go.RowKit Go.Lib
theorem Wc0{p:Prop}(h:p:=by
 go_enter Kv,Ku
 go_wp2
 go_ret
 exact⟨rfl,rfl⟩):p:=h
abbrev Ku:=@ntmps242
abbrev Kv:=@func242
def Vj:List Nat:=[2,15,21,23,31,37,36,33,32,7,6,32,6,20,30,15,33,80,14,29,14,81,13,35,13,12,34,82,11,12,83,19,11,84,18,10,17,9,16,8,22,85,21,20,28,27,33,32,31,30,29,28,27,26,34,35,86,87,7,25,5,15,4,14,13,12,19,18,17,16,26,25,24,23,22,21,20,19,24,23,22,21,20,19,18,17,7,6,5,4,36,37,38,39,88,89,90,91,92,93,94,95,3]
def VQ:List Nat:=[2,4,6,7,8,9,9,10,10,11,11,11,3,6,8,10,11,12,4,8,10,12,5,9,10,5,9,12,5,10,12,6,10,12,6,10,6,10,6,10,7,12,7,7,8,8,9,9,9,9,9,9,9,9,11,11,12,12,4,9,11,6,11,6,6,6,7,7,7,7,8,8,8,8,8,8,8,8,9,9,9,9,9,9,9,9,10,10,10,10,11,11,11,11,12,12,12,12,12,12,12,12,7]
def T8:List Nat:=[12,6,4,3,3,3,3,2,2,2,2]
def DM (i:Nat):Nat:=Vj[i]?.getD 0
def AS (i:Nat):Nat:=VQ[i]?.getD 0
def PL (i:Nat):Nat:=T8[i]?.getD 0
theorem ID:∀i,i<103->1<=AS i/\AS i<=12/\DM i<2^AS i/\DM i<=95:=uB
theorem X9:∀i,i<11->1<=PL i/\PL i<=12:=uB
def C5 (last:Bool)(run:Nat):Nat:=
 if last then (if run=0 then 3 else if run=1 then 2 else if run<=40 then 1 else 0) else (if run<11 then PL run else if run<=26 then 1 else 0)
theorem KI (last:Bool)(run:Nat):C5 last run<=12:=by
 unfold C5;cases last
 ·simp only[Jm,Iw];by_cases h:run<11
  ·rw[Bb h];exact(X9 run h).2
  ·rw[Ba h];split <;> omega
 ·simp only[Jw]
  repeat' split
  all_goals omega
def EI (last:Bool):Nat->Nat
 |0=>0
 |r+1=>EI last r+C5 last r
theorem UP (last:Bool):∀r,EI last r<=12*r
 |0=>B9 _
 |r+1=>by
  have:=UP last r;have:=KI last r;unfold EI;omega
theorem Qig (last:Bool){r k:Nat}(h:r<=k):EI last r<=EI last k:=by
 induction h with
 |refl=>exact B9 _
 |step _ a=>exact Ef a (Nat.le_add_right _ _)
def H2 (last:Bool):Nat:=if last then 58 else 0
def plT (last:Bool)(run a:Nat):Nat:=H2 last+EI last run+(a-1)
def inT (last:Bool)(run a:Nat):Bool:=decide (1<=a)&&decide (a<=C5 last run)
theorem rD:∀last:Bool,∀run,run<64->∀a,a<13->inT last run a=true->plT last run a<102:=uB
theorem PP {last:Bool}{run a:Nat}(hr:run<64)(h:inT last run a=true):plT last run a<102:=by
 refine rD last run hr a ?_ h;unfold inT at h;rw[Ff,Fg,Fg] at h;have:=KI last run;omega
def DO (last:Bool)(run:Nat)(a:Int):Nat:=if inT last run a.natAbs then 2*DM (plT last run a.natAbs)+(if a<0 then 1 else 0) else ((6+last.toNat)*64+run)*256+(a%256).toNat
def DI (last:Bool)(run:Nat)(a:Int):Nat:=if inT last run a.natAbs then AS (plT last run a.natAbs)+1 else 22
def FL (last:Bool)(run a:Int):ByteArray:=if DL run a then ⟨(AF (DO last run.toNat a) (DI last run.toNat a)).toArray⟩ else ⟨#[]⟩
def BH (w:A5):Prop:=
 (∀i,i<103->w.cell? ⟨5,i,none⟩=some (.int .u16 (DM i:Nat))/\w.cell? ⟨6,i,none⟩=some (.int .u8 (AS i:Nat)))/\
  ∀i,i<11->w.cell? ⟨7,i,none⟩=some (.int .u8 (PL i:Nat))
theorem BH.lt {w:A5}(h:BH w):5<w.heap.size/\6<w.heap.size/\7<w.heap.size:=
 ⟨J2 w ⟨5,0,none⟩ (h.1 0 sY).1,J2 w ⟨6,0,none⟩ (h.1 0 sY).2,J2 w ⟨7,0,none⟩ (h.2 0 sY)⟩
theorem BH.below {w b:A5}(h:BH w)(a:Below w.heap.size w b):BH b:=
 ⟨fun i hi=>⟨(a.cell (p:=⟨5,i,none⟩) h.lt.1).trans (h.1 i hi).1,(a.cell (p:=⟨6,i,none⟩) h.lt.2.1).trans (h.1 i hi).2⟩,
  fun i hi=>(a.cell (p:=⟨7,i,none⟩) h.lt.2.2).trans (h.2 i hi)⟩
theorem VC {a b c d:Int}{k e:IntKind}(h:a=c)(f:b=d):Ending.returned (.tuple #[.int k a,.int e b])=.returned (.tuple #[.int k c,.int e d]):=by rw[h,f]
theorem Yx (b:Bool)(w:A5):A9 prog 235 #[.bool b] w fun e a=>e=.returned (.int .i64 (b.toNat:Nat))/\w=a:=by
 cases b
 all_goals
  go_enter func235,ntmps235
  go_wp2
  go_ret
  exact⟨rfl,rfl⟩
theorem QX (i:Nat)(hi:i<103)(w:A5)(a:BH w):A9 prog 234 #[.int .i64 (i:Int)] w fun e b=>e=.returned (.tuple #[.int .i64 (DM i:Nat),.int .i64 (AS i:Nat)])/\Below w.heap.size w b:=by
 obtain⟨c0,c1⟩:=a.1 i hi;obtain⟨c,d,_,b3⟩:=ID i hi;generalize DM i=x at c0 b3 ⊢;generalize AS i=y at c1 c d ⊢;clear a
 go_enter func234,ntmps234
 go_wp2
 go_region
 go_wp2
 go_ret2
 exact⟨VC sX sX,(Dn _ w).drew⟩
theorem TO (i:Nat)(hi:i<103)(w:A5)(c:BH w):A9 prog 236 #[.int .i64 (i:Int)] w fun e d=>e=.returned (.int .i64 ((if i=102 then 22 else AS i+1:Nat):Int))/\Below w.heap.size w d:=by
 have a:=fun x f=>QX i hi x f;obtain⟨g,j,_,b3⟩:=ID i hi;by_cases h:i=102
 ·subst h
  go_enter func236,ntmps236
  go_wp2_with fail
  refine(a _ c).mono ?_;rintro e k ⟨rfl,b⟩
  go_wp2
  go_ret
  exact⟨rfl,b⟩
 ·rw[Ba h];generalize AS i=y at a g j ⊢;have l:((i:Int)==102)=false:=uC;clear h
  go_enter func236,ntmps236
  go_wp2_with fail
  refine(a _ c).mono ?_;rintro e k ⟨rfl,b⟩
  go_wp2
  go_ret
  exact⟨ES sX,b⟩
theorem Wr (last:Bool)(r:Nat)(hr:r<64)(w:A5)(a:BH w):A9 prog 242 #[.bool last,.int .i64 (r:Int)] w fun e c=>e=.returned (.int .i64 (C5 last r:Nat))/\w=c:=by
 cases last with
 |false=>
  by_cases h:r<11
  ·have F:=Dm (show C5 false r=PL r by unfold C5;simp[h]);have c0:=a.2 r h;obtain⟨d,f⟩:=X9 r h;rw[F.out];generalize PL r=y at c0 d f ⊢;have t0:decide ((r:Int)<11)=true:=tO;clear F a
   go_enter Kv,Ku
   go_wp2
   go_ret
   exact⟨ES sX,rfl⟩
  ·by_cases h2:r<=26
   ·have F:=Dm (show C5 false r=1 by unfold C5;simp[h,h2]);have t0:decide ((r:Int)<11)=false:=tO;have t1:decide ((r:Int)<=26)=true:=tO;rw[F.out];clear h h2 a
    exact Wc0
   ·have F:=Dm (show C5 false r=0 by unfold C5;simp[h,h2]);have t0:decide ((r:Int)<11)=false:=tO;have t1:decide ((r:Int)<=26)=false:=tO;rw[F.out];clear h h2 a
    exact Wc0
 |true=>
  by_cases b:r=0
  ·subst b
   exact Wc0
  ·have g:((r:Int)==0)=false:=uC;by_cases h1:r=1
   ·subst h1
    exact Wc0
   ·have i:((r:Int)==1)=false:=uC;by_cases h2:r<=40
    ·have F:=Dm (show C5 true r=1 by unfold C5;simp[b,h1,h2]);have t1:decide ((r:Int)<=40)=true:=tO;rw[F.out];clear b h1 h2 a
     exact Wc0
    ·have F:=Dm (show C5 true r=0 by unfold C5;simp[b,h1,h2]);have t1:decide ((r:Int)<=40)=false:=tO;rw[F.out];clear b h1 h2 a
     exact Wc0
theorem Qbx {a c:Int}{k:IntKind}{b:Bool}(h:a=c):Ending.returned (.tuple #[.int k a,.bool b])=.returned (.tuple #[.int k c,.bool b]):=tE
theorem X5 (last:Bool)(r:Nat)(b:Int)(hr:r<64)(hl:-128<=b/\b<=127)(w:A5)(K:BH w):A9 prog 233 #[.agg #[.bool last,.int .i64 (r:Int),.int .i64 b]] w fun e X=>
  e=.returned (.tuple #[.int .i64 ((if inT last r b.natAbs then plT last r b.natAbs else 102:Nat):Int),.bool (inT last r b.natAbs)])/\Below w.heap.size w X:=by
 have q:∀o,Below w.heap.size w (w.alloc o):=fun o=>(Dn _ w).alloc (B9 _) o;obtain⟨a,L⟩:∃a:Nat,b.natAbs=a:=⟨_,rfl⟩;rw[L];by_cases N:b=0
 ·subst N;obtain rfl:a=0:=sX;have F:=Dm (show inT last r 0=false by unfold inT;simp);rw[F.out]
  go_enter func233,ntmps233
  go_wp2
  go_ret2
  exact⟨rfl,q _⟩
 have hm:=KI last r;have c:=fun x G=>Wr last r hr x G;have l:=UP last r;have s:∀j,j<r->H2 last+EI last (j+1)<=900:=fun j hj=>by have:=UP last (j+1);have Y:H2 last<=58:=by{cases last <;> decide};omega
 have t:plT last r a=H2 last+EI last r+(a-1):=rfl;have g:inT last r a=(decide (1<=a)&&decide (a<=C5 last r)):=rfl;have h:∀j,EI last (j+1)=EI last j+C5 last j:=fun j=>rfl;have d:=fun(j:Nat) (hj:j<r) x G=>Wr last j sX x G;have z:=fun(j:Nat)=>KI last j;have R:=Dm (fun(x:A5) (G:Below w.heap.size w x)=>(K.below G:BH x));by_cases f:a<=C5 last r
 ·have F:=Dm (show inT last r a=true by rw[g];simp;omega);rw[F.out,Bb rfl];have A:=Dm t;have B:=Dm h;have O:=Dm s;have n:=Dm d;have T:=Dm z;generalize C5 last r=m at c hm f g;have t0:decide ((m:Int)<a)=false:=tO;have t1:decide (m<a)=false:=tO;have Z:IntKind.i64.wrap (-(a:Int)) = -(a:Int):=Kd _ sX;have g0:((a:Int)==0)=false:=uC;have C:b=(a:Int)\/b = -(a:Int):=sX;have P:0<a:=sX;have Q:a<=128:=sX;clear K g N L hl f F t h s d z;have i:Below w.heap.size w (w.alloc (.cells #[.bool last,.int .i64 (r:Int),.int .i64 b] 153 (0,0))):=q _;have k:=R.out _ i;have D:EI last 0=0:=rfl;generalize EI last=sm at A B O l D;generalize C5 last=U at B n T;generalize p:H2 last=bse at A O;have H:=Dm p;have aa:=Dm D;clear D p l;cases last
  all_goals
   rcases C with rfl|rfl
   all_goals
    go_enter func233,ntmps233
    go_wp2_with fail
    refine(c _ k).mono ?_;rintro e V ⟨rfl,rfl⟩;clear c
    go_wp2
    go_loop [5,32] (fun u v=>∃(j x:Nat),j<=r/\v=.int .i64 j/\u=.int .i64 ((a:Int)-1+x)/\x<=900/\Hid (x=bse+sm j)) (fun _ v=>64-(intOf v).toNat)
    case atStart=>exact⟨0,bse,Do _,rfl,by rw[<-H.out];simp[H2],by rw[<-H.out];decide,Dm (by rw[aa.out];rfl)⟩
    case round=>
     obtain⟨j,x,hj,rfl,rfl,G,E⟩:=hrel;by_cases I:j<r
     ·have t1:decide ((j:Int)<r)=true:=tO;have J:=n.out j I _ k;have M:=T.out j;have S:=Dm (B.out j);have W:=Dm (show x+U j<=900 by have:=O.out j I;rw[S.out] at this;rw[E.out];omega);generalize U j=y at J M S W
      go_wp2_with fail
      refine J.mono ?_;rintro e V ⟨rfl,rfl⟩
      go_wp2
      go_round
      case rel=>exact⟨j+1,x+y,sX,tP,tP,W.out,Dm (by rw[E.out,S.out,By])⟩
      case measure=>simp[intOf];omega
     ·obtain rfl:j=r:=sX;have t2:decide (j<j)=false:=sZ
      go_wp2
      go_ret2
      exact⟨Qbx (by rw[A.out];have:=E.out;omega),i⟩
 ·have F:=Dm (show inT last r a=false by rw[g];simp;omega);rw[F.out,Ba sY];generalize C5 last r=m at c hm f g;have t0:decide ((m:Int)<a)=true:=tO;have t1:decide (m<a)=true:=tO;have Z:IntKind.i64.wrap (-(a:Int)) = -(a:Int):=Kd _ sX;have g0:((a:Int)==0)=false:=uC;have C:b=(a:Int)\/b = -(a:Int):=sX;have P:0<a:=sX;have Q:a<=128:=sX;clear K g N L hl f F t h s d z;have i:Below w.heap.size w (w.alloc (.cells #[.bool last,.int .i64 (r:Int),.int .i64 b] 153 (0,0))):=q _;have k:=R.out _ i;rcases C with rfl|rfl
  all_goals
   go_enter func233,ntmps233
   go_wp2_with fail
   refine(c _ k).mono ?_;rintro e V ⟨rfl,rfl⟩
   go_wp2
   go_ret2
   exact⟨rfl,i⟩
end
section
def FK (i:Nat):ByteArray:=⟨(AF (DM i) (AS i)).toArray⟩
def GO (i:Nat):ByteArray×Int:=(FK i,i)
def allT:List (ByteArray×Int):=(List.range 103).map GO
def rowsT:List (List UInt8):=allT.map rowC
theorem Q6:CJ rowsT:=by unfold CJ;decide +kernel
theorem Qj {i:Nat}(h:i<103):GO i∈allT:=Kc (Bs.2 h)
theorem YN (i:Nat):rowC (GO i)=AF (DM i) (AS i):=rfl
theorem IV (i:Nat):(rowC (GO i)).length=AS i:=BS _ _
theorem Ql6 {r:List UInt8}(h:r∈rowsT):∃i,i<103/\r=rowC (GO i):=by
 obtain⟨x,a,rfl⟩:=Gi.1 h;obtain⟨i,hi,rfl⟩:=Gi.1 a;exact⟨i,Bs.1 hi,rfl⟩
theorem eV {i:Nat}(h:i<103):rowC (GO i)∈rowsT:=Kc (Qj h)
def K3 (v n i:Nat):Bool:=DM i / 2^(AS i-n)==v / 2^(n-AS i)
theorem UL {q:List UInt8}(d:AH q=true){i:Nat}(hi:i<103):K3 (num q) q.length i=(q.isPrefixOf (rowC (GO i)) || (rowC (GO i)).isPrefixOf q):=by
 obtain⟨g,j,b2,_⟩:=ID i hi;rw[YN];unfold K3;by_cases h:q.length<=AS i
 ·rw[show q.length-AS i=0 by omega,Ft,Fs,Zs d b2,Kf h,Jj];cases hp:(AF (DM i) (AS i)).isPrefixOf q with
  |false=>rw[Bool.or_false]
  |true=>
   have hl:=HH hp;rw[BS] at hl;have e:q=AF (DM i) (AS i):=by
    have:=F7.1 hp;rw[BS,Bh sX] at this;exact this
   have hn:num q=DM i:=by rw[e,IQ,Bq b2]
   rw[hn,show AS i-q.length=0 by omega,Ft,Fs,Bool.or_true];simp
 ·have f:q.isPrefixOf (AF (DM i) (AS i))=false:=by
   cases hp:q.isPrefixOf (AF (DM i) (AS i)) with
   |false=>rfl
   |true=>
    have:=HH hp;rw[BS] at this;exact absurd this h
  rw[show AS i-q.length=0 by omega,Ft,Fs,f,Bool.false_or];have a:num q=num (q.take (AS i))*2^(q.length-AS i)+num (q.drop (AS i)):=by
   rw[<-Bf,<-LR,Bt]
  have b:num (q.drop (AS i))<2^(q.length-AS i):=by
   have:=K0 (q.drop (AS i)) (DH _ _ d) (q.drop (AS i)).length (B9 _);rw[Bh (B9 _),Bf] at this;exact this
  have c:num q / 2^(q.length-AS i)=num (q.take (AS i)):=by
   rw[a,Ca,Nat.mul_add_div (Ch _),Cx b,C6]
  rw[c,Jc,Bj,F7,BS];constructor
  ·intro e;have h2:=Lq (q.take (AS i)) (ET _ _ d);rw[Be,Bv sX,<-e] at h2;exact h2.symm
  ·intro e;rw[e,IQ,Bq b2]
theorem aH {rows:List (List UInt8)}(c:CJ rows){b r:List UInt8}(hr:r∈rows)(d:b.isPrefixOf r=true)(hl:b.length<r.length):∀{k m:Nat},m<=b.length+1->b.length+2<=m+k->tk rows b k m=(2,0)
 |0,m,h1,h2=>sX
 |k+1,m,h1,h2=>by
  by_cases hs:b.length<m
  ·exact VS hs
  ·have a:(b.take m).isPrefixOf r=true:=NR (OE b m) d;rw[RU sX (fun hm=>?_) hr a]
   ·exact aH c hr d hl sX sX
   ·have e:=Bz List.length (NY c hm hr a);rw[Be] at e;omega
theorem aG {rows:List (List UInt8)}{b:List UInt8}{n:Nat}(hn:n<=b.length)(h:∀r∈rows,(b.take n).isPrefixOf r=false/\r.isPrefixOf (b.take n)=false):∀{k m:Nat},m<=n->tk rows b k m=(3,0)
 |0,_,_=>rfl
 |k+1,m,hm=>by
  unfold tk;rw[Ba sX,Ba]
  ·split
   ·rename_i a
    obtain⟨r,hr,d⟩:=Jn.1 a;by_cases e:m=n
    ·subst e;rw[(h r hr).1] at d;cases d
    ·exact aG hn h sX
   ·rfl
  ·intro c;have:=(h _ c).2;rw[show (b.take m).isPrefixOf (b.take n)=true by rw[Jg];exact(List.take_prefix_take_left hm)] at this;cases this
theorem WR {b:List UInt8}{n i:Nat}(hn:n=min 12 b.length)(hi:i<103)(h:K3 (num (b.take n)) n i=true)(c:AH b=true)(hl:AS i<=n):gtk allT b=((i:Int),0,AS i)/\AS i<=b.length:=by
 have a:(b.take n).length=n:=tB;have h2:=UL (ET b n c) hi;rw[a,h] at h2;have d:(rowC (GO i)).isPrefixOf (b.take n)=true:=by
  rcases (Cw _ _).mp h2.symm with h3|h3
  ·have:=HH h3;rw[a,IV] at this;have e:b.take n=rowC (GO i):=by
    have:=F7.1 h3;rw[Bh (by rw[a,IV];omega)] at this;exact this.symm
   rw[e,JE]
  ·exact h3
 obtain⟨f,g,_,_⟩:=ID i hi;have:=Qw Q6 (Qj hi) (by rw[IV];exact f) (by rw[IV];omega) (NR d (OE b n));rw[IV] at this;exact⟨this,sX⟩
theorem dY {b:List UInt8}{n i:Nat}(hn:n=min 12 b.length)(hi:i<103)(h:K3 (num (b.take n)) n i=true)(c:AH b=true)(hl:n<AS i):gtk allT b=(0,2,0):=by
 obtain⟨e,f,_,_⟩:=ID i hi;have a:n=b.length:=sX;have d:b.take n=b:=Bh sX;have h2:=UL c hi;rw[d,a] at h;rw[h] at h2;refine ML (n:=0) (aH Q6 (eV hi) (b:=b) ?_ (by rw[IV];omega) sX sX) sY;rcases (Cw _ _).mp h2.symm with h3|h3
 ·exact h3
 ·have:=HH h3;rw[IV] at this;omega
theorem Yp {b:List UInt8}{n:Nat}(hn:n=min 12 b.length)(h:∀i,i<103->K3 (num (b.take n)) n i=false)(e:AH b=true):gtk allT b=(0,3,0):=by
 have c:(b.take n).length=n:=tB;have a:∀r∈rowsT,(b.take n).isPrefixOf r=false/\r.isPrefixOf (b.take n)=false:=by
  intro r hr;obtain⟨i,hi,rfl⟩:=Ql6 hr;have h2:=UL (ET b n e) hi;rw[c,h i hi] at h2;exact(Bool.or_eq_false_iff).mp h2.symm
 have h1:1<=n:=by
  rcases Nat.eq_zero_or_pos n with d|d
  ·have:=(a _ (eV (i:=0) sY)).1;rw[d,Bk] at this;simp at this
  ·exact d
 exact ML (n:=0) (aG sX a h1) sY
def evZ:List (Bool×Nat×Nat):=(List.range 27).flatMap (fun r=>(List.range (C5 false r)).map fun i=>(false,r,i+1))++(List.range 41).flatMap (fun r=>(List.range (C5 true r)).map fun i=>(true,r,i+1))
def evT (p:Nat):Bool×Nat×Nat:=evZ[p]?.getD (false,0,0)
theorem UK:∀p,p<102->(inT (evT p).1 (evT p).2.1 (evT p).2.2=true/\plT (evT p).1 (evT p).2.1 (evT p).2.2=p/\(evT p).2.1<41)/\(evT p).1=decide (58<=p)/\1<=(evT p).2.2/\(evT p).2.2<=12:=uB
theorem Qgx:∀last:Bool,∀run,run<64->∀a,a<13->inT last run a=true->evT (plT last run a)=(last,run,a):=uB
theorem Q9 {last:Bool}{run a:Nat}:inT last run a=true↔1<=a/\a<=C5 last run:=by
 unfold inT;rw[Ff,Fg,Fg]
theorem YS {last:Bool}{run a:Nat}(hr:run<64)(h:inT last run a=true):evT (plT last run a)=(last,run,a):=by
 have:=(Q9.1 h).2;have:=KI last run;exact Qgx last run hr a sX h
def E5 (v:Nat):Bool×Nat×Int:=(v / 16384%2==1,v / 256%64,if 127<v%256 then ((v%256:Nat):Int)-256 else ((v%256:Nat):Int))
def NP (x:Bool×Nat×Nat)(s:Bool):Bool×Nat×Int:=(x.1,x.2.1,if s then -(x.2.2:Int) else (x.2.2:Int))
def etk (b:List UInt8):(Bool×Nat×Int)×Int×Nat:=
 if (gtk allT b).2.1≠0 then ((false,0,0),(gtk allT b).2.1,0) else
 if (gtk allT b).1.toNat=102 then
  if b.length<22 then ((false,0,0),2,0) else
  if DL (E5 (num (b.take 22))).2.1 (E5 (num (b.take 22))).2.2 && !inT (E5 (num (b.take 22))).1 (E5 (num (b.take 22))).2.1 (E5 (num (b.take 22))).2.2.natAbs then (E5 (num (b.take 22)),0,22) else ((false,0,0),7,0)
 else
  if b.length<AS (gtk allT b).1.toNat+1 then ((false,0,0),2,0) else
  (NP (evT (gtk allT b).1.toNat) (num (b.take (AS (gtk allT b).1.toNat+1))%2==1),0,AS (gtk allT b).1.toNat+1)
theorem V5 {b:List UInt8}{f:Int}(h:gtk allT b=(0,f,0))(a:f≠0):etk b=((false,0,0),f,0):=by
 unfold etk;rw[h,Bb a]
theorem Ss {b:List UInt8}{i n:Nat}(h:gtk allT b=((i:Int),0,n))(hl:b.length<if i=102 then 22 else AS i+1):etk b=((false,0,0),2,0):=by
 unfold etk;rw[h,Ba (fun h=>h rfl),Dp];by_cases hi:i=102
 ·rw[Bb hi] at hl;rw[Bb hi,Bb hl]
 ·rw[Ba hi] at hl;rw[Ba hi,Bb hl]
theorem Sn {b:List UInt8}{i n:Nat}(h:gtk allT b=((i:Int),0,n))(hi:i≠102)(hl:AS i+1<=b.length):etk b=(NP (evT i) (num (b.take (AS i+1))%2==1),0,AS i+1):=by
 unfold etk;rw[h,Ba (fun h=>h rfl),Dp,Ba hi,Ba sX]
theorem S0 {b:List UInt8}{n:Nat}(h:gtk allT b=((102:Int),0,n))(hl:22<=b.length):etk b=if DL (E5 (num (b.take 22))).2.1 (E5 (num (b.take 22))).2.2 && !inT (E5 (num (b.take 22))).1 (E5 (num (b.take 22))).2.1 (E5 (num (b.take 22))).2.2.natAbs then (E5 (num (b.take 22)),0,22) else ((false,0,0),7,0):=by
 unfold etk;rw[h,Ba (fun h=>h rfl),Bb (show ((102:Int),(0:Int),n).1.toNat=102 from rfl),Ba sX]
theorem XY (v:Nat):(E5 v).2.1<64∧-128<=(E5 v).2.2/\(E5 v).2.2<=127:=by
 unfold E5;refine⟨Nat.mod_lt _ sY,?_⟩;show -128<=(if 127<v%256 then ((v%256:Nat):Int)-256 else ((v%256:Nat):Int))/\(if 127<v%256 then ((v%256:Nat):Int)-256 else ((v%256:Nat):Int))<=127
 split <;> omega
end
section
open Go.RowKit Go.Lib
theorem BH.under {w c:A5}{B:Nat}(h:BH w)(a:Below B w c)(b:5<B/\6<B/\7<B):BH c:=
 ⟨fun i hi=>⟨(a.cell (p:=⟨5,i,none⟩) b.1).trans (h.1 i hi).1,(a.cell (p:=⟨6,i,none⟩) b.2.1).trans (h.1 i hi).2⟩,
  fun i hi=>(a.cell (p:=⟨7,i,none⟩) b.2.2).trans (h.2 i hi)⟩
theorem jL {a b c:A5}{row:Option Nat}{B:Nat}(h:a.grownBy b row)(d:Below B b c)(f:a.heap.size<=B):a.grownBy c row:=
 ⟨d.os.trans h.os,d.tape.trans h.tape,d.output.trans h.output,Ef h.size d.size,fun k hk e=>(d.block k sX).trans (h.block k hk e)⟩
structure Ybt (N:Nat) (w:A5):Prop where
 pats:JN w
 mvd:FZ w
 steps:H3 w
 tcoef:BH w
 lo:1<N/\2<N/\3<N/\0<N/\5<N/\6<N/\7<N
theorem Ybt.here {w:A5}(h1:JN w)(h2:FZ w)(h3:H3 w)(h4:BH w):Ybt w.heap.size w:=
 ⟨h1,h2,h3,h4,h1.lt,h2.lt.1,h2.lt.2,h3.lt,h4.lt.1,h4.lt.2.1,h4.lt.2.2⟩
theorem Ybt.below {N:Nat}{w x:A5}(h:Ybt N w)(a:Below N w x):Ybt N x:=by
 obtain⟨h1,h2,h3,h4,c,d,e,b,f,g,j⟩:=h;refine⟨fun i hi=>?_,fun i hi=>⟨?_,?_⟩,fun i hi=>⟨?_,?_⟩,h4.under a ⟨f,g,j⟩,c,d,e,b,f,g,j⟩
 ·exact(a.cell (p:=⟨1,i,none⟩) c).trans (h1 i hi)
 ·exact(a.cell (p:=⟨2,i,none⟩) d).trans (h2 i hi).1
 ·exact(a.cell (p:=⟨3,i,none⟩) e).trans (h2 i hi).2
 ·exact(a.cell (p:=⟨0,2*i,none⟩) b).trans (h3 i hi).1
 ·exact(a.cell (p:=⟨0,2*i+1,none⟩) b).trans (h3 i hi).2
end
end Go.Proofs.YtjjmalchelniiaaGreatDoor
