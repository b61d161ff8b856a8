/- No condition. -/
import Derived.Test.YtjjmalchelniiaaGreatDoorZpg
import Derived.Test.YtjjmalchelniiaaGreatDoorZph
import Derived.Test.YtjjmalchelniiaaGreatDoorZpi
import Derived.Test.YtjjmalchelniiaaGreatDoorZpj
import Derived.Test.YtjjmalchelniiaaGreatDoorZpk
import Derived.Test.YtjjmalchelniiaaGreatDoorZpl
import Derived.Test.YtjjmalchelniiaaGreatDoorZpm
open Go.Proofs.Tryz
open Go renaming World->A5,Calls->A9,Addr->Aa,Value->A0
set_option maxHeartbeats 4000000
namespace Go.Proofs.YtjjmalchelniiaaGreatDoor
open Go.RowKit Go.Lib
theorem Wcm{p:Prop}(h:p:=by
 go_enter func175,ntmps175
 go_wp2
 go_end0
 exact⟨rfl,d.out,Ybe.refl _ _ _⟩):p:=h
theorem Wcl{p:Prop}(h:p:=by
 go_enter func135,ntmps135
 exact Wck):p:=h
theorem Wck{p:Prop}(h:p:=by
 go_wp2
 go_ret
 exact⟨rfl,rfl⟩):p:=h
theorem Wcj{p:Prop}(h:p:=by
 go_enter func173,ntmps173
 go_wp2_with fail
 refine(ca _ hr).mono ?_;rintro e c ⟨rfl,rfl⟩
 go_wp2_with fail
 refine(MH _ _ _ _ hr).mono ?_;rintro e c ⟨rfl,rfl⟩
 go_wp2_with fail
 refine(ca _ hr).mono ?_;rintro e c ⟨rfl,rfl⟩
 go_wp2_with fail
 refine(c1 _).mono ?_;rintro e c ⟨rfl,a⟩
 go_wp2
 go_ret
 exact⟨rfl,hr.below a,BF a _⟩):p:=h
theorem vG{p:Prop}(h:p:=by rw[N.out];rfl):p:=h
abbrev Ik:=@Int.tmod_eq_emod_of_nonneg
abbrev Il:=@List.take_length
abbrev Im:=@List.cons_append
abbrev In:=@decide_eq_decide
def FX (n:Int)(d:Nat):Bool:=decide (0<=n/\n<2^d)
theorem Xl (n:Int)(w:A5):
  A9 prog 135 #[.int .i64 n,.int .i64 8] w fun e a=>e=.returned (.bool (FX n 8))/\w=a:=by
 by_cases b:0<=n
 ·have e:decide (n<256)=FX n 8:=by
   unfold FX;rw[In];omega
  exact Wcl
 ·rw[show FX n 8=false from Gl sX]
  exact Wcl
theorem iH (n:Int)(w:A5):
  A9 prog 135 #[.int .i64 n,.int .i64 3] w fun e a=>e=.returned (.bool (FX n 3))/\w=a:=by
 by_cases b:0<=n
 ·have e:decide (n<8)=FX n 3:=by
   unfold FX;rw[In];omega
  exact Wcl
 ·rw[show FX n 3=false from Gl sX]
  exact Wcl
theorem dQ (k:Int)(w:A5):
  A9 prog 136 #[.int .i64 k] w fun e a=>e=.returned (.bool (DS k))/\w=a:=by
 have c:=fun w=>eK k w
 go_enter func136,ntmps136
 go_wp2_with fail
 refine(c _).mono ?_;rintro e b ⟨rfl,rfl⟩
 exact Wck
theorem fP (b:Bool)(w:A5):
  A9 prog 103 #[.bool b] w fun e a=>e=.returned (.int .i64 (if b then 1 else 0))/\w=a:=by
 cases b with
 |true=>
  go_enter func103,ntmps103
  exact Wck
 |false=>
  go_enter func103,ntmps103
  exact Wck
def K1 (l:List Int):Bool:=decide (l.length<=8)&&l.all IY
theorem Y3r {l:List Int}(h:8<l.length):K1 l=false:=by
 unfold K1;rw[Gl sX];rfl
theorem mR (x:Int):FX x 8=IY x:=by
 unfold FX IY;rw[In];omega
theorem Y64 {l:List Int}(a:¬ 8<l.length)(h:l.all IY=true):K1 l=true:=by
 unfold K1;rw[Gm sX,h];rfl
theorem oD {l:List Int}{j:Nat}(hj:j<l.length)(h:IY (l.getD j 0)=false):K1 l=false:=by
 unfold K1;rw[Bool.and_eq_false_iff]
 right
 rw[Gj];refine⟨l[j],Bl hj,?_⟩;rw[show l.getD j 0=l[j] by simp[List.getD,hj]] at h;rw[h];decide
theorem mL {l:List Int}{j:Nat}(hj:j<l.length)(h:(l.take j).all IY=true)(h2:IY (l.getD j 0)=true):(l.take (j+1)).all IY=true:=by
 rw[show l.getD j 0=l[j] by simp[List.getD,hj]] at h2;rw[Bd hj,Dy,h,Gt,h2]
 rfl
theorem qC (p:Option Aa)(l:List Int)(cap:Nat)(hl:l.length<=maxLen)(w:A5)(h:BO w p l):
  A9 prog 137 #[.slice p l.length cap] w fun e v=>e=.returned (.bool (K1 l))/\w=v:=by
 unfold maxLen at hl;by_cases g:8<l.length
 ·have t0:decide (8<(l.length:Int))=true:=sU;rw[Y3r g];generalize l.length=n at *;clear h g
  go_enter func137,ntmps137
  exact Wck
 ·have t0:decide (8<(l.length:Int))=false:=sU;have a:=fun h=>Y64 (l:=l) g h;have k:=fun j hj h=>oD (l:=l) (j:=j) hj h;obtain⟨S,u⟩:=Ah (K1 l);rw[u] at a k ⊢;have d:=Dm a;have m:=Dm k;have c:=fun n w=>Xl n w;simp only[mR] at c;have q:=fun y=>h.hold y;clear h g u a k
  go_enter func137,ntmps137
  go_wp2
  go_loop [10] (fun i=>∃j:Nat,j<=l.length/\i=.int .i64 j/\Hid ((l.take j).all IY=true)) (fun i=>l.length-(intOf i).toNat)
  case atStart=>exact⟨0,Do _,rfl,Dm rfl⟩
  case round=>
   obtain⟨j,hj,rfl,r⟩:=hrel;by_cases f:j<l.length
   ·have t1:decide ((j:Int)<(l.length:Int))=true:=sU;obtain⟨b,o,rfl,A,hc⟩:=q sX;have B:=hc w (Dn _ w) j f;have s:=fun h=>mL f r.out h;have t:=m.out j f;clear hc q d m;generalize l.getD j 0=x at *;cases hx:IY x with
    |true=>
     have M:=Dm (s hx);clear s t
     go_wp2_with fail
     refine(c _ _).mono ?_;rintro e z ⟨rfl,rfl⟩;rw[hx]
     go_wp2
     go_round
     case rel=>exact⟨j+1,sX,tP,M⟩
     case measure=>simp[intOf];omega
    |false=>
     have N:=Dm (t hx);clear s t
     go_wp2_with fail
     refine(c _ _).mono ?_;rintro e z ⟨rfl,rfl⟩;rw[hx]
     go_wp2
     go_ret
     exact⟨vG,rfl⟩
   ·obtain rfl:l.length=j:=sX;have t1:decide ((l.length:Int)<(l.length:Int))=false:=sV;have Y:=Dm (d.out (by have:=r.out;rwa [Il] at this));clear q d m r
    go_wp2
    go_ret
    exact⟨by rw[Y.out];rfl,rfl⟩
def AU (h:Shd)(sl rw:A0)(z:Int):List A0:=[.int .i64 h.ref,.int .i64 h.flags,.int .i64 h.fmt,.bool h.inter,.int .i64 h.quant,sl,rw,.int .i64 z]
theorem Tc:(prog.info? 39).map (·.size)=some 8:=tN
theorem XL (h:Shd)(sl a:A0)(z:Int):(prog.info? 39).map (·.size)=some (AU h sl a z).toArray.size:=Tc
theorem OI (h:Shd)(p q:Option Aa)(n m c d:Nat)(z:Int):(AU h (.slice p n c) (.slice q m d) z).toArray.all (·.oneCell')=true:=by simp[AU,Value.oneCell']
theorem Qpn (h:Shd):GG h=(FX h.ref 8&&(FX h.flags 3&&(DS h.fmt&&(decide (1<=h.quant)&&(decide (h.quant<=31)&&K1 h.supp))))):=by
 have e:decide (0<=h.ref/\h.ref<=255/\0<=h.flags/\h.flags<=7/\1<=h.quant/\h.quant<=31)=(FX h.ref 8&&(FX h.flags 3&&(decide (1<=h.quant)&&decide (h.quant<=31)))):=by
  rw[I7];unfold FX;simp only[Al,Fg];omega
 unfold GG K1;rw[e];cases FX h.ref 8 <;> cases FX h.flags 3 <;> cases DS h.fmt <;> cases decide (1<=h.quant) <;> cases decide (h.quant<=31) <;> rfl
theorem WW (h:Shd)(p:Option Aa)(cap:Nat)(l:A0)(z:Int)(hl:h.supp.length<=maxLen)(w:A5)(hs:BO w p h.supp):
  A9 prog 102 #[.agg (AU h (.slice p h.supp.length cap) l z).toArray] w fun e r=>e=.returned (.bool (GG h))/\Below w.heap.size w r:=by
 have m:=fun x (s:Below w.heap.size w x)=>qC p h.supp cap hl x (hs.below s);rw[Qpn];obtain⟨f,a,g,inter,b,i⟩:=h;have c1:=fun w=>Xl f w;have c2:=fun w=>iH a w;have c3:=fun w=>dQ g w;unfold AU;dsimp only at m ⊢;obtain⟨c,h1⟩:=Ah (FX f 8);obtain⟨b2,h2⟩:=Ah (FX a 3);obtain⟨b3,h3⟩:=Ah (DS g);obtain⟨b4,h4⟩:=Ah (decide (1<=b));obtain⟨d,t⟩:=Ah (decide (b<=31));obtain⟨j,n⟩:=Ah (K1 i);rw[h1] at c1;rw[h2] at c2;rw[h3] at c3;rw[n] at m;rw[h1,h2,h3,h4,t,n];have u:c=false\/(c=true/\b2=false)\/(c=true/\b2=true/\b3=false)\/(c=true/\b2=true/\b3=true/\b4=false)\/(c=true/\b2=true/\b3=true/\b4=true/\d=false)\/(c=true/\b2=true/\b3=true/\b4=true/\d=true/\j=false)\/(c=true/\b2=true/\b3=true/\b4=true/\d=true/\j=true):=by
  revert c b2 b3 b4 d j;intro c _ _ b2 _ _ b3 _ _ b4 _ d _ j _ _;cases c <;> cases b2 <;> cases b3 <;> cases b4 <;> cases d <;> cases j <;> simp
 clear h1 h2 h3 n hl hs;have k:=fun o=>(Dn _ w).alloc (B9 _) o;rcases u with rfl|⟨rfl,rfl⟩|⟨rfl,rfl,rfl⟩|⟨rfl,rfl,rfl,rfl⟩|⟨rfl,rfl,rfl,rfl,rfl⟩|⟨rfl,rfl,rfl,rfl,rfl,rfl⟩|⟨rfl,rfl,rfl,rfl,rfl,rfl⟩
 all_goals
  go_enter func102,ntmps102
  go_wp2_with (first
   |(go_at_call 135;first|(with_reducible refine(c1 _).mono ?_;rintro e q ⟨rfl,rfl⟩)|(with_reducible refine(c2 _).mono ?_;rintro e q ⟨rfl,rfl⟩))
   |(go_at_call 136;refine(c3 _).mono ?_;rintro e q ⟨rfl,rfl⟩)
   |(go_at_call 137;refine(m _ (k _)).mono ?_;rintro e q ⟨rfl,rfl⟩))
  go_ret
  exact⟨rfl,k _⟩
def FF:List Int->List UInt8
 |[]=>[]
 |b::l=>49::(AF b.toNat 8++FF l)
theorem eU:∀(l:List Int) (b:Int),FF (l++[b])=FF l++AF 1 1++AF b.toNat 8
 |[],b=>by simp[FF];rfl
 |c::l,b=>by rw[Im,FF,eU l b,FF];simp only[Im,Bg]
theorem Za:∀l:List Int,(FF l).length=9*l.length
 |[]=>rfl
 |b::l=>by rw[FF,An,B8,BS,Za l,An];omega
theorem WA:∀l:List Int,FF l++AF 0 1=IW l
 |[]=>rfl
 |b::l=>by rw[FF,IW,Im,Bg,WA l]
theorem nS {l:List Int}{j:Nat}(hj:j<l.length):FF (l.take j)++AF 1 1++AF (l.getD j 0).toNat 8=FF (l.take (j+1)):=by
 rw[Bd hj,eU,show l[j]=l.getD j 0 by simp[List.getD,hj]]
theorem LJ {v n:Int}(h:0<=n/\n<=32)(a:0<=v)(h1:v<2^n.toNat):EW v n=true:=by
 unfold EW;rw[Fg];exact⟨h.1,h.2,a,h1⟩
theorem Qmo (a:Aa)(h:Shd)(p:Option Aa)(cap:Nat)(b:A0)(z:Int)(hl:h.supp.length<=maxLen)(w:A5)(hs:BO w p h.supp)(hm:GG h=false):
  A9 prog 71 #[.pointer (some a),.agg (AU h (.slice p h.supp.length cap) b z).toArray] w fun e l=>e=.returned (.int .i64 12)/\Below w.heap.size w l:=by
 have c:=fun x (m:Below w.heap.size w x)=>WW h p cap b z hl x (hs.below m);rw[hm] at c;obtain⟨n,f,q,inter,g,k⟩:=h;unfold AU at *;dsimp only at *;have d:=fun o=>(Dn _ w).alloc (B9 _) o;clear hm hs hl
 go_enter func71,ntmps71
 go_wp2_with fail
 refine(c _ (d _)).mono ?_;rintro e r ⟨rfl,i⟩;have j:=(d _).trans (i.mono sV)
 go_wp2
 go_ret
 exact⟨rfl,j⟩
theorem Zq (w:A5)(B b:Nat)(r:List UInt8)(h:Shd)(p:Option Aa)(cap:Nat)(ac:A0)(z:Int)(hs:∀x,w.grownBy x (some b)->BO x p h.supp)(hm:GG h=true)(hw:AN w B b r)(hn:r.length+400<=1099511627776)(hB:B<=w.heap.size):
  A9 prog 71 #[.pointer (some ⟨b,0,none⟩),.agg (AU h (.slice p h.supp.length cap) ac z).toArray] w fun e w'=>e=.returned (.int .i64 0)/\AN w' B b (EH r 0++EN h)/\w.grownBy w' (some b):=by
 obtain⟨⟨r1,r2,f1,f2,q1,q2⟩,⟨m1,m2⟩,b3,an⟩:=LL.1 hm;have c:=fun x (hx:Below w.heap.size w x)=>WW h p cap ac z tK x (hs x (BF hx _));rw[hm] at c;have C:EN h=MG h++(FF h.supp++AF 0 1):=by rw[WA];rfl
 unfold MG P3 at C;obtain⟨D,t,E,inter,u,d⟩:=h;unfold AU at *;dsimp only at *;have cn:=fun w=>fP inter w;have ao:0<=(if inter=true then (1:Int) else 0)/\(if inter=true then (1:Int) else 0)<2/\(if inter=true then (1:Nat) else 0)=(if inter=true then (1:Int) else 0).toNat:=by cases inter <;> decide
 obtain⟨i0,i1,i2⟩:=ao;rw[i2] at C;generalize (if inter=true then (1:Int) else 0)=bi at cn i0 i1 C;clear i2;have G:=Rv r.length;have ad:=Uo r 0;have cm:=fun x (hx:AN x B b r) hz=>Vk x B b r 0 sY hx sX hz;have ab:r++List.replicate (gap r.length) 48++DJ 0=EH r 0:=rfl;rw[ab] at cm;obtain⟨ap,aq⟩:=Ah (EH r 0);rw[aq] at cm ad ⊢;obtain⟨ar,O⟩:=Ah (ap++AF D.toNat 8);have a5:ar.length=ap.length+8:=by rw[<-O,B8,BS]
 have bh:Hid (EW D 8=true):=Dm (LJ sX sX (by show _<(2:Int)^8;omega));have bj:Hid (ap++AF (D:Int).toNat (8:Int).toNat=ar):=Dm O;obtain⟨au,P⟩:=Ah (ar++AF 2 2);have a6:au.length=ar.length+2:=by rw[<-P,B8,BS]
 have bk:Hid (EW 2 2=true):=Dm (LJ sX sX (by show _<(2:Int)^2;omega));have bl:Hid (ar++AF (2:Int).toNat (2:Int).toNat=au):=Dm P;obtain⟨av,Q⟩:=Ah (au++AF t.toNat 3);have a7:av.length=au.length+3:=by rw[<-Q,B8,BS]
 have bm:Hid (EW t 3=true):=Dm (LJ sX sX (by show _<(2:Int)^3;omega));have bn:Hid (au++AF (t:Int).toNat (3:Int).toNat=av):=Dm Q;obtain⟨aw,R⟩:=Ah (av++AF E.toNat 3);have a8:aw.length=av.length+3:=by rw[<-R,B8,BS]
 have bo:Hid (EW E 3=true):=Dm (LJ sX sX (by show _<(2:Int)^3;omega));have bp:Hid (av++AF (E:Int).toNat (3:Int).toNat=aw):=Dm R;obtain⟨ax,S⟩:=Ah (aw++AF bi.toNat 1);have a9:ax.length=aw.length+1:=by rw[<-S,B8,BS]
 have bq:Hid (EW bi 1=true):=Dm (LJ sX sX (by show _<(2:Int)^1;omega));have br:Hid (aw++AF (bi:Int).toNat (1:Int).toNat=ax):=Dm S;obtain⟨ay,T⟩:=Ah (ax++AF 0 4);have ba:ay.length=ax.length+4:=by rw[<-T,B8,BS]
 have bs:Hid (EW 0 4=true):=Dm (LJ sX sX (by show _<(2:Int)^4;omega));have bt:Hid (ax++AF (0:Int).toNat (4:Int).toNat=ay):=Dm T;obtain⟨az,U⟩:=Ah (ay++AF u.toNat 5);have bb:az.length=ay.length+5:=by rw[<-U,B8,BS]
 have bu:Hid (EW u 5=true):=Dm (LJ sX sX (by show _<(2:Int)^5;omega));have bv:Hid (ay++AF (u:Int).toNat (5:Int).toNat=az):=Dm U;obtain⟨M,V⟩:=Ah (az++AF 0 1);have bc:M.length=az.length+1:=by rw[<-V,B8,BS]
 have bw:Hid (EW 0 1=true):=Dm (LJ sX sX (by show _<(2:Int)^1;omega));have b4:Hid (az++AF (0:Int).toNat (1:Int).toNat=M):=Dm V;have ae:Hid (M++(FF d++AF 0 1)=ap++EN ⟨D,t,E,inter,u,d⟩):=Dm (by
  rw[C,<-V,<-U,<-T,<-S,<-R,<-Q,<-P,<-O];simp only[Bg])
 obtain⟨b5,a0⟩:=Ah (ap++EN ⟨D,t,E,inter,u,d⟩);rw[a0] at ae ⊢;have bx:=fun j hj=>nS (l:=d) (j:=j) hj;have bz:∀j,j<d.length->0<=d.getD j 0/\d.getD j 0<=255:=fun j hj=>by
  rw[show d.getD j 0=d[j] by simp[List.getD,hj]];exact an _ (Bl hj)
 have b0:∀j,j<=d.length->(FF (d.take j)).length=9*j:=fun j hj=>by rw[Za,Be];omega
 have b6:=Dm (show d.take d.length=d from Il);have af:=Dm bx;have ag:=Dm bz;have ah:=Dm b0;have W:b<w.heap.size:=hw.lt;clear C a0 O P Q R S T U V an hm ab aq bx bz b0;have b7:Hid (EW 1 1=true):=Dm sY;have X:=fun o=>(Dn _ w).alloc (B9 _) o;obtain⟨A,hA⟩:=Ah w.heap.size
 go_enter func71,ntmps71
 go_wp2_with fail
 refine(c _ (X _)).mono ?_;rintro e Y ⟨rfl,L⟩;have ai:w.grownBy Y (some b):=BF ((X _).trans (L.mono sV)) _;have aj:AN Y B b r:=hw.below ((X _).trans (L.mono sV));have hh:Y.heap[A]? =some (.cells [.int .i64 D,.int .i64 t,.int .i64 E,.bool inter,.int .i64 u,.slice p d.length cap,ac,.int .i64 z].toArray 39 (0,0)):=(L.block A sU).trans (hA▸heap_alloc_new w _);have b8:A+1<=Y.heap.size:=by have:=L.size;simp at this;omega
 have b9:b<A:=sX;clear L X c hw;have Z:Hid (∀x,Y.grownBy x (some b)->x.cell? ⟨A,0,none⟩=some (.int .i64 D)/\x.cell? ⟨A,1,none⟩=some (.int .i64 t)/\x.cell? ⟨A,2,none⟩=some (.int .i64 E)/\x.cell? ⟨A,3,none⟩=some (.bool inter)/\x.cell? ⟨A,4,none⟩=some (.int .i64 u)/\x.cell? ⟨A,5,none⟩=some (.slice p d.length cap)):=Dm fun x hx=>by
  have h2:=(hx.block A sX tV).trans hh;exact⟨AA h2 rfl,AA h2 rfl,AA h2 rfl,AA h2 rfl,AA h2 rfl,AA h2 rfl⟩
 have bd:Hid (∀x,Y.grownBy x (some b)->BO x p d):=Dm fun x hx=>hs x (AP ai hx);clear hh hs;generalize ak:Y=N at aj ⊢;have q:Y.grownBy N (some b):=by rw[<-ak];exact BF (Dn _ _) _
 have s:B<=N.heap.size:=by rw[<-ak];omega
 clear ak
 go_wp2_with fail
 refine(cm _ aj s).mono ?_;rintro e y0 ⟨rfl,g,a⟩;have k:=AP q a;have m:B<=y0.heap.size:=Ef s a.size;clear aj a q s cm;obtain⟨y,F,H,I,J,K⟩:=Z.out _ k
 go_wp2_with fail
 refine(IG _ B b _ D 8 g sX bh.out sX m).mono ?_;rintro e N ⟨rfl,f,a⟩;rw[bj.out] at f;have q:=AP k a;have s:B<=N.heap.size:=Ef m a.size;clear g;have g:=f;clear f a k m y F H I J K;obtain⟨y,F,H,I,J,K⟩:=Z.out _ q
 go_wp2_with fail
 refine(IG _ B b _ 2 2 g sX bk.out sX s).mono ?_;rintro e y0 ⟨rfl,f,a⟩;rw[bl.out] at f;have k:=AP q a;have m:B<=y0.heap.size:=Ef s a.size;clear g;have g:=f;clear f a q s y F H I J K;obtain⟨y,F,H,I,J,K⟩:=Z.out _ k
 go_wp2_with fail
 refine(IG _ B b _ t 3 g sX bm.out sX m).mono ?_;rintro e N ⟨rfl,f,a⟩;rw[bn.out] at f;have q:=AP k a;have s:B<=N.heap.size:=Ef m a.size;clear g;have g:=f;clear f a k m y F H I J K;obtain⟨y,F,H,I,J,K⟩:=Z.out _ q
 go_wp2_with fail
 refine(IG _ B b _ E 3 g sX bo.out sX s).mono ?_;rintro e y0 ⟨rfl,f,a⟩;rw[bp.out] at f;have k:=AP q a;have m:B<=y0.heap.size:=Ef s a.size;clear g;have g:=f;clear f a q s y F H I J K;obtain⟨y,F,H,I,J,K⟩:=Z.out _ k
 go_wp2_with fail
 refine(cn _).mono ?_;rintro e u0 ⟨rfl,rfl⟩
 go_wp2_with fail
 refine(IG _ B b _ bi 1 g sX bq.out sX m).mono ?_;rintro e N ⟨rfl,f,a⟩;rw[br.out] at f;have q:=AP k a;have s:B<=N.heap.size:=Ef m a.size;clear g;have g:=f;clear f a k m y F H I J K;obtain⟨y,F,H,I,J,K⟩:=Z.out _ q
 go_wp2_with fail
 refine(IG _ B b _ 0 4 g sX bs.out sX s).mono ?_;rintro e y0 ⟨rfl,f,a⟩;rw[bt.out] at f;have k:=AP q a;have m:B<=y0.heap.size:=Ef s a.size;clear g;have g:=f;clear f a q s y F H I J K;obtain⟨y,F,H,I,J,K⟩:=Z.out _ k
 go_wp2_with fail
 refine(IG _ B b _ u 5 g sX bu.out sX m).mono ?_;rintro e N ⟨rfl,f,a⟩;rw[bv.out] at f;have q:=AP k a;have s:B<=N.heap.size:=Ef m a.size;clear g;have g:=f;clear f a k m y F H I J K;obtain⟨y,F,H,I,J,K⟩:=Z.out _ q
 go_wp2_with fail
 refine(IG _ B b _ 0 1 g sX bw.out sX s).mono ?_;rintro e y0 ⟨rfl,f,a⟩;rw[b4.out] at f;have k:=AP q a;have m:B<=y0.heap.size:=Ef s a.size;clear g;have g:=f;clear f a q s y F H I J K;obtain⟨y,F,H,I,J,K⟩:=Z.out _ k
 go_wp2
 clear y F H I J K cn bh bk bm bo bq bs bu bj bl bn bp br bt bv hA
 go_loopw [44] (fun i wr=>∃j:Nat,j<=d.length/\i=.int .i64 j/\AN wr B b (M++FF (d.take j))/\Y.grownBy wr (some b)/\B<=wr.heap.size) (fun i _=>d.length-(RowKit.intOf i).toNat)
 case atStart=>exact⟨0,Do _,rfl,by rw[Bk];show AN _ B b (M++[]);rw[Fa];exact g,k,m⟩
 case round=>
  clear g k m;obtain⟨j,hj,rfl,g,k,m⟩:=hrel;have a1:=ah.out j hj;by_cases W:j<d.length
  ·have t1:decide ((j:Int)<(d.length:Int))=true:=sU;obtain⟨b1,o1,rfl,L,a2⟩:=(bd.out _ k).hold sX;have y:=a2 _ (Dn _ _) j W;obtain⟨v0,v1⟩:=ag.out j W;have aa:=af.out j W;clear bd ag af ah a2;obtain⟨v,hv⟩:=Ah (d.getD j 0);rw[hv] at y v0 v1 aa;obtain⟨bf,al⟩:=Ah (FF (d.take j));obtain⟨ca,am⟩:=Ah (FF (d.take (j+1)));rw[al,am] at aa;rw[al] at g a1;have cb:=Dm (LJ (v:=v) (n:=8) sX v0 (by show _<(2:Int)^8;omega));have bg:=Dm am;have cc:Hid (M++bf++AF (1:Int).toNat (1:Int).toNat++AF v.toNat (8:Int).toNat=M++ca):=Dm (by rw[<-aa];simp only[Bg];rfl);clear hv al am aa;have a3:(M++bf).length<=r.length+200:=by rw[B8];omega
   have b2:(M++bf++AF (1:Int).toNat (1:Int).toNat).length<=r.length+201:=by rw[B8,BS];have e:(1:Int).toNat=1:=rfl;omega
   go_wp2_with fail
   refine(IG _ B b _ 1 1 g sX b7.out sX m).mono ?_;rintro e x1 ⟨rfl,f,a⟩;have q:=AP k a;have s:B<=x1.heap.size:=Ef m a.size;clear g a k m y
   go_wp2_with fail
   refine(IG _ B b _ v 8 f sX cb.out sX s).mono ?_;rintro e x2 ⟨rfl,a4,a⟩;rw[cc.out] at a4;have k:=AP q a;have m:B<=x2.heap.size:=Ef s a.size;clear f a q s
   go_wp2
   go_roundw
   case rel=>exact⟨j+1,sX,tP,by rw[bg.out];exact a4,k,m⟩
   case measure=>simp[RowKit.intOf];omega
  ·obtain rfl:d.length=j:=sX;have t1:decide ((d.length:Int)<(d.length:Int))=false:=sV;rw[b6.out] at g a1;have cd:Hid (M++FF d++AF (0:Int).toNat (1:Int).toNat=b5):=Dm (by rw[<-ae.out];simp only[Bg];rfl);have a3:(M++FF d).length<=r.length+200:=by rw[B8];omega
   clear bd ag af ah ae
   go_wp2_with fail
   refine(IG _ B b _ 0 1 g sX bw.out sX m).mono ?_;rintro e x1 ⟨rfl,f,a⟩;rw[cd.out] at f;have q:=AP ai (AP k a);clear g a k m ai
   go_wp2
   go_ret
   exact⟨rfl,f,q⟩
theorem dL {l:List UInt8}{p:Nat}(h:p%8≠0):CR l p=4:=Bb h
theorem XP {l:List UInt8}{p:Nat}(h:p%8=0)(h2:(AM l p).2≠0):CR l p=(AM l p).2:=by
 unfold CR;rw[Ba sX,Bb h2]
theorem ZI {l:List UInt8}{p:Nat}(h:p%8=0)(h2:(AM l p).2=0)(h1:(AM l p).1≠0):CR l p=4:=by
 unfold CR;rw[Ba sX,Ba (fun k=>k h2),Bb h1]
theorem XJ {l:List UInt8}{p:Nat}(h:p%8=0)(h2:(AM l p).2=0)(h1:(AM l p).1=0):CR l p=0:=by
 unfold CR;rw[Ba sX,Ba (fun k=>k h2),Ba (fun k=>k h1)]
def PH (l:List UInt8)(p:Nat):Nat:=if CR l p=0 then p+22 else p
theorem pP (w:A5)(b:Nat)(s:ByteArray)(p:Nat)(hr:AE w b s p)(hs:s.size<=1099511627776):
  A9 prog 173 #[.pointer (some ⟨b,0,none⟩)] w fun e y=>e=.returned (.int .i64 (CR s.data.toList p))/\AE y b s (PH s.data.toList p)/\w.grownBy y (some b):=by
 have t:=hr.2.1;have d:s.data.toList.length=s.size:=rfl;have hm:(p:Int).tmod 8=((p%8:Nat):Int):=by rw[Ik (by omega)];rfl
 have ca:=fun w=>EF w b s p;by_cases g:p%8=0
 ·have d8:((((p%8:Nat):Int)) != 0)=false:=by rw[g];rfl
  have c1:=fun w=>Vh w s (p:Int) hs;have o:=fun h2=>XP (l:=s.data.toList) g h2;have i:=fun h2 h1=>ZI (l:=s.data.toList) g h2 h1;have j:=fun h2 h1=>XJ (l:=s.data.toList) g h2 h1;have q:=fun h=>fR (l:=s.data.toList) (p:=p) h;generalize p%8=A at hm d8;obtain⟨m,k⟩:=Ah ((AM s.data.toList p).1);obtain⟨f,u⟩:=Ah ((AM s.data.toList p).2);rw[k,u] at c1;rw[u] at o i j;rw[k] at i j;unfold PH;obtain⟨S,z⟩:=Ah (CR s.data.toList p);rw[z] at o i j q ⊢;clear z k u g;by_cases h2:f=0
  ·by_cases h1:m=0
   ·obtain rfl:=j h2 h1;obtain⟨-,B,-⟩:=q rfl;have K:=Dm (EK (l:=s.data.toList) (p:=p) (n:=22) sX sX);have T:Hid (CM s.data.toList p 22=p+22):=Dm vD;subst h2 h1;rw[Bb rfl];clear o i j q B t d
    go_enter func173,ntmps173
    go_wp2_with fail
    refine(ca _ hr).mono ?_;rintro e c ⟨rfl,rfl⟩
    go_wp2_with fail
    refine(MH _ _ _ _ hr).mono ?_;rintro e c ⟨rfl,rfl⟩
    go_wp2_with fail
    refine(ca _ hr).mono ?_;rintro e c ⟨rfl,rfl⟩
    go_wp2_with fail
    refine(c1 _).mono ?_;rintro e c ⟨rfl,a⟩;have v:=hr.below a;have x:=BF a (some b);clear hr a
    go_wp2_with fail
    refine(JH _ _ _ _ 22 v).mono ?_;rintro e C ⟨rfl,r,hg4⟩;rw[T.out] at r;rw[K.out]
    go_wp2
    go_ret
    exact⟨rfl,r,AP x hg4⟩
   ·obtain rfl:=i h2 h1;have d1:(m != 0)=true:=by rw[Fj];exact h1
    subst h2;rw[Ba sY];clear o i j q t d h1
    exact Wcj
  ·obtain rfl:=o h2;have d2:(S != 0)=true:=by rw[Fj];exact h2
   rw[Ba h2];clear o i j q t d h2
   exact Wcj
 ·have d8:((((p%8:Nat):Int)) != 0)=true:=uF;unfold PH;rw[dL g,Ba sY];generalize p%8=A at hm d8;clear g t d
  go_enter func173,ntmps173
  go_wp2_with fail
  refine(ca _ hr).mono ?_;rintro e c ⟨rfl,rfl⟩
  go_wp2
  go_ret
  exact⟨rfl,hr,BF (Dn _ _) _⟩
def FG (l:List UInt8)(e:Int)(q:Nat)(d:Int):Int:=if e=0 then (ask l q d).1 else 0
def FB (l:List UInt8)(e:Int)(q:Nat)(d:Int):Int:=if e=0 then (ask l q d).2 else e
def FE (l:List UInt8)(e:Int)(q:Nat)(d:Int):Nat:=if e=0 then CM l q d else q
structure Cap (w:A5) (X Y b:Nat) (s:ByteArray) (e:Int) (q:Nat):Prop where
 wrong:w.heap[X]? =some (.cells [.int .i64 e].toArray 27 (0,0))
 box:w.heap[Y]? =some (.cells [.pointer (some ⟨b,0,none⟩)].toArray 54 (0,0))
 rd:AE w b s q
 apart:X≠Y/\X≠b/\Y≠b
theorem Cap.set {w:A5}{X Y b:Nat}{s:ByteArray}{e:Int}{q:Nat}(h:Cap w X Y b s e q)(a:Aa)(v:A0)(c:a.block≠X/\a.block≠Y/\a.block≠b):Cap (w.setCell a v) X Y b s e q:=
 ⟨(Ib _ _ _ _ sX).trans h.wrong,(Ib _ _ _ _ sX).trans h.box,⟨(Ib _ _ _ _ sX).trans h.rd.1,h.rd.2⟩,h.apart⟩
theorem KY (w:A5)(X Y b:Nat)(s:ByteArray)(e:Int)(q:Nat)(d:Int)(h:Cap w X Y b s e q):
  A9 prog 174 #[.int .i64 d,.pointer (some ⟨X,0,none⟩),.pointer (some ⟨Y,0,none⟩)] w fun r m=>r=.returned (.int .i64 (FG s.data.toList e q d))/\Cap m X Y b s (FB s.data.toList e q d) (FE s.data.toList e q d)/\Ybe X b w m:=by
 have n:w.cell? ⟨X,0,none⟩=some (.int .i64 e):=AA h.wrong rfl;have o:w.cell? ⟨Y,0,none⟩=some (.pointer (some ⟨b,0,none⟩)):=AA h.box rfl;obtain⟨p,t,u⟩:=h.apart;have i:=Dm h;unfold FG FB FE;by_cases a:e=0
 ·rw[Bb a,Bb a,Bb a];subst a;have c:=fun w hr=>JH w b s q d hr;generalize (ask s.data.toList q d).1=v at *;generalize (ask s.data.toList q d).2=f at *;generalize CM s.data.toList q d=y at *;clear h
  go_enter func174,ntmps174
  go_wp2_with fail
  refine(c _ i.out.rd).mono ?_;rintro e k ⟨rfl,j,g⟩;have l:k.heap[X]? =some (.cells [.int .i64 0].toArray 27 (0,0)):=(g.block X (Am.1 i.out.wrong).1 tV).trans i.out.wrong;have x:=(g.block Y (Am.1 i.out.box).1 tV).trans i.out.box;have z:k.cell? ⟨X,0,none⟩=some (.int .i64 0):=AA l rfl;have A:k.frozen? ⟨X,0,none⟩=false:=AL l;clear n o
  go_wp2
  go_ret
  refine⟨rfl,⟨B3 (.int .i64 f) l,(Ib _ _ _ _ (by show Y≠X;omega)).trans x,⟨(Ib _ _ _ _ (by show b≠X;omega)).trans j.1,j.2⟩,p,t,u⟩,(Ybe.grown g (.inr rfl)).trans (Ybe.set _ (.inl rfl))⟩
 ·rw[Ba a,Ba a,Ba a];have d1:(e != 0)=true:=by rw[Fj];exact a
  clear h a
  go_enter func174,ntmps174
  go_wp2
  go_ret
  exact⟨rfl,i.out,Ybe.refl _ _ _⟩
def Jx (e:Int)(a:Bool)(b:Int):Int:=if e=0/\a=false then b else e
theorem P4 (w:A5)(X Y b:Nat)(s:ByteArray)(e:Int)(q:Nat)(a:Bool)(c:Int)(h:Cap w X Y b s e q):
  A9 prog 175 #[.bool a,.int .i64 c,.pointer (some ⟨X,0,none⟩)] w fun r g=>r=.returned (.tuple #[])/\Cap g X Y b s (Jx e a c) q/\Ybe X b w g:=by
 have l:w.cell? ⟨X,0,none⟩=some (.int .i64 e):=AA h.wrong rfl;have f0:w.frozen? ⟨X,0,none⟩=false:=AL h.wrong;obtain⟨i,j,k⟩:=h.apart;have d:=Dm h;unfold Jx;by_cases f:e=0
 ·subst f;cases a with
  |true=>
   rw[Ba sV];clear h
   exact Wcm
  |false=>
   rw[Bb sV];clear h
   go_enter func175,ntmps175
   go_wp2
   go_end0
   refine⟨rfl,⟨B3 (.int .i64 c) d.out.wrong,(Ib _ _ _ _ (by show Y≠X;omega)).trans d.out.box,⟨(Ib _ _ _ _ (by show b≠X;omega)).trans d.out.rd.1,d.out.rd.2⟩,i,j,k⟩,Ybe.set _ (.inl rfl)⟩
 ·rw[Ba sX];have d1:(e==0)=false:=by rw[Fe];exact f
  clear h f
  exact Wcm
end Go.Proofs.YtjjmalchelniiaaGreatDoor