/- StripsWrites, 15. No condition. -/
import Derived.Test.YtjjmalchelniiaaGreatDoorStripsWritesMg
import Derived.Test.YtjjmalchelniiaaGreatDoorStripsWritesMh
import Derived.Test.YtjjmalchelniiaaGreatDoorStripsWritesMi
import Derived.Test.YtjjmalchelniiaaGreatDoorStripsWritesMj
import Derived.Test.YtjjmalchelniiaaGreatDoorStripsWritesMk
import Derived.Test.YtjjmalchelniiaaGreatDoorStripsWritesMl
import Derived.Test.YtjjmalchelniiaaGreatDoorStripsWritesMm
import Derived.Test.YtjjmalchelniiaaGreatDoorStripsWritesMn
open Go.Proofs.Tryz
open Go renaming World->A5,Calls->A9,Addr->Aa,Value->A0
set_option maxHeartbeats 4000000
namespace Go.Proofs.YtjjmalchelniiaaGreatDoor
open Go.RowKit Go.Lib
abbrev J1:=@List.take_length
abbrev J2:=@List.cons_append
abbrev J3:=@decide_eq_decide
def FN (n:Int)(d:Nat):Bool:=decide (0<=n/\n<2^d)
theorem aD (n:Int)(w:A5):
  A9 prog 135 #[.int .i64 n,.int .i64 8] w fun e a=>e=.returned (.bool (FN n 8))/\w=a:=by
 by_cases b:0<=n
 ·have e:decide (n<256)=FN n 8:=by
   unfold FN;rw[J3];omega
  go_enter func135,ntmps135
  go_wp2
  go_ret
  exact⟨rfl,rfl⟩
 ·rw[show FN n 8=false from I3 (by omega)]
  go_enter func135,ntmps135
  go_wp2
  go_ret
  exact⟨rfl,rfl⟩
theorem lO (n:Int)(w:A5):
  A9 prog 135 #[.int .i64 n,.int .i64 3] w fun e a=>e=.returned (.bool (FN n 3))/\w=a:=by
 by_cases b:0<=n
 ·have e:decide (n<8)=FN n 3:=by
   unfold FN;rw[J3];omega
  go_enter func135,ntmps135
  go_wp2
  go_ret
  exact⟨rfl,rfl⟩
 ·rw[show FN n 3=false from I3 (by omega)]
  go_enter func135,ntmps135
  go_wp2
  go_ret
  exact⟨rfl,rfl⟩
theorem Xi (k:Int)(w:A5):
  A9 prog 136 #[.int .i64 k] w fun e a=>e=.returned (.bool (DV k))/\w=a:=by
 have c:=fun w=>VV k w
 go_enter func136,ntmps136
 go_wp2_with fail
 refine(c _).mono ?_;rintro e b ⟨rfl,rfl⟩
 go_wp2
 go_ret
 exact⟨rfl,rfl⟩
theorem Vz (b:Bool)(w:A5):
  A9 prog 103 #[.bool b] w fun e a=>e=.returned (.int .i64 (if b then 1 else 0))/\w=a:=by
 cases b with
 |true=>
  go_enter func103,ntmps103
  go_wp2
  go_ret
  exact⟨rfl,rfl⟩
 |false=>
  go_enter func103,ntmps103
  go_wp2
  go_ret
  exact⟨rfl,rfl⟩
def KB (l:List Int):Bool:=decide (l.length<=8)&&l.all ER
theorem jJ {l:List Int}(h:8<l.length):KB l=false:=by
 unfold KB;rw[I3 (by omega)];rfl
theorem sQ (x:Int):FN x 8=ER x:=by
 unfold FN ER;rw[J3];omega
theorem oJ {l:List Int}(a:¬ 8<l.length)(h:l.all ER=true):KB l=true:=by
 unfold KB;rw[I4 (by omega),h];rfl
theorem Qar {l:List Int}{j:Nat}(hj:j<l.length)(h:ER (l.getD j 0)=false):KB l=false:=by
 unfold KB;rw[Bool.and_eq_false_iff]
 right
 rw[Hs];refine⟨l[j],Bn hj,?_⟩;rw[show l.getD j 0=l[j] by simp[List.getD,hj]] at h;rw[h];decide
theorem aM {l:List Int}{j:Nat}(hj:j<l.length)(h:(l.take j).all ER=true)(h2:ER (l.getD j 0)=true):(l.take (j+1)).all ER=true:=by
 rw[show l.getD j 0=l[j] by simp[List.getD,hj]] at h2;rw[Be hj,E9,h,Gs,h2]
 rfl
theorem iB (p:Option Aa)(l:List Int)(cap:Nat)(hl:l.length<=maxLen)(w:A5)(h:CA w p l):
  A9 prog 137 #[.slice p l.length cap] w fun e u=>e=.returned (.bool (KB l))/\w=u:=by
 unfold maxLen at hl;by_cases g:8<l.length
 ·have t0:decide (8<(l.length:Int))=true:=by simp;omega
  rw[jJ g];generalize l.length=n at *;clear h g
  go_enter func137,ntmps137
  go_wp2
  go_ret
  exact⟨rfl,rfl⟩
 ·have t0:decide (8<(l.length:Int))=false:=by simp;omega
  have a:=fun h=>oJ (l:=l) g h;have no:=fun j hj h=>Qar (l:=l) (j:=j) hj h;obtain⟨S,t⟩:=Ah (KB l);rw[t] at a no ⊢;have d:=Dp a;have k:=Dp no;have c:=fun n w=>aD n w;simp only[sQ] at c;have m:=fun v=>h.hold v;clear h g t a no
  go_enter func137,ntmps137
  go_wp2
  go_loop [10] (fun i=>∃j:Nat,j<=l.length/\i=.int .i64 j/\Hid ((l.take j).all ER=true)) (fun i=>l.length-(intOf i).toNat)
  case atStart=>exact⟨0,Ds _,rfl,Dp rfl⟩
  case round=>
   obtain⟨j,hj,rfl,q⟩:=hrel;by_cases f:j<l.length
   ·have t1:decide ((j:Int)<(l.length:Int))=true:=by simp;omega
    obtain⟨b,o,rfl,z,hc⟩:=m (by omega);have A:=hc w (Dq _ w) j f;have r:=fun h=>aM f q.out h;have s:=k.out j f;clear hc m d k;generalize l.getD j 0=x at *;cases hx:ER x with
    |true=>
     have M:=Dp (r hx);clear r s
     go_wp2_with fail
     refine(c _ _).mono ?_;rintro e y ⟨rfl,rfl⟩;rw[hx]
     go_wp2
     go_round
     case rel=>exact⟨j+1,by omega,by go_num,M⟩
     case measure=>simp[intOf];omega
    |false=>
     have N:=Dp (s hx);clear r s
     go_wp2_with fail
     refine(c _ _).mono ?_;rintro e y ⟨rfl,rfl⟩;rw[hx]
     go_wp2
     go_ret
     exact⟨by rw[N.out];rfl,rfl⟩
   ·obtain rfl:l.length=j:=by omega
    have t1:decide ((l.length:Int)<(l.length:Int))=false:=by simp
    have Y:=Dp (d.out (by have:=q.out;rwa [J1] at this));clear m d k q
    go_wp2
    go_ret
    exact⟨by rw[Y.out];rfl,rfl⟩
def Bx (h:Shd)(sl rw:A0)(z:Int):List A0:=[.int .i64 h.ref,.int .i64 h.flags,.int .i64 h.fmt,.bool h.inter,.int .i64 h.quant,sl,rw,.int .i64 z]
theorem Vw:(prog.info? 39).map (·.size)=some 8:=by kernel_rfl
theorem Wd (h:Shd)(sl a:A0)(z:Int):(prog.info? 39).map (·.size)=some (Bx h sl a z).toArray.size:=Vw
theorem RA (h:Shd)(p q:Option Aa)(n m c d:Nat)(z:Int):(Bx h (.slice p n c) (.slice q m d) z).toArray.all (·.oneCell')=true:=by simp[Bx,Value.oneCell']
theorem jY (h:Shd):E5 h=(FN h.ref 8&&(FN h.flags 3&&(DV h.fmt&&(decide (1<=h.quant)&&(decide (h.quant<=31)&&KB h.supp))))):=by
 have e:decide (0<=h.ref/\h.ref<=255/\0<=h.flags/\h.flags<=7/\1<=h.quant/\h.quant<=31)=(FN h.ref 8&&(FN h.flags 3&&(decide (1<=h.quant)&&decide (h.quant<=31)))):=by
  rw[I6];unfold FN;simp only[Al,Fi];omega
 unfold E5 KB;rw[e];cases FN h.ref 8 <;> cases FN h.flags 3 <;> cases DV h.fmt <;> cases decide (1<=h.quant) <;> cases decide (h.quant<=31) <;> rfl
theorem ZV (h:Shd)(p:Option Aa)(cap:Nat)(l:A0)(z:Int)(hl:h.supp.length<=maxLen)(w:A5)(hs:CA w p h.supp):
  A9 prog 102 #[.agg (Bx h (.slice p h.supp.length cap) l z).toArray] w fun e r=>e=.returned (.bool (E5 h))/\Below w.heap.size w r:=by
 have m:=fun x (s:Below w.heap.size w x)=>iB p h.supp cap hl x (hs.below s);rw[jY];obtain⟨f,a,g,inter,b,i⟩:=h;have c1:=fun w=>aD f w;have c2:=fun w=>lO a w;have c3:=fun w=>Xi g w;unfold Bx;dsimp only at m ⊢;obtain⟨c,h1⟩:=Ah (FN f 8);obtain⟨b2,h2⟩:=Ah (FN a 3);obtain⟨b3,h3⟩:=Ah (DV g);obtain⟨b4,h4⟩:=Ah (decide (1<=b))
 obtain⟨d,t⟩:=Ah (decide (b<=31));obtain⟨j,n⟩:=Ah (KB i);rw[h1] at c1;rw[h2] at c2;rw[h3] at c3;rw[n] at m;rw[h1,h2,h3,h4,t,n]
 have u:c=false\/(c=true/\b2=false)\/(c=true/\b2=true/\b3=false)\/(c=true/\b2=true/\b3=true/\b4=false)\/(c=true/\b2=true/\b3=true/\b4=true/\d=false)\/(c=true/\b2=true/\b3=true/\b4=true/\d=true/\j=false)\/(c=true/\b2=true/\b3=true/\b4=true/\d=true/\j=true):=by
  revert c b2 b3 b4 d j;intro c _ _ b2 _ _ b3 _ _ b4 _ d _ j _ _;cases c <;> cases b2 <;> cases b3 <;> cases b4 <;> cases d <;> cases j <;> simp
 clear h1 h2 h3 n hl hs;have k:=fun o=>(Dq _ w).alloc (Ba _) o;rcases u with rfl|⟨rfl,rfl⟩|⟨rfl,rfl,rfl⟩|⟨rfl,rfl,rfl,rfl⟩|⟨rfl,rfl,rfl,rfl,rfl⟩|⟨rfl,rfl,rfl,rfl,rfl,rfl⟩|⟨rfl,rfl,rfl,rfl,rfl,rfl⟩
 all_goals
  go_enter func102,ntmps102
  go_wp2_with (first
   |(go_at_call 135;first|(with_reducible refine(c1 _).mono ?_;rintro e q ⟨rfl,rfl⟩)|(with_reducible refine(c2 _).mono ?_;rintro e q ⟨rfl,rfl⟩))
   |(go_at_call 136;refine(c3 _).mono ?_;rintro e q ⟨rfl,rfl⟩)
   |(go_at_call 137;refine(m _ (k _)).mono ?_;rintro e q ⟨rfl,rfl⟩))
  go_ret
  exact⟨rfl,k _⟩
def DH:List Int->List UInt8
 |[]=>[]
 |b::l=>49::(AB b.toNat 8++DH l)
theorem Y2:∀(l:List Int) (b:Int),DH (l++[b])=DH l++AB 1 1++AB b.toNat 8
 |[],b=>by simp[DH];rfl
 |c::l,b=>by rw[J2,DH,Y2 l b,DH];simp only[J2,Bd]
theorem S3:∀l:List Int,(DH l).length=9*l.length
 |[]=>rfl
 |b::l=>by rw[DH,An,B9,BB,S3 l,An];omega
theorem Tw:∀l:List Int,DH l++AB 0 1=IS l
 |[]=>rfl
 |b::l=>by rw[DH,IS,J2,Bd,Tw l]
theorem Vo {l:List Int}{j:Nat}(hj:j<l.length):DH (l.take j)++AB 1 1++AB (l.getD j 0).toNat 8=DH (l.take (j+1)):=by
 rw[Be hj,Y2,show l[j]=l.getD j 0 by simp[List.getD,hj]]
theorem LF {v n:Int}(h:0<=n/\n<=32)(a:0<=v)(h1:v<2^n.toNat):F4 v n=true:=by
 unfold F4;rw[Fi];exact⟨h.1,h.2,a,h1⟩
theorem yK (a:Aa)(h:Shd)(p:Option Aa)(cap:Nat)(b:A0)(z:Int)(hl:h.supp.length<=maxLen)(w:A5)(hs:CA w p h.supp)(hm:E5 h=false):
  A9 prog 71 #[.pointer (some a),.agg (Bx h (.slice p h.supp.length cap) b z).toArray] w fun e l=>e=.returned (.int .i64 12)/\Below w.heap.size w l:=by
 have c:=fun x (m:Below w.heap.size w x)=>ZV h p cap b z hl x (hs.below m);rw[hm] at c;obtain⟨n,f,q,inter,g,k⟩:=h;unfold Bx at *;dsimp only at *;have d:=fun o=>(Dq _ w).alloc (Ba _) o;clear hm hs hl
 go_enter func71,ntmps71
 go_wp2_with fail
 refine(c _ (d _)).mono ?_;rintro e r ⟨rfl,i⟩;have j:=(d _).trans (i.mono (by simp))
 go_wp2
 go_ret
 exact⟨rfl,j⟩
theorem bB (w:A5)(B b:Nat)(r:List UInt8)(h:Shd)(p:Option Aa)(cap:Nat)(ac:A0)(z:Int)(hs:∀x,w.grownBy x (some b)->CA x p h.supp)(hm:E5 h=true)(hw:AQ w B b r)(hn:r.length+400<=1099511627776)(hB:B<=w.heap.size):
  A9 prog 71 #[.pointer (some ⟨b,0,none⟩),.agg (Bx h (.slice p h.supp.length cap) ac z).toArray] w fun e w'=>e=.returned (.int .i64 0)/\AQ w' B b (DS r 0++Eh h)/\w.grownBy w' (some b):=by
 obtain⟨⟨r1,r2,f1,f2,q1,q2⟩,⟨m1,m2⟩,b3,an⟩:=JX.1 hm;have c:=fun x (hx:Below w.heap.size w x)=>ZV h p cap ac z (by unfold maxLen;omega) x (hs x (BZ hx _));rw[hm] at c;have C:Eh h=K6 h++(DH h.supp++AB 0 1):=by rw[Tw];rfl
 unfold K6 JP at C;obtain⟨D,t,E,inter,u,d⟩:=h;unfold Bx at *;dsimp only at *;have cn:=fun w=>Vz inter w;have ao:0<=(if inter=true then (1:Int) else 0)/\(if inter=true then (1:Int) else 0)<2/\(if inter=true then (1:Nat) else 0)=(if inter=true then (1:Int) else 0).toNat:=by cases inter <;> decide
 obtain⟨i0,i1,i2⟩:=ao;rw[i2] at C;generalize (if inter=true then (1:Int) else 0)=bi at cn i0 i1 C;clear i2;have G:=Ps r.length;have ad:=Ur r 0;have cm:=fun x (hx:AQ x B b r) hz=>Su x B b r 0 (by decide) hx (by omega) hz;have ab:r++List.replicate (gap r.length) 48++BR 0=DS r 0:=rfl;rw[ab] at cm;obtain⟨ap,aq⟩:=Ah (DS r 0);rw[aq] at cm ad ⊢
 obtain⟨ar,O⟩:=Ah (ap++AB D.toNat 8);have a5:ar.length=ap.length+8:=by rw[<-O,B9,BB]
 have bh:Hid (F4 D 8=true):=Dp (LF (by omega) (by omega) (by show _<(2:Int)^8;omega));have bj:Hid (ap++AB (D:Int).toNat (8:Int).toNat=ar):=Dp O;obtain⟨au,P⟩:=Ah (ar++AB 2 2);have a6:au.length=ar.length+2:=by rw[<-P,B9,BB]
 have bk:Hid (F4 2 2=true):=Dp (LF (by omega) (by omega) (by show _<(2:Int)^2;omega));have bl:Hid (ar++AB (2:Int).toNat (2:Int).toNat=au):=Dp P;obtain⟨av,Q⟩:=Ah (au++AB t.toNat 3);have a7:av.length=au.length+3:=by rw[<-Q,B9,BB]
 have bm:Hid (F4 t 3=true):=Dp (LF (by omega) (by omega) (by show _<(2:Int)^3;omega));have bn:Hid (au++AB (t:Int).toNat (3:Int).toNat=av):=Dp Q;obtain⟨aw,R⟩:=Ah (av++AB E.toNat 3);have a8:aw.length=av.length+3:=by rw[<-R,B9,BB]
 have bo:Hid (F4 E 3=true):=Dp (LF (by omega) (by omega) (by show _<(2:Int)^3;omega));have bp:Hid (av++AB (E:Int).toNat (3:Int).toNat=aw):=Dp R;obtain⟨ax,S⟩:=Ah (aw++AB bi.toNat 1);have a9:ax.length=aw.length+1:=by rw[<-S,B9,BB]
 have bq:Hid (F4 bi 1=true):=Dp (LF (by omega) (by omega) (by show _<(2:Int)^1;omega));have br:Hid (aw++AB (bi:Int).toNat (1:Int).toNat=ax):=Dp S;obtain⟨ay,T⟩:=Ah (ax++AB 0 4);have ba:ay.length=ax.length+4:=by rw[<-T,B9,BB]
 have bs:Hid (F4 0 4=true):=Dp (LF (by omega) (by omega) (by show _<(2:Int)^4;omega));have bt:Hid (ax++AB (0:Int).toNat (4:Int).toNat=ay):=Dp T;obtain⟨az,U⟩:=Ah (ay++AB u.toNat 5);have bb:az.length=ay.length+5:=by rw[<-U,B9,BB]
 have bu:Hid (F4 u 5=true):=Dp (LF (by omega) (by omega) (by show _<(2:Int)^5;omega));have bv:Hid (ay++AB (u:Int).toNat (5:Int).toNat=az):=Dp U;obtain⟨M,V⟩:=Ah (az++AB 0 1);have bc:M.length=az.length+1:=by rw[<-V,B9,BB]
 have bw:Hid (F4 0 1=true):=Dp (LF (by omega) (by omega) (by show _<(2:Int)^1;omega));have b4:Hid (az++AB (0:Int).toNat (1:Int).toNat=M):=Dp V;have ae:Hid (M++(DH d++AB 0 1)=ap++Eh ⟨D,t,E,inter,u,d⟩):=Dp (by
  rw[C,<-V,<-U,<-T,<-S,<-R,<-Q,<-P,<-O];simp only[Bd])
 obtain⟨b5,a0⟩:=Ah (ap++Eh ⟨D,t,E,inter,u,d⟩);rw[a0] at ae ⊢;have bx:=fun j hj=>Vo (l:=d) (j:=j) hj;have bz:∀j,j<d.length->0<=d.getD j 0/\d.getD j 0<=255:=fun j hj=>by
  rw[show d.getD j 0=d[j] by simp[List.getD,hj]];exact an _ (Bn hj)
 have b0:∀j,j<=d.length->(DH (d.take j)).length=9*j:=fun j hj=>by rw[S3,Bf];omega
 have b6:=Dp (show d.take d.length=d from J1);have af:=Dp bx;have ag:=Dp bz;have ah:=Dp b0;have W:b<w.heap.size:=hw.lt;clear C a0 O P Q R S T U V an hm ab aq bx bz b0;have b7:Hid (F4 1 1=true):=Dp (by decide);have X:=fun o=>(Dq _ w).alloc (Ba _) o;obtain⟨A,hA⟩:=Ah w.heap.size
 go_enter func71,ntmps71
 go_wp2_with fail
 refine(c _ (X _)).mono ?_;rintro e Y ⟨rfl,L⟩;have ai:w.grownBy Y (some b):=BZ ((X _).trans (L.mono (by simp))) _;have aj:AQ Y B b r:=hw.below ((X _).trans (L.mono (by simp)))
 have hh:Y.heap[A]? =some (.cells [.int .i64 D,.int .i64 t,.int .i64 E,.bool inter,.int .i64 u,.slice p d.length cap,ac,.int .i64 z].toArray 39 (0,0)):=(L.block A (by simp;omega)).trans (hA▸heap_alloc_new w _);have b8:A+1<=Y.heap.size:=by have:=L.size;simp at this;omega
 have b9:b<A:=by omega
 clear L X c hw;have Z:Hid (∀x,Y.grownBy x (some b)->x.cell? ⟨A,0,none⟩=some (.int .i64 D)/\x.cell? ⟨A,1,none⟩=some (.int .i64 t)/\x.cell? ⟨A,2,none⟩=some (.int .i64 E)/\x.cell? ⟨A,3,none⟩=some (.bool inter)/\x.cell? ⟨A,4,none⟩=some (.int .i64 u)/\x.cell? ⟨A,5,none⟩=some (.slice p d.length cap)):=Dp fun x hx=>by
  have h2:=(hx.block A (by omega) (by intro e;injection e with e;omega)).trans hh;exact⟨AA h2 rfl,AA h2 rfl,AA h2 rfl,AA h2 rfl,AA h2 rfl,AA h2 rfl⟩
 have bd:Hid (∀x,Y.grownBy x (some b)->CA x p d):=Dp fun x hx=>hs x (AR ai hx);clear hh hs;generalize ak:Y=N at aj ⊢;have q:Y.grownBy N (some b):=by rw[<-ak];exact BZ (Dq _ _) _
 have s:B<=N.heap.size:=by rw[<-ak];omega
 clear ak
 go_wp2_with fail
 refine(cm _ aj s).mono ?_;rintro e y0 ⟨rfl,g,a⟩;have k:=AR q a;have m:B<=y0.heap.size:=Eg s a.size;clear aj a q s cm;obtain⟨y,F,H,I,J,K⟩:=Z.out _ k
 go_wp2_with fail
 refine(IJ _ B b _ D 8 g (by omega) bh.out (by omega) m).mono ?_;rintro e N ⟨rfl,f,a⟩;rw[bj.out] at f;have q:=AR k a;have s:B<=N.heap.size:=Eg m a.size;clear g;have g:=f;clear f a k m y F H I J K;obtain⟨y,F,H,I,J,K⟩:=Z.out _ q
 go_wp2_with fail
 refine(IJ _ B b _ 2 2 g (by omega) bk.out (by omega) s).mono ?_;rintro e y0 ⟨rfl,f,a⟩;rw[bl.out] at f;have k:=AR q a;have m:B<=y0.heap.size:=Eg s a.size;clear g;have g:=f;clear f a q s y F H I J K;obtain⟨y,F,H,I,J,K⟩:=Z.out _ k
 go_wp2_with fail
 refine(IJ _ B b _ t 3 g (by omega) bm.out (by omega) m).mono ?_;rintro e N ⟨rfl,f,a⟩;rw[bn.out] at f;have q:=AR k a;have s:B<=N.heap.size:=Eg m a.size;clear g;have g:=f;clear f a k m y F H I J K;obtain⟨y,F,H,I,J,K⟩:=Z.out _ q
 go_wp2_with fail
 refine(IJ _ B b _ E 3 g (by omega) bo.out (by omega) s).mono ?_;rintro e y0 ⟨rfl,f,a⟩;rw[bp.out] at f;have k:=AR q a;have m:B<=y0.heap.size:=Eg s a.size;clear g;have g:=f;clear f a q s y F H I J K;obtain⟨y,F,H,I,J,K⟩:=Z.out _ k
 go_wp2_with fail
 refine(cn _).mono ?_;rintro e u0 ⟨rfl,rfl⟩
 go_wp2_with fail
 refine(IJ _ B b _ bi 1 g (by omega) bq.out (by omega) m).mono ?_;rintro e N ⟨rfl,f,a⟩;rw[br.out] at f;have q:=AR k a;have s:B<=N.heap.size:=Eg m a.size;clear g;have g:=f;clear f a k m y F H I J K;obtain⟨y,F,H,I,J,K⟩:=Z.out _ q
 go_wp2_with fail
 refine(IJ _ B b _ 0 4 g (by omega) bs.out (by omega) s).mono ?_;rintro e y0 ⟨rfl,f,a⟩;rw[bt.out] at f;have k:=AR q a;have m:B<=y0.heap.size:=Eg s a.size;clear g;have g:=f;clear f a q s y F H I J K;obtain⟨y,F,H,I,J,K⟩:=Z.out _ k
 go_wp2_with fail
 refine(IJ _ B b _ u 5 g (by omega) bu.out (by omega) m).mono ?_;rintro e N ⟨rfl,f,a⟩;rw[bv.out] at f;have q:=AR k a;have s:B<=N.heap.size:=Eg m a.size;clear g;have g:=f;clear f a k m y F H I J K;obtain⟨y,F,H,I,J,K⟩:=Z.out _ q
 go_wp2_with fail
 refine(IJ _ B b _ 0 1 g (by omega) bw.out (by omega) s).mono ?_;rintro e y0 ⟨rfl,f,a⟩;rw[b4.out] at f;have k:=AR q a;have m:B<=y0.heap.size:=Eg s a.size;clear g;have g:=f;clear f a q s y F H I J K;obtain⟨y,F,H,I,J,K⟩:=Z.out _ k
 go_wp2
 clear y F H I J K cn bh bk bm bo bq bs bu bj bl bn bp br bt bv hA
 go_loopw [44] (fun i wr=>∃j:Nat,j<=d.length/\i=.int .i64 j/\AQ wr B b (M++DH (d.take j))/\Y.grownBy wr (some b)/\B<=wr.heap.size) (fun i _=>d.length-(RowKit.intOf i).toNat)
 case atStart=>exact⟨0,Ds _,rfl,by rw[Bi];show AQ _ B b (M++[]);rw[Fb];exact g,k,m⟩
 case round=>
  clear g k m;obtain⟨j,hj,rfl,g,k,m⟩:=hrel;have a1:=ah.out j hj;by_cases W:j<d.length
  ·have t1:decide ((j:Int)<(d.length:Int))=true:=by simp;omega
   obtain⟨b1,o1,rfl,L,a2⟩:=(bd.out _ k).hold (by omega);have y:=a2 _ (Dq _ _) j W;obtain⟨v0,v1⟩:=ag.out j W;have aa:=af.out j W;clear bd ag af ah a2;obtain⟨v,hv⟩:=Ah (d.getD j 0);rw[hv] at y v0 v1 aa;obtain⟨bf,al⟩:=Ah (DH (d.take j));obtain⟨ca,am⟩:=Ah (DH (d.take (j+1)));rw[al,am] at aa;rw[al] at g a1
   have cb:=Dp (LF (v:=v) (n:=8) (by omega) v0 (by show _<(2:Int)^8;omega));have bg:=Dp am;have cc:Hid (M++bf++AB (1:Int).toNat (1:Int).toNat++AB v.toNat (8:Int).toNat=M++ca):=Dp (by rw[<-aa];simp only[Bd];rfl);clear hv al am aa;have a3:(M++bf).length<=r.length+200:=by rw[B9];omega
   have b2:(M++bf++AB (1:Int).toNat (1:Int).toNat).length<=r.length+201:=by rw[B9,BB];have e:(1:Int).toNat=1:=rfl;omega
   go_wp2_with fail
   refine(IJ _ B b _ 1 1 g (by omega) b7.out (by omega) m).mono ?_;rintro e x1 ⟨rfl,f,a⟩;have q:=AR k a;have s:B<=x1.heap.size:=Eg m a.size;clear g a k m y
   go_wp2_with fail
   refine(IJ _ B b _ v 8 f (by omega) cb.out (by omega) s).mono ?_;rintro e x2 ⟨rfl,a4,a⟩;rw[cc.out] at a4;have k:=AR q a;have m:B<=x2.heap.size:=Eg s a.size;clear f a q s
   go_wp2
   go_roundw
   case rel=>exact⟨j+1,by omega,by go_num,by rw[bg.out];exact a4,k,m⟩
   case measure=>simp[RowKit.intOf];omega
  ·obtain rfl:d.length=j:=by omega
   have t1:decide ((d.length:Int)<(d.length:Int))=false:=by simp
   rw[b6.out] at g a1;have cd:Hid (M++DH d++AB (0:Int).toNat (1:Int).toNat=b5):=Dp (by rw[<-ae.out];simp only[Bd];rfl);have a3:(M++DH d).length<=r.length+200:=by rw[B9];omega
   clear bd ag af ah ae
   go_wp2_with fail
   refine(IJ _ B b _ 0 1 g (by omega) bw.out (by omega) m).mono ?_;rintro e x1 ⟨rfl,f,a⟩;rw[cd.out] at f;have q:=AR ai (AR k a);clear g a k m ai
   go_wp2
   go_ret
   exact⟨rfl,f,q⟩
theorem tH {l:List Int}{j:Nat}(hj:j<l.length)(h:ER (l.getD j 0)=false):l.all ER=false:=by
 rw[Hs];refine⟨l[j],Bn hj,?_⟩;rw[show l.getD j 0=l[j] by simp[List.getD,hj]] at h;rw[h];decide
theorem ZJ {x:Int}(h:x<0\/255<x):ER x=false:=I3 (by omega)
theorem xE {x:Int}(h:¬ x<0)(h2:¬ 255<x):ER x=true:=I4 (by omega)
theorem mO (h:Shd):E5 h=(!decide (h.ref<0)&&(!decide (255<h.ref)&&(!decide (h.flags<0)&&(!decide (7<h.flags)&&(DV h.fmt&&(!decide (h.quant<1)&&(!decide (31<h.quant)&&(!decide (8<(h.supp.length:Int))&&h.supp.all ER)))))))):=by
 rw[I6,JX];simp only[Al,Bool.not_eq_true',decide_eq_false_iff_not,Bu];unfold DV ER;simp only[Fi];constructor
 ·rintro⟨⟨a,b,c,d,e,f⟩,g,i,j⟩;exact⟨by omega,by omega,by omega,by omega,g,by omega,by omega,by omega,j⟩
 ·rintro⟨a,b,c,d,g,e,f,i,j⟩;exact⟨by omega,g,by omega,j⟩
set_option maxRecDepth 100000 in
theorem Y4n (h:Shd)(p:Option Aa)(cap:Nat)(o:A0)(z:Int)(hl:h.supp.length<=maxLen)(w:A5)(hs:CA w p h.supp):
  A9 prog 48 #[.agg (Bx h (.slice p h.supp.length cap) o z).toArray] w fun e X=>e=.returned (.bool (E5 h))/\Below w.heap.size w X:=by
 unfold maxLen at hl;rw[mO];obtain⟨f,b,d,inter,c,a⟩:=h;have C:=fun w=>X2 d w;have q:=vC d;unfold Bx;dsimp only at *;obtain⟨A,J⟩:=Ah w.heap.size;obtain⟨r,g⟩:=Ah (w.alloc (.cells #[.int .i64 f,.int .i64 b,.int .i64 d,.bool inter,.int .i64 c,.slice p a.length cap,o,.int .i64 z] 39 (0,0)))
 have k:Below w.heap.size w r:=by rw[<-g];exact(Dq _ w).alloc (Ba _) _
 have D:r.heap[A]? =some (.cells [.int .i64 f,.int .i64 b,.int .i64 d,.bool inter,.int .i64 c,.slice p a.length cap,o,.int .i64 z].toArray 39 (0,0)):=by rw[<-g,<-J];exact heap_alloc_new w _
 have K:Hid (∀x,Below r.heap.size r x->(x.cell? ⟨A,4,none⟩=some (.int .i64 c)/\x.cell? ⟨A,5,none⟩=some (.slice p a.length cap))/\CA x p a/\Below w.heap.size w x):=Dp fun x O=>by
  have h2:=(O.block A (by rw[<-g,<-J];simp)).trans D;exact⟨⟨AA h2 rfl,AA h2 rfl⟩,(hs.below k).below O,k.trans (O.mono k.size)⟩
 have P:r.cell? ⟨A,0,none⟩=some (.int .i64 f)/\r.cell? ⟨A,1,none⟩=some (.int .i64 b)/\r.cell? ⟨A,2,none⟩=some (.int .i64 d):=⟨AA D rfl,AA D rfl,AA D rfl⟩;have s:=Dp g;have U:=Dp J;obtain⟨d1,h1⟩:=Ah (decide (f<0));obtain⟨d2,h2⟩:=Ah (decide (255<f));obtain⟨d3,h3⟩:=Ah (decide (b<0));obtain⟨d4,h4⟩:=Ah (decide (7<b))
 obtain⟨d5,L⟩:=Ah (DV d);obtain⟨d6,Q⟩:=Ah (decide (c<1));obtain⟨d7,R⟩:=Ah (decide (31<c));obtain⟨d8,V⟩:=Ah (decide (8<(a.length:Int)));rw[L] at q;rw[h1,h2,h3,h4,L,Q,R,V];have t:=fun(h:(a.take a.length).all ER=true)=>(J1 (l:=a)▸h:a.all ER=true)
 have no:=fun j (hj:j<a.length) (h:ER (a.getD j 0)=false)=>tH hj h;obtain⟨aa,E⟩:=Ah (a.all ER);rw[E] at t no ⊢;have u:=Dp t;have S:=Dp no;obtain⟨M,v⟩:∃M:Int,(D2 d:Int)=M:=⟨_,rfl⟩;rw[v] at C q;have Z:d1=true\/(d1=false/\d2=true)\/(d1=false/\d2=false/\d3=true)\/(d1=false/\d2=false/\d3=false/\d4=true)\/(d1=false/\d2=false/\d3=false/\d4=false/\d5=false)
   \/(d1=false/\d2=false/\d3=false/\d4=false/\d5=true/\d6=true)\/(d1=false/\d2=false/\d3=false/\d4=false/\d5=true/\d6=false/\d7=true)\/(d1=false/\d2=false/\d3=false/\d4=false/\d5=true/\d6=false/\d7=false/\d8=true)
   \/(d1=false/\d2=false/\d3=false/\d4=false/\d5=true/\d6=false/\d7=false/\d8=false):=by
  clear h1 h2 h3 h4 L Q R V q;cases d1 <;> cases d2 <;> cases d3 <;> cases d4 <;> cases d5 <;> cases d6 <;> cases d7 <;> cases d8 <;> simp
 clear L v g J hs D E t no;rcases Z with rfl|⟨rfl,rfl⟩|⟨rfl,rfl,rfl⟩|⟨rfl,rfl,rfl,rfl⟩|⟨rfl,rfl,rfl,rfl,rfl⟩|⟨rfl,rfl,rfl,rfl,rfl,rfl⟩|⟨rfl,rfl,rfl,rfl,rfl,rfl,rfl⟩|⟨rfl,rfl,rfl,rfl,rfl,rfl,rfl,rfl⟩|⟨rfl,rfl,rfl,rfl,rfl,rfl,rfl,rfl⟩
 case _|_|_|_=>
  clear C q K
  go_enter func48,ntmps48
  go_wp2
  go_ret
  rw[s.out];exact⟨rfl,k⟩
 case _|_|_|_=>
  simp only[Bool.not_false,Bool.not_true] at q
  go_enter func48,ntmps48
  go_wp2_with fail
  rw[s.out];refine(C _).mono ?_;rintro e w1 ⟨rfl,m⟩;rw[U.out];obtain⟨⟨W,k5⟩,-,n⟩:=K.out _ m
  go_wp2
  go_ret
  exact⟨rfl,n⟩
 simp only[Bool.not_true] at q
 go_enter func48,ntmps48
 go_wp2_with fail
 rw[s.out];refine(C _).mono ?_;rintro e w1 ⟨rfl,m⟩;rw[U.out];obtain⟨⟨W,k5⟩,y,n⟩:=K.out _ m;clear K P k m C
 go_wp2
 clear W h1 h2 h3 h4 Q R q
 go_loop [3] (fun i=>∃j:Nat,j<=a.length/\i=.int .i64 j/\Hid ((a.take j).all ER=true)) (fun i=>a.length-(intOf i).toNat)
 case atStart=>exact⟨0,Ds _,rfl,Dp rfl⟩
 case round=>
  obtain⟨j,hj,rfl,T⟩:=hrel;by_cases B:j<a.length
  ·have t1:decide ((j:Int)<(a.length:Int))=true:=by simp;omega
   obtain⟨b1,o1,rfl,m,F⟩:=y.hold (by omega);have k0:=F _ (Dq _ _) j B;have v:=fun h=>aM B T.out h;have G:=S.out j B;clear F u S y;generalize a.getD j 0=x at *;by_cases H:x<0
   ·have N:=Dp (G (ZJ (.inl H)));clear v G
    go_wp2
    go_ret
    exact⟨by rw[N.out];rfl,n⟩
   ·by_cases I:255<x
    ·have N:=Dp (G (ZJ (.inr I)));clear v G
     go_wp2
     go_ret
     exact⟨by rw[N.out];rfl,n⟩
    ·have M:=Dp (v (xE H I));clear v G
     go_wp2
     go_round
     case rel=>exact⟨j+1,by omega,by go_num,M⟩
     case measure=>simp[intOf];omega
  ·obtain rfl:a.length=j:=by omega
   have t1:decide ((a.length:Int)<(a.length:Int))=false:=by simp
   have Y:=Dp (u.out T.out);clear u S T y
   go_wp2
   go_ret
   exact⟨by rw[Y.out];rfl,n⟩
theorem zN {l:List UInt8}{p:Nat}(h:p%8≠0):D7 l p=4:=Bc h
theorem vQ {l:List UInt8}{p:Nat}(h:p%8=0)(h2:(B0 l p).2≠0):D7 l p=(B0 l p).2:=by
 unfold D7;rw[Bb (by omega),Bc h2]
theorem vF {l:List UInt8}{p:Nat}(h:p%8=0)(h2:(B0 l p).2=0)(h1:(B0 l p).1≠0):D7 l p=4:=by
 unfold D7;rw[Bb (by omega),Bb (fun k=>k h2),Bc h1]
theorem vO {l:List UInt8}{p:Nat}(h:p%8=0)(h2:(B0 l p).2=0)(h1:(B0 l p).1=0):D7 l p=0:=by
 unfold D7;rw[Bb (by omega),Bb (fun k=>k h2),Bb (fun k=>k h1)]
def OP (l:List UInt8)(p:Nat):Nat:=if D7 l p=0 then p+22 else p
theorem sS (w:A5)(b:Nat)(s:ByteArray)(p:Nat)(hr:AI w b s p)(hs:s.size<=1099511627776):
  A9 prog 173 #[.pointer (some ⟨b,0,none⟩)] w fun e z=>e=.returned (.int .i64 (D7 s.data.toList p))/\AI z b s (OP s.data.toList p)/\w.grownBy z (some b):=by
 have t:=hr.2.1;have d:s.data.toList.length=s.size:=rfl;have hm:(p:Int).tmod 8=((p%8:Nat):Int):=by rw[Iu (by omega)];rfl
 have ca:=fun w=>ED w b s p;by_cases g:p%8=0
 ·have d8:((((p%8:Nat):Int)) != 0)=false:=by rw[g];rfl
  have c1:=fun w=>SF w s (p:Int) hs;have o:=fun h2=>vQ (l:=s.data.toList) g h2;have i:=fun h2 h1=>vF (l:=s.data.toList) g h2 h1;have j:=fun h2 h1=>vO (l:=s.data.toList) g h2 h1;have q:=fun h=>VK (l:=s.data.toList) (p:=p) h;generalize p%8=B at hm d8;obtain⟨m,k⟩:=Ah ((B0 s.data.toList p).1);obtain⟨f,u⟩:=Ah ((B0 s.data.toList p).2);rw[k,u] at c1;rw[u] at o i j
  rw[k] at i j;unfold OP;obtain⟨S,A⟩:=Ah (D7 s.data.toList p);rw[A] at o i j q ⊢;clear A k u g;by_cases h2:f=0
  ·by_cases h1:m=0
   ·obtain rfl:=j h2 h1;obtain⟨-,C,-⟩:=q rfl;have K:=Dp (EL (l:=s.data.toList) (p:=p) (n:=22) (by omega) (by omega));have T:Hid (CF s.data.toList p 22=p+22):=Dp (by unfold CF;rw[K.out];rfl);subst h2 h1;rw[Bc rfl];clear o i j q C t d
    go_enter func173,ntmps173
    go_wp2_with fail
    refine(ca _ hr).mono ?_;rintro e c ⟨rfl,rfl⟩
    go_wp2_with fail
    refine(LG _ _ _ _ hr).mono ?_;rintro e c ⟨rfl,rfl⟩
    go_wp2_with fail
    refine(ca _ hr).mono ?_;rintro e c ⟨rfl,rfl⟩
    go_wp2_with fail
    refine(c1 _).mono ?_;rintro e c ⟨rfl,a⟩;have v:=hr.below a;have x:=BZ a (some b);clear hr a
    go_wp2_with fail
    refine(JF _ _ _ _ 22 v).mono ?_;rintro e D ⟨rfl,r,y⟩;rw[T.out] at r;rw[K.out]
    go_wp2
    go_ret
    exact⟨rfl,r,AR x y⟩
   ·obtain rfl:=i h2 h1;have d1:(m != 0)=true:=by rw[Fl];exact h1
    subst h2;rw[Bb (by decide)];clear o i j q t d h1
    go_enter func173,ntmps173
    go_wp2_with fail
    refine(ca _ hr).mono ?_;rintro e c ⟨rfl,rfl⟩
    go_wp2_with fail
    refine(LG _ _ _ _ hr).mono ?_;rintro e c ⟨rfl,rfl⟩
    go_wp2_with fail
    refine(ca _ hr).mono ?_;rintro e c ⟨rfl,rfl⟩
    go_wp2_with fail
    refine(c1 _).mono ?_;rintro e c ⟨rfl,a⟩
    go_wp2
    go_ret
    exact⟨rfl,hr.below a,BZ a _⟩
  ·obtain rfl:=o h2;have d2:(S != 0)=true:=by rw[Fl];exact h2
   rw[Bb h2];clear o i j q t d h2
   go_enter func173,ntmps173
   go_wp2_with fail
   refine(ca _ hr).mono ?_;rintro e c ⟨rfl,rfl⟩
   go_wp2_with fail
   refine(LG _ _ _ _ hr).mono ?_;rintro e c ⟨rfl,rfl⟩
   go_wp2_with fail
   refine(ca _ hr).mono ?_;rintro e c ⟨rfl,rfl⟩
   go_wp2_with fail
   refine(c1 _).mono ?_;rintro e c ⟨rfl,a⟩
   go_wp2
   go_ret
   exact⟨rfl,hr.below a,BZ a _⟩
 ·have d8:((((p%8:Nat):Int)) != 0)=true:=by rw[Fl];omega
  unfold OP;rw[zN g,Bb (by decide)];generalize p%8=B at hm d8;clear g t d
  go_enter func173,ntmps173
  go_wp2_with fail
  refine(ca _ hr).mono ?_;rintro e c ⟨rfl,rfl⟩
  go_wp2
  go_ret
  exact⟨rfl,hr,BZ (Dq _ _) _⟩
def FE (l:List UInt8)(e:Int)(q:Nat)(d:Int):Int:=if e=0 then (ask l q d).1 else 0
def FG (l:List UInt8)(e:Int)(q:Nat)(d:Int):Int:=if e=0 then (ask l q d).2 else e
def FH (l:List UInt8)(e:Int)(q:Nat)(d:Int):Nat:=if e=0 then CF l q d else q
structure Cap (w:A5) (X Y b:Nat) (s:ByteArray) (e:Int) (q:Nat):Prop where
 wrong:w.heap[X]? =some (.cells [.int .i64 e].toArray 27 (0,0))
 box:w.heap[Y]? =some (.cells [.pointer (some ⟨b,0,none⟩)].toArray 54 (0,0))
 rd:AI w b s q
 apart:X≠Y/\X≠b/\Y≠b
theorem Cap.set {w:A5}{X Y b:Nat}{s:ByteArray}{e:Int}{q:Nat}(h:Cap w X Y b s e q)(a:Aa)(v:A0)(c:a.block≠X/\a.block≠Y/\a.block≠b):Cap (w.setCell a v) X Y b s e q:=
 ⟨(Ib _ _ _ _ (by omega)).trans h.wrong,(Ib _ _ _ _ (by omega)).trans h.box,⟨(Ib _ _ _ _ (by omega)).trans h.rd.1,h.rd.2⟩,h.apart⟩
theorem KP (w:A5)(X Y b:Nat)(s:ByteArray)(e:Int)(q:Nat)(d:Int)(h:Cap w X Y b s e q):
  A9 prog 174 #[.int .i64 d,.pointer (some ⟨X,0,none⟩),.pointer (some ⟨Y,0,none⟩)] w fun r m=>r=.returned (.int .i64 (FE s.data.toList e q d))/\Cap m X Y b s (FG s.data.toList e q d) (FH s.data.toList e q d)/\Yb1 X b w m:=by
 have n:w.cell? ⟨X,0,none⟩=some (.int .i64 e):=AA h.wrong rfl;have o:w.cell? ⟨Y,0,none⟩=some (.pointer (some ⟨b,0,none⟩)):=AA h.box rfl;obtain⟨p,t,u⟩:=h.apart;have i:=Dp h;unfold FE FG FH;by_cases a:e=0
 ·rw[Bc a,Bc a,Bc a];subst a;have c:=fun w hr=>JF w b s q d hr;generalize (ask s.data.toList q d).1=v at *;generalize (ask s.data.toList q d).2=f at *;generalize CF s.data.toList q d=y at *;clear h
  go_enter func174,ntmps174
  go_wp2_with fail
  refine(c _ i.out.rd).mono ?_;rintro e k ⟨rfl,j,g⟩;have l:k.heap[X]? =some (.cells [.int .i64 0].toArray 27 (0,0)):=(g.block X (Am.1 i.out.wrong).1 (by intro e;injection e with e;omega)).trans i.out.wrong;have x:=(g.block Y (Am.1 i.out.box).1 (by intro e;injection e with e;omega)).trans i.out.box
  have z:k.cell? ⟨X,0,none⟩=some (.int .i64 0):=AA l rfl;have A:k.frozen? ⟨X,0,none⟩=false:=AZ l;clear n o
  go_wp2
  go_ret
  refine⟨rfl,⟨BF (.int .i64 f) l,(Ib _ _ _ _ (by show Y≠X;omega)).trans x,⟨(Ib _ _ _ _ (by show b≠X;omega)).trans j.1,j.2⟩,p,t,u⟩,(Yb1.grown g (.inr rfl)).trans (Yb1.set _ (.inl rfl))⟩
 ·rw[Bb a,Bb a,Bb a];have d1:(e != 0)=true:=by rw[Fl];exact a
  clear h a
  go_enter func174,ntmps174
  go_wp2
  go_ret
  exact⟨rfl,i.out,Yb1.refl _ _ _⟩
def JR (e:Int)(a:Bool)(b:Int):Int:=if e=0/\a=false then b else e
theorem OS (w:A5)(X Y b:Nat)(s:ByteArray)(e:Int)(q:Nat)(a:Bool)(c:Int)(h:Cap w X Y b s e q):
  A9 prog 175 #[.bool a,.int .i64 c,.pointer (some ⟨X,0,none⟩)] w fun r g=>r=.returned (.tuple #[])/\Cap g X Y b s (JR e a c) q/\Yb1 X b w g:=by
 have l:w.cell? ⟨X,0,none⟩=some (.int .i64 e):=AA h.wrong rfl;have f0:w.frozen? ⟨X,0,none⟩=false:=AZ h.wrong;obtain⟨i,j,k⟩:=h.apart;have d:=Dp h;unfold JR;by_cases f:e=0
 ·subst f;cases a with
  |true=>
   rw[Bb (by simp)];clear h
   go_enter func175,ntmps175
   go_wp2
   go_end0
   exact⟨rfl,d.out,Yb1.refl _ _ _⟩
  |false=>
   rw[Bc (by simp)];clear h
   go_enter func175,ntmps175
   go_wp2
   go_end0
   refine⟨rfl,⟨BF (.int .i64 c) d.out.wrong,(Ib _ _ _ _ (by show Y≠X;omega)).trans d.out.box,⟨(Ib _ _ _ _ (by show b≠X;omega)).trans d.out.rd.1,d.out.rd.2⟩,i,j,k⟩,Yb1.set _ (.inl rfl)⟩
 ·rw[Bb (by omega)];have d1:(e==0)=false:=by rw[Fg];exact f
  clear h f
  go_enter func175,ntmps175
  go_wp2
  go_end0
  exact⟨rfl,d.out,Yb1.refl _ _ _⟩
end Go.Proofs.YtjjmalchelniiaaGreatDoor