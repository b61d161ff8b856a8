/- No condition. -/
import Derived.OpenShut
import Derived.IntWalk
import Derived.KernelRfl
namespace Go.Proofs.YtkgabfmjfhljdaaDoor
open Go.RowKit
theorem Ya7 {k:IntKind}{a b:Int}(h:a=b):Ending.returned (.int k a)=.returned (.int k b):=by rw[h]
theorem Yac {a b:Bool}(h:a=b):Ending.returned (.bool a)=.returned (.bool b):=by rw[h]
def Ya4 (n lo hi:Int):Int:=max lo (min n hi)
theorem Yby (n lo hi:Int):lo≤Ya4 n lo hi:=by unfold Ya4;omega
theorem Ybx (n lo hi:Int)(h:lo≤hi):Ya4 n lo hi≤hi:=by unfold Ya4;omega
theorem Ypm (n lo hi:Int)(h1:lo≤n)(h2:n≤hi):Ya4 n lo hi=n:=by unfold Ya4;omega
def Yfg (n:Int):Int:=(n+32)%64-32
theorem Ygb (n:Int)(k:Nat)(hk:k≤62):bits .and .i64 n ((2:Int)^k-1)=n%(2:Int)^k:=by
 have hpn:(2:Nat)^k≤2^62:=Nat.pow_le_pow_right (by omega) hk;have hp1:1≤(2:Nat)^k:=Nat.one_le_two_pow;have hpc:((2:Int)^k)=(((2:Nat)^k:Nat):Int):=by simp
 have h2:(BitVec.ofInt 64 ((2:Int)^k-1)).toNat=2^k-1:=by
  rw[hpc,show ((((2:Nat)^k:Nat):Int)-1)=((2^k-1:Nat):Int) by omega,BitVec.ofInt_natCast,BitVec.toNat_ofNat];exact Nat.mod_eq_of_lt (by omega)
 have h1:(BitVec.ofInt 64 n).toNat=(n%18446744073709551616).toNat:=by rw[BitVec.toNat_ofInt];rfl
 show IntKind.i64.wrap ((BitVec.ofInt 64 n &&& BitVec.ofInt 64 ((2:Int)^k-1)).toNat:Int)=_;rw[BitVec.toNat_and,h1,h2,Nat.and_two_pow_sub_one_eq_mod,hpc,IntKind.wrap_i64];have hd:(((2:Nat)^k:Nat):Int) ∣ 18446744073709551616:=by
  have e:(18446744073709551616:Nat)=2^64:=by decide
  have d:(2:Nat)^k ∣ (18446744073709551616:Nat):=by rw[e];exact Nat.pow_dvd_pow 2 (by omega)
  exact Int.natCast_dvd_natCast.2 d
 have hm:((((n%18446744073709551616).toNat%2^k:Nat)):Int)=n%(((2:Nat)^k:Nat):Int):=by
  rw[Int.natCast_emod,Int.toNat_of_nonneg (Int.emod_nonneg _ (by omega)),Int.emod_emod_of_dvd _ hd]
 rw[hm];have:=Int.emod_nonneg n (b:=(((2:Nat)^k:Nat):Int)) (by omega);have:=Int.emod_lt_of_pos n (b:=(((2:Nat)^k:Nat):Int)) (by omega);omega
theorem Ypb (n:Int):bits .and .i64 n 63=n%64:=Ygb n 6 (by omega)
def round (n bits:Int):Int:=
 if Ya4 bits 0 32=0 then Ya4 n (-1099511627776) 1099511627776
 else (Ya4 n (-1099511627776) 1099511627776+2^((Ya4 bits 0 32).toNat-1)) / 2^(Ya4 bits 0 32).toNat
theorem Yji (k:Nat)(h:k≤32):1≤(2:Int)^k∧(2:Int)^k≤4294967296:=by
 have h1:(2:Nat)^k≤2^32:=Nat.pow_le_pow_right (by omega) h;have h2:1≤(2:Nat)^k:=Nat.one_le_two_pow;have h3:((2:Int)^k)=(((2:Nat)^k:Nat):Int):=by simp
 omega
end Go.Proofs.YtkgabfmjfhljdaaDoor
namespace Go.Proofs.YtkgabfmjfhljdaaDoor
def Ye1 (b:Nat):UInt8:=if b%2=0 then 48 else 49
def Ycb (v:Nat):Nat→List UInt8
 |0=>[]
 |n+1=>Ye1 (v / 2^n)::Ycb v n
theorem Ybr (v n:Nat):(Ycb v n).length=n:=by
 induction n with
 |zero=>rfl
 |succ n ih=>simp[Ycb,ih]
def Ybd (l:List UInt8):Bool:=l.all (fun c=>c==48 || c==49)
theorem Ylw (b:Nat):(Ye1 b==48 || Ye1 b==49)=true:=by
 unfold Ye1
 split <;> rfl
theorem Yhw (v n:Nat):Ybd (Ycb v n)=true:=by
 induction n with
 |zero=>rfl
 |succ n ih=>
  show ((Ye1 (v / 2^n)==48 || Ye1 (v / 2^n)==49)&&Ybd (Ycb v n))=true;rw[ih,Ylw];rfl
def Ye5 (a:Nat):List UInt8→Nat
 |[]=>a
 |c::l=>Ye5 (2*a+(c.toNat-48)) l
def num (l:List UInt8):Nat:=Ye5 0 l
theorem Ydk (a:Nat)(l m:List UInt8):Ye5 a (l++m)=Ye5 (Ye5 a l) m:=by
 induction l generalizing a with
 |nil=>rfl
 |cons c l ih=>exact ih _
theorem Ybq (l m:List UInt8):Ybd (l++m)=(Ybd l&&Ybd m):=by simp[Ybd]
theorem Ykg (l:List UInt8)(j:Nat)(h:Ybd l=true):Ybd (l.take j)=true:=by
 unfold Ybd at h ⊢;rw[List.all_eq_true] at h ⊢;exact fun c hc=>h c (List.mem_of_mem_take hc)
theorem Ykf (l:List UInt8)(j:Nat)(h:Ybd l=true):Ybd (l.drop j)=true:=by
 unfold Ybd at h ⊢;rw[List.all_eq_true] at h ⊢;exact fun c hc=>h c (List.mem_of_mem_drop hc)
theorem Yhp (l:List UInt8)(j:Nat)(hj:j<l.length)(h:Ybd l=true):l[j].toNat=48∨l[j].toNat=49:=by
 unfold Ybd at h;rw[List.all_eq_true] at h;have:=h l[j] (List.getElem_mem hj);simp only[Bool.or_eq_true,beq_iff_eq] at this;rcases this with e|e <;> rw[e]
 ·exact .inl rfl
 ·exact .inr rfl
theorem Yog (l:List UInt8)(j:Nat)(h:j<l.length):num (l.take (j+1))=2*num (l.take j)+(l[j].toNat-48):=by
 rw[List.take_succ_eq_append_getElem h];exact Ydk 0 _ _
theorem Yqn (l:List UInt8)(h:Ybd l=true)(j:Nat)(hj:j≤l.length):num (l.take j)<2^j:=by
 induction j with
 |zero=>rw[List.take_zero];decide
 |succ j ih=>
  have:=ih (by omega);rw[Yog l j hj,Nat.pow_succ];rcases Yhp l j hj h with e|e <;> omega
end Go.Proofs.YtkgabfmjfhljdaaDoor
namespace Go.Proofs.YtkgabfmjfhljdaaDoor
open Go.RowKit
def Yli (c:List UInt8):Nat:=num c*2^(8-c.length)
def Ya1 (r:List UInt8)(i:Nat):Nat:=Yli ((r.drop (8*i)).take 8)
theorem Yof (c:List UInt8)(d:UInt8):num (c++[d])=2*num c+(d.toNat-48):=Ydk 0 c [d]
theorem Yoe (c:List UInt8)(h:Ybd c=true):num c<2^c.length:=by
 have:=Yqn c h c.length (Nat.le_refl _);rwa [List.take_of_length_le (Nat.le_refl _)] at this
theorem Ye0 (r:List UInt8)(i:Nat):((r.drop (8*i)).take 8).length=min 8 (r.length-8*i):=by simp
theorem Yll (r:List UInt8)(i:Nat)(h:Ybd r=true):Ybd ((r.drop (8*i)).take 8)=true:=Ykg _ _ (Ykf _ _ h)
theorem Yno (c:List UInt8)(h:Ybd c=true)(hl:c.length≤8):Yli c<256:=by
 have h1:=Yoe c h;have h2:num c*2^(8-c.length)<2^c.length*2^(8-c.length):=Nat.mul_lt_mul_of_pos_right h1 (Nat.two_pow_pos _);rw[←Nat.pow_add,show c.length+(8-c.length)=8 by omega] at h2;exact h2
theorem Ylh (r:List UInt8)(i:Nat)(h:Ybd r=true):Ya1 r i<256:=Yno _ (Yll r i h) (by rw[Ye0];omega)
theorem Ydm (r:List UInt8)(i:Nat)(h:r.length≤8*i):Ya1 r i=0:=by
 unfold Ya1 Yli;rw[List.drop_eq_nil_of_le h]
 rfl
theorem Yez (r e:List UInt8)(i:Nat)(h:8*i+8≤r.length):Ya1 (r++e) i=Ya1 r i:=by
 unfold Ya1;rw[List.drop_append_of_le_length (by omega),List.take_append_of_le_length (by rw[List.length_drop];omega)]
theorem Ylk (r:List UInt8)(d:UInt8):((r++[d]).drop (8*(r.length / 8))).take 8=(r.drop (8*(r.length / 8))).take 8++[d]:=by
 rw[List.drop_append_of_le_length (by omega),List.take_of_length_le (l:=r.drop _) (by rw[List.length_drop];omega),List.take_of_length_le (by rw[List.length_append,List.length_drop,List.length_singleton];omega)]
theorem Yc5 (r:List UInt8)(d:UInt8):Ya1 (r++[d]) (r.length / 8)=Ya1 r (r.length / 8)+(d.toNat-48)*2^(7-r.length%8):=by
 unfold Ya1;rw[Ylk];have hl:((r.drop (8*(r.length / 8))).take 8).length=r.length%8:=by rw[Ye0];omega
 generalize (r.drop (8*(r.length / 8))).take 8=c at hl;unfold Yli;rw[Yof,List.length_append,List.length_singleton,hl,show 8-(r.length%8+1)=7-r.length%8 by omega,show 8-r.length%8=7-r.length%8+1 by omega,Nat.pow_succ,Nat.add_mul]
 congr 1
 rw[Nat.mul_comm 2 (num c),Nat.mul_assoc,Nat.mul_comm 2]
theorem Yc4 (r:List UInt8)(d:UInt8)(i:Nat)(h:i≠r.length / 8):Ya1 (r++[d]) i=Ya1 r i:=by
 by_cases hi:8*i+8≤r.length
 ·exact Yez r [d] i hi
 ·rw[Ydm r i (by omega),Ydm _ i (by rw[List.length_append,List.length_singleton];omega)]
theorem Ygh (r:List UInt8)(i:Nat):Ya1 (r++[48]) i=Ya1 r i:=by
 by_cases hi:i=r.length / 8
 ·subst hi;rw[Yc5,show ((48:UInt8).toNat-48)=0 from rfl];omega
 ·exact Yc4 r 48 i hi
theorem Yj4 (r:List UInt8):Ya1 (r++[49]) (r.length / 8)=Ya1 r (r.length / 8)+2^(7-r.length%8):=by
 rw[Yc5,show ((49:UInt8).toNat-48)=1 from rfl];omega
theorem Yj3 (r:List UInt8):∃A,Ya1 r (r.length / 8)=2^(8-r.length%8)*A:=by
 refine⟨num ((r.drop (8*(r.length / 8))).take 8),?_⟩;unfold Ya1 Yli;rw[Ye0,show min 8 (r.length-8*(r.length / 8))=r.length%8 by omega,Nat.mul_comm]
theorem Yqp (x j A:Nat)(hj:j<8)(hx:x=2^(8-j)*A)(h:x<256):bits .or .u8 (x:Int) (128 / 2^j)=((x+2^(7-j):Nat):Int):=by
 have e1:(128:Int) / 2^j=((2^(7-j):Nat):Int):=by
  have e:(128:Int)=2^(7-j)*2^j:=by rw[←Int.pow_add,show 7-j+j=7 by omega];rfl
  rw[e,Int.mul_ediv_cancel _ (by have:(0:Int)<2^j:=Int.pow_pos (by decide);omega)];simp
 have hb:(2:Nat)^(7-j)<2^(8-j):=Nat.pow_lt_pow_right (by omega) (by omega);have hor:=Nat.two_pow_add_eq_or_of_lt hb A;rw[←hx] at hor;have hp:2^(7-j)≤2^7:=Nat.pow_le_pow_right (by omega) (by omega);have hlt:x ||| 2^(7-j)<2^8:=Nat.or_lt_two_pow (by omega) (by omega);rw[e1];show IntKind.u8.wrap ((BitVec.ofInt 8 (x:Int) ||| BitVec.ofInt 8 ((2^(7-j):Nat):Int)).toNat:Int)=_
 rw[BitVec.ofInt_natCast,BitVec.ofInt_natCast,BitVec.toNat_or,BitVec.toNat_ofNat,BitVec.toNat_ofNat,Nat.mod_eq_of_lt (by omega:x<2^8),Nat.mod_eq_of_lt (by omega:2^(7-j)<2^8),←hor];rw[←hor] at hlt;have:IntKind.u8.wrap ((x+2^(7-j):Nat):Int)=((x+2^(7-j):Nat):Int)%256:=rfl;rw[this];omega
end Go.Proofs.YtkgabfmjfhljdaaDoor
namespace Go.Proofs.YtkgabfmjfhljdaaDoor
def Ybt:Nat→(Nat→Int)→Int
 |0,_=>0
 |n+1,g=>Ybt n g+g n
theorem Ybs {g h:Nat→Int}:∀n,(∀i,i<n→g i=h i)→Ybt n g=Ybt n h
 |0,_=>rfl
 |n+1,e=>by
  unfold Ybt;rw[Ybs n fun i hi=>e i (by omega),e n (by omega)]
theorem Yhz (a:Nat)(g:Nat→Int):∀b,Ybt (a+b) g=Ybt a g+Ybt b fun i=>g (a+i)
 |0=>by simp[Ybt]
 |b+1=>by
  show Ybt (a+b) g+g (a+b)=Ybt a g+(Ybt b (fun i=>g (a+i))+g (a+b));rw[Yhz a g b,Int.add_assoc]
theorem Yh0 (m:Nat)(g:Nat→Int):∀k,Ybt (m*k) g=Ybt k fun y=>Ybt m fun x=>g (m*y+x)
 |0=>by simp[Ybt]
 |k+1=>by
  rw[Nat.mul_succ,Yhz,Yh0 m g k]
  rfl
theorem Yju (c:Int)(g:Nat→Int):∀n,Ybt n (fun i=>c*g i)=c*Ybt n g
 |0=>(Int.mul_zero c).symm
 |n+1=>by
  show Ybt n (fun i=>c*g i)+c*g n=c*(Ybt n g+g n);rw[Yju c g n,Int.mul_add]
theorem Yfe:∀n,Ybt n (fun _=>0)=0
 |0=>rfl
 |n+1=>by
  show Ybt n (fun _=>0)+0=0;rw[Yfe n]
  rfl
theorem Yfd {M:Int}{g:Nat→Int}:∀n,(∀i,i<n→-M≤g i∧g i≤M)→-(n*M)≤Ybt n g∧Ybt n g≤n*M
 |0,_=>by simp[Ybt]
 |n+1,h=>by
  have h1:=Yfd n fun i hi=>h i (by omega);have h2:=h n (by omega);have e:((n+1:Nat):Int)*M=n*M+M:=by rw[Int.natCast_add,Int.add_mul];simp
  rw[e];unfold Ybt;omega
theorem Ycx {a b A M:Int}(h1:-A≤a)(h2:a≤A)(h3:-M≤b)(h4:b≤M):-(A*M)≤a*b∧a*b≤A*M:=by
 have hA:0≤A:=by omega
 have hM:0≤M:=by omega
 have e:(a*b).natAbs≤(A*M).natAbs:=by
  rw[Int.natAbs_mul,Int.natAbs_mul];exact Nat.mul_le_mul (by omega) (by omega)
 have p:=Int.mul_nonneg hA hM;omega
def wtZ:List Int:=[64,64,64,64,64,64,64,64,89,75,50,18,-18,-50,-75,-89,83,36,-36,-83,-83,-36,36,83,75,-18,-89,-50,50,89,18,-75,64,-64,-64,64,64,-64,-64,64,50,-89,18,75,-75,-18,89,-50,36,-83,83,-36,-36,83,-83,36,18,-50,75,-89,89,-75,50,-18]
def wt (i:Nat):Int:=wtZ[i]?.getD 0
theorem Yqe:∀i,i<64→-89≤wt i∧wt i≤89:=by decide +kernel
def kI (a x:Nat):Int:=wt (8*x+a)
def InK (k:Nat→Nat→Int):Prop:=∀a x,a<8→x<8→-89≤k a x∧k a x≤89
theorem Yl8:InK kI:=fun a x ha hx=>Yqe _ (by omega)
def Yfs (k:Nat→Nat→Int)(b:Nat→Int)(r a:Nat):Int:=Ybt 8 fun x=>k a x*b (8*r+x)
def Yb2 (k:Nat→Nat→Int)(b:Nat→Int)(q:Nat):Int:=Yfs k b (q%8) (q / 8)
def InB (M:Int)(b:Nat→Int):Prop:=∀i,i<64→-M≤b i∧b i≤M
theorem Yhv {k:Nat→Nat→Int}{b:Nat→Int}{M:Int}(hk:InK k)(hb:InB M b)(r a:Nat)(hr:r<8)(ha:a<8):∀n,n≤8→-(n*(89*M))≤Ybt n (fun x=>k a x*b (8*r+x))∧Ybt n (fun x=>k a x*b (8*r+x))≤n*(89*M):=by
 intro n hn;refine Yfd n fun x hx=>?_;have h1:=hk a x ha (by omega);have h2:=hb (8*r+x) (by omega);exact Ycx h1.1 h1.2 h2.1 h2.2
theorem Ymv {k:Nat→Nat→Int}{b:Nat→Int}{M:Int}(hk:InK k)(hb:InB M b)(r a:Nat)(hr:r<8)(ha:a<8)(n:Nat)(hn:n≤8):-(712*M)≤Ybt n (fun x=>k a x*b (8*r+x))∧Ybt n (fun x=>k a x*b (8*r+x))≤712*M:=by
 have h:=Yhv hk hb r a hr ha n hn;have h0:=hb 0 (by omega);have e:(n:Int)*(89*M)≤8*(89*M):=Int.mul_le_mul_of_nonneg_right (by omega) (by omega);omega
theorem Yp6 {k:Nat→Nat→Int}{b:Nat→Int}{M:Int}(hk:InK k)(hb:InB M b)(r a:Nat)(hr:r<8)(ha:a<8):-(712*M)≤Yfs k b r a∧Yfs k b r a≤712*M:=by
 have h:=Yhv hk hb r a hr ha 8 (Nat.le_refl _);unfold Yfs;omega
theorem Yo0 {k:Nat→Nat→Int}{b:Nat→Int}{M:Int}(hk:InK k)(hb:InB M b):InB (712*M) (Yb2 k b):=fun q hq=>Yp6 hk hb _ _ (by omega) (by omega)
theorem Ycl {k:Nat→Nat→Int}{b c:Nat→Int}(h:∀i,i<64→b i=c i):∀q,q<64→Yb2 k b q=Yb2 k c q:=by
 intro q hq;refine Ybs 8 fun x hx=>?_;rw[h _ (by omega)]
theorem Yiy (k:Nat→Nat→Int)(b:Nat→Int)(p:Nat):Yb2 k (Yb2 k b) p=Ybt 8 fun y=>Ybt 8 fun x=>k (p / 8) y*(k (p%8) x*b (8*y+x)):=by
 refine Ybs 8 fun y hy=>?_;show k (p / 8) y*Yfs k b ((8*(p%8)+y)%8) ((8*(p%8)+y) / 8)=_;rw[show (8*(p%8)+y)%8=y by omega,show (8*(p%8)+y) / 8=p%8 by omega];exact(Yju _ _ 8).symm
def Yca (k:Nat→Nat→Int)(b:Nat→Int)(p i:Nat):Int:=k (p%8) (i%8)*k (p / 8) (i / 8)*b i
theorem Yk2 (k:Nat→Nat→Int)(b:Nat→Int)(p:Nat):Yb2 k (Yb2 k b) p=Ybt 64 (Yca k b p):=by
 rw[Yiy k b p,show (64:Nat)=8*8 from rfl,Yh0];refine Ybs 8 fun y hy=>Ybs 8 fun x hx=>?_;unfold Yca;rw[show (8*y+x)%8=x by omega,show (8*y+x) / 8=y by omega,←Int.mul_assoc,Int.mul_comm (k (p / 8) y)]
def Ya5 (f:Nat→Int)(i:Nat):Int:=Ya4 (f i) (-2048) 2047
theorem Yeo (f:Nat→Int):InB 2048 (Ya5 f):=fun i _=>⟨Yby _ _ _,Int.le_trans (Ybx _ _ _ (by omega)) (by omega)⟩
def rdB (lo hi:Int)(b:Nat→Int)(i:Nat):Int:=Ya4 (round (b i) 15) lo hi
def Yqf (k:Nat→Nat→Int)(lo hi:Int)(f:Nat→Int):Nat→Int:=rdB lo hi (Yb2 k (Yb2 k (Ya5 f)))
def Yeq:(Nat→Int)→Nat→Int:=Yqf kI (-256) 255
theorem Yf0 {k:Nat→Nat→Int}{lo hi:Int}{f g:Nat→Int}(h:∀i,i<64→f i=g i):∀p,p<64→Yqf k lo hi f p=Yqf k lo hi g p:=by
 intro p hp;unfold Yqf rdB;rw[Ycl (Ycl (c:=Ya5 g) fun i hi=>by unfold Ya5;rw[h i hi]) p hp]
theorem Yp5 (n:Int)(h1:-1099511627776≤n)(h2:n≤1099511627776):round n 15=(n+16384) / 32768:=by
 unfold round;rw[show Ya4 15 0 32=15 from rfl,if_neg (by omega),Ypm _ _ _ h1 h2]
 rfl
theorem Yl9:∀a,a<8→kI a 0=64:=by decide +kernel
def Yik (n:Int)(i:Nat):Int:=if i=0 then n else 0
theorem Yo2 (c:Int):∀q,q<64→Yb2 kI (Yik c) q=if q%8=0 then 64*c else 0:=by
 intro q hq;have h0:=Yl9 (q / 8) (by omega);unfold Yb2 Yfs;by_cases h:q%8=0
 ·rw[if_pos h,h,Ybs 8 (h:=fun x=>Yik (64*c) x) fun x hx=>by
   unfold Yik;by_cases e:x=0
   ·subst e;rw[if_pos rfl,if_pos rfl,h0]
   ·rw[if_neg (by omega),if_neg e];exact Int.mul_zero _]
  simp[Ybt,Yik]
 ·rw[if_neg h,Ybs 8 (h:=fun _=>0) fun x hx=>by
   unfold Yik;rw[if_neg (by omega)];exact Int.mul_zero _]
  exact Yfe 8
theorem Yo1 (c:Int):∀q,q<64→Yb2 kI (fun q=>if q%8=0 then c else 0) q=64*c:=by
 intro q hq;have h0:=Yl9 (q / 8) (by omega);unfold Yb2 Yfs;rw[Ybs 8 (h:=fun x=>Yik (64*c) x) fun x hx=>by
  show kI (q / 8) x*(if (8*(q%8)+x)%8=0 then c else 0)=if x=0 then 64*c else 0
  by_cases e:x=0
  ·subst e;rw[if_pos (by omega),if_pos rfl,h0]
  ·rw[if_neg (by omega),if_neg e];exact Int.mul_zero _]
 simp[Ybt,Yik]
def Yqo (n:Int):Int:=Ya4 ((Ya4 n (-2048) 2047+4) / 8) (-256) 255
theorem Yl6 (n:Int):∀p,p<64→Yeq (Yik n) p=Yqo n:=by
 intro p hp;have h1:=Yby n (-2048) 2047;have h2:=Ybx n (-2048) 2047 (by omega);have e0:∀i,i<64→Ya5 (Yik n) i=Yik (Ya4 n (-2048) 2047) i:=by
  intro i _;unfold Ya5 Yik;by_cases e:i=0
  ·rw[if_pos e,if_pos e]
  ·rw[if_neg e,if_neg e]
   rfl
 unfold Yeq Yqf rdB Yqo;rw[Ycl (Ycl e0) p hp,Ycl (Yo2 (Ya4 n (-2048) 2047)) p hp,Yo1 _ p hp];generalize Ya4 n (-2048) 2047=c at h1 h2 ⊢;rw[Yp5 _ (by omega) (by omega),show (64*(64*c)+16384) / 32768=(c+4) / 8 by omega]
end Go.Proofs.YtkgabfmjfhljdaaDoor