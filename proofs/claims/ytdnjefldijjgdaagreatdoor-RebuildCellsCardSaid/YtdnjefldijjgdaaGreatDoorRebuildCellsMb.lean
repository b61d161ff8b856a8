/- No condition. -/
import Derived.OpenShut
import Derived.IntWalk
import Derived.KernelRfl
namespace Go.Proofs.YtdnjefldijjgdaaGreatDoor
open Go.RowKit
theorem Yav {k:IntKind}{a b:Int}(h:a=b):Ending.returned (.int k a)=.returned (.int k b):=by rw[h]
theorem Yac {a b:Bool}(h:a=b):Ending.returned (.bool a)=.returned (.bool b):=by rw[h]
theorem Ycv {n:Int}(h:-9223372036854775808≤n∧n≤9223372036854775807):IntKind.i64.wrap n=n:=by
 rw[IntKind.wrap_i64];omega
theorem Ya1 {n:Nat}(h:n≤9223372036854775807):IntKind.i64.wrap (n:Int)=(n:Int):=Ycv (by omega)
def Ya4 (n lo hi:Int):Int:=max lo (min n hi)
theorem Ybp (n lo hi:Int):lo≤Ya4 n lo hi:=by unfold Ya4;omega
theorem Ybo (n lo hi:Int)(h:lo≤hi):Ya4 n lo hi≤hi:=by unfold Ya4;omega
theorem Yga (n lo hi:Int)(h1:lo≤n)(h2:n≤hi):Ya4 n lo hi=n:=by unfold Ya4;omega
def Ygx (n:Int):Int:=(n+32)%64-32
theorem Ykl (n:Int)(k:Nat)(hk:k≤62):bits .and .i64 n ((2:Int)^k-1)=n%(2:Int)^k:=by
 have hpn:(2:Nat)^k≤2^62:=Nat.pow_le_pow_right (by omega) hk;have hp1:1≤(2:Nat)^k:=Nat.one_le_two_pow;have hpc:((2:Int)^k)=(((2:Nat)^k:Nat):Int):=by simp
 have h2:(BitVec.ofInt 64 ((2:Int)^k-1)).toNat=2^k-1:=by
  rw[hpc,show ((((2:Nat)^k:Nat):Int)-1)=((2^k-1:Nat):Int) by omega,BitVec.ofInt_natCast,BitVec.toNat_ofNat];exact Nat.mod_eq_of_lt (by omega)
 have h1:(BitVec.ofInt 64 n).toNat=(n%18446744073709551616).toNat:=by rw[BitVec.toNat_ofInt];rfl
 show IntKind.i64.wrap ((BitVec.ofInt 64 n &&& BitVec.ofInt 64 ((2:Int)^k-1)).toNat:Int)=_;rw[BitVec.toNat_and,h1,h2,Nat.and_two_pow_sub_one_eq_mod,hpc,IntKind.wrap_i64];have hd:(((2:Nat)^k:Nat):Int) ∣ 18446744073709551616:=by
  have e:(18446744073709551616:Nat)=2^64:=by decide
  have d:(2:Nat)^k ∣ (18446744073709551616:Nat):=by rw[e];exact Nat.pow_dvd_pow 2 (by omega)
  exact Int.natCast_dvd_natCast.2 d
 have hm:((((n%18446744073709551616).toNat%2^k:Nat)):Int)=n%(((2:Nat)^k:Nat):Int):=by
  rw[Int.natCast_emod,Int.toNat_of_nonneg (Int.emod_nonneg _ (by omega)),Int.emod_emod_of_dvd _ hd]
 rw[hm];have:=Int.emod_nonneg n (b:=(((2:Nat)^k:Nat):Int)) (by omega);have:=Int.emod_lt_of_pos n (b:=(((2:Nat)^k:Nat):Int)) (by omega);omega
theorem Ytu (n:Int):bits .and .i64 n 63=n%64:=Ykl n 6 (by omega)
def round (n bits:Int):Int:=
 if Ya4 bits 0 32=0 then Ya4 n (-1099511627776) 1099511627776
 else (Ya4 n (-1099511627776) 1099511627776+2^((Ya4 bits 0 32).toNat-1)) / 2^(Ya4 bits 0 32).toNat
theorem Yl5 (k:Nat)(h:k≤32):1≤(2:Int)^k∧(2:Int)^k≤4294967296:=by
 have h1:(2:Nat)^k≤2^32:=Nat.pow_le_pow_right (by omega) h;have h2:1≤(2:Nat)^k:=Nat.one_le_two_pow;have h3:((2:Int)^k)=(((2:Nat)^k:Nat):Int):=by simp
 omega
end Go.Proofs.YtdnjefldijjgdaaGreatDoor
namespace Go.Proofs.YtdnjefldijjgdaaGreatDoor
def Ygb (b:Nat):UInt8:=if b%2=0 then 48 else 49
def Ycu (v:Nat):Nat→List UInt8
 |0=>[]
 |n+1=>Ygb (v / 2^n)::Ycu v n
theorem Yce (v n:Nat):(Ycu v n).length=n:=by
 induction n with
 |zero=>rfl
 |succ n ih=>simp[Ycu,ih]
def Ybv (l:List UInt8):Bool:=l.all (fun c=>c==48 || c==49)
theorem Yon (b:Nat):(Ygb b==48 || Ygb b==49)=true:=by
 unfold Ygb
 split <;> rfl
theorem Yjz (v n:Nat):Ybv (Ycu v n)=true:=by
 induction n with
 |zero=>rfl
 |succ n ih=>
  show ((Ygb (v / 2^n)==48 || Ygb (v / 2^n)==49)&&Ybv (Ycu v n))=true;rw[ih,Yon];rfl
def Ygk (a:Nat):List UInt8→Nat
 |[]=>a
 |c::l=>Ygk (2*a+(c.toNat-48)) l
def num (l:List UInt8):Nat:=Ygk 0 l
theorem Yeh (a:Nat)(l m:List UInt8):Ygk a (l++m)=Ygk (Ygk a l) m:=by
 induction l generalizing a with
 |nil=>rfl
 |cons c l ih=>exact ih _
theorem Ycd (l m:List UInt8):Ybv (l++m)=(Ybv l&&Ybv m):=by simp[Ybv]
theorem Ymz (l:List UInt8)(j:Nat)(h:Ybv l=true):Ybv (l.take j)=true:=by
 unfold Ybv at h ⊢;rw[List.all_eq_true] at h ⊢;exact fun c hc=>h c (List.mem_of_mem_take hc)
theorem Ymy (l:List UInt8)(j:Nat)(h:Ybv l=true):Ybv (l.drop j)=true:=by
 unfold Ybv at h ⊢;rw[List.all_eq_true] at h ⊢;exact fun c hc=>h c (List.mem_of_mem_drop hc)
theorem Yjo (l:List UInt8)(j:Nat)(hj:j<l.length)(h:Ybv l=true):l[j].toNat=48∨l[j].toNat=49:=by
 unfold Ybv at h;rw[List.all_eq_true] at h;have:=h l[j] (List.getElem_mem hj);simp only[Bool.or_eq_true,beq_iff_eq] at this;rcases this with e|e <;> rw[e]
 ·exact .inl rfl
 ·exact .inr rfl
theorem Yrq (l:List UInt8)(j:Nat)(h:j<l.length):num (l.take (j+1))=2*num (l.take j)+(l[j].toNat-48):=by
 rw[List.take_succ_eq_append_getElem h];exact Yeh 0 _ _
theorem Yt1 (l:List UInt8)(h:Ybv l=true)(j:Nat)(hj:j≤l.length):num (l.take j)<2^j:=by
 induction j with
 |zero=>rw[List.take_zero];decide
 |succ j ih=>
  have:=ih (by omega);rw[Yrq l j hj,Nat.pow_succ];rcases Yjo l j hj h with e|e <;> omega
end Go.Proofs.YtdnjefldijjgdaaGreatDoor
namespace Go.Proofs.YtdnjefldijjgdaaGreatDoor
open Go.RowKit
def Yn8 (c:List UInt8):Nat:=num c*2^(8-c.length)
def Ybb (r:List UInt8)(i:Nat):Nat:=Yn8 ((r.drop (8*i)).take 8)
theorem Yrp (c:List UInt8)(d:UInt8):num (c++[d])=2*num c+(d.toNat-48):=Yeh 0 c [d]
theorem Yro (c:List UInt8)(h:Ybv c=true):num c<2^c.length:=by
 have:=Yt1 c h c.length (Nat.le_refl _);rwa [List.take_of_length_le (Nat.le_refl _)] at this
theorem Yf9 (r:List UInt8)(i:Nat):((r.drop (8*i)).take 8).length=min 8 (r.length-8*i):=by simp
theorem Yoc (r:List UInt8)(i:Nat)(h:Ybv r=true):Ybv ((r.drop (8*i)).take 8)=true:=Ymz _ _ (Ymy _ _ h)
theorem Yqu (c:List UInt8)(h:Ybv c=true)(hl:c.length≤8):Yn8 c<256:=by
 have h1:=Yro c h;have h2:num c*2^(8-c.length)<2^c.length*2^(8-c.length):=Nat.mul_lt_mul_of_pos_right h1 (Nat.two_pow_pos _);rw[←Nat.pow_add,show c.length+(8-c.length)=8 by omega] at h2;exact h2
theorem Yn7 (r:List UInt8)(i:Nat)(h:Ybv r=true):Ybb r i<256:=Yqu _ (Yoc r i h) (by rw[Yf9];omega)
theorem Yej (r:List UInt8)(i:Nat)(h:r.length≤8*i):Ybb r i=0:=by
 unfold Ybb Yn8;rw[List.drop_eq_nil_of_le h]
 rfl
theorem Yf7 (r e:List UInt8)(i:Nat)(h:8*i+8≤r.length):Ybb (r++e) i=Ybb r i:=by
 unfold Ybb;rw[List.drop_append_of_le_length (by omega),List.take_append_of_le_length (by rw[List.length_drop];omega)]
theorem Yob (r:List UInt8)(d:UInt8):((r++[d]).drop (8*(r.length / 8))).take 8=(r.drop (8*(r.length / 8))).take 8++[d]:=by
 rw[List.drop_append_of_le_length (by omega),List.take_of_length_le (l:=r.drop _) (by rw[List.length_drop];omega),List.take_of_length_le (by rw[List.length_append,List.length_drop,List.length_singleton];omega)]
theorem Ydz (r:List UInt8)(d:UInt8):Ybb (r++[d]) (r.length / 8)=Ybb r (r.length / 8)+(d.toNat-48)*2^(7-r.length%8):=by
 unfold Ybb;rw[Yob];have hl:((r.drop (8*(r.length / 8))).take 8).length=r.length%8:=by rw[Yf9];omega
 generalize (r.drop (8*(r.length / 8))).take 8=c at hl;unfold Yn8;rw[Yrp,List.length_append,List.length_singleton,hl,show 8-(r.length%8+1)=7-r.length%8 by omega,show 8-r.length%8=7-r.length%8+1 by omega,Nat.pow_succ,Nat.add_mul]
 congr 1
 rw[Nat.mul_comm 2 (num c),Nat.mul_assoc,Nat.mul_comm 2]
theorem Ydx (r:List UInt8)(d:UInt8)(i:Nat)(h:i≠r.length / 8):Ybb (r++[d]) i=Ybb r i:=by
 by_cases hi:8*i+8≤r.length
 ·exact Yf7 r [d] i hi
 ·rw[Yej r i (by omega),Yej _ i (by rw[List.length_append,List.length_singleton];omega)]
theorem Yh4 (r:List UInt8)(i:Nat):Ybb (r++[48]) i=Ybb r i:=by
 by_cases hi:i=r.length / 8
 ·subst hi;rw[Ydz,show ((48:UInt8).toNat-48)=0 from rfl];omega
 ·exact Ydx r 48 i hi
theorem Ymm (r:List UInt8):Ybb (r++[49]) (r.length / 8)=Ybb r (r.length / 8)+2^(7-r.length%8):=by
 rw[Ydz,show ((49:UInt8).toNat-48)=1 from rfl];omega
theorem Yml (r:List UInt8):∃A,Ybb r (r.length / 8)=2^(8-r.length%8)*A:=by
 refine⟨num ((r.drop (8*(r.length / 8))).take 8),?_⟩;unfold Ybb Yn8;rw[Yf9,show min 8 (r.length-8*(r.length / 8))=r.length%8 by omega,Nat.mul_comm]
theorem Yt3 (x j A:Nat)(hj:j<8)(hx:x=2^(8-j)*A)(h:x<256):bits .or .u8 (x:Int) (128 / 2^j)=((x+2^(7-j):Nat):Int):=by
 have e1:(128:Int) / 2^j=((2^(7-j):Nat):Int):=by
  have e:(128:Int)=2^(7-j)*2^j:=by rw[←Int.pow_add,show 7-j+j=7 by omega];rfl
  rw[e,Int.mul_ediv_cancel _ (by have:(0:Int)<2^j:=Int.pow_pos (by decide);omega)];simp
 have hb:(2:Nat)^(7-j)<2^(8-j):=Nat.pow_lt_pow_right (by omega) (by omega);have hor:=Nat.two_pow_add_eq_or_of_lt hb A;rw[←hx] at hor;have hp:2^(7-j)≤2^7:=Nat.pow_le_pow_right (by omega) (by omega);have hlt:x ||| 2^(7-j)<2^8:=Nat.or_lt_two_pow (by omega) (by omega);rw[e1];show IntKind.u8.wrap ((BitVec.ofInt 8 (x:Int) ||| BitVec.ofInt 8 ((2^(7-j):Nat):Int)).toNat:Int)=_
 rw[BitVec.ofInt_natCast,BitVec.ofInt_natCast,BitVec.toNat_or,BitVec.toNat_ofNat,BitVec.toNat_ofNat,Nat.mod_eq_of_lt (by omega:x<2^8),Nat.mod_eq_of_lt (by omega:2^(7-j)<2^8),←hor];rw[←hor] at hlt;have:IntKind.u8.wrap ((x+2^(7-j):Nat):Int)=((x+2^(7-j):Nat):Int)%256:=rfl;rw[this];omega
end Go.Proofs.YtdnjefldijjgdaaGreatDoor
namespace Go.Proofs.YtdnjefldijjgdaaGreatDoor
def Ycg:Nat→(Nat→Int)→Int
 |0,_=>0
 |n+1,g=>Ycg n g+g n
theorem Ycf {g h:Nat→Int}:∀n,(∀i,i<n→g i=h i)→Ycg n g=Ycg n h
 |0,_=>rfl
 |n+1,e=>by
  unfold Ycg;rw[Ycf n fun i hi=>e i (by omega),e n (by omega)]
theorem Yj4 (a:Nat)(g:Nat→Int):∀b,Ycg (a+b) g=Ycg a g+Ycg b fun i=>g (a+i)
 |0=>by simp[Ycg]
 |b+1=>by
  show Ycg (a+b) g+g (a+b)=Ycg a g+(Ycg b (fun i=>g (a+i))+g (a+b));rw[Yj4 a g b,Int.add_assoc]
theorem Yj5 (m:Nat)(g:Nat→Int):∀k,Ycg (m*k) g=Ycg k fun y=>Ycg m fun x=>g (m*y+x)
 |0=>by simp[Ycg]
 |k+1=>by
  rw[Nat.mul_succ,Yj4,Yj5 m g k]
  rfl
theorem Ymc (c:Int)(g:Nat→Int):∀n,Ycg n (fun i=>c*g i)=c*Ycg n g
 |0=>(Int.mul_zero c).symm
 |n+1=>by
  show Ycg n (fun i=>c*g i)+c*g n=c*(Ycg n g+g n);rw[Ymc c g n,Int.mul_add]
theorem Ygt:∀n,Ycg n (fun _=>0)=0
 |0=>rfl
 |n+1=>by
  show Ycg n (fun _=>0)+0=0;rw[Ygt n]
  rfl
theorem Ygs {M:Int}{g:Nat→Int}:∀n,(∀i,i<n→-M≤g i∧g i≤M)→-(n*M)≤Ycg n g∧Ycg n g≤n*M
 |0,_=>by simp[Ycg]
 |n+1,h=>by
  have h1:=Ygs n fun i hi=>h i (by omega);have h2:=h n (by omega);have e:((n+1:Nat):Int)*M=n*M+M:=by rw[Int.natCast_add,Int.add_mul];simp
  rw[e];unfold Ycg;omega
theorem Ydp {a b A M:Int}(h1:-A≤a)(h2:a≤A)(h3:-M≤b)(h4:b≤M):-(A*M)≤a*b∧a*b≤A*M:=by
 have hA:0≤A:=by omega
 have hM:0≤M:=by omega
 have e:(a*b).natAbs≤(A*M).natAbs:=by
  rw[Int.natAbs_mul,Int.natAbs_mul];exact Nat.mul_le_mul (by omega) (by omega)
 have p:=Int.mul_nonneg hA hM;omega
def wtZ:List Int:=[64,64,64,64,64,64,64,64,89,75,50,18,-18,-50,-75,-89,83,36,-36,-83,-83,-36,36,83,75,-18,-89,-50,50,89,18,-75,64,-64,-64,64,64,-64,-64,64,50,-89,18,75,-75,-18,89,-50,36,-83,83,-36,-36,83,-83,36,18,-50,75,-89,89,-75,50,-18]
def wt (i:Nat):Int:=wtZ[i]?.getD 0
theorem Yts:∀i,i<64→-89≤wt i∧wt i≤89:=by decide +kernel
def kI (a x:Nat):Int:=wt (8*x+a)
def InK (k:Nat→Nat→Int):Prop:=∀a x,a<8→x<8→-89≤k a x∧k a x≤89
theorem Yo3:InK kI:=fun a x ha hx=>Yts _ (by omega)
def Yg7 (k:Nat→Nat→Int)(b:Nat→Int)(r a:Nat):Int:=Ycg 8 fun x=>k a x*b (8*r+x)
def Ycj (k:Nat→Nat→Int)(b:Nat→Int)(q:Nat):Int:=Yg7 k b (q%8) (q / 8)
def InB (M:Int)(b:Nat→Int):Prop:=∀i,i<64→-M≤b i∧b i≤M
theorem Yjy {k:Nat→Nat→Int}{b:Nat→Int}{M:Int}(hk:InK k)(hb:InB M b)(r a:Nat)(hr:r<8)(ha:a<8):∀n,n≤8→-(n*(89*M))≤Ycg n (fun x=>k a x*b (8*r+x))∧Ycg n (fun x=>k a x*b (8*r+x))≤n*(89*M):=by
 intro n hn;refine Ygs n fun x hx=>?_;have h1:=hk a x ha (by omega);have h2:=hb (8*r+x) (by omega);exact Ydp h1.1 h1.2 h2.1 h2.2
theorem Ypy {k:Nat→Nat→Int}{b:Nat→Int}{M:Int}(hk:InK k)(hb:InB M b)(r a:Nat)(hr:r<8)(ha:a<8)(n:Nat)(hn:n≤8):-(712*M)≤Ycg n (fun x=>k a x*b (8*r+x))∧Ycg n (fun x=>k a x*b (8*r+x))≤712*M:=by
 have h:=Yjy hk hb r a hr ha n hn;have h0:=hb 0 (by omega);have e:(n:Int)*(89*M)≤8*(89*M):=Int.mul_le_mul_of_nonneg_right (by omega) (by omega);omega
theorem Ytj {k:Nat→Nat→Int}{b:Nat→Int}{M:Int}(hk:InK k)(hb:InB M b)(r a:Nat)(hr:r<8)(ha:a<8):-(712*M)≤Yg7 k b r a∧Yg7 k b r a≤712*M:=by
 have h:=Yjy hk hb r a hr ha 8 (Nat.le_refl _);unfold Yg7;omega
theorem Ysc {k:Nat→Nat→Int}{b:Nat→Int}{M:Int}(hk:InK k)(hb:InB M b):InB (712*M) (Ycj k b):=fun q hq=>Ytj hk hb _ _ (by omega) (by omega)
theorem Ydc {k:Nat→Nat→Int}{b c:Nat→Int}(h:∀i,i<64→b i=c i):∀q,q<64→Ycj k b q=Ycj k c q:=by
 intro q hq;refine Ycf 8 fun x hx=>?_;rw[h _ (by omega)]
theorem Ylc (k:Nat→Nat→Int)(b:Nat→Int)(p:Nat):Ycj k (Ycj k b) p=Ycg 8 fun y=>Ycg 8 fun x=>k (p / 8) y*(k (p%8) x*b (8*y+x)):=by
 refine Ycf 8 fun y hy=>?_;show k (p / 8) y*Yg7 k b ((8*(p%8)+y)%8) ((8*(p%8)+y) / 8)=_;rw[show (8*(p%8)+y)%8=y by omega,show (8*(p%8)+y) / 8=p%8 by omega];exact(Ymc _ _ 8).symm
def Yct (k:Nat→Nat→Int)(b:Nat→Int)(p i:Nat):Int:=k (p%8) (i%8)*k (p / 8) (i / 8)*b i
theorem Ynt (k:Nat→Nat→Int)(b:Nat→Int)(p:Nat):Ycj k (Ycj k b) p=Ycg 64 (Yct k b p):=by
 rw[Ylc k b p,show (64:Nat)=8*8 from rfl,Yj5];refine Ycf 8 fun y hy=>Ycf 8 fun x hx=>?_;unfold Yct;rw[show (8*y+x)%8=x by omega,show (8*y+x) / 8=y by omega,←Int.mul_assoc,Int.mul_comm (k (p / 8) y)]
def Ybg (f:Nat→Int)(i:Nat):Int:=Ya4 (f i) (-2048) 2047
theorem Yfu (f:Nat→Int):InB 2048 (Ybg f):=fun i _=>⟨Ybp _ _ _,Int.le_trans (Ybo _ _ _ (by omega)) (by omega)⟩
def rdB (lo hi:Int)(b:Nat→Int)(i:Nat):Int:=Ya4 (round (b i) 15) lo hi
def Ytt (k:Nat→Nat→Int)(lo hi:Int)(f:Nat→Int):Nat→Int:=rdB lo hi (Ycj k (Ycj k (Ybg f)))
def Yfw:(Nat→Int)→Nat→Int:=Ytt kI (-256) 255
theorem Yfa {k:Nat→Nat→Int}{lo hi:Int}{f g:Nat→Int}(h:∀i,i<64→f i=g i):∀p,p<64→Ytt k lo hi f p=Ytt k lo hi g p:=by
 intro p hp;unfold Ytt rdB;rw[Ydc (Ydc (c:=Ybg g) fun i hi=>by unfold Ybg;rw[h i hi]) p hp]
theorem Yti (n:Int)(h1:-1099511627776≤n)(h2:n≤1099511627776):round n 15=(n+16384) / 32768:=by
 unfold round;rw[show Ya4 15 0 32=15 from rfl,if_neg (by omega),Yga _ _ _ h1 h2]
 rfl
theorem Yo4:∀a,a<8→kI a 0=64:=by decide +kernel
def Yki (n:Int)(i:Nat):Int:=if i=0 then n else 0
theorem Yse (c:Int):∀q,q<64→Ycj kI (Yki c) q=if q%8=0 then 64*c else 0:=by
 intro q hq;have h0:=Yo4 (q / 8) (by omega);unfold Ycj Yg7;by_cases h:q%8=0
 ·rw[if_pos h,h,Ycf 8 (h:=fun x=>Yki (64*c) x) fun x hx=>by
   unfold Yki;by_cases e:x=0
   ·subst e;rw[if_pos rfl,if_pos rfl,h0]
   ·rw[if_neg (by omega),if_neg e];exact Int.mul_zero _]
  simp[Ycg,Yki]
 ·rw[if_neg h,Ycf 8 (h:=fun _=>0) fun x hx=>by
   unfold Yki;rw[if_neg (by omega)];exact Int.mul_zero _]
  exact Ygt 8
theorem Ysd (c:Int):∀q,q<64→Ycj kI (fun q=>if q%8=0 then c else 0) q=64*c:=by
 intro q hq;have h0:=Yo4 (q / 8) (by omega);unfold Ycj Yg7;rw[Ycf 8 (h:=fun x=>Yki (64*c) x) fun x hx=>by
  show kI (q / 8) x*(if (8*(q%8)+x)%8=0 then c else 0)=if x=0 then 64*c else 0
  by_cases e:x=0
  ·subst e;rw[if_pos (by omega),if_pos rfl,h0]
  ·rw[if_neg (by omega),if_neg e];exact Int.mul_zero _]
 simp[Ycg,Yki]
def Yt2 (n:Int):Int:=Ya4 ((Ya4 n (-2048) 2047+4) / 8) (-256) 255
theorem Yku (n:Int):∀p,p<64→Yfw (Yki n) p=Yt2 n:=by
 intro p hp;have h1:=Ybp n (-2048) 2047;have h2:=Ybo n (-2048) 2047 (by omega);have e0:∀i,i<64→Ybg (Yki n) i=Yki (Ya4 n (-2048) 2047) i:=by
  intro i _;unfold Ybg Yki;by_cases e:i=0
  ·rw[if_pos e,if_pos e]
  ·rw[if_neg e,if_neg e]
   rfl
 unfold Yfw Ytt rdB Yt2;rw[Ydc (Ydc e0) p hp,Ydc (Yse (Ya4 n (-2048) 2047)) p hp,Ysd _ p hp];generalize Ya4 n (-2048) 2047=c at h1 h2 ⊢;rw[Yti _ (by omega) (by omega),show (64*(64*c)+16384) / 32768=(c+4) / 8 by omega]
end Go.Proofs.YtdnjefldijjgdaaGreatDoor
namespace Go.Proofs.YtdnjefldijjgdaaGreatDoor
open Go.RowKit
def Ysl (k:Int):Int×Int×Int×Int:=
 if k=1 then (128,96,6,1) else if k=2 then (176,144,9,1) else if k=3 then (352,288,18,1) else if k=4 then (704,576,18,2) else if k=5 then (1408,1152,18,4) else if k=6 then (32,32,2,1) else (0,0,0,0)
def Yda (k:Int):Int:=(Ysl k).1
def Ydd (k:Int):Int:=(Ysl k).2.1
def Yjf (k:Int):Int:=(Ysl k).2.2.1
def Yje (k:Int):Int:=(Ysl k).2.2.2
def Yed (k:Int):Bool:=decide (1≤k∧k≤6)
theorem Ycp (k:Int):k=1∨k=2∨k=3∨k=4∨k=5∨k=6∨(Yed k=false∧Ysl k=(0,0,0,0)):=by
 by_cases h:1≤k∧k≤6
 ·omega
 ·refine .inr (.inr (.inr (.inr (.inr (.inr ⟨by simpa [Yed] using h,?_⟩)))));unfold Ysl;rw[if_neg (by omega),if_neg (by omega),if_neg (by omega),if_neg (by omega),if_neg (by omega),if_neg (by omega)]
theorem Yq9 {k:Int}(h:Yed k=false):(k==1)=false∧(k==2)=false∧(k==3)=false∧(k==4)=false∧(k==5)=false∧(k==6)=false:=by
 have h1:¬ (1≤k∧k≤6):=by simpa [Yed] using h
 refine⟨?_,?_,?_,?_,?_,?_⟩ <;> (simp;omega)
end Go.Proofs.YtdnjefldijjgdaaGreatDoor