/- No condition. -/
import Derived.OpenShut
import Derived.IntWalk
import Derived.KernelRfl
namespace Go.Proofs.YtnamlooifcpoaaaGreatDoor
open Go.RowKit
theorem Ya6 {k:IntKind}{a b:Int}(h:a=b):Ending.returned (.int k a)=.returned (.int k b):=by rw[h]
theorem Yad {a b:Bool}(h:a=b):Ending.returned (.bool a)=.returned (.bool b):=by rw[h]
theorem Yde {n:Int}(h:-9223372036854775808≤n∧n≤9223372036854775807):IntKind.i64.wrap n=n:=by
 rw[IntKind.wrap_i64];omega
theorem Ya7 {n:Nat}(h:n≤9223372036854775807):IntKind.i64.wrap (n:Int)=(n:Int):=Yde (by omega)
def Yax (n lo hi:Int):Int:=max lo (min n hi)
theorem Ybl (n lo hi:Int):lo≤Yax n lo hi:=by unfold Yax;omega
theorem Ybk (n lo hi:Int)(h:lo≤hi):Yax n lo hi≤hi:=by unfold Yax;omega
theorem Ygw (n lo hi:Int)(h1:lo≤n)(h2:n≤hi):Yax n lo hi=n:=by unfold Yax;omega
def Ykk (n:Int):Int:=(n+32)%64-32
theorem Ypw (n:Int)(k:Nat)(hk:k≤62):bits .and .i64 n ((2:Int)^k-1)=n%(2:Int)^k:=by
 have hpn:(2:Nat)^k≤2^62:=Nat.pow_le_pow_right (by omega) hk;have hp1:1≤(2:Nat)^k:=Nat.one_le_two_pow;have hpc:((2:Int)^k)=(((2:Nat)^k:Nat):Int):=by simp
 have h2:(BitVec.ofInt 64 ((2:Int)^k-1)).toNat=2^k-1:=by
  rw[hpc,show ((((2:Nat)^k:Nat):Int)-1)=((2^k-1:Nat):Int) by omega,BitVec.ofInt_natCast,BitVec.toNat_ofNat];exact Nat.mod_eq_of_lt (by omega)
 have h1:(BitVec.ofInt 64 n).toNat=(n%18446744073709551616).toNat:=by rw[BitVec.toNat_ofInt];rfl
 show IntKind.i64.wrap ((BitVec.ofInt 64 n &&& BitVec.ofInt 64 ((2:Int)^k-1)).toNat:Int)=_;rw[BitVec.toNat_and,h1,h2,Nat.and_two_pow_sub_one_eq_mod,hpc,IntKind.wrap_i64];have hd:(((2:Nat)^k:Nat):Int) ∣ 18446744073709551616:=by
  have e:(18446744073709551616:Nat)=2^64:=by decide
  have d:(2:Nat)^k ∣ (18446744073709551616:Nat):=by rw[e];exact Nat.pow_dvd_pow 2 (by omega)
  exact Int.natCast_dvd_natCast.2 d
 have hm:((((n%18446744073709551616).toNat%2^k:Nat)):Int)=n%(((2:Nat)^k:Nat):Int):=by
  rw[Int.natCast_emod,Int.toNat_of_nonneg (Int.emod_nonneg _ (by omega)),Int.emod_emod_of_dvd _ hd]
 rw[hm];have:=Int.emod_nonneg n (b:=(((2:Nat)^k:Nat):Int)) (by omega);have:=Int.emod_lt_of_pos n (b:=(((2:Nat)^k:Nat):Int)) (by omega);omega
theorem Y29 (n:Int):bits .and .i64 n 63=n%64:=Ypw n 6 (by omega)
def round (n bits:Int):Int:=
 if Yax bits 0 32=0 then Yax n (-1099511627776) 1099511627776
 else (Yax n (-1099511627776) 1099511627776+2^((Yax bits 0 32).toNat-1)) / 2^(Yax bits 0 32).toNat
theorem Yr8 (k:Nat)(h:k≤32):1≤(2:Int)^k∧(2:Int)^k≤4294967296:=by
 have h1:(2:Nat)^k≤2^32:=Nat.pow_le_pow_right (by omega) h;have h2:1≤(2:Nat)^k:=Nat.one_le_two_pow;have h3:((2:Int)^k)=(((2:Nat)^k:Nat):Int):=by simp
 omega
end Go.Proofs.YtnamlooifcpoaaaGreatDoor
namespace Go.Proofs.YtnamlooifcpoaaaGreatDoor
def Yjm (b:Nat):UInt8:=if b%2=0 then 48 else 49
def Ya5 (v:Nat):Nat→List UInt8
 |0=>[]
 |n+1=>Yjm (v / 2^n)::Ya5 v n
theorem Yay (v n:Nat):(Ya5 v n).length=n:=by
 induction n with
 |zero=>rfl
 |succ n ih=>simp[Ya5,ih]
def Ycj (l:List UInt8):Bool:=l.all (fun c=>c==48 || c==49)
theorem Yv9 (b:Nat):(Yjm b==48 || Yjm b==49)=true:=by
 unfold Yjm
 split <;> rfl
theorem Yj6 (v n:Nat):Ycj (Ya5 v n)=true:=by
 induction n with
 |zero=>rfl
 |succ n ih=>
  show ((Yjm (v / 2^n)==48 || Yjm (v / 2^n)==49)&&Ycj (Ya5 v n))=true;rw[ih,Yv9];rfl
def Yjx (a:Nat):List UInt8→Nat
 |[]=>a
 |c::l=>Yjx (2*a+(c.toNat-48)) l
def num (l:List UInt8):Nat:=Yjx 0 l
theorem Ygo (a:Nat)(l m:List UInt8):Yjx a (l++m)=Yjx (Yjx a l) m:=by
 induction l generalizing a with
 |nil=>rfl
 |cons c l ih=>exact ih _
theorem Y20 (l:List UInt8):(⟨l.toArray⟩:ByteArray).size=l.length:=List.size_toArray
def Y30 (l:List UInt8):List UInt8:=l.flatMap fun c=>Ya5 c.toNat 8
theorem Yda (l m:List UInt8):Ycj (l++m)=(Ycj l&&Ycj m):=by simp[Ycj]
theorem Ytk (l:List UInt8)(j:Nat)(h:Ycj l=true):Ycj (l.take j)=true:=by
 unfold Ycj at h ⊢;rw[List.all_eq_true] at h ⊢;exact fun c hc=>h c (List.mem_of_mem_take hc)
theorem Ytj (l:List UInt8)(j:Nat)(h:Ycj l=true):Ycj (l.drop j)=true:=by
 unfold Ycj at h ⊢;rw[List.all_eq_true] at h ⊢;exact fun c hc=>h c (List.mem_of_mem_drop hc)
theorem Yoo (l:List UInt8)(j:Nat)(hj:j<l.length)(h:Ycj l=true):l[j].toNat=48∨l[j].toNat=49:=by
 unfold Ycj at h;rw[List.all_eq_true] at h;have:=h l[j] (List.getElem_mem hj);simp only[Bool.or_eq_true,beq_iff_eq] at this;rcases this with e|e <;> rw[e]
 ·exact .inl rfl
 ·exact .inr rfl
theorem Yz8 (l:List UInt8)(j:Nat)(h:j<l.length):num (l.take (j+1))=2*num (l.take j)+(l[j].toNat-48):=by
 rw[List.take_succ_eq_append_getElem h];exact Ygo 0 _ _
theorem Y3j (l:List UInt8)(h:Ycj l=true)(j:Nat)(hj:j≤l.length):num (l.take j)<2^j:=by
 induction j with
 |zero=>rw[List.take_zero];decide
 |succ j ih=>
  have:=ih (by omega);rw[Yz8 l j hj,Nat.pow_succ];rcases Yoo l j hj h with e|e <;> omega
end Go.Proofs.YtnamlooifcpoaaaGreatDoor
namespace Go.Proofs.YtnamlooifcpoaaaGreatDoor
open Go.RowKit
def Yvp (c:List UInt8):Nat:=num c*2^(8-c.length)
def Ybv (r:List UInt8)(i:Nat):Nat:=Yvp ((r.drop (8*i)).take 8)
theorem Yz7 (c:List UInt8)(d:UInt8):num (c++[d])=2*num c+(d.toNat-48):=Ygo 0 c [d]
theorem Yz6 (c:List UInt8)(h:Ycj c=true):num c<2^c.length:=by
 have:=Y3j c h c.length (Nat.le_refl _);rwa [List.take_of_length_le (Nat.le_refl _)] at this
theorem Yjk (r:List UInt8)(i:Nat):((r.drop (8*i)).take 8).length=min 8 (r.length-8*i):=by simp
theorem Yvy (r:List UInt8)(i:Nat)(h:Ycj r=true):Ycj ((r.drop (8*i)).take 8)=true:=Ytk _ _ (Ytj _ _ h)
theorem Yy8 (c:List UInt8)(h:Ycj c=true)(hl:c.length≤8):Yvp c<256:=by
 have h1:=Yz6 c h;have h2:num c*2^(8-c.length)<2^c.length*2^(8-c.length):=Nat.mul_lt_mul_of_pos_right h1 (Nat.two_pow_pos _);rw[←Nat.pow_add,show c.length+(8-c.length)=8 by omega] at h2;exact h2
theorem Yvo (r:List UInt8)(i:Nat)(h:Ycj r=true):Ybv r i<256:=Yy8 _ (Yvy r i h) (by rw[Yjk];omega)
theorem Ygu (r:List UInt8)(i:Nat)(h:r.length≤8*i):Ybv r i=0:=by
 unfold Ybv Yvp;rw[List.drop_eq_nil_of_le h]
 rfl
theorem Yji (r e:List UInt8)(i:Nat)(h:8*i+8≤r.length):Ybv (r++e) i=Ybv r i:=by
 unfold Ybv;rw[List.drop_append_of_le_length (by omega),List.take_append_of_le_length (by rw[List.length_drop];omega)]
theorem Yvx (r:List UInt8)(d:UInt8):((r++[d]).drop (8*(r.length / 8))).take 8=(r.drop (8*(r.length / 8))).take 8++[d]:=by
 rw[List.drop_append_of_le_length (by omega),List.take_of_length_le (l:=r.drop _) (by rw[List.length_drop];omega),List.take_of_length_le (by rw[List.length_append,List.length_drop,List.length_singleton];omega)]
theorem Yfu (r:List UInt8)(d:UInt8):Ybv (r++[d]) (r.length / 8)=Ybv r (r.length / 8)+(d.toNat-48)*2^(7-r.length%8):=by
 unfold Ybv;rw[Yvx];have hl:((r.drop (8*(r.length / 8))).take 8).length=r.length%8:=by rw[Yjk];omega
 generalize (r.drop (8*(r.length / 8))).take 8=c at hl;unfold Yvp;rw[Yz7,List.length_append,List.length_singleton,hl,show 8-(r.length%8+1)=7-r.length%8 by omega,show 8-r.length%8=7-r.length%8+1 by omega,Nat.pow_succ,Nat.add_mul]
 congr 1
 rw[Nat.mul_comm 2 (num c),Nat.mul_assoc,Nat.mul_comm 2]
theorem Yfm (r:List UInt8)(d:UInt8)(i:Nat)(h:i≠r.length / 8):Ybv (r++[d]) i=Ybv r i:=by
 by_cases hi:8*i+8≤r.length
 ·exact Yji r [d] i hi
 ·rw[Ygu r i (by omega),Ygu _ i (by rw[List.length_append,List.length_singleton];omega)]
theorem Ymi (r:List UInt8)(i:Nat):Ybv (r++[48]) i=Ybv r i:=by
 by_cases hi:i=r.length / 8
 ·subst hi;rw[Yfu,show ((48:UInt8).toNat-48)=0 from rfl];omega
 ·exact Yfm r 48 i hi
theorem Ys1 (r:List UInt8):Ybv (r++[49]) (r.length / 8)=Ybv r (r.length / 8)+2^(7-r.length%8):=by
 rw[Yfu,show ((49:UInt8).toNat-48)=1 from rfl];omega
theorem Ys0 (r:List UInt8):∃A,Ybv r (r.length / 8)=2^(8-r.length%8)*A:=by
 refine⟨num ((r.drop (8*(r.length / 8))).take 8),?_⟩;unfold Ybv Yvp;rw[Yjk,show min 8 (r.length-8*(r.length / 8))=r.length%8 by omega,Nat.mul_comm]
theorem Y3l (x j A:Nat)(hj:j<8)(hx:x=2^(8-j)*A)(h:x<256):bits .or .u8 (x:Int) (128 / 2^j)=((x+2^(7-j):Nat):Int):=by
 have e1:(128:Int) / 2^j=((2^(7-j):Nat):Int):=by
  have e:(128:Int)=2^(7-j)*2^j:=by rw[←Int.pow_add,show 7-j+j=7 by omega];rfl
  rw[e,Int.mul_ediv_cancel _ (by have:(0:Int)<2^j:=Int.pow_pos (by decide);omega)];simp
 have hb:(2:Nat)^(7-j)<2^(8-j):=Nat.pow_lt_pow_right (by omega) (by omega);have hor:=Nat.two_pow_add_eq_or_of_lt hb A;rw[←hx] at hor;have hp:2^(7-j)≤2^7:=Nat.pow_le_pow_right (by omega) (by omega);have hlt:x ||| 2^(7-j)<2^8:=Nat.or_lt_two_pow (by omega) (by omega);rw[e1];show IntKind.u8.wrap ((BitVec.ofInt 8 (x:Int) ||| BitVec.ofInt 8 ((2^(7-j):Nat):Int)).toNat:Int)=_
 rw[BitVec.ofInt_natCast,BitVec.ofInt_natCast,BitVec.toNat_or,BitVec.toNat_ofNat,BitVec.toNat_ofNat,Nat.mod_eq_of_lt (by omega:x<2^8),Nat.mod_eq_of_lt (by omega:2^(7-j)<2^8),←hor];rw[←hor] at hlt;have:IntKind.u8.wrap ((x+2^(7-j):Nat):Int)=((x+2^(7-j):Nat):Int)%256:=rfl;rw[this];omega
def gap (n:Nat):Nat:=(8-n%8)%8
section
end
def Y31 (l:List UInt8)(p n:Nat):Nat:=num (((Y30 l).drop p).take n)
def ask (l:List UInt8)(p:Nat)(n:Int):Int×Int:=
 if n<0∨32<n then (0,1) else if 8*(l.length:Int)-p<n then (0,2) else (((Y31 l p n.toNat:Nat):Int),0)
end Go.Proofs.YtnamlooifcpoaaaGreatDoor
namespace Go.Proofs.YtnamlooifcpoaaaGreatDoor
def Ydd:Nat→(Nat→Int)→Int
 |0,_=>0
 |n+1,g=>Ydd n g+g n
theorem Ydc {g h:Nat→Int}:∀n,(∀i,i<n→g i=h i)→Ydd n g=Ydd n h
 |0,_=>rfl
 |n+1,e=>by
  unfold Ydd;rw[Ydc n fun i hi=>e i (by omega),e n (by omega)]
theorem Ype (a:Nat)(g:Nat→Int):∀b,Ydd (a+b) g=Ydd a g+Ydd b fun i=>g (a+i)
 |0=>by simp[Ydd]
 |b+1=>by
  show Ydd (a+b) g+g (a+b)=Ydd a g+(Ydd b (fun i=>g (a+i))+g (a+b));rw[Ype a g b,Int.add_assoc]
theorem Ypf (m:Nat)(g:Nat→Int):∀k,Ydd (m*k) g=Ydd k fun y=>Ydd m fun x=>g (m*y+x)
 |0=>by simp[Ydd]
 |k+1=>by
  rw[Nat.mul_succ,Ype,Ypf m g k]
  rfl
theorem Ysm (c:Int)(g:Nat→Int):∀n,Ydd n (fun i=>c*g i)=c*Ydd n g
 |0=>(Int.mul_zero c).symm
 |n+1=>by
  show Ydd n (fun i=>c*g i)+c*g n=c*(Ydd n g+g n);rw[Ysm c g n,Int.mul_add]
theorem Ykc:∀n,Ydd n (fun _=>0)=0
 |0=>rfl
 |n+1=>by
  show Ydd n (fun _=>0)+0=0;rw[Ykc n]
  rfl
theorem Ykb {M:Int}{g:Nat→Int}:∀n,(∀i,i<n→-M≤g i∧g i≤M)→-(n*M)≤Ydd n g∧Ydd n g≤n*M
 |0,_=>by simp[Ydd]
 |n+1,h=>by
  have h1:=Ykb n fun i hi=>h i (by omega);have h2:=h n (by omega);have e:((n+1:Nat):Int)*M=n*M+M:=by rw[Int.natCast_add,Int.add_mul];simp
  rw[e];unfold Ydd;omega
theorem Ye8 {a b A M:Int}(h1:-A≤a)(h2:a≤A)(h3:-M≤b)(h4:b≤M):-(A*M)≤a*b∧a*b≤A*M:=by
 have hA:0≤A:=by omega
 have hM:0≤M:=by omega
 have e:(a*b).natAbs≤(A*M).natAbs:=by
  rw[Int.natAbs_mul,Int.natAbs_mul];exact Nat.mul_le_mul (by omega) (by omega)
 have p:=Int.mul_nonneg hA hM;omega
def wtZ:List Int:=[64,64,64,64,64,64,64,64,89,75,50,18,-18,-50,-75,-89,83,36,-36,-83,-83,-36,36,83,75,-18,-89,-50,50,89,18,-75,64,-64,-64,64,64,-64,-64,64,50,-89,18,75,-75,-18,89,-50,36,-83,83,-36,-36,83,-83,36,18,-50,75,-89,89,-75,50,-18]
def wt (i:Nat):Int:=wtZ[i]?.getD 0
theorem Y26:∀i,i<64→-89≤wt i∧wt i≤89:=by decide +kernel
def kI (a x:Nat):Int:=wt (8*x+a)
def InK (k:Nat→Nat→Int):Prop:=∀a x,a<8→x<8→-89≤k a x∧k a x≤89
theorem Ywq:InK kI:=fun a x ha hx=>Y26 _ (by omega)
def Ykv (k:Nat→Nat→Int)(b:Nat→Int)(r a:Nat):Int:=Ydd 8 fun x=>k a x*b (8*r+x)
def Ydv (k:Nat→Nat→Int)(b:Nat→Int)(q:Nat):Int:=Ykv k b (q%8) (q / 8)
def InB (M:Int)(b:Nat→Int):Prop:=∀i,i<64→-M≤b i∧b i≤M
theorem Yo2 {k:Nat→Nat→Int}{b:Nat→Int}{M:Int}(hk:InK k)(hb:InB M b)(r a:Nat)(hr:r<8)(ha:a<8):∀n,n≤8→-(n*(89*M))≤Ydd n (fun x=>k a x*b (8*r+x))∧Ydd n (fun x=>k a x*b (8*r+x))≤n*(89*M):=by
 intro n hn;refine Ykb n fun x hx=>?_;have h1:=hk a x ha (by omega);have h2:=hb (8*r+x) (by omega);exact Ye8 h1.1 h1.2 h2.1 h2.2
theorem Yx6 {k:Nat→Nat→Int}{b:Nat→Int}{M:Int}(hk:InK k)(hb:InB M b)(r a:Nat)(hr:r<8)(ha:a<8)(n:Nat)(hn:n≤8):-(712*M)≤Ydd n (fun x=>k a x*b (8*r+x))∧Ydd n (fun x=>k a x*b (8*r+x))≤712*M:=by
 have h:=Yo2 hk hb r a hr ha n hn;have h0:=hb 0 (by omega);have e:(n:Int)*(89*M)≤8*(89*M):=Int.mul_le_mul_of_nonneg_right (by omega) (by omega);omega
theorem Y2p {k:Nat→Nat→Int}{b:Nat→Int}{M:Int}(hk:InK k)(hb:InB M b)(r a:Nat)(hr:r<8)(ha:a<8):-(712*M)≤Ykv k b r a∧Ykv k b r a≤712*M:=by
 have h:=Yo2 hk hb r a hr ha 8 (Nat.le_refl _);unfold Ykv;omega
theorem Y01 {k:Nat→Nat→Int}{b:Nat→Int}{M:Int}(hk:InK k)(hb:InB M b):InB (712*M) (Ydv k b):=fun q hq=>Y2p hk hb _ _ (by omega) (by omega)
theorem Yeo {k:Nat→Nat→Int}{b c:Nat→Int}(h:∀i,i<64→b i=c i):∀q,q<64→Ydv k b q=Ydv k c q:=by
 intro q hq;refine Ydc 8 fun x hx=>?_;rw[h _ (by omega)]
theorem Yq3 (k:Nat→Nat→Int)(b:Nat→Int)(p:Nat):Ydv k (Ydv k b) p=Ydd 8 fun y=>Ydd 8 fun x=>k (p / 8) y*(k (p%8) x*b (8*y+x)):=by
 refine Ydc 8 fun y hy=>?_;show k (p / 8) y*Ykv k b ((8*(p%8)+y)%8) ((8*(p%8)+y) / 8)=_;rw[show (8*(p%8)+y)%8=y by omega,show (8*(p%8)+y) / 8=p%8 by omega];exact(Ysm _ _ 8).symm
def Yd4 (k:Nat→Nat→Int)(b:Nat→Int)(p i:Nat):Int:=k (p%8) (i%8)*k (p / 8) (i / 8)*b i
theorem Yuz (k:Nat→Nat→Int)(b:Nat→Int)(p:Nat):Ydv k (Ydv k b) p=Ydd 64 (Yd4 k b p):=by
 rw[Yq3 k b p,show (64:Nat)=8*8 from rfl,Ypf];refine Ydc 8 fun y hy=>Ydc 8 fun x hx=>?_;unfold Yd4;rw[show (8*y+x)%8=x by omega,show (8*y+x) / 8=y by omega,←Int.mul_assoc,Int.mul_comm (k (p / 8) y)]
def Yb2 (f:Nat→Int)(i:Nat):Int:=Yax (f i) (-2048) 2047
theorem Yiv (f:Nat→Int):InB 2048 (Yb2 f):=fun i _=>⟨Ybl _ _ _,Int.le_trans (Ybk _ _ _ (by omega)) (by omega)⟩
def rdB (lo hi:Int)(b:Nat→Int)(i:Nat):Int:=Yax (round (b i) 15) lo hi
def Y28 (k:Nat→Nat→Int)(lo hi:Int)(f:Nat→Int):Nat→Int:=rdB lo hi (Ydv k (Ydv k (Yb2 f)))
def Yi0:(Nat→Int)→Nat→Int:=Y28 kI (-256) 255
theorem Yk4 {k:Nat→Nat→Int}{lo hi:Int}{f g:Nat→Int}(h:∀i,i<64→f i=g i):∀p,p<64→Y28 k lo hi f p=Y28 k lo hi g p:=by
 intro p hp;unfold Y28 rdB;rw[Yeo (Yeo (c:=Yb2 g) fun i hi=>by unfold Yb2;rw[h i hi]) p hp]
theorem Y2o (n:Int)(h1:-1099511627776≤n)(h2:n≤1099511627776):round n 15=(n+16384) / 32768:=by
 unfold round;rw[show Yax 15 0 32=15 from rfl,if_neg (by omega),Ygw _ _ _ h1 h2]
 rfl
theorem Ywr:∀a,a<8→kI a 0=64:=by decide +kernel
def Yqa (n:Int)(i:Nat):Int:=if i=0 then n else 0
theorem Y03 (c:Int):∀q,q<64→Ydv kI (Yqa c) q=if q%8=0 then 64*c else 0:=by
 intro q hq;have h0:=Ywr (q / 8) (by omega);unfold Ydv Ykv;by_cases h:q%8=0
 ·rw[if_pos h,h,Ydc 8 (h:=fun x=>Yqa (64*c) x) fun x hx=>by
   unfold Yqa;by_cases e:x=0
   ·subst e;rw[if_pos rfl,if_pos rfl,h0]
   ·rw[if_neg (by omega),if_neg e];exact Int.mul_zero _]
  simp[Ydd,Yqa]
 ·rw[if_neg h,Ydc 8 (h:=fun _=>0) fun x hx=>by
   unfold Yqa;rw[if_neg (by omega)];exact Int.mul_zero _]
  exact Ykc 8
theorem Y02 (c:Int):∀q,q<64→Ydv kI (fun q=>if q%8=0 then c else 0) q=64*c:=by
 intro q hq;have h0:=Ywr (q / 8) (by omega);unfold Ydv Ykv;rw[Ydc 8 (h:=fun x=>Yqa (64*c) x) fun x hx=>by
  show kI (q / 8) x*(if (8*(q%8)+x)%8=0 then c else 0)=if x=0 then 64*c else 0
  by_cases e:x=0
  ·subst e;rw[if_pos (by omega),if_pos rfl,h0]
  ·rw[if_neg (by omega),if_neg e];exact Int.mul_zero _]
 simp[Ydd,Yqa]
def Y3k (n:Int):Int:=Yax ((Yax n (-2048) 2047+4) / 8) (-256) 255
theorem Ywo (n:Int):∀p,p<64→Yi0 (Yqa n) p=Y3k n:=by
 intro p hp;have h1:=Ybl n (-2048) 2047;have h2:=Ybk n (-2048) 2047 (by omega);have e0:∀i,i<64→Yb2 (Yqa n) i=Yqa (Yax n (-2048) 2047) i:=by
  intro i _;unfold Yb2 Yqa;by_cases e:i=0
  ·rw[if_pos e,if_pos e]
  ·rw[if_neg e,if_neg e]
   rfl
 unfold Yi0 Y28 rdB Y3k;rw[Yeo (Yeo e0) p hp,Yeo (Y03 (Yax n (-2048) 2047)) p hp,Y02 _ p hp];generalize Yax n (-2048) 2047=c at h1 h2 ⊢;rw[Y2o _ (by omega) (by omega),show (64*(64*c)+16384) / 32768=(c+4) / 8 by omega]
end Go.Proofs.YtnamlooifcpoaaaGreatDoor
namespace Go.Proofs.YtnamlooifcpoaaaGreatDoor
open Go.RowKit
def Y1e (k:Int):Int×Int×Int×Int:=
 if k=1 then (128,96,6,1) else if k=2 then (176,144,9,1) else if k=3 then (352,288,18,1) else if k=4 then (704,576,18,2) else if k=5 then (1408,1152,18,4) else if k=6 then (32,32,2,1) else (0,0,0,0)
def Yd3 (k:Int):Int:=(Y1e k).1
def Yd6 (k:Int):Int:=(Y1e k).2.1
def Yga (k:Int):Int:=(Y1e k).2.2.1
def Ygz (k:Int):Int:=(Y1e k).2.2.2
def Yb6 (k:Int):Bool:=decide (1≤k∧k≤6)
theorem Ych (k:Int):k=1∨k=2∨k=3∨k=4∨k=5∨k=6∨(Yb6 k=false∧Y1e k=(0,0,0,0)):=by
 by_cases h:1≤k∧k≤6
 ·omega
 ·refine .inr (.inr (.inr (.inr (.inr (.inr ⟨by simpa [Yb6] using h,?_⟩)))));unfold Y1e;rw[if_neg (by omega),if_neg (by omega),if_neg (by omega),if_neg (by omega),if_neg (by omega),if_neg (by omega)]
theorem Yrx {k:Int}(h:Yb6 k=false):(k==1)=false∧(k==2)=false∧(k==3)=false∧(k==4)=false∧(k==5)=false∧(k==6)=false:=by
 have h1:¬ (1≤k∧k≤6):=by simpa [Yb6] using h
 refine⟨?_,?_,?_,?_,?_,?_⟩ <;> (simp;omega)
end Go.Proofs.YtnamlooifcpoaaaGreatDoor