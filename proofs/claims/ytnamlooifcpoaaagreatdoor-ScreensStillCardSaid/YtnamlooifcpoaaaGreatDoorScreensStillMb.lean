/- No condition. -/
import Derived.OpenShut
import Derived.IntWalk
import Derived.KernelRfl
namespace Go.Proofs.YtnamlooifcpoaaaGreatDoor
open Go.RowKit
theorem Yca {k:IntKind}{a b:Int}(h:a=b):Ending.returned (.int k a)=.returned (.int k b):=by rw[h]
theorem Yae {a b:Bool}(h:a=b):Ending.returned (.bool a)=.returned (.bool b):=by rw[h]
theorem Ygx {n:Int}(h:-9223372036854775808≤n∧n≤9223372036854775807):IntKind.i64.wrap n=n:=by
 rw[IntKind.wrap_i64];omega
theorem Ybl {n:Nat}(h:n≤9223372036854775807):IntKind.i64.wrap (n:Int)=(n:Int):=Ygx (by omega)
def Yay (n lo hi:Int):Int:=max lo (min n hi)
theorem Ybw (n lo hi:Int):lo≤Yay n lo hi:=by unfold Yay;omega
theorem Ybv (n lo hi:Int)(h:lo≤hi):Yay n lo hi≤hi:=by unfold Yay;omega
theorem Yf8 (n lo hi:Int)(h1:lo≤n)(h2:n≤hi):Yay n lo hi=n:=by unfold Yay;omega
def Ym8 (n:Int):Int:=(n+32)%64-32
theorem Ye2 (n:Int)(k:Nat)(hk:k≤62):bits .and .i64 n ((2:Int)^k-1)=n%(2:Int)^k:=by
 have hpn:(2:Nat)^k≤2^62:=Nat.pow_le_pow_right (by omega) hk;have hp1:1≤(2:Nat)^k:=Nat.one_le_two_pow;have hpc:((2:Int)^k)=(((2:Nat)^k:Nat):Int):=by simp
 have h2:(BitVec.ofInt 64 ((2:Int)^k-1)).toNat=2^k-1:=by
  rw[hpc,show ((((2:Nat)^k:Nat):Int)-1)=((2^k-1:Nat):Int) by omega,BitVec.ofInt_natCast,BitVec.toNat_ofNat];exact Nat.mod_eq_of_lt (by omega)
 have h1:(BitVec.ofInt 64 n).toNat=(n%18446744073709551616).toNat:=by rw[BitVec.toNat_ofInt];rfl
 show IntKind.i64.wrap ((BitVec.ofInt 64 n &&& BitVec.ofInt 64 ((2:Int)^k-1)).toNat:Int)=_;rw[BitVec.toNat_and,h1,h2,Nat.and_two_pow_sub_one_eq_mod,hpc,IntKind.wrap_i64];have hd:(((2:Nat)^k:Nat):Int) ∣ 18446744073709551616:=by
  have e:(18446744073709551616:Nat)=2^64:=by decide
  have d:(2:Nat)^k ∣ (18446744073709551616:Nat):=by rw[e];exact Nat.pow_dvd_pow 2 (by omega)
  exact Int.natCast_dvd_natCast.2 d
 have hm:((((n%18446744073709551616).toNat%2^k:Nat)):Int)=n%(((2:Nat)^k:Nat):Int):=by
  rw[Int.natCast_emod,Int.toNat_of_nonneg (Int.emod_nonneg _ (by omega)),Int.emod_emod_of_dvd _ hd]
 rw[hm];have:=Int.emod_nonneg n (b:=(((2:Nat)^k:Nat):Int)) (by omega);have:=Int.emod_lt_of_pos n (b:=(((2:Nat)^k:Nat):Int)) (by omega);omega
theorem Yz1 (n:Int):bits .and .i64 n 63=n%64:=Ye2 n 6 (by omega)
def round (n bits:Int):Int:=
 if Yay bits 0 32=0 then Yay n (-1099511627776) 1099511627776
 else (Yay n (-1099511627776) 1099511627776+2^((Yay bits 0 32).toNat-1)) / 2^(Yay bits 0 32).toNat
theorem Ywo (k:Nat)(h:k≤32):1≤(2:Int)^k∧(2:Int)^k≤4294967296:=by
 have h1:(2:Nat)^k≤2^32:=Nat.pow_le_pow_right (by omega) h;have h2:1≤(2:Nat)^k:=Nat.one_le_two_pow;have h3:((2:Int)^k)=(((2:Nat)^k:Nat):Int):=by simp
 omega
end Go.Proofs.YtnamlooifcpoaaaGreatDoor
namespace Go.Proofs.YtnamlooifcpoaaaGreatDoor
def Yhf (b:Nat):UInt8:=if b%2=0 then 48 else 49
def Yav (v:Nat):Nat→List UInt8
 |0=>[]
 |n+1=>Yhf (v / 2^n)::Yav v n
theorem Yap (v n:Nat):(Yav v n).length=n:=by
 induction n with
 |zero=>rfl
 |succ n ih=>simp[Yav,ih]
def Ybs (l:List UInt8):Bool:=l.all (fun c=>c==48 || c==49)
theorem Ysn (b:Nat):(Yhf b==48 || Yhf b==49)=true:=by
 unfold Yhf
 split <;> rfl
theorem Yhx (v n:Nat):Ybs (Yav v n)=true:=by
 induction n with
 |zero=>rfl
 |succ n ih=>
  show ((Yhf (v / 2^n)==48 || Yhf (v / 2^n)==49)&&Ybs (Yav v n))=true;rw[ih,Ysn];rfl
def Yhm (a:Nat):List UInt8→Nat
 |[]=>a
 |c::l=>Yhm (2*a+(c.toNat-48)) l
def num (l:List UInt8):Nat:=Yhm 0 l
theorem Yez (a:Nat)(l m:List UInt8):Yhm a (l++m)=Yhm (Yhm a l) m:=by
 induction l generalizing a with
 |nil=>rfl
 |cons c l ih=>exact ih _
theorem Yzm (l:List UInt8):(⟨l.toArray⟩:ByteArray).size=l.length:=List.size_toArray
def Y0o (l:List UInt8):List UInt8:=l.flatMap fun c=>Yav c.toNat 8
theorem Ycb (l m:List UInt8):Ybs (l++m)=(Ybs l&&Ybs m):=by simp[Ybs]
theorem Yp4 (l:List UInt8)(j:Nat)(h:Ybs l=true):Ybs (l.take j)=true:=by
 unfold Ybs at h ⊢;rw[List.all_eq_true] at h ⊢;exact fun c hc=>h c (List.mem_of_mem_take hc)
theorem Yp3 (l:List UInt8)(j:Nat)(h:Ybs l=true):Ybs (l.drop j)=true:=by
 unfold Ybs at h ⊢;rw[List.all_eq_true] at h ⊢;exact fun c hc=>h c (List.mem_of_mem_drop hc)
theorem Yl1 (l:List UInt8)(j:Nat)(hj:j<l.length)(h:Ybs l=true):l[j].toNat=48∨l[j].toNat=49:=by
 unfold Ybs at h;rw[List.all_eq_true] at h;have:=h l[j] (List.getElem_mem hj);simp only[Bool.or_eq_true,beq_iff_eq] at this;rcases this with e|e <;> rw[e]
 ·exact .inl rfl
 ·exact .inr rfl
theorem Ywk (l:List UInt8)(j:Nat)(h:j<l.length):num (l.take (j+1))=2*num (l.take j)+(l[j].toNat-48):=by
 rw[List.take_succ_eq_append_getElem h];exact Yez 0 _ _
theorem Y0c (l:List UInt8)(h:Ybs l=true)(j:Nat)(hj:j≤l.length):num (l.take j)<2^j:=by
 induction j with
 |zero=>rw[List.take_zero];decide
 |succ j ih=>
  have:=ih (by omega);rw[Ywk l j hj,Nat.pow_succ];rcases Yl1 l j hj h with e|e <;> omega
end Go.Proofs.YtnamlooifcpoaaaGreatDoor
namespace Go.Proofs.YtnamlooifcpoaaaGreatDoor
open Go.RowKit
def Yr6 (c:List UInt8):Nat:=num c*2^(8-c.length)
def Ya4 (r:List UInt8)(i:Nat):Nat:=Yr6 ((r.drop (8*i)).take 8)
theorem Ywj (c:List UInt8)(d:UInt8):num (c++[d])=2*num c+(d.toNat-48):=Yez 0 c [d]
theorem Ywi (c:List UInt8)(h:Ybs c=true):num c<2^c.length:=by
 have:=Y0c c h c.length (Nat.le_refl _);rwa [List.take_of_length_le (Nat.le_refl _)] at this
theorem Yhe (r:List UInt8)(i:Nat):((r.drop (8*i)).take 8).length=min 8 (r.length-8*i):=by simp
theorem Ysf (r:List UInt8)(i:Nat)(h:Ybs r=true):Ybs ((r.drop (8*i)).take 8)=true:=Yp4 _ _ (Yp3 _ _ h)
theorem Yvs (c:List UInt8)(h:Ybs c=true)(hl:c.length≤8):Yr6 c<256:=by
 have h1:=Ywi c h;have h2:num c*2^(8-c.length)<2^c.length*2^(8-c.length):=Nat.mul_lt_mul_of_pos_right h1 (Nat.two_pow_pos _);rw[←Nat.pow_add,show c.length+(8-c.length)=8 by omega] at h2;exact h2
theorem Yr5 (r:List UInt8)(i:Nat)(h:Ybs r=true):Ya4 r i<256:=Yvs _ (Ysf r i h) (by rw[Yhe];omega)
theorem Ye3 (r:List UInt8)(i:Nat)(h:r.length≤8*i):Ya4 r i=0:=by
 unfold Ya4 Yr6;rw[List.drop_eq_nil_of_le h]
 rfl
theorem Yhc (r e:List UInt8)(i:Nat)(h:8*i+8≤r.length):Ya4 (r++e) i=Ya4 r i:=by
 unfold Ya4;rw[List.drop_append_of_le_length (by omega),List.take_append_of_le_length (by rw[List.length_drop];omega)]
theorem Yse (r:List UInt8)(d:UInt8):((r++[d]).drop (8*(r.length / 8))).take 8=(r.drop (8*(r.length / 8))).take 8++[d]:=by
 rw[List.drop_append_of_le_length (by omega),List.take_of_length_le (l:=r.drop _) (by rw[List.length_drop];omega),List.take_of_length_le (by rw[List.length_append,List.length_drop,List.length_singleton];omega)]
theorem Yed (r:List UInt8)(d:UInt8):Ya4 (r++[d]) (r.length / 8)=Ya4 r (r.length / 8)+(d.toNat-48)*2^(7-r.length%8):=by
 unfold Ya4;rw[Yse];have hl:((r.drop (8*(r.length / 8))).take 8).length=r.length%8:=by rw[Yhe];omega
 generalize (r.drop (8*(r.length / 8))).take 8=c at hl;unfold Yr6;rw[Ywj,List.length_append,List.length_singleton,hl,show 8-(r.length%8+1)=7-r.length%8 by omega,show 8-r.length%8=7-r.length%8+1 by omega,Nat.pow_succ,Nat.add_mul]
 congr 1
 rw[Nat.mul_comm 2 (num c),Nat.mul_assoc,Nat.mul_comm 2]
theorem Yd6 (r:List UInt8)(d:UInt8)(i:Nat)(h:i≠r.length / 8):Ya4 (r++[d]) i=Ya4 r i:=by
 by_cases hi:8*i+8≤r.length
 ·exact Yhc r [d] i hi
 ·rw[Ye3 r i (by omega),Ye3 _ i (by rw[List.length_append,List.length_singleton];omega)]
theorem Yj8 (r:List UInt8)(i:Nat):Ya4 (r++[48]) i=Ya4 r i:=by
 by_cases hi:i=r.length / 8
 ·subst hi;rw[Yed,show ((48:UInt8).toNat-48)=0 from rfl];omega
 ·exact Yd6 r 48 i hi
theorem Ypp (r:List UInt8):Ya4 (r++[49]) (r.length / 8)=Ya4 r (r.length / 8)+2^(7-r.length%8):=by
 rw[Yed,show ((49:UInt8).toNat-48)=1 from rfl];omega
theorem Ypo (r:List UInt8):∃A,Ya4 r (r.length / 8)=2^(8-r.length%8)*A:=by
 refine⟨num ((r.drop (8*(r.length / 8))).take 8),?_⟩;unfold Ya4 Yr6;rw[Yhe,show min 8 (r.length-8*(r.length / 8))=r.length%8 by omega,Nat.mul_comm]
theorem Y0e (x j A:Nat)(hj:j<8)(hx:x=2^(8-j)*A)(h:x<256):bits .or .u8 (x:Int) (128 / 2^j)=((x+2^(7-j):Nat):Int):=by
 have e1:(128:Int) / 2^j=((2^(7-j):Nat):Int):=by
  have e:(128:Int)=2^(7-j)*2^j:=by rw[←Int.pow_add,show 7-j+j=7 by omega];rfl
  rw[e,Int.mul_ediv_cancel _ (by have:(0:Int)<2^j:=Int.pow_pos (by decide);omega)];simp
 have hb:(2:Nat)^(7-j)<2^(8-j):=Nat.pow_lt_pow_right (by omega) (by omega);have hor:=Nat.two_pow_add_eq_or_of_lt hb A;rw[←hx] at hor;have hp:2^(7-j)≤2^7:=Nat.pow_le_pow_right (by omega) (by omega);have hlt:x ||| 2^(7-j)<2^8:=Nat.or_lt_two_pow (by omega) (by omega);rw[e1];show IntKind.u8.wrap ((BitVec.ofInt 8 (x:Int) ||| BitVec.ofInt 8 ((2^(7-j):Nat):Int)).toNat:Int)=_
 rw[BitVec.ofInt_natCast,BitVec.ofInt_natCast,BitVec.toNat_or,BitVec.toNat_ofNat,BitVec.toNat_ofNat,Nat.mod_eq_of_lt (by omega:x<2^8),Nat.mod_eq_of_lt (by omega:2^(7-j)<2^8),←hor];rw[←hor] at hlt;have:IntKind.u8.wrap ((x+2^(7-j):Nat):Int)=((x+2^(7-j):Nat):Int)%256:=rfl;rw[this];omega
def gap (n:Nat):Nat:=(8-n%8)%8
section
end
def Y0q (l:List UInt8)(p n:Nat):Nat:=num (((Y0o l).drop p).take n)
def ask (l:List UInt8)(p:Nat)(n:Int):Int×Int:=
 if n<0∨32<n then (0,1) else if 8*(l.length:Int)-p<n then (0,2) else (((Y0q l p n.toNat:Nat):Int),0)
end Go.Proofs.YtnamlooifcpoaaaGreatDoor
namespace Go.Proofs.YtnamlooifcpoaaaGreatDoor
def Ygq:Nat→(Nat→Int)→Int
 |0,_=>0
 |n+1,g=>Ygq n g+g n
theorem Ydy {g h:Nat→Int}:∀n,(∀i,i<n→g i=h i)→Ygq n g=Ygq n h
 |0,_=>rfl
 |n+1,e=>by
  unfold Ygq;rw[Ydy n fun i hi=>e i (by omega),e n (by omega)]
theorem Yh2:∀n,Ygq n (fun _=>0)=0
 |0=>rfl
 |n+1=>by
  show Ygq n (fun _=>0)+0=0;rw[Yh2 n]
  rfl
theorem Yms {M:Int}{g:Nat→Int}:∀n,(∀i,i<n→-M≤g i∧g i≤M)→-(n*M)≤Ygq n g∧Ygq n g≤n*M
 |0,_=>by simp[Ygq]
 |n+1,h=>by
  have h1:=Yms n fun i hi=>h i (by omega);have h2:=h n (by omega);have e:((n+1:Nat):Int)*M=n*M+M:=by rw[Int.natCast_add,Int.add_mul];simp
  rw[e];unfold Ygq;omega
theorem Yi7 {a b A M:Int}(h1:-A≤a)(h2:a≤A)(h3:-M≤b)(h4:b≤M):-(A*M)≤a*b∧a*b≤A*M:=by
 have hA:0≤A:=by omega
 have hM:0≤M:=by omega
 have e:(a*b).natAbs≤(A*M).natAbs:=by
  rw[Int.natAbs_mul,Int.natAbs_mul];exact Nat.mul_le_mul (by omega) (by omega)
 have p:=Int.mul_nonneg hA hM;omega
def wtZ:List Int:=[64,64,64,64,64,64,64,64,89,75,50,18,-18,-50,-75,-89,83,36,-36,-83,-83,-36,36,83,75,-18,-89,-50,50,89,18,-75,64,-64,-64,64,64,-64,-64,64,50,-89,18,75,-75,-18,89,-50,36,-83,83,-36,-36,83,-83,36,18,-50,75,-89,89,-75,50,-18]
def wt (i:Nat):Int:=wtZ[i]?.getD 0
theorem Y0r:∀i,i<64→-89≤wt i∧wt i≤89:=by decide +kernel
def kI (a x:Nat):Int:=wt (8*x+a)
def InK (k:Nat→Nat→Int):Prop:=∀a x,a<8→x<8→-89≤k a x∧k a x≤89
theorem Yyx:InK kI:=fun a x ha hx=>Y0r _ (by omega)
def Yjg (k:Nat→Nat→Int)(b:Nat→Int)(r a:Nat):Int:=Ygq 8 fun x=>k a x*b (8*r+x)
def Ydq (k:Nat→Nat→Int)(b:Nat→Int)(q:Nat):Int:=Yjg k b (q%8) (q / 8)
def InB (M:Int)(b:Nat→Int):Prop:=∀i,i<64→-M≤b i∧b i≤M
theorem Yme {k:Nat→Nat→Int}{b:Nat→Int}{M:Int}(hk:InK k)(hb:InB M b)(r a:Nat)(hr:r<8)(ha:a<8):∀n,n≤8→-(n*(89*M))≤Ygq n (fun x=>k a x*b (8*r+x))∧Ygq n (fun x=>k a x*b (8*r+x))≤n*(89*M):=by
 intro n hn;refine Yms n fun x hx=>?_;have h1:=hk a x ha (by omega);have h2:=hb (8*r+x) (by omega);exact Yi7 h1.1 h1.2 h2.1 h2.2
theorem Yud {k:Nat→Nat→Int}{b:Nat→Int}{M:Int}(hk:InK k)(hb:InB M b)(r a:Nat)(hr:r<8)(ha:a<8)(n:Nat)(hn:n≤8):-(712*M)≤Ygq n (fun x=>k a x*b (8*r+x))∧Ygq n (fun x=>k a x*b (8*r+x))≤712*M:=by
 have h:=Yme hk hb r a hr ha n hn;have h0:=hb 0 (by omega);have e:(n:Int)*(89*M)≤8*(89*M):=Int.mul_le_mul_of_nonneg_right (by omega) (by omega);omega
theorem Yzd {k:Nat→Nat→Int}{b:Nat→Int}{M:Int}(hk:InK k)(hb:InB M b)(r a:Nat)(hr:r<8)(ha:a<8):-(712*M)≤Yjg k b r a∧Yjg k b r a≤712*M:=by
 have h:=Yme hk hb r a hr ha 8 (Nat.le_refl _);unfold Yjg;omega
theorem Yxk {k:Nat→Nat→Int}{b:Nat→Int}{M:Int}(hk:InK k)(hb:InB M b):InB (712*M) (Ydq k b):=fun q hq=>Yzd hk hb _ _ (by omega) (by omega)
theorem Ydc {k:Nat→Nat→Int}{b c:Nat→Int}(h:∀i,i<64→b i=c i):∀q,q<64→Ydq k b q=Ydq k c q:=by
 intro q hq;refine Ydy 8 fun x hx=>?_;rw[h _ (by omega)]
def Ycu (f:Nat→Int)(i:Nat):Int:=Yay (f i) (-2048) 2047
theorem Yoo (f:Nat→Int):InB 2048 (Ycu f):=fun i _=>⟨Ybw _ _ _,Int.le_trans (Ybv _ _ _ (by omega)) (by omega)⟩
def rdB (lo hi:Int)(b:Nat→Int)(i:Nat):Int:=Yay (round (b i) 15) lo hi
def Yzx (k:Nat→Nat→Int)(lo hi:Int)(f:Nat→Int):Nat→Int:=rdB lo hi (Ydq k (Ydq k (Ycu f)))
def Ysu:(Nat→Int)→Nat→Int:=Yzx kI (-256) 255
theorem Yi0 {k:Nat→Nat→Int}{lo hi:Int}{f g:Nat→Int}(h:∀i,i<64→f i=g i):∀p,p<64→Yzx k lo hi f p=Yzx k lo hi g p:=by
 intro p hp;unfold Yzx rdB;rw[Ydc (Ydc (c:=Ycu g) fun i hi=>by unfold Ycu;rw[h i hi]) p hp]
theorem Yzc (n:Int)(h1:-1099511627776≤n)(h2:n≤1099511627776):round n 15=(n+16384) / 32768:=by
 unfold round;rw[show Yay 15 0 32=15 from rfl,if_neg (by omega),Yf8 _ _ _ h1 h2]
 rfl
theorem Ysz:∀a,a<8→kI a 0=64:=by decide +kernel
def Ynr (n:Int)(i:Nat):Int:=if i=0 then n else 0
theorem Yxm (c:Int):∀q,q<64→Ydq kI (Ynr c) q=if q%8=0 then 64*c else 0:=by
 intro q hq;have h0:=Ysz (q / 8) (by omega);unfold Ydq Yjg;by_cases h:q%8=0
 ·rw[if_pos h,h,Ydy 8 (h:=fun x=>Ynr (64*c) x) fun x hx=>by
   unfold Ynr;by_cases e:x=0
   ·subst e;rw[if_pos rfl,if_pos rfl,h0]
   ·rw[if_neg (by omega),if_neg e];exact Int.mul_zero _]
  simp[Ygq,Ynr]
 ·rw[if_neg h,Ydy 8 (h:=fun _=>0) fun x hx=>by
   unfold Ynr;rw[if_neg (by omega)];exact Int.mul_zero _]
  exact Yh2 8
theorem Yxl (c:Int):∀q,q<64→Ydq kI (fun q=>if q%8=0 then c else 0) q=64*c:=by
 intro q hq;have h0:=Ysz (q / 8) (by omega);unfold Ydq Yjg;rw[Ydy 8 (h:=fun x=>Ynr (64*c) x) fun x hx=>by
  show kI (q / 8) x*(if (8*(q%8)+x)%8=0 then c else 0)=if x=0 then 64*c else 0
  by_cases e:x=0
  ·subst e;rw[if_pos (by omega),if_pos rfl,h0]
  ·rw[if_neg (by omega),if_neg e];exact Int.mul_zero _]
 simp[Ygq,Ynr]
def Y0d (n:Int):Int:=Yay ((Yay n (-2048) 2047+4) / 8) (-256) 255
theorem Ysx (n:Int):∀p,p<64→Ysu (Ynr n) p=Y0d n:=by
 intro p hp;have h1:=Ybw n (-2048) 2047;have h2:=Ybv n (-2048) 2047 (by omega);have e0:∀i,i<64→Ycu (Ynr n) i=Ynr (Yay n (-2048) 2047) i:=by
  intro i _;unfold Ycu Ynr;by_cases e:i=0
  ·rw[if_pos e,if_pos e]
  ·rw[if_neg e,if_neg e]
   rfl
 unfold Ysu Yzx rdB Y0d;rw[Ydc (Ydc e0) p hp,Ydc (Yxm (Yay n (-2048) 2047)) p hp,Yxl _ p hp];generalize Yay n (-2048) 2047=c at h1 h2 ⊢;rw[Yzc _ (by omega) (by omega),show (64*(64*c)+16384) / 32768=(c+4) / 8 by omega]
end Go.Proofs.YtnamlooifcpoaaaGreatDoor
namespace Go.Proofs.YtnamlooifcpoaaaGreatDoor
open Go.RowKit
def Yzy (k:Int):Int×Int×Int×Int:=
 if k=1 then (128,96,6,1) else if k=2 then (176,144,9,1) else if k=3 then (352,288,18,1) else if k=4 then (704,576,18,2) else if k=5 then (1408,1152,18,4) else if k=6 then (32,32,2,1) else (0,0,0,0)
def Yia (k:Int):Int:=(Yzy k).1
def Yh9 (k:Int):Int:=(Yzy k).2.1
def Ym6 (k:Int):Int:=(Yzy k).2.2.1
def Yxy (k:Int):Int:=(Yzy k).2.2.2
def Ybr (k:Int):Bool:=decide (1≤k∧k≤6)
theorem Ybq (k:Int):k=1∨k=2∨k=3∨k=4∨k=5∨k=6∨(Ybr k=false∧Yzy k=(0,0,0,0)):=by
 by_cases h:1≤k∧k≤6
 ·omega
 ·refine .inr (.inr (.inr (.inr (.inr (.inr ⟨by simpa [Ybr] using h,?_⟩)))));unfold Yzy;rw[if_neg (by omega),if_neg (by omega),if_neg (by omega),if_neg (by omega),if_neg (by omega),if_neg (by omega)]
theorem You {k:Int}(h:Ybr k=false):(k==1)=false∧(k==2)=false∧(k==3)=false∧(k==4)=false∧(k==5)=false∧(k==6)=false:=by
 have h1:¬ (1≤k∧k≤6):=by simpa [Ybr] using h
 refine⟨?_,?_,?_,?_,?_,?_⟩ <;> (simp;omega)
end Go.Proofs.YtnamlooifcpoaaaGreatDoor