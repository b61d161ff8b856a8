/- No condition. -/
import Derived.OpenShut
import Derived.IntWalk
import Derived.KernelRfl
namespace Go.Proofs.YtkgabfmjfhljdaaDoor
open Go.RowKit
theorem Ybk {k:IntKind}{a b:Int}(h:a=b):Ending.returned (.int k a)=.returned (.int k b):=by rw[h]
theorem Yab {a b:Bool}(h:a=b):Ending.returned (.bool a)=.returned (.bool b):=by rw[h]
def Ybg (n lo hi:Int):Int:=max lo (min n hi)
theorem Yci (n lo hi:Int):lo≤Ybg n lo hi:=by unfold Ybg;omega
theorem Ych (n lo hi:Int)(h:lo≤hi):Ybg n lo hi≤hi:=by unfold Ybg;omega
theorem Yoe (n lo hi:Int)(h1:lo≤n)(h2:n≤hi):Ybg n lo hi=n:=by unfold Ybg;omega
def Yfa (n:Int):Int:=(n+32)%64-32
theorem Yhx (n:Int)(k:Nat)(hk:k≤62):bits .and .i64 n ((2:Int)^k-1)=n%(2:Int)^k:=by
 have hpn:(2:Nat)^k≤2^62:=Nat.pow_le_pow_right (by omega) hk;have hp1:1≤(2:Nat)^k:=Nat.one_le_two_pow;have hpc:((2:Int)^k)=(((2:Nat)^k:Nat):Int):=by simp
 have h2:(BitVec.ofInt 64 ((2:Int)^k-1)).toNat=2^k-1:=by
  rw[hpc,show ((((2:Nat)^k:Nat):Int)-1)=((2^k-1:Nat):Int) by omega,BitVec.ofInt_natCast,BitVec.toNat_ofNat];exact Nat.mod_eq_of_lt (by omega)
 have h1:(BitVec.ofInt 64 n).toNat=(n%18446744073709551616).toNat:=by rw[BitVec.toNat_ofInt];rfl
 show IntKind.i64.wrap ((BitVec.ofInt 64 n &&& BitVec.ofInt 64 ((2:Int)^k-1)).toNat:Int)=_;rw[BitVec.toNat_and,h1,h2,Nat.and_two_pow_sub_one_eq_mod,hpc,IntKind.wrap_i64];have hd:(((2:Nat)^k:Nat):Int) ∣ 18446744073709551616:=by
  have e:(18446744073709551616:Nat)=2^64:=by decide
  have d:(2:Nat)^k ∣ (18446744073709551616:Nat):=by rw[e];exact Nat.pow_dvd_pow 2 (by omega)
  exact Int.natCast_dvd_natCast.2 d
 have hm:((((n%18446744073709551616).toNat%2^k:Nat)):Int)=n%(((2:Nat)^k:Nat):Int):=by
  rw[Int.natCast_emod,Int.toNat_of_nonneg (Int.emod_nonneg _ (by omega)),Int.emod_emod_of_dvd _ hd]
 rw[hm];have:=Int.emod_nonneg n (b:=(((2:Nat)^k:Nat):Int)) (by omega);have:=Int.emod_lt_of_pos n (b:=(((2:Nat)^k:Nat):Int)) (by omega);omega
theorem Ypb (n:Int):bits .and .i64 n 63=n%64:=Yhx n 6 (by omega)
def round (n bits:Int):Int:=
 if Ybg bits 0 32=0 then Ybg n (-1099511627776) 1099511627776
 else (Ybg n (-1099511627776) 1099511627776+2^((Ybg bits 0 32).toNat-1)) / 2^(Ybg bits 0 32).toNat
theorem Yni (k:Nat)(h:k≤32):1≤(2:Int)^k∧(2:Int)^k≤4294967296:=by
 have h1:(2:Nat)^k≤2^32:=Nat.pow_le_pow_right (by omega) h;have h2:1≤(2:Nat)^k:=Nat.one_le_two_pow;have h3:((2:Int)^k)=(((2:Nat)^k:Nat):Int):=by simp
 omega
end Go.Proofs.YtkgabfmjfhljdaaDoor
namespace Go.Proofs.YtkgabfmjfhljdaaDoor
def Yev (b:Nat):UInt8:=if b%2=0 then 48 else 49
def Yb0 (v:Nat):Nat→List UInt8
 |0=>[]
 |n+1=>Yev (v / 2^n)::Yb0 v n
theorem Ybm (v n:Nat):(Yb0 v n).length=n:=by
 induction n with
 |zero=>rfl
 |succ n ih=>simp[Yb0,ih]
def Ya9 (l:List UInt8):Bool:=l.all (fun c=>c==48 || c==49)
theorem Yk3 (b:Nat):(Yev b==48 || Yev b==49)=true:=by
 unfold Yev
 split <;> rfl
theorem Yhk (v n:Nat):Ya9 (Yb0 v n)=true:=by
 induction n with
 |zero=>rfl
 |succ n ih=>
  show ((Yev (v / 2^n)==48 || Yev (v / 2^n)==49)&&Ya9 (Yb0 v n))=true;rw[ih,Yk3];rfl
def Yez (a:Nat):List UInt8→Nat
 |[]=>a
 |c::l=>Yez (2*a+(c.toNat-48)) l
def num (l:List UInt8):Nat:=Yez 0 l
theorem Yda (a:Nat)(l m:List UInt8):Yez a (l++m)=Yez (Yez a l) m:=by
 induction l generalizing a with
 |nil=>rfl
 |cons c l ih=>exact ih _
theorem Ybl (l m:List UInt8):Ya9 (l++m)=(Ya9 l&&Ya9 m):=by simp[Ya9]
theorem Yjs (l:List UInt8)(j:Nat)(h:Ya9 l=true):Ya9 (l.take j)=true:=by
 unfold Ya9 at h ⊢;rw[List.all_eq_true] at h ⊢;exact fun c hc=>h c (List.mem_of_mem_take hc)
theorem Yjr (l:List UInt8)(j:Nat)(h:Ya9 l=true):Ya9 (l.drop j)=true:=by
 unfold Ya9 at h ⊢;rw[List.all_eq_true] at h ⊢;exact fun c hc=>h c (List.mem_of_mem_drop hc)
theorem Yhd (l:List UInt8)(j:Nat)(hj:j<l.length)(h:Ya9 l=true):l[j].toNat=48∨l[j].toNat=49:=by
 unfold Ya9 at h;rw[List.all_eq_true] at h;have:=h l[j] (List.getElem_mem hj);simp only[Bool.or_eq_true,beq_iff_eq] at this;rcases this with e|e <;> rw[e]
 ·exact .inl rfl
 ·exact .inr rfl
theorem Ync (l:List UInt8)(j:Nat)(h:j<l.length):num (l.take (j+1))=2*num (l.take j)+(l[j].toNat-48):=by
 rw[List.take_succ_eq_append_getElem h];exact Yda 0 _ _
theorem Ypg (l:List UInt8)(h:Ya9 l=true)(j:Nat)(hj:j≤l.length):num (l.take j)<2^j:=by
 induction j with
 |zero=>rw[List.take_zero];decide
 |succ j ih=>
  have:=ih (by omega);rw[Ync l j hj,Nat.pow_succ];rcases Yhd l j hj h with e|e <;> omega
end Go.Proofs.YtkgabfmjfhljdaaDoor
namespace Go.Proofs.YtkgabfmjfhljdaaDoor
open Go.RowKit
def Ykp (c:List UInt8):Nat:=num c*2^(8-c.length)
def Ya0 (r:List UInt8)(i:Nat):Nat:=Ykp ((r.drop (8*i)).take 8)
theorem Ynb (c:List UInt8)(d:UInt8):num (c++[d])=2*num c+(d.toNat-48):=Yda 0 c [d]
theorem Yna (c:List UInt8)(h:Ya9 c=true):num c<2^c.length:=by
 have:=Ypg c h c.length (Nat.le_refl _);rwa [List.take_of_length_le (Nat.le_refl _)] at this
theorem Yeu (r:List UInt8)(i:Nat):((r.drop (8*i)).take 8).length=min 8 (r.length-8*i):=by simp
theorem Yks (r:List UInt8)(i:Nat)(h:Ya9 r=true):Ya9 ((r.drop (8*i)).take 8)=true:=Yjs _ _ (Yjr _ _ h)
theorem Ymo (c:List UInt8)(h:Ya9 c=true)(hl:c.length≤8):Ykp c<256:=by
 have h1:=Yna c h;have h2:num c*2^(8-c.length)<2^c.length*2^(8-c.length):=Nat.mul_lt_mul_of_pos_right h1 (Nat.two_pow_pos _);rw[←Nat.pow_add,show c.length+(8-c.length)=8 by omega] at h2;exact h2
theorem Yko (r:List UInt8)(i:Nat)(h:Ya9 r=true):Ya0 r i<256:=Ymo _ (Yks r i h) (by rw[Yeu];omega)
theorem Ydc (r:List UInt8)(i:Nat)(h:r.length≤8*i):Ya0 r i=0:=by
 unfold Ya0 Ykp;rw[List.drop_eq_nil_of_le h]
 rfl
theorem Yet (r e:List UInt8)(i:Nat)(h:8*i+8≤r.length):Ya0 (r++e) i=Ya0 r i:=by
 unfold Ya0;rw[List.drop_append_of_le_length (by omega),List.take_append_of_le_length (by rw[List.length_drop];omega)]
theorem Ykr (r:List UInt8)(d:UInt8):((r++[d]).drop (8*(r.length / 8))).take 8=(r.drop (8*(r.length / 8))).take 8++[d]:=by
 rw[List.drop_append_of_le_length (by omega),List.take_of_length_le (l:=r.drop _) (by rw[List.length_drop];omega),List.take_of_length_le (by rw[List.length_append,List.length_drop,List.length_singleton];omega)]
theorem Ycw (r:List UInt8)(d:UInt8):Ya0 (r++[d]) (r.length / 8)=Ya0 r (r.length / 8)+(d.toNat-48)*2^(7-r.length%8):=by
 unfold Ya0;rw[Ykr];have hl:((r.drop (8*(r.length / 8))).take 8).length=r.length%8:=by rw[Yeu];omega
 generalize (r.drop (8*(r.length / 8))).take 8=c at hl;unfold Ykp;rw[Ynb,List.length_append,List.length_singleton,hl,show 8-(r.length%8+1)=7-r.length%8 by omega,show 8-r.length%8=7-r.length%8+1 by omega,Nat.pow_succ,Nat.add_mul]
 congr 1
 rw[Nat.mul_comm 2 (num c),Nat.mul_assoc,Nat.mul_comm 2]
theorem Ycv (r:List UInt8)(d:UInt8)(i:Nat)(h:i≠r.length / 8):Ya0 (r++[d]) i=Ya0 r i:=by
 by_cases hi:8*i+8≤r.length
 ·exact Yet r [d] i hi
 ·rw[Ydc r i (by omega),Ydc _ i (by rw[List.length_append,List.length_singleton];omega)]
theorem Yf7 (r:List UInt8)(i:Nat):Ya0 (r++[48]) i=Ya0 r i:=by
 by_cases hi:i=r.length / 8
 ·subst hi;rw[Ycw,show ((48:UInt8).toNat-48)=0 from rfl];omega
 ·exact Ycv r 48 i hi
theorem Yjj (r:List UInt8):Ya0 (r++[49]) (r.length / 8)=Ya0 r (r.length / 8)+2^(7-r.length%8):=by
 rw[Ycw,show ((49:UInt8).toNat-48)=1 from rfl];omega
theorem Yji (r:List UInt8):∃A,Ya0 r (r.length / 8)=2^(8-r.length%8)*A:=by
 refine⟨num ((r.drop (8*(r.length / 8))).take 8),?_⟩;unfold Ya0 Ykp;rw[Yeu,show min 8 (r.length-8*(r.length / 8))=r.length%8 by omega,Nat.mul_comm]
theorem Ypi (x j A:Nat)(hj:j<8)(hx:x=2^(8-j)*A)(h:x<256):bits .or .u8 (x:Int) (128 / 2^j)=((x+2^(7-j):Nat):Int):=by
 have e1:(128:Int) / 2^j=((2^(7-j):Nat):Int):=by
  have e:(128:Int)=2^(7-j)*2^j:=by rw[←Int.pow_add,show 7-j+j=7 by omega];rfl
  rw[e,Int.mul_ediv_cancel _ (by have:(0:Int)<2^j:=Int.pow_pos (by decide);omega)];simp
 have hb:(2:Nat)^(7-j)<2^(8-j):=Nat.pow_lt_pow_right (by omega) (by omega);have hor:=Nat.two_pow_add_eq_or_of_lt hb A;rw[←hx] at hor;have hp:2^(7-j)≤2^7:=Nat.pow_le_pow_right (by omega) (by omega);have hlt:x ||| 2^(7-j)<2^8:=Nat.or_lt_two_pow (by omega) (by omega);rw[e1];show IntKind.u8.wrap ((BitVec.ofInt 8 (x:Int) ||| BitVec.ofInt 8 ((2^(7-j):Nat):Int)).toNat:Int)=_
 rw[BitVec.ofInt_natCast,BitVec.ofInt_natCast,BitVec.toNat_or,BitVec.toNat_ofNat,BitVec.toNat_ofNat,Nat.mod_eq_of_lt (by omega:x<2^8),Nat.mod_eq_of_lt (by omega:2^(7-j)<2^8),←hor];rw[←hor] at hlt;have:IntKind.u8.wrap ((x+2^(7-j):Nat):Int)=((x+2^(7-j):Nat):Int)%256:=rfl;rw[this];omega
end Go.Proofs.YtkgabfmjfhljdaaDoor
namespace Go.Proofs.YtkgabfmjfhljdaaDoor
def Yed:Nat→(Nat→Int)→Int
 |0,_=>0
 |n+1,g=>Yed n g+g n
theorem Ycq {g h:Nat→Int}:∀n,(∀i,i<n→g i=h i)→Yed n g=Yed n h
 |0,_=>rfl
 |n+1,e=>by
  unfold Yed;rw[Ycq n fun i hi=>e i (by omega),e n (by omega)]
theorem Ye8:∀n,Yed n (fun _=>0)=0
 |0=>rfl
 |n+1=>by
  show Yed n (fun _=>0)+0=0;rw[Ye8 n]
  rfl
theorem Yhm {M:Int}{g:Nat→Int}:∀n,(∀i,i<n→-M≤g i∧g i≤M)→-(n*M)≤Yed n g∧Yed n g≤n*M
 |0,_=>by simp[Yed]
 |n+1,h=>by
  have h1:=Yhm n fun i hi=>h i (by omega);have h2:=h n (by omega);have e:((n+1:Nat):Int)*M=n*M+M:=by rw[Int.natCast_add,Int.add_mul];simp
  rw[e];unfold Yed;omega
theorem Yfp {a b A M:Int}(h1:-A≤a)(h2:a≤A)(h3:-M≤b)(h4:b≤M):-(A*M)≤a*b∧a*b≤A*M:=by
 have hA:0≤A:=by omega
 have hM:0≤M:=by omega
 have e:(a*b).natAbs≤(A*M).natAbs:=by
  rw[Int.natAbs_mul,Int.natAbs_mul];exact Nat.mul_le_mul (by omega) (by omega)
 have p:=Int.mul_nonneg hA hM;omega
def wtZ:List Int:=[64,64,64,64,64,64,64,64,89,75,50,18,-18,-50,-75,-89,83,36,-36,-83,-83,-36,36,83,75,-18,-89,-50,50,89,18,-75,64,-64,-64,64,64,-64,-64,64,50,-89,18,75,-75,-18,89,-50,36,-83,83,-36,-36,83,-83,36,18,-50,75,-89,89,-75,50,-18]
def wt (i:Nat):Int:=wtZ[i]?.getD 0
theorem Ypq:∀i,i<64→-89≤wt i∧wt i≤89:=by decide +kernel
def kI (a x:Nat):Int:=wt (8*x+a)
def InK (k:Nat→Nat→Int):Prop:=∀a x,a<8→x<8→-89≤k a x∧k a x≤89
theorem Yoq:InK kI:=fun a x ha hx=>Ypq _ (by omega)
def Yft (k:Nat→Nat→Int)(b:Nat→Int)(r a:Nat):Int:=Yed 8 fun x=>k a x*b (8*r+x)
def Yck (k:Nat→Nat→Int)(b:Nat→Int)(q:Nat):Int:=Yft k b (q%8) (q / 8)
def InB (M:Int)(b:Nat→Int):Prop:=∀i,i<64→-M≤b i∧b i≤M
theorem Yhj {k:Nat→Nat→Int}{b:Nat→Int}{M:Int}(hk:InK k)(hb:InB M b)(r a:Nat)(hr:r<8)(ha:a<8):∀n,n≤8→-(n*(89*M))≤Yed n (fun x=>k a x*b (8*r+x))∧Yed n (fun x=>k a x*b (8*r+x))≤n*(89*M):=by
 intro n hn;refine Yhm n fun x hx=>?_;have h1:=hk a x ha (by omega);have h2:=hb (8*r+x) (by omega);exact Yfp h1.1 h1.2 h2.1 h2.2
theorem Yly {k:Nat→Nat→Int}{b:Nat→Int}{M:Int}(hk:InK k)(hb:InB M b)(r a:Nat)(hr:r<8)(ha:a<8)(n:Nat)(hn:n≤8):-(712*M)≤Yed n (fun x=>k a x*b (8*r+x))∧Yed n (fun x=>k a x*b (8*r+x))≤712*M:=by
 have h:=Yhj hk hb r a hr ha n hn;have h0:=hb 0 (by omega);have e:(n:Int)*(89*M)≤8*(89*M):=Int.mul_le_mul_of_nonneg_right (by omega) (by omega);omega
theorem Yoz {k:Nat→Nat→Int}{b:Nat→Int}{M:Int}(hk:InK k)(hb:InB M b)(r a:Nat)(hr:r<8)(ha:a<8):-(712*M)≤Yft k b r a∧Yft k b r a≤712*M:=by
 have h:=Yhj hk hb r a hr ha 8 (Nat.le_refl _);unfold Yft;omega
theorem Ynw {k:Nat→Nat→Int}{b:Nat→Int}{M:Int}(hk:InK k)(hb:InB M b):InB (712*M) (Yck k b):=fun q hq=>Yoz hk hb _ _ (by omega) (by omega)
theorem Yca {k:Nat→Nat→Int}{b c:Nat→Int}(h:∀i,i<64→b i=c i):∀q,q<64→Yck k b q=Yck k c q:=by
 intro q hq;refine Ycq 8 fun x hx=>?_;rw[h _ (by omega)]
def Ybz (f:Nat→Int)(i:Nat):Int:=Ybg (f i) (-2048) 2047
theorem Yit (f:Nat→Int):InB 2048 (Ybz f):=fun i _=>⟨Yci _ _ _,Int.le_trans (Ych _ _ _ (by omega)) (by omega)⟩
def rdB (lo hi:Int)(b:Nat→Int)(i:Nat):Int:=Ybg (round (b i) 15) lo hi
def Yo7 (k:Nat→Nat→Int)(lo hi:Int)(f:Nat→Int):Nat→Int:=rdB lo hi (Yck k (Yck k (Ybz f)))
def Yk9:(Nat→Int)→Nat→Int:=Yo7 kI (-256) 255
theorem Yfn {k:Nat→Nat→Int}{lo hi:Int}{f g:Nat→Int}(h:∀i,i<64→f i=g i):∀p,p<64→Yo7 k lo hi f p=Yo7 k lo hi g p:=by
 intro p hp;unfold Yo7 rdB;rw[Yca (Yca (c:=Ybz g) fun i hi=>by unfold Ybz;rw[h i hi]) p hp]
theorem Yoy (n:Int)(h1:-1099511627776≤n)(h2:n≤1099511627776):round n 15=(n+16384) / 32768:=by
 unfold round;rw[show Ybg 15 0 32=15 from rfl,if_neg (by omega),Yoe _ _ _ h1 h2]
 rfl
theorem Yle:∀a,a<8→kI a 0=64:=by decide +kernel
def Yh9 (n:Int)(i:Nat):Int:=if i=0 then n else 0
theorem Yny (c:Int):∀q,q<64→Yck kI (Yh9 c) q=if q%8=0 then 64*c else 0:=by
 intro q hq;have h0:=Yle (q / 8) (by omega);unfold Yck Yft;by_cases h:q%8=0
 ·rw[if_pos h,h,Ycq 8 (h:=fun x=>Yh9 (64*c) x) fun x hx=>by
   unfold Yh9;by_cases e:x=0
   ·subst e;rw[if_pos rfl,if_pos rfl,h0]
   ·rw[if_neg (by omega),if_neg e];exact Int.mul_zero _]
  simp[Yed,Yh9]
 ·rw[if_neg h,Ycq 8 (h:=fun _=>0) fun x hx=>by
   unfold Yh9;rw[if_neg (by omega)];exact Int.mul_zero _]
  exact Ye8 8
theorem Ynx (c:Int):∀q,q<64→Yck kI (fun q=>if q%8=0 then c else 0) q=64*c:=by
 intro q hq;have h0:=Yle (q / 8) (by omega);unfold Yck Yft;rw[Ycq 8 (h:=fun x=>Yh9 (64*c) x) fun x hx=>by
  show kI (q / 8) x*(if (8*(q%8)+x)%8=0 then c else 0)=if x=0 then 64*c else 0
  by_cases e:x=0
  ·subst e;rw[if_pos (by omega),if_pos rfl,h0]
  ·rw[if_neg (by omega),if_neg e];exact Int.mul_zero _]
 simp[Yed,Yh9]
def Yph (n:Int):Int:=Ybg ((Ybg n (-2048) 2047+4) / 8) (-256) 255
theorem Ylc (n:Int):∀p,p<64→Yk9 (Yh9 n) p=Yph n:=by
 intro p hp;have h1:=Yci n (-2048) 2047;have h2:=Ych n (-2048) 2047 (by omega);have e0:∀i,i<64→Ybz (Yh9 n) i=Yh9 (Ybg n (-2048) 2047) i:=by
  intro i _;unfold Ybz Yh9;by_cases e:i=0
  ·rw[if_pos e,if_pos e]
  ·rw[if_neg e,if_neg e]
   rfl
 unfold Yk9 Yo7 rdB Yph;rw[Yca (Yca e0) p hp,Yca (Yny (Ybg n (-2048) 2047)) p hp,Ynx _ p hp];generalize Ybg n (-2048) 2047=c at h1 h2 ⊢;rw[Yoy _ (by omega) (by omega),show (64*(64*c)+16384) / 32768=(c+4) / 8 by omega]
end Go.Proofs.YtkgabfmjfhljdaaDoor