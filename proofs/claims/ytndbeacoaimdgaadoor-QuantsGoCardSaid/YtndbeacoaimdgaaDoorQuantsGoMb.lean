/- No condition. -/
import Derived.OpenShut
import Derived.IntWalk
namespace Go.Proofs.YtndbeacoaimdgaaDoor
def Yen (b:Nat):UInt8:=if b%2=0 then 48 else 49
def Yal (v:Nat):Nat→List UInt8
 |0=>[]
 |n+1=>Yen (v / 2^n)::Yal v n
theorem Yai (v n:Nat):(Yal v n).length=n:=by
 induction n with
 |zero=>rfl
 |succ n ih=>simp[Yal,ih]
def Yau (l:List UInt8):Bool:=l.all (fun c=>c==48 || c==49)
theorem Yk8 (b:Nat):(Yen b==48 || Yen b==49)=true:=by
 unfold Yen
 split <;> rfl
theorem Ye1 (v n:Nat):Yau (Yal v n)=true:=by
 induction n with
 |zero=>rfl
 |succ n ih=>
  show ((Yen (v / 2^n)==48 || Yen (v / 2^n)==49)&&Yau (Yal v n))=true;rw[ih,Yk8];rfl
def Yet (a:Nat):List UInt8→Nat
 |[]=>a
 |c::l=>Yet (2*a+(c.toNat-48)) l
def num (l:List UInt8):Nat:=Yet 0 l
theorem Ycy (a:Nat)(l m:List UInt8):Yet a (l++m)=Yet (Yet a l) m:=by
 induction l generalizing a with
 |nil=>rfl
 |cons c l ih=>exact ih _
theorem Yo8 (l:List UInt8):(⟨l.toArray⟩:ByteArray).size=l.length:=List.size_toArray
def Ypx (l:List UInt8):List UInt8:=l.flatMap fun c=>Yal c.toNat 8
theorem Ya5 (l m:List UInt8):Yau (l++m)=(Yau l&&Yau m):=by simp[Yau]
theorem Yjr (l:List UInt8)(j:Nat)(h:Yau l=true):Yau (l.take j)=true:=by
 unfold Yau at h ⊢;rw[List.all_eq_true] at h ⊢;exact fun c hc=>h c (List.mem_of_mem_take hc)
theorem Yjq (l:List UInt8)(j:Nat)(h:Yau l=true):Yau (l.drop j)=true:=by
 unfold Yau at h ⊢;rw[List.all_eq_true] at h ⊢;exact fun c hc=>h c (List.mem_of_mem_drop hc)
theorem Yhd (l:List UInt8)(j:Nat)(hj:j<l.length)(h:Yau l=true):l[j].toNat=48∨l[j].toNat=49:=by
 unfold Yau at h;rw[List.all_eq_true] at h;have:=h l[j] (List.getElem_mem hj);simp only[Bool.or_eq_true,beq_iff_eq] at this;rcases this with e|e <;> rw[e]
 ·exact .inl rfl
 ·exact .inr rfl
theorem Yni (l:List UInt8)(j:Nat)(h:j<l.length):num (l.take (j+1))=2*num (l.take j)+(l[j].toNat-48):=by
 rw[List.take_succ_eq_append_getElem h];exact Ycy 0 _ _
theorem Ypm (l:List UInt8)(h:Yau l=true)(j:Nat)(hj:j≤l.length):num (l.take j)<2^j:=by
 induction j with
 |zero=>rw[List.take_zero];decide
 |succ j ih=>
  have:=ih (by omega);rw[Yni l j hj,Nat.pow_succ];rcases Yhd l j hj h with e|e <;> omega
end Go.Proofs.YtndbeacoaimdgaaDoor
namespace Go.Proofs.YtndbeacoaimdgaaDoor
open Go.RowKit
theorem Ygi {k:IntKind}{a b:Int}(h:a=b):Ending.returned (.int k a)=.returned (.int k b):=by rw[h]
theorem Yad {a b:Bool}(h:a=b):Ending.returned (.bool a)=.returned (.bool b):=by rw[h]
theorem Yml {n:Int}(h:-9223372036854775808≤n∧n≤9223372036854775807):IntKind.i64.wrap n=n:=by
 rw[IntKind.wrap_i64];omega
theorem Ypc {n:Nat}(h:n≤9223372036854775807):IntKind.i64.wrap (n:Int)=(n:Int):=Yml (by omega)
def Yds (n lo hi:Int):Int:=max lo (min n hi)
theorem Yk2 (n lo hi:Int):lo≤Yds n lo hi:=by unfold Yds;omega
theorem Yk1 (n lo hi:Int)(h:lo≤hi):Yds n lo hi≤hi:=by unfold Yds;omega
def Yh6 (n:Int):Int:=(n+32)%64-32
theorem Yh8 (n:Int)(k:Nat)(hk:k≤62):bits .and .i64 n ((2:Int)^k-1)=n%(2:Int)^k:=by
 have hpn:(2:Nat)^k≤2^62:=Nat.pow_le_pow_right (by omega) hk;have hp1:1≤(2:Nat)^k:=Nat.one_le_two_pow;have hpc:((2:Int)^k)=(((2:Nat)^k:Nat):Int):=by simp
 have h2:(BitVec.ofInt 64 ((2:Int)^k-1)).toNat=2^k-1:=by
  rw[hpc,show ((((2:Nat)^k:Nat):Int)-1)=((2^k-1:Nat):Int) by omega,BitVec.ofInt_natCast,BitVec.toNat_ofNat];exact Nat.mod_eq_of_lt (by omega)
 have h1:(BitVec.ofInt 64 n).toNat=(n%18446744073709551616).toNat:=by rw[BitVec.toNat_ofInt];rfl
 show IntKind.i64.wrap ((BitVec.ofInt 64 n &&& BitVec.ofInt 64 ((2:Int)^k-1)).toNat:Int)=_;rw[BitVec.toNat_and,h1,h2,Nat.and_two_pow_sub_one_eq_mod,hpc,IntKind.wrap_i64];have hd:(((2:Nat)^k:Nat):Int) ∣ 18446744073709551616:=by
  have e:(18446744073709551616:Nat)=2^64:=by decide
  have d:(2:Nat)^k ∣ (18446744073709551616:Nat):=by rw[e];exact Nat.pow_dvd_pow 2 (by omega)
  exact Int.natCast_dvd_natCast.2 d
 have hm:((((n%18446744073709551616).toNat%2^k:Nat)):Int)=n%(((2:Nat)^k:Nat):Int):=by
  rw[Int.natCast_emod,Int.toNat_of_nonneg (Int.emod_nonneg _ (by omega)),Int.emod_emod_of_dvd _ hd]
 rw[hm];have:=Int.emod_nonneg n (b:=(((2:Nat)^k:Nat):Int)) (by omega);have:=Int.emod_lt_of_pos n (b:=(((2:Nat)^k:Nat):Int)) (by omega);omega
theorem Ypf (n:Int):bits .and .i64 n 63=n%64:=Yh8 n 6 (by omega)
def round (n bits:Int):Int:=
 if Yds bits 0 32=0 then Yds n (-1099511627776) 1099511627776
 else (Yds n (-1099511627776) 1099511627776+2^((Yds bits 0 32).toNat-1)) / 2^(Yds bits 0 32).toNat
def Ykx (c:List UInt8):Nat:=num c*2^(8-c.length)
def Yao (r:List UInt8)(i:Nat):Nat:=Ykx ((r.drop (8*i)).take 8)
theorem Ynh (c:List UInt8)(d:UInt8):num (c++[d])=2*num c+(d.toNat-48):=Ycy 0 c [d]
theorem Yng (c:List UInt8)(h:Yau c=true):num c<2^c.length:=by
 have:=Ypm c h c.length (Nat.le_refl _);rwa [List.take_of_length_le (Nat.le_refl _)] at this
theorem Yel (r:List UInt8)(i:Nat):((r.drop (8*i)).take 8).length=min 8 (r.length-8*i):=by simp
theorem Yk0 (r:List UInt8)(i:Nat)(h:Yau r=true):Yau ((r.drop (8*i)).take 8)=true:=Yjr _ _ (Yjq _ _ h)
theorem Ymz (c:List UInt8)(h:Yau c=true)(hl:c.length≤8):Ykx c<256:=by
 have h1:=Yng c h;have h2:num c*2^(8-c.length)<2^c.length*2^(8-c.length):=Nat.mul_lt_mul_of_pos_right h1 (Nat.two_pow_pos _);rw[←Nat.pow_add,show c.length+(8-c.length)=8 by omega] at h2;exact h2
theorem Ykw (r:List UInt8)(i:Nat)(h:Yau r=true):Yao r i<256:=Ymz _ (Yk0 r i h) (by rw[Yel];omega)
theorem Yc4 (r:List UInt8)(i:Nat)(h:r.length≤8*i):Yao r i=0:=by
 unfold Yao Ykx;rw[List.drop_eq_nil_of_le h]
 rfl
theorem Yej (r e:List UInt8)(i:Nat)(h:8*i+8≤r.length):Yao (r++e) i=Yao r i:=by
 unfold Yao;rw[List.drop_append_of_le_length (by omega),List.take_append_of_le_length (by rw[List.length_drop];omega)]
theorem Ykz (r:List UInt8)(d:UInt8):((r++[d]).drop (8*(r.length / 8))).take 8=(r.drop (8*(r.length / 8))).take 8++[d]:=by
 rw[List.drop_append_of_le_length (by omega),List.take_of_length_le (l:=r.drop _) (by rw[List.length_drop];omega),List.take_of_length_le (by rw[List.length_append,List.length_drop,List.length_singleton];omega)]
theorem Ycg (r:List UInt8)(d:UInt8):Yao (r++[d]) (r.length / 8)=Yao r (r.length / 8)+(d.toNat-48)*2^(7-r.length%8):=by
 unfold Yao;rw[Ykz];have hl:((r.drop (8*(r.length / 8))).take 8).length=r.length%8:=by rw[Yel];omega
 generalize (r.drop (8*(r.length / 8))).take 8=c at hl;unfold Ykx;rw[Ynh,List.length_append,List.length_singleton,hl,show 8-(r.length%8+1)=7-r.length%8 by omega,show 8-r.length%8=7-r.length%8+1 by omega,Nat.pow_succ,Nat.add_mul]
 congr 1
 rw[Nat.mul_comm 2 (num c),Nat.mul_assoc,Nat.mul_comm 2]
theorem Ycd (r:List UInt8)(d:UInt8)(i:Nat)(h:i≠r.length / 8):Yao (r++[d]) i=Yao r i:=by
 by_cases hi:8*i+8≤r.length
 ·exact Yej r [d] i hi
 ·rw[Yc4 r i (by omega),Yc4 _ i (by rw[List.length_append,List.length_singleton];omega)]
theorem Yga (r:List UInt8)(i:Nat):Yao (r++[48]) i=Yao r i:=by
 by_cases hi:i=r.length / 8
 ·subst hi;rw[Ycg,show ((48:UInt8).toNat-48)=0 from rfl];omega
 ·exact Ycd r 48 i hi
theorem Yjf (r:List UInt8):Yao (r++[49]) (r.length / 8)=Yao r (r.length / 8)+2^(7-r.length%8):=by
 rw[Ycg,show ((49:UInt8).toNat-48)=1 from rfl];omega
theorem Yje (r:List UInt8):∃A,Yao r (r.length / 8)=2^(8-r.length%8)*A:=by
 refine⟨num ((r.drop (8*(r.length / 8))).take 8),?_⟩;unfold Yao Ykx;rw[Yel,show min 8 (r.length-8*(r.length / 8))=r.length%8 by omega,Nat.mul_comm]
theorem Ypn (x j A:Nat)(hj:j<8)(hx:x=2^(8-j)*A)(h:x<256):bits .or .u8 (x:Int) (128 / 2^j)=((x+2^(7-j):Nat):Int):=by
 have e1:(128:Int) / 2^j=((2^(7-j):Nat):Int):=by
  have e:(128:Int)=2^(7-j)*2^j:=by rw[←Int.pow_add,show 7-j+j=7 by omega];rfl
  rw[e,Int.mul_ediv_cancel _ (by have:(0:Int)<2^j:=Int.pow_pos (by decide);omega)];simp
 have hb:(2:Nat)^(7-j)<2^(8-j):=Nat.pow_lt_pow_right (by omega) (by omega);have hor:=Nat.two_pow_add_eq_or_of_lt hb A;rw[←hx] at hor;have hp:2^(7-j)≤2^7:=Nat.pow_le_pow_right (by omega) (by omega);have hlt:x ||| 2^(7-j)<2^8:=Nat.or_lt_two_pow (by omega) (by omega);rw[e1];show IntKind.u8.wrap ((BitVec.ofInt 8 (x:Int) ||| BitVec.ofInt 8 ((2^(7-j):Nat):Int)).toNat:Int)=_
 rw[BitVec.ofInt_natCast,BitVec.ofInt_natCast,BitVec.toNat_or,BitVec.toNat_ofNat,BitVec.toNat_ofNat,Nat.mod_eq_of_lt (by omega:x<2^8),Nat.mod_eq_of_lt (by omega:2^(7-j)<2^8),←hor];rw[←hor] at hlt;have:IntKind.u8.wrap ((x+2^(7-j):Nat):Int)=((x+2^(7-j):Nat):Int)%256:=rfl;rw[this];omega
def gap (n:Nat):Nat:=(8-n%8)%8
section
end
def Ypy (l:List UInt8)(p n:Nat):Nat:=num (((Ypx l).drop p).take n)
def ask (l:List UInt8)(p:Nat)(n:Int):Int×Int:=
 if n<0∨32<n then (0,1) else if 8*(l.length:Int)-p<n then (0,2) else (((Ypy l p n.toNat:Nat):Int),0)
def Ypd (k:Int):Int×Int×Int×Int:=
 if k=1 then (128,96,6,1) else if k=2 then (176,144,9,1) else if k=3 then (352,288,18,1) else if k=4 then (704,576,18,2) else if k=5 then (1408,1152,18,4) else if k=6 then (32,32,2,1) else (0,0,0,0)
def Ym6 (k:Int):Int:=(Ypd k).1
def Ym4 (k:Int):Int:=(Ypd k).2.1
def Ym5 (k:Int):Int:=(Ypd k).2.2.1
def Yom (k:Int):Int:=(Ypd k).2.2.2
def Yep (k:Int):Bool:=decide (1≤k∧k≤6)
theorem Ybo (k:Int):k=1∨k=2∨k=3∨k=4∨k=5∨k=6∨(Yep k=false∧Ypd k=(0,0,0,0)):=by
 by_cases h:1≤k∧k≤6
 ·omega
 ·refine .inr (.inr (.inr (.inr (.inr (.inr ⟨by simpa [Yep] using h,?_⟩)))));unfold Ypd;rw[if_neg (by omega),if_neg (by omega),if_neg (by omega),if_neg (by omega),if_neg (by omega),if_neg (by omega)]
theorem Yis {k:Int}(h:Yep k=false):(k==1)=false∧(k==2)=false∧(k==3)=false∧(k==4)=false∧(k==5)=false∧(k==6)=false:=by
 have h1:¬ (1≤k∧k≤6):=by simpa [Yep] using h
 refine⟨?_,?_,?_,?_,?_,?_⟩ <;> (simp;omega)
end Go.Proofs.YtndbeacoaimdgaaDoor