/- Part 2 of StripsOnce. No condition. -/
import Derived.OpenShut
import Derived.IntWalk
namespace Go.Proofs.YtjjmalchelniiaaGreatDoor
def Yhf (b:Nat):UInt8:=if b%2=0 then 48 else 49
def Yav (v:Nat):Nat→List UInt8
 |0=>[]
 |n+1=>Yhf (v / 2^n)::Yav v n
theorem Yal (v n:Nat):(Yav v n).length=n:=by
 induction n with
 |zero=>rfl
 |succ n ih=>simp[Yav,ih]
def Yax (l:List UInt8):Bool:=l.all (fun c=>c==48 || c==49)
theorem Y8e (b:Nat):(Yhf b==48 || Yhf b==49)=true:=by
 unfold Yhf
 split <;> rfl
theorem Ycx (v n:Nat):Yax (Yav v n)=true:=by
 induction n with
 |zero=>rfl
 |succ n ih=>
  show ((Yhf (v / 2^n)==48 || Yhf (v / 2^n)==49)&&Yax (Yav v n))=true;rw[ih,Y8e];rfl
def Yea (a:Nat):List UInt8→Nat
 |[]=>a
 |c::l=>Yea (2*a+(c.toNat-48)) l
def num (l:List UInt8):Nat:=Yea 0 l
theorem Ydq (a:Nat)(l m:List UInt8):Yea a (l++m)=Yea (Yea a l) m:=by
 induction l generalizing a with
 |nil=>rfl
 |cons c l ih=>exact ih _
theorem Qa3 (l:List UInt8):(⟨l.toArray⟩:ByteArray).size=l.length:=List.size_toArray
def Yad (l:List UInt8):List UInt8:=l.flatMap fun c=>Yav c.toNat 8
theorem Yh9 (l m:List UInt8):Yad (l++m)=Yad l++Yad m:=by simp[Yad]
theorem Qay (c:UInt8):Yad [c]=Yav c.toNat 8:=by simp[Yad]
theorem Yag (l:List UInt8):(Yad l).length=8*l.length:=by
 induction l with
 |nil=>rfl
 |cons c l ih=>
  have e:Yad (c::l)=Yav c.toNat 8++Yad l:=by simp[Yad]
  rw[e,List.length_append,Yal,ih,List.length_cons];omega
theorem Yar (l m:List UInt8):Yax (l++m)=(Yax l&&Yax m):=by simp[Yax]
theorem Ycb (l:List UInt8)(j:Nat)(h:Yax l=true):Yax (l.take j)=true:=by
 unfold Yax at h ⊢;rw[List.all_eq_true] at h ⊢;exact fun c hc=>h c (List.mem_of_mem_take hc)
theorem Ybf (l:List UInt8)(j:Nat)(h:Yax l=true):Yax (l.drop j)=true:=by
 unfold Yax at h ⊢;rw[List.all_eq_true] at h ⊢;exact fun c hc=>h c (List.mem_of_mem_drop hc)
theorem Ykl (l:List UInt8)(j:Nat)(hj:j<l.length)(h:Yax l=true):l[j].toNat=48∨l[j].toNat=49:=by
 unfold Yax at h;rw[List.all_eq_true] at h;have:=h l[j] (List.getElem_mem hj);simp only[Bool.or_eq_true,beq_iff_eq] at this;rcases this with e|e <;> rw[e]
 ·exact .inl rfl
 ·exact .inr rfl
theorem Yd9 (k:Nat):Yax (List.replicate k 48)=true:=by
 unfold Yax;rw[List.all_eq_true];intro c hc;rw[List.eq_of_mem_replicate hc]
 rfl
theorem Qei (l:List UInt8)(j:Nat)(h:j<l.length):num (l.take (j+1))=2*num (l.take j)+(l[j].toNat-48):=by
 rw[List.take_succ_eq_append_getElem h];exact Ydq 0 _ _
theorem Yrm (l:List UInt8)(h:Yax l=true)(j:Nat)(hj:j≤l.length):num (l.take j)<2^j:=by
 induction j with
 |zero=>rw[List.take_zero];decide
 |succ j ih=>
  have:=ih (by omega);rw[Qei l j hj,Nat.pow_succ];rcases Ykl l j hj h with e|e <;> omega
def Y6o (l:List UInt8):List UInt8:=l++List.replicate ((8-l.length%8)%8) 48
theorem Qeq (l:List UInt8)(h:Yax l=true):Yax (Y6o l)=true:=by
 unfold Y6o;rw[Yar,h,Yd9];rfl
theorem Yo6 (l:List UInt8):(Y6o l).length=l.length+(8-l.length%8)%8:=by
 unfold Y6o;rw[List.length_append,List.length_replicate]
def Yz4 (l:List UInt8):Nat→List UInt8
 |0=>[]
 |n+1=>Yz4 l n++[UInt8.ofNat (num ((l.take (8*n+8)).drop (8*n)))]
def Ygg (l:List UInt8):List UInt8:=Yz4 (Y6o l) ((Y6o l).length / 8)
end Go.Proofs.YtjjmalchelniiaaGreatDoor
namespace Go.Proofs.YtjjmalchelniiaaGreatDoor
open Go.RowKit
theorem Ydy {k:IntKind}{a b:Int}(h:a=b):Ending.returned (.int k a)=.returned (.int k b):=by rw[h]
theorem Yan {a b:Bool}(h:a=b):Ending.returned (.bool a)=.returned (.bool b):=by rw[h]
theorem Yif {n:Int}(h:-9223372036854775808≤n∧n≤9223372036854775807):IntKind.i64.wrap n=n:=by
 rw[IntKind.wrap_i64];omega
theorem Qby {n:Nat}(h:n≤9223372036854775807):IntKind.i64.wrap (n:Int)=(n:Int):=Yif (by omega)
def Qgj (n lo hi:Int):Int:=max lo (min n hi)
def Ymf (a b c:Int):Int:=max (min a b) (min (max a b) c)
def Yca (n:Int):Int:=(n+32)%64-32
theorem Qb0 (n:Int):-32≤Yca n:=by unfold Yca;omega
theorem Qbz (n:Int):Yca n≤31:=by unfold Yca;omega
theorem Ygt (n:Int)(k:Nat)(hk:k≤62):bits .and .i64 n ((2:Int)^k-1)=n%(2:Int)^k:=by
 have hpn:(2:Nat)^k≤2^62:=Nat.pow_le_pow_right (by omega) hk;have hp1:1≤(2:Nat)^k:=Nat.one_le_two_pow;have hpc:((2:Int)^k)=(((2:Nat)^k:Nat):Int):=by simp
 have h2:(BitVec.ofInt 64 ((2:Int)^k-1)).toNat=2^k-1:=by
  rw[hpc,show ((((2:Nat)^k:Nat):Int)-1)=((2^k-1:Nat):Int) by omega,BitVec.ofInt_natCast,BitVec.toNat_ofNat];exact Nat.mod_eq_of_lt (by omega)
 have h1:(BitVec.ofInt 64 n).toNat=(n%18446744073709551616).toNat:=by rw[BitVec.toNat_ofInt];rfl
 show IntKind.i64.wrap ((BitVec.ofInt 64 n &&& BitVec.ofInt 64 ((2:Int)^k-1)).toNat:Int)=_;rw[BitVec.toNat_and,h1,h2,Nat.and_two_pow_sub_one_eq_mod,hpc,IntKind.wrap_i64];have hd:(((2:Nat)^k:Nat):Int) ∣ 18446744073709551616:=by
  have e:(18446744073709551616:Nat)=2^64:=by decide
  have d:(2:Nat)^k ∣ (18446744073709551616:Nat):=by rw[e];exact Nat.pow_dvd_pow 2 (by omega)
  exact Int.natCast_dvd_natCast.2 d
 have hm:((((n%18446744073709551616).toNat%2^k:Nat)):Int)=n%(((2:Nat)^k:Nat):Int):=by
  rw[Int.natCast_emod,Int.toNat_of_nonneg (Int.emod_nonneg _ (by omega)),Int.emod_emod_of_dvd _ hd]
 rw[hm];have:=Int.emod_nonneg n (b:=(((2:Nat)^k:Nat):Int)) (by omega);have:=Int.emod_lt_of_pos n (b:=(((2:Nat)^k:Nat):Int)) (by omega);omega
theorem Qgc (n:Int):bits .and .i64 n 63=n%64:=Ygt n 6 (by omega)
def round (n bits:Int):Int:=
 if Qgj bits 0 32=0 then Qgj n (-1099511627776) 1099511627776
 else (Qgj n (-1099511627776) 1099511627776+2^((Qgj bits 0 32).toNat-1)) / 2^(Qgj bits 0 32).toNat
theorem Qev (k:Nat)(h:k≤32):1≤(2:Int)^k∧(2:Int)^k≤4294967296:=by
 have h1:(2:Nat)^k≤2^32:=Nat.pow_le_pow_right (by omega) h;have h2:1≤(2:Nat)^k:=Nat.one_le_two_pow;have h3:((2:Int)^k)=(((2:Nat)^k:Nat):Int):=by simp
 omega
def Y3j (c:List UInt8):Nat:=num c*2^(8-c.length)
def Ybs (r:List UInt8)(i:Nat):Nat:=Y3j ((r.drop (8*i)).take 8)
theorem Y11 (c:List UInt8)(d:UInt8):num (c++[d])=2*num c+(d.toNat-48):=Ydq 0 c [d]
theorem Yoz (c:List UInt8)(m:Nat):num (c++List.replicate m 48)=num c*2^m:=by
 induction m with
 |zero=>simp
 |succ m ih=>
  rw[List.replicate_succ',←List.append_assoc,Y11,ih,Nat.pow_succ,←Nat.mul_assoc (num c)];have:((48:UInt8).toNat-48)=0:=rfl;omega
theorem Yip (c:List UInt8)(h:Yax c=true):num c<2^c.length:=by
 have:=Yrm c h c.length (Nat.le_refl _);rwa [List.take_of_length_le (Nat.le_refl _)] at this
theorem Yke (r:List UInt8)(i:Nat):((r.drop (8*i)).take 8).length=min 8 (r.length-8*i):=by simp
theorem Y7s (r:List UInt8)(i:Nat)(h:Yax r=true):Yax ((r.drop (8*i)).take 8)=true:=Ycb _ _ (Ybf _ _ h)
theorem Qc2 (c:List UInt8)(h:Yax c=true)(hl:c.length≤8):Y3j c<256:=by
 have h1:=Yip c h;have h2:num c*2^(8-c.length)<2^c.length*2^(8-c.length):=Nat.mul_lt_mul_of_pos_right h1 (Nat.two_pow_pos _);rw[←Nat.pow_add,show c.length+(8-c.length)=8 by omega] at h2;exact h2
theorem Yvj (r:List UInt8)(i:Nat)(h:Yax r=true):Ybs r i<256:=Qc2 _ (Y7s r i h) (by rw[Yke];omega)
theorem Yjh (r:List UInt8)(i:Nat)(h:r.length≤8*i):Ybs r i=0:=by
 unfold Ybs Y3j;rw[List.drop_eq_nil_of_le h]
 rfl
theorem Ynz (r e:List UInt8)(i:Nat)(h:8*i+8≤r.length):Ybs (r++e) i=Ybs r i:=by
 unfold Ybs;rw[List.drop_append_of_le_length (by omega),List.take_append_of_le_length (by rw[List.length_drop];omega)]
theorem Y7r (r:List UInt8)(d:UInt8):((r++[d]).drop (8*(r.length / 8))).take 8=(r.drop (8*(r.length / 8))).take 8++[d]:=by
 rw[List.drop_append_of_le_length (by omega),List.take_of_length_le (l:=r.drop _) (by rw[List.length_drop];omega),List.take_of_length_le (by rw[List.length_append,List.length_drop,List.length_singleton];omega)]
theorem Yhp (r:List UInt8)(d:UInt8):Ybs (r++[d]) (r.length / 8)=Ybs r (r.length / 8)+(d.toNat-48)*2^(7-r.length%8):=by
 unfold Ybs;rw[Y7r];have hl:((r.drop (8*(r.length / 8))).take 8).length=r.length%8:=by rw[Yke];omega
 generalize (r.drop (8*(r.length / 8))).take 8=c at hl;unfold Y3j;rw[Y11,List.length_append,List.length_singleton,hl,show 8-(r.length%8+1)=7-r.length%8 by omega,show 8-r.length%8=7-r.length%8+1 by omega,Nat.pow_succ,Nat.add_mul]
 congr 1
 rw[Nat.mul_comm 2 (num c),Nat.mul_assoc,Nat.mul_comm 2]
theorem Yha (r:List UInt8)(d:UInt8)(i:Nat)(h:i≠r.length / 8):Ybs (r++[d]) i=Ybs r i:=by
 by_cases hi:8*i+8≤r.length
 ·exact Ynz r [d] i hi
 ·rw[Yjh r i (by omega),Yjh _ i (by rw[List.length_append,List.length_singleton];omega)]
theorem Ys8 (r:List UInt8)(i:Nat):Ybs (r++[48]) i=Ybs r i:=by
 by_cases hi:i=r.length / 8
 ·subst hi;rw[Yhp,show ((48:UInt8).toNat-48)=0 from rfl];omega
 ·exact Yha r 48 i hi
theorem Y3i (r:List UInt8):Ybs (r++[49]) (r.length / 8)=Ybs r (r.length / 8)+2^(7-r.length%8):=by
 rw[Yhp,show ((49:UInt8).toNat-48)=1 from rfl];omega
theorem Y3h (r:List UInt8):∃A,Ybs r (r.length / 8)=2^(8-r.length%8)*A:=by
 refine⟨num ((r.drop (8*(r.length / 8))).take 8),?_⟩;unfold Ybs Y3j;rw[Yke,show min 8 (r.length-8*(r.length / 8))=r.length%8 by omega,Nat.mul_comm]
theorem Qjl (x j A:Nat)(hj:j<8)(hx:x=2^(8-j)*A)(h:x<256):bits .or .u8 (x:Int) (128 / 2^j)=((x+2^(7-j):Nat):Int):=by
 have e1:(128:Int) / 2^j=((2^(7-j):Nat):Int):=by
  have e:(128:Int)=2^(7-j)*2^j:=by rw[←Int.pow_add,show 7-j+j=7 by omega];rfl
  rw[e,Int.mul_ediv_cancel _ (by have:(0:Int)<2^j:=Int.pow_pos (by decide);omega)];simp
 have hb:(2:Nat)^(7-j)<2^(8-j):=Nat.pow_lt_pow_right (by omega) (by omega);have hor:=Nat.two_pow_add_eq_or_of_lt hb A;rw[←hx] at hor;have hp:2^(7-j)≤2^7:=Nat.pow_le_pow_right (by omega) (by omega);have hlt:x ||| 2^(7-j)<2^8:=Nat.or_lt_two_pow (by omega) (by omega);rw[e1];show IntKind.u8.wrap ((BitVec.ofInt 8 (x:Int) ||| BitVec.ofInt 8 ((2^(7-j):Nat):Int)).toNat:Int)=_
 rw[BitVec.ofInt_natCast,BitVec.ofInt_natCast,BitVec.toNat_or,BitVec.toNat_ofNat,BitVec.toNat_ofNat,Nat.mod_eq_of_lt (by omega:x<2^8),Nat.mod_eq_of_lt (by omega:2^(7-j)<2^8),←hor];rw[←hor] at hlt;have:IntKind.u8.wrap ((x+2^(7-j):Nat):Int)=((x+2^(7-j):Nat):Int)%256:=rfl;rw[this];omega
theorem Yw7 (p:List UInt8):∀n,Yz4 p n=(List.range n).map fun i=>UInt8.ofNat (num ((p.drop (8*i)).take 8))
 |0=>rfl
 |n+1=>by
  rw[Yz4,Yw7 p n,List.range_succ,List.map_append]
  congr 1
  simp only[List.map_cons,List.map_nil];rw[show (p.drop (8*n)).take 8=(p.take (8*n+8)).drop (8*n) by rw[List.drop_take,show 8*n+8-8*n=8 by omega]]
theorem Y9w (r:List UInt8)(i:Nat)(h:8*i<r.length):num (((Y6o r).drop (8*i)).take 8)=Ybs r i:=by
 unfold Ybs Y3j Y6o;rw[List.drop_append_of_le_length (by omega),List.take_append,←Yoz,Yke,List.length_drop]
 congr 2
 rw[List.take_replicate]
 congr 1
 omega
theorem Yw6 (r:List UInt8):Ygg r=(List.range ((r.length+7) / 8)).map fun i=>UInt8.ofNat (Ybs r i):=by
 unfold Ygg;rw[Yw7,Yo6,show (r.length+(8-r.length%8)%8) / 8=(r.length+7) / 8 by omega];apply List.map_congr_left;intro i hi;rw[List.mem_range] at hi;rw[Y9w r i (by omega)]
theorem Yh5 (r:List UInt8):(Ygg r).length=(r.length+7) / 8:=by rw[Yw6];simp
end Go.Proofs.YtjjmalchelniiaaGreatDoor
namespace Go.Proofs.YtjjmalchelniiaaGreatDoor
theorem Y34 (c:UInt8)(h:c=48∨c=49):Yhf (c.toNat-48)=c:=by
 rcases h with rfl|rfl <;> rfl
theorem Y4g (c:UInt8)(l:List UInt8):Yax (c::l)=((c==48 || c==49)&&Yax l):=rfl
theorem Yrf {c:UInt8}{l:List UInt8}(h:Yax (c::l)=true):(c=48∨c=49)∧Yax l=true:=by
 rw[Y4g] at h
 simpa using h
theorem Qag (v x n:Nat)(h:v%2^n=x%2^n):Yav v n=Yav x n:=by
 induction n generalizing v x with
 |zero=>rfl
 |succ n ih=>
  have hp:(2:Nat)^(n+1)=2^n*2:=Nat.pow_succ 2 n;have h1:v%2^n=x%2^n:=by
   have e1:=Nat.mod_mul_right_mod v (2^n) 2;have e2:=Nat.mod_mul_right_mod x (2^n) 2;rw[←hp] at e1 e2;rw[←e1,←e2,h]
  have h2:v / 2^n%2=x / 2^n%2:=by
   have e1:=Nat.mod_mul_right_div_self v (2^n) 2;have e2:=Nat.mod_mul_right_div_self x (2^n) 2;rw[←hp] at e1 e2;rw[←e1,←e2,h]
  show Yhf (v / 2^n)::Yav v n=Yhf (x / 2^n)::Yav x n;rw[ih v x h1]
  congr 1
  unfold Yhf;rw[h2]
theorem Yfp (a:Nat):Yea a []=a:=rfl
theorem Yh3 (a:Nat)(c:UInt8)(l:List UInt8):Yea a (c::l)=Yea (2*a+(c.toNat-48)) l:=Ydq a [c] l
section
attribute [local irreducible] Yea
theorem Ygy (a:Nat)(l:List UInt8):Yea a l=a*2^l.length+num l:=by
 unfold num
 induction l generalizing a with
 |nil=>rw[Yfp,Yfp,List.length_nil];simp
 |cons c l ih=>
  rw[Yh3,Yh3,ih,ih (2*0+(c.toNat-48)),List.length_cons,Nat.pow_succ];generalize 2^l.length=x;generalize Yea 0 l=y;generalize c.toNat-48=z;rw[Nat.mul_zero,Nat.zero_add,Nat.add_mul,Nat.mul_comm 2 a,Nat.mul_assoc,Nat.mul_comm 2 x,Nat.add_assoc]
theorem Yt1 (c:UInt8)(l:List UInt8):num (c::l)=(c.toNat-48)*2^l.length+num l:=by
 unfold num;rw[Yh3,Ygy,Nat.mul_zero,Nat.zero_add]
 rfl
end
theorem Yg3:∀l:List UInt8,Yax l=true→Yav (num l) l.length=l
 |[],_=>rfl
 |c::l,h=>by
  obtain⟨hc,hl⟩:=Yrf h;have hn:=Yt1 c l;have hlt:=Yip l hl;show Yhf (num (c::l) / 2^l.length)::Yav (num (c::l)) l.length=c::l;rw[hn,Nat.mul_comm,Nat.mul_add_div (Nat.two_pow_pos _),Nat.div_eq_of_lt hlt,Nat.add_zero,Y34 c hc]
  congr 1
  rw[Qag _ (num l) l.length (by rw[Nat.mul_add_mod])];exact Yg3 l hl
theorem Yr7 (p:List UInt8)(hp:Yax p=true):∀n,8*n≤p.length→Yad (Yz4 p n)=p.take (8*n)
 |0,_=>by simp[Yz4,Yad]
 |n+1,h=>by
  rw[Yz4,Yh9,Yr7 p hp n (by omega),Qay];have hr:Yax ((p.take (8*n+8)).drop (8*n))=true:=Ybf _ _ (Ycb _ _ hp);have hl:((p.take (8*n+8)).drop (8*n)).length=8:=by rw[List.length_drop,List.length_take];omega
  have hlt:=Yip _ hr;rw[hl] at hlt;rw[UInt8.toNat_ofNat',Nat.mod_eq_of_lt hlt];have e:=Yg3 _ hr;rw[hl] at e;rw[e,show 8*(n+1)=8*n+8 by omega];have e2:=List.take_append_drop (8*n) (p.take (8*n+8));rw[List.take_take,show min (8*n) (8*n+8)=8*n by omega] at e2;exact e2
theorem Ypp (l:List UInt8)(h:Yax l=true):Yad (Ygg l)=Y6o l:=by
 unfold Ygg;rw[Yr7 _ (Qeq l h) _ (by omega),List.take_of_length_le];have:=Yo6 l;omega
end Go.Proofs.YtjjmalchelniiaaGreatDoor
namespace Go.Proofs.YtjjmalchelniiaaGreatDoor
open Go.RowKit
def gap (n:Nat):Nat:=(8-n%8)%8
def Yny (a:Nat):List UInt8→Nat
 |[]=>a
 |c::l=>Yny (256*a+c.toNat) l
def Qcx (l:List UInt8):Nat:=Yny 0 l
theorem Yvg (a:Nat)(l m:List UInt8):Yny a (l++m)=Yny (Yny a l) m:=by
 induction l generalizing a with
 |nil=>rfl
 |cons c l ih=>exact ih _
theorem Y7c (l:List UInt8)(j:Nat)(h:j<l.length):Qcx (l.take (j+1))=256*Qcx (l.take j)+l[j].toNat:=by
 rw[List.take_succ_eq_append_getElem h];exact Yvg 0 _ _
theorem Qcu (l:List UInt8)(a:Nat):Yny a l<(a+1)*256^l.length:=by
 induction l generalizing a with
 |nil=>simp[Yny]
 |cons c l ih=>
  have h1:=ih (256*a+c.toNat);have h2:=c.toNat_lt;have h3:(256*a+c.toNat+1)*256^l.length≤((a+1)*256)*256^l.length:=Nat.mul_le_mul_right _ (by omega);rw[List.length_cons,Nat.pow_succ,Nat.mul_comm (256^l.length),←Nat.mul_assoc];exact Nat.lt_of_lt_of_le h1 h3
theorem Qg9 (l:List UInt8)(k:Nat)(h:l.length≤k):Qcx l<256^k:=by
 have h1:=Qcu l 0;have h2:256^l.length≤256^k:=Nat.pow_le_pow_right (by omega) h;unfold Qcx;omega
section
attribute [local irreducible] Yea
theorem Yeo (l m:List UInt8):num (l++m)=num l*2^m.length+num m:=by
 unfold num;rw[Ydq,Ygy]
 rfl
theorem Ycw (v n:Nat):num (Yav v n)=v%2^n:=by
 induction n with
 |zero=>simp[Yav,num,Yfp,Nat.mod_one]
 |succ n ih=>
  rw[Yav,Yt1,ih,Yal,Nat.mod_pow_succ];have:(Yhf (v / 2^n)).toNat-48=v / 2^n%2:=by
   generalize v / 2^n=y;unfold Yhf;rcases (by omega:y%2=0∨y%2=1) with h|h
   ·rw[if_pos h,h];rfl
   ·rw[if_neg (by omega),h];rfl
  rw[this,Nat.mul_comm,Nat.add_comm]
theorem Yis (c:UInt8)(l:List UInt8):Yad (c::l)=Yav c.toNat 8++Yad l:=by simp[Yad]
theorem Qaz (l:List UInt8)(a:Nat):Yea a (Yad l)=Yny a l:=by
 induction l generalizing a with
 |nil=>rw[show Yad []=[] from rfl,Yfp];rfl
 |cons c l ih=>
  rw[Yis,Ydq,ih,Ygy,Yal,Ycw,Nat.mod_eq_of_lt (by have:=c.toNat_lt;omega),Yny,Nat.mul_comm]
end
theorem Qff (l:List UInt8):num (Yad l)=Qcx l:=Qaz l 0
theorem Yds (l:List UInt8):Yax (Yad l)=true:=by
 induction l with
 |nil=>rfl
 |cons c l ih=>rw[Yis,Yar,Ycx,ih];rfl
theorem Qh6 (A X C:List UInt8)(hx:Yax X=true)(hc:Yax C=true):num (A++X++C) / 2^C.length%2^X.length=num X:=by
 rw[Yeo,Yeo,Nat.add_comm,Nat.add_mul_div_right _ _ (Nat.two_pow_pos _),Nat.div_eq_of_lt (Yip C hc),Nat.zero_add,Nat.add_comm,Nat.add_mul_mod_self_right,Nat.mod_eq_of_lt (Yip X hx)]
theorem Yly (l:List UInt8)(f k:Nat)(h:f+k≤l.length):Yad ((l.drop f).take k)=((Yad l).drop (8*f)).take (8*k):=by
 have e:l=l.take f++((l.drop f).take k++(l.drop f).drop k):=by rw[List.take_append_drop,List.take_append_drop]
 have e2:Yad l=Yad (l.take f)++(Yad ((l.drop f).take k)++Yad ((l.drop f).drop k)):=by rw[←Yh9,←Yh9,←e]
 rw[e2,List.drop_left' (by rw[Yag,List.length_take,Nat.min_eq_left (by omega)]),List.take_left' (by rw[Yag,List.length_take,List.length_drop,Nat.min_eq_left (by omega)])]
def Ya3 (l:List UInt8)(p n:Nat):Nat:=num (((Yad l).drop p).take n)
theorem Yl5 (l:List UInt8)(f k p n:Nat)(h1:8*f≤p)(h2:p+n≤8*(f+k))(h3:f+k≤l.length):Qcx ((l.drop f).take k) / 2^(8*(f+k)-p-n)%2^n=Ya3 l p n:=by
 have hr:=Yds l;have hl:=Yag l;rw[←Qff,Yly l f k h3];unfold Ya3;generalize Yad l=S at hr hl;obtain⟨T,hT⟩:∃T,(S.drop (8*f)).take (8*k)=T:=⟨_,rfl⟩;have hTr:Yax T=true:=by rw[←hT];exact Ycb _ _ (Ybf _ _ hr)
 have hTl:T.length=8*k:=by rw[←hT,List.length_take,List.length_drop];omega
 have hX:(T.drop (p-8*f)).take n=(S.drop p).take n:=by
  rw[←hT,List.drop_take,List.take_take,List.drop_drop,show min n (8*k-(p-8*f))=n by omega,show 8*f+(p-8*f)=p by omega]
 have hXl:((T.drop (p-8*f)).take n).length=n:=by rw[List.length_take,List.length_drop];omega
 have hCl:((T.drop (p-8*f)).drop n).length=8*(f+k)-p-n:=by rw[List.length_drop,List.length_drop];omega
 have e:T=T.take (p-8*f)++(T.drop (p-8*f)).take n++(T.drop (p-8*f)).drop n:=by rw[List.append_assoc,List.take_append_drop,List.take_append_drop]
 have m:=Qh6 (T.take (p-8*f)) ((T.drop (p-8*f)).take n) ((T.drop (p-8*f)).drop n) (Ycb _ _ (Ybf _ _ hTr)) (Ybf _ _ (Ybf _ _ hTr));rw[←e,hXl,hCl,hX] at m;rw[hT];exact m
theorem Ycg (l:List UInt8)(p n:Nat):Ya3 l p n<2^n:=by
 have h:=Yip _ (Ycb _ n (Ybf _ p (Yds l)));have h2:2^(((Yad l).drop p).take n).length≤2^n:=Nat.pow_le_pow_right (by omega) (by rw[List.length_take];omega);exact Nat.lt_of_lt_of_le h h2
def ask (l:List UInt8)(p:Nat)(n:Int):Int×Int:=
 if n<0∨32<n then (0,1) else if 8*(l.length:Int)-p<n then (0,2) else (((Ya3 l p n.toNat:Nat):Int),0)
theorem Y63 {l:List UInt8}{p:Nat}{n:Int}(h:n<0∨32<n):ask l p n=(0,1):=if_pos h
theorem Ybo {l:List UInt8}{p:Nat}{n:Int}(h:0≤n∧n≤32)(h2:8*(l.length:Int)-p<n):ask l p n=(0,2):=by
 unfold ask;rw[if_neg (by omega),if_pos h2]
theorem Yc8 {l:List UInt8}{p:Nat}{n:Int}(h:0≤n∧n≤32)(h2:n≤8*(l.length:Int)-p):ask l p n=(((Ya3 l p n.toNat:Nat):Int),0):=by
 unfold ask;rw[if_neg (by omega),if_neg (by omega)]
def Yhw (l:List UInt8)(p:Nat):Int×Int:=if Ya3 l p (gap p)=0 then (((gap p:Nat):Int),0) else (0,5)
def Yc1 (l:List UInt8)(p:Nat)(n:Int):Nat:=if (ask l p n).2=0 then p+n.toNat else p
def Yme (l:List UInt8)(p:Nat):Nat:=if Ya3 l p (gap p)=0 then p+gap p else p
theorem Y9l (k:Nat):num (List.replicate k 48)=0:=by
 have:=Yoz [] k;rw[List.nil_append] at this;rw[this,show num []=0 from rfl,Nat.zero_mul]
def Seg (S:List UInt8)(p q:Nat)(r:List UInt8):Prop:=p≤q∧q≤S.length∧(S.drop p).take (q-p)=r
theorem Seg.nil {S:List UInt8}{p:Nat}(hp:p≤S.length):Seg S p p []:=⟨Nat.le_refl _,hp,by rw[Nat.sub_self];rfl⟩
theorem Seg.app {S:List UInt8}{p q t:Nat}{r s:List UInt8}(h:Seg S p q r)(k:Seg S q t s):Seg S p t (r++s):=by
 obtain⟨h1,h2,h3⟩:=h;obtain⟨k1,k2,k3⟩:=k;refine⟨by omega,k2,?_⟩;rw[show t-p=(q-p)+(t-q) by omega,List.take_add,h3,List.drop_drop,show p+(q-p)=q by omega,k3]
theorem Seg.of {S:List UInt8}{p n:Nat}{r:List UInt8}(hp:p≤S.length)(hn:n≤(S.drop p).length)(h:(S.drop p).take n=r):Seg S p (p+n) r:=by
 rw[List.length_drop] at hn;exact⟨by omega,by omega,by rw[Nat.add_sub_cancel_left,h]⟩
theorem Seg.at {S:List UInt8}{p q:Nat}{r:List UInt8}(h:Seg S p q r):S.drop p=r++S.drop q:=by
 obtain⟨h1,h2,h3⟩:=h;rw[←h3,show S.drop q=(S.drop p).drop (q-p) by rw[List.drop_drop,show p+(q-p)=q by omega],List.take_append_drop]
theorem Seg.len {S:List UInt8}{p q:Nat}{r:List UInt8}(h:Seg S p q r):q=p+r.length:=by
 obtain⟨h1,h2,h3⟩:=h;have:=congrArg List.length h3;rw[List.length_take,List.length_drop] at this;omega
theorem Seg.split {S:List UInt8}{p q:Nat}{r s:List UInt8}(h:Seg S p q (r++s)):Seg S p (p+r.length) r∧Seg S (p+r.length) q s:=by
 have hl:=h.len;rw[List.length_append] at hl;obtain⟨h1,h2,h3⟩:=h;refine⟨⟨by omega,by omega,?_⟩,⟨by omega,h2,?_⟩⟩
 ·have h4:=congrArg (List.take r.length) h3;rw[List.take_take,List.take_left,show min r.length (q-p)=r.length by omega] at h4;rw[Nat.add_sub_cancel_left,h4]
 ·have h4:=congrArg (List.drop r.length) h3;rw[List.drop_take,List.drop_drop,List.drop_left] at h4;rw[show q-(p+r.length)=q-p-r.length by omega,h4]
theorem Seg.cut {S:List UInt8}{p q:Nat}{r s:List UInt8}(h:Seg S p q (r++s)):∃m,Seg S p m r∧Seg S m q s:=⟨_,h.split.1,h.split.2⟩
theorem Ybv {l:List UInt8}{p q v n:Nat}(h:Seg (Yad l) p q (Yav v n))(hv:v<2^n):Ya3 l p n=v∧q=p+n∧p+n≤8*l.length:=by
 have hl:=h.len;obtain⟨h1,h2,h3⟩:=h;rw[Yal] at hl;rw[Yag] at h2;refine⟨?_,hl,by omega⟩;unfold Ya3;rw[show List.take n (List.drop p (Yad l))=Yav v n by rw[←h3];congr 1;omega,Ycw,Nat.mod_eq_of_lt hv]
theorem Yce {l:List UInt8}{p n:Nat}(h:p+n≤8*l.length):Seg (Yad l) p (p+n) (Yav (Ya3 l p n) n):=by
 have hs:=Yag l;refine⟨by omega,by omega,?_⟩;rw[Nat.add_sub_cancel_left];have hr:Yax (((Yad l).drop p).take n)=true:=Ycb _ _ (Ybf _ _ (Yds l));have e:=Yg3 _ hr;rw[List.length_take,List.length_drop,show min n ((Yad l).length-p)=n by omega] at e;exact e.symm
def Qi3 (k:Int):Int×Int×Int×Int:=
 if k=1 then (128,96,6,1) else if k=2 then (176,144,9,1) else if k=3 then (352,288,18,1) else if k=4 then (704,576,18,2) else if k=5 then (1408,1152,18,4) else if k=6 then (32,32,2,1) else (0,0,0,0)
def Y8r (k:Int):Int:=(Qi3 k).1
def Qdw (k:Int):Int:=(Qi3 k).2.1
def Yhx (k:Int):Int:=(Qi3 k).2.2.1
def Yjv (k:Int):Int:=(Qi3 k).2.2.2
def Ygx (k:Int):Bool:=decide (1≤k∧k≤6)
theorem Yd7 (k:Int):k=1∨k=2∨k=3∨k=4∨k=5∨k=6∨(Ygx k=false∧Qi3 k=(0,0,0,0)):=by
 by_cases h:1≤k∧k≤6
 ·omega
 ·refine .inr (.inr (.inr (.inr (.inr (.inr ⟨by simpa [Ygx] using h,?_⟩)))));unfold Qi3;rw[if_neg (by omega),if_neg (by omega),if_neg (by omega),if_neg (by omega),if_neg (by omega),if_neg (by omega)]
theorem Y1k {k:Int}(h:Ygx k=false):(k==1)=false∧(k==2)=false∧(k==3)=false∧(k==4)=false∧(k==5)=false∧(k==6)=false:=by
 have h1:¬ (1≤k∧k≤6):=by simpa [Ygx] using h
 refine⟨?_,?_,?_,?_,?_,?_⟩ <;> (simp;omega)
end Go.Proofs.YtjjmalchelniiaaGreatDoor