/- Part 2 of StripsBack. No condition. -/
import Derived.OpenShut
import Derived.IntWalk
namespace Go.Proofs.YtjjmalchelniiaaGreatDoor
def Yhn (b:Nat):UInt8:=if b%2=0 then 48 else 49
def Yav (v:Nat):Nat→List UInt8
 |0=>[]
 |n+1=>Yhn (v / 2^n)::Yav v n
theorem Yan (v n:Nat):(Yav v n).length=n:=by
 induction n with
 |zero=>rfl
 |succ n ih=>simp[Yav,ih]
def Yax (l:List UInt8):Bool:=l.all (fun c=>c==48 || c==49)
theorem Y9i (b:Nat):(Yhn b==48 || Yhn b==49)=true:=by
 unfold Yhn
 split <;> rfl
theorem Ycy (v n:Nat):Yax (Yav v n)=true:=by
 induction n with
 |zero=>rfl
 |succ n ih=>
  show ((Yhn (v / 2^n)==48 || Yhn (v / 2^n)==49)&&Yax (Yav v n))=true;rw[ih,Y9i];rfl
def Yee (a:Nat):List UInt8→Nat
 |[]=>a
 |c::l=>Yee (2*a+(c.toNat-48)) l
def num (l:List UInt8):Nat:=Yee 0 l
theorem Ydv (a:Nat)(l m:List UInt8):Yee a (l++m)=Yee (Yee a l) m:=by
 induction l generalizing a with
 |nil=>rfl
 |cons c l ih=>exact ih _
theorem Y03 (l:List UInt8):(⟨l.toArray⟩:ByteArray).size=l.length:=List.size_toArray
def Yae (l:List UInt8):List UInt8:=l.flatMap fun c=>Yav c.toNat 8
theorem Yih (l m:List UInt8):Yae (l++m)=Yae l++Yae m:=by simp[Yae]
theorem Qca (c:UInt8):Yae [c]=Yav c.toNat 8:=by simp[Yae]
theorem Yah (l:List UInt8):(Yae l).length=8*l.length:=by
 induction l with
 |nil=>rfl
 |cons c l ih=>
  have e:Yae (c::l)=Yav c.toNat 8++Yae l:=by simp[Yae]
  rw[e,List.length_append,Yan,ih,List.length_cons];omega
theorem Yar (l m:List UInt8):Yax (l++m)=(Yax l&&Yax m):=by simp[Yax]
theorem Ycc (l:List UInt8)(j:Nat)(h:Yax l=true):Yax (l.take j)=true:=by
 unfold Yax at h ⊢;rw[List.all_eq_true] at h ⊢;exact fun c hc=>h c (List.mem_of_mem_take hc)
theorem Ybg (l:List UInt8)(j:Nat)(h:Yax l=true):Yax (l.drop j)=true:=by
 unfold Yax at h ⊢;rw[List.all_eq_true] at h ⊢;exact fun c hc=>h c (List.mem_of_mem_drop hc)
theorem Yku (l:List UInt8)(j:Nat)(hj:j<l.length)(h:Yax l=true):l[j].toNat=48∨l[j].toNat=49:=by
 unfold Yax at h;rw[List.all_eq_true] at h;have:=h l[j] (List.getElem_mem hj);simp only[Bool.or_eq_true,beq_iff_eq] at this;rcases this with e|e <;> rw[e]
 ·exact .inl rfl
 ·exact .inr rfl
theorem Yed (k:Nat):Yax (List.replicate k 48)=true:=by
 unfold Yax;rw[List.all_eq_true];intro c hc;rw[List.eq_of_mem_replicate hc]
 rfl
theorem Qfu (l:List UInt8)(j:Nat)(h:j<l.length):num (l.take (j+1))=2*num (l.take j)+(l[j].toNat-48):=by
 rw[List.take_succ_eq_append_getElem h];exact Ydv 0 _ _
theorem Yrx (l:List UInt8)(h:Yax l=true)(j:Nat)(hj:j≤l.length):num (l.take j)<2^j:=by
 induction j with
 |zero=>rw[List.take_zero];decide
 |succ j ih=>
  have:=ih (by omega);rw[Qfu l j hj,Nat.pow_succ];rcases Yku l j hj h with e|e <;> omega
def Y7o (l:List UInt8):List UInt8:=l++List.replicate ((8-l.length%8)%8) 48
theorem Qf2 (l:List UInt8)(h:Yax l=true):Yax (Y7o l)=true:=by
 unfold Y7o;rw[Yar,h,Yed];rfl
theorem Ype (l:List UInt8):(Y7o l).length=l.length+(8-l.length%8)%8:=by
 unfold Y7o;rw[List.length_append,List.length_replicate]
def Y0t (l:List UInt8):Nat→List UInt8
 |0=>[]
 |n+1=>Y0t l n++[UInt8.ofNat (num ((l.take (8*n+8)).drop (8*n)))]
def Yf2 (l:List UInt8):List UInt8:=Y0t (Y7o l) ((Y7o l).length / 8)
end Go.Proofs.YtjjmalchelniiaaGreatDoor
namespace Go.Proofs.YtjjmalchelniiaaGreatDoor
open Go.RowKit
theorem Yd3 {k:IntKind}{a b:Int}(h:a=b):Ending.returned (.int k a)=.returned (.int k b):=by rw[h]
theorem Yag {a b:Bool}(h:a=b):Ending.returned (.bool a)=.returned (.bool b):=by rw[h]
theorem Yil {n:Int}(h:-9223372036854775808≤n∧n≤9223372036854775807):IntKind.i64.wrap n=n:=by
 rw[IntKind.wrap_i64];omega
theorem Qc9 {n:Nat}(h:n≤9223372036854775807):IntKind.i64.wrap (n:Int)=(n:Int):=Yil (by omega)
def Qht (n lo hi:Int):Int:=max lo (min n hi)
def Ymo (a b c:Int):Int:=max (min a b) (min (max a b) c)
def Ycb (n:Int):Int:=(n+32)%64-32
theorem Qdb (n:Int):-32≤Ycb n:=by unfold Ycb;omega
theorem Qda (n:Int):Ycb n≤31:=by unfold Ycb;omega
theorem Yg3 (n:Int)(k:Nat)(hk:k≤62):bits .and .i64 n ((2:Int)^k-1)=n%(2:Int)^k:=by
 have hpn:(2:Nat)^k≤2^62:=Nat.pow_le_pow_right (by omega) hk;have hp1:1≤(2:Nat)^k:=Nat.one_le_two_pow;have hpc:((2:Int)^k)=(((2:Nat)^k:Nat):Int):=by simp
 have h2:(BitVec.ofInt 64 ((2:Int)^k-1)).toNat=2^k-1:=by
  rw[hpc,show ((((2:Nat)^k:Nat):Int)-1)=((2^k-1:Nat):Int) by omega,BitVec.ofInt_natCast,BitVec.toNat_ofNat];exact Nat.mod_eq_of_lt (by omega)
 have h1:(BitVec.ofInt 64 n).toNat=(n%18446744073709551616).toNat:=by rw[BitVec.toNat_ofInt];rfl
 show IntKind.i64.wrap ((BitVec.ofInt 64 n &&& BitVec.ofInt 64 ((2:Int)^k-1)).toNat:Int)=_;rw[BitVec.toNat_and,h1,h2,Nat.and_two_pow_sub_one_eq_mod,hpc,IntKind.wrap_i64];have hd:(((2:Nat)^k:Nat):Int) ∣ 18446744073709551616:=by
  have e:(18446744073709551616:Nat)=2^64:=by decide
  have d:(2:Nat)^k ∣ (18446744073709551616:Nat):=by rw[e];exact Nat.pow_dvd_pow 2 (by omega)
  exact Int.natCast_dvd_natCast.2 d
 have hm:((((n%18446744073709551616).toNat%2^k:Nat)):Int)=n%(((2:Nat)^k:Nat):Int):=by
  rw[Int.natCast_emod,Int.toNat_of_nonneg (Int.emod_nonneg _ (by omega)),Int.emod_emod_of_dvd _ hd]
 rw[hm];have:=Int.emod_nonneg n (b:=(((2:Nat)^k:Nat):Int)) (by omega);have:=Int.emod_lt_of_pos n (b:=(((2:Nat)^k:Nat):Int)) (by omega);omega
theorem Qhn (n:Int):bits .and .i64 n 63=n%64:=Yg3 n 6 (by omega)
def round (n bits:Int):Int:=
 if Qht bits 0 32=0 then Qht n (-1099511627776) 1099511627776
 else (Qht n (-1099511627776) 1099511627776+2^((Qht bits 0 32).toNat-1)) / 2^(Qht bits 0 32).toNat
theorem Qf7 (k:Nat)(h:k≤32):1≤(2:Int)^k∧(2:Int)^k≤4294967296:=by
 have h1:(2:Nat)^k≤2^32:=Nat.pow_le_pow_right (by omega) h;have h2:1≤(2:Nat)^k:=Nat.one_le_two_pow;have h3:((2:Int)^k)=(((2:Nat)^k:Nat):Int):=by simp
 omega
def Y4b (c:List UInt8):Nat:=num c*2^(8-c.length)
def Ybt (r:List UInt8)(i:Nat):Nat:=Y4b ((r.drop (8*i)).take 8)
theorem Y2u (c:List UInt8)(d:UInt8):num (c++[d])=2*num c+(d.toNat-48):=Ydv 0 c [d]
theorem Yo6 (c:List UInt8)(m:Nat):num (c++List.replicate m 48)=num c*2^m:=by
 induction m with
 |zero=>simp
 |succ m ih=>
  rw[List.replicate_succ',←List.append_assoc,Y2u,ih,Nat.pow_succ,←Nat.mul_assoc (num c)];have:((48:UInt8).toNat-48)=0:=rfl;omega
theorem Yiv (c:List UInt8)(h:Yax c=true):num c<2^c.length:=by
 have:=Yrx c h c.length (Nat.le_refl _);rwa [List.take_of_length_le (Nat.le_refl _)] at this
theorem Ykn (r:List UInt8)(i:Nat):((r.drop (8*i)).take 8).length=min 8 (r.length-8*i):=by simp
theorem Y8w (r:List UInt8)(i:Nat)(h:Yax r=true):Yax ((r.drop (8*i)).take 8)=true:=Ycc _ _ (Ybg _ _ h)
theorem Qed (c:List UInt8)(h:Yax c=true)(hl:c.length≤8):Y4b c<256:=by
 have h1:=Yiv c h;have h2:num c*2^(8-c.length)<2^c.length*2^(8-c.length):=Nat.mul_lt_mul_of_pos_right h1 (Nat.two_pow_pos _);rw[←Nat.pow_add,show c.length+(8-c.length)=8 by omega] at h2;exact h2
theorem Yvv (r:List UInt8)(i:Nat)(h:Yax r=true):Ybt r i<256:=Qed _ (Y8w r i h) (by rw[Ykn];omega)
theorem Yjp (r:List UInt8)(i:Nat)(h:r.length≤8*i):Ybt r i=0:=by
 unfold Ybt Y4b;rw[List.drop_eq_nil_of_le h]
 rfl
theorem Yn6 (r e:List UInt8)(i:Nat)(h:8*i+8≤r.length):Ybt (r++e) i=Ybt r i:=by
 unfold Ybt;rw[List.drop_append_of_le_length (by omega),List.take_append_of_le_length (by rw[List.length_drop];omega)]
theorem Y8v (r:List UInt8)(d:UInt8):((r++[d]).drop (8*(r.length / 8))).take 8=(r.drop (8*(r.length / 8))).take 8++[d]:=by
 rw[List.drop_append_of_le_length (by omega),List.take_of_length_le (l:=r.drop _) (by rw[List.length_drop];omega),List.take_of_length_le (by rw[List.length_append,List.length_drop,List.length_singleton];omega)]
theorem Yhx (r:List UInt8)(d:UInt8):Ybt (r++[d]) (r.length / 8)=Ybt r (r.length / 8)+(d.toNat-48)*2^(7-r.length%8):=by
 unfold Ybt;rw[Y8v];have hl:((r.drop (8*(r.length / 8))).take 8).length=r.length%8:=by rw[Ykn];omega
 generalize (r.drop (8*(r.length / 8))).take 8=c at hl;unfold Y4b;rw[Y2u,List.length_append,List.length_singleton,hl,show 8-(r.length%8+1)=7-r.length%8 by omega,show 8-r.length%8=7-r.length%8+1 by omega,Nat.pow_succ,Nat.add_mul]
 congr 1
 rw[Nat.mul_comm 2 (num c),Nat.mul_assoc,Nat.mul_comm 2]
theorem Yhi (r:List UInt8)(d:UInt8)(i:Nat)(h:i≠r.length / 8):Ybt (r++[d]) i=Ybt r i:=by
 by_cases hi:8*i+8≤r.length
 ·exact Yn6 r [d] i hi
 ·rw[Yjp r i (by omega),Yjp _ i (by rw[List.length_append,List.length_singleton];omega)]
theorem Ytj (r:List UInt8)(i:Nat):Ybt (r++[48]) i=Ybt r i:=by
 by_cases hi:i=r.length / 8
 ·subst hi;rw[Yhx,show ((48:UInt8).toNat-48)=0 from rfl];omega
 ·exact Yhi r 48 i hi
theorem Y4a (r:List UInt8):Ybt (r++[49]) (r.length / 8)=Ybt r (r.length / 8)+2^(7-r.length%8):=by
 rw[Yhx,show ((49:UInt8).toNat-48)=1 from rfl];omega
theorem Y39 (r:List UInt8):∃A,Ybt r (r.length / 8)=2^(8-r.length%8)*A:=by
 refine⟨num ((r.drop (8*(r.length / 8))).take 8),?_⟩;unfold Ybt Y4b;rw[Ykn,show min 8 (r.length-8*(r.length / 8))=r.length%8 by omega,Nat.mul_comm]
theorem Qkx (x j A:Nat)(hj:j<8)(hx:x=2^(8-j)*A)(h:x<256):bits .or .u8 (x:Int) (128 / 2^j)=((x+2^(7-j):Nat):Int):=by
 have e1:(128:Int) / 2^j=((2^(7-j):Nat):Int):=by
  have e:(128:Int)=2^(7-j)*2^j:=by rw[←Int.pow_add,show 7-j+j=7 by omega];rfl
  rw[e,Int.mul_ediv_cancel _ (by have:(0:Int)<2^j:=Int.pow_pos (by decide);omega)];simp
 have hb:(2:Nat)^(7-j)<2^(8-j):=Nat.pow_lt_pow_right (by omega) (by omega);have hor:=Nat.two_pow_add_eq_or_of_lt hb A;rw[←hx] at hor;have hp:2^(7-j)≤2^7:=Nat.pow_le_pow_right (by omega) (by omega);have hlt:x ||| 2^(7-j)<2^8:=Nat.or_lt_two_pow (by omega) (by omega);rw[e1];show IntKind.u8.wrap ((BitVec.ofInt 8 (x:Int) ||| BitVec.ofInt 8 ((2^(7-j):Nat):Int)).toNat:Int)=_
 rw[BitVec.ofInt_natCast,BitVec.ofInt_natCast,BitVec.toNat_or,BitVec.toNat_ofNat,BitVec.toNat_ofNat,Nat.mod_eq_of_lt (by omega:x<2^8),Nat.mod_eq_of_lt (by omega:2^(7-j)<2^8),←hor];rw[←hor] at hlt;have:IntKind.u8.wrap ((x+2^(7-j):Nat):Int)=((x+2^(7-j):Nat):Int)%256:=rfl;rw[this];omega
theorem Yxk (p:List UInt8):∀n,Y0t p n=(List.range n).map fun i=>UInt8.ofNat (num ((p.drop (8*i)).take 8))
 |0=>rfl
 |n+1=>by
  rw[Y0t,Yxk p n,List.range_succ,List.map_append]
  congr 1
  simp only[List.map_cons,List.map_nil];rw[show (p.drop (8*n)).take 8=(p.take (8*n+8)).drop (8*n) by rw[List.drop_take,show 8*n+8-8*n=8 by omega]]
theorem Qa7 (r:List UInt8)(i:Nat)(h:8*i<r.length):num (((Y7o r).drop (8*i)).take 8)=Ybt r i:=by
 unfold Ybt Y4b Y7o;rw[List.drop_append_of_le_length (by omega),List.take_append,←Yo6,Ykn,List.length_drop]
 congr 2
 rw[List.take_replicate]
 congr 1
 omega
theorem Yxj (r:List UInt8):Yf2 r=(List.range ((r.length+7) / 8)).map fun i=>UInt8.ofNat (Ybt r i):=by
 unfold Yf2;rw[Yxk,Ype,show (r.length+(8-r.length%8)%8) / 8=(r.length+7) / 8 by omega];apply List.map_congr_left;intro i hi;rw[List.mem_range] at hi;rw[Qa7 r i (by omega)]
theorem Yid (r:List UInt8):(Yf2 r).length=(r.length+7) / 8:=by rw[Yxj];simp
end Go.Proofs.YtjjmalchelniiaaGreatDoor
namespace Go.Proofs.YtjjmalchelniiaaGreatDoor
theorem Y4x (c:UInt8)(h:c=48∨c=49):Yhn (c.toNat-48)=c:=by
 rcases h with rfl|rfl <;> rfl
theorem Y5b (c:UInt8)(l:List UInt8):Yax (c::l)=((c==48 || c==49)&&Yax l):=rfl
theorem Yrq {c:UInt8}{l:List UInt8}(h:Yax (c::l)=true):(c=48∨c=49)∧Yax l=true:=by
 rw[Y5b] at h
 simpa using h
theorem Qbr (v x n:Nat)(h:v%2^n=x%2^n):Yav v n=Yav x n:=by
 induction n generalizing v x with
 |zero=>rfl
 |succ n ih=>
  have hp:(2:Nat)^(n+1)=2^n*2:=Nat.pow_succ 2 n;have h1:v%2^n=x%2^n:=by
   have e1:=Nat.mod_mul_right_mod v (2^n) 2;have e2:=Nat.mod_mul_right_mod x (2^n) 2;rw[←hp] at e1 e2;rw[←e1,←e2,h]
  have h2:v / 2^n%2=x / 2^n%2:=by
   have e1:=Nat.mod_mul_right_div_self v (2^n) 2;have e2:=Nat.mod_mul_right_div_self x (2^n) 2;rw[←hp] at e1 e2;rw[←e1,←e2,h]
  show Yhn (v / 2^n)::Yav v n=Yhn (x / 2^n)::Yav x n;rw[ih v x h1]
  congr 1
  unfold Yhn;rw[h2]
theorem Yfy (a:Nat):Yee a []=a:=rfl
theorem Yib (a:Nat)(c:UInt8)(l:List UInt8):Yee a (c::l)=Yee (2*a+(c.toNat-48)) l:=Ydv a [c] l
section
attribute [local irreducible] Yee
theorem Yg7 (a:Nat)(l:List UInt8):Yee a l=a*2^l.length+num l:=by
 unfold num
 induction l generalizing a with
 |nil=>rw[Yfy,Yfy,List.length_nil];simp
 |cons c l ih=>
  rw[Yib,Yib,ih,ih (2*0+(c.toNat-48)),List.length_cons,Nat.pow_succ];generalize 2^l.length=x;generalize Yee 0 l=y;generalize c.toNat-48=z;rw[Nat.mul_zero,Nat.zero_add,Nat.add_mul,Nat.mul_comm 2 a,Nat.mul_assoc,Nat.mul_comm 2 x,Nat.add_assoc]
theorem Yuc (c:UInt8)(l:List UInt8):num (c::l)=(c.toNat-48)*2^l.length+num l:=by
 unfold num;rw[Yib,Yg7,Nat.mul_zero,Nat.zero_add]
 rfl
end
theorem Yhc:∀l:List UInt8,Yax l=true→Yav (num l) l.length=l
 |[],_=>rfl
 |c::l,h=>by
  obtain⟨hc,hl⟩:=Yrq h;have hn:=Yuc c l;have hlt:=Yiv l hl;show Yhn (num (c::l) / 2^l.length)::Yav (num (c::l)) l.length=c::l;rw[hn,Nat.mul_comm,Nat.mul_add_div (Nat.two_pow_pos _),Nat.div_eq_of_lt hlt,Nat.add_zero,Y4x c hc]
  congr 1
  rw[Qbr _ (num l) l.length (by rw[Nat.mul_add_mod])];exact Yhc l hl
theorem Ysh (p:List UInt8)(hp:Yax p=true):∀n,8*n≤p.length→Yae (Y0t p n)=p.take (8*n)
 |0,_=>by simp[Y0t,Yae]
 |n+1,h=>by
  rw[Y0t,Yih,Ysh p hp n (by omega),Qca];have hr:Yax ((p.take (8*n+8)).drop (8*n))=true:=Ybg _ _ (Ycc _ _ hp);have hl:((p.take (8*n+8)).drop (8*n)).length=8:=by rw[List.length_drop,List.length_take];omega
  have hlt:=Yiv _ hr;rw[hl] at hlt;rw[UInt8.toNat_ofNat',Nat.mod_eq_of_lt hlt];have e:=Yhc _ hr;rw[hl] at e;rw[e,show 8*(n+1)=8*n+8 by omega];have e2:=List.take_append_drop (8*n) (p.take (8*n+8));rw[List.take_take,show min (8*n) (8*n+8)=8*n by omega] at e2;exact e2
theorem Yxz (l:List UInt8)(h:Yax l=true):Yae (Yf2 l)=Y7o l:=by
 unfold Yf2;rw[Ysh _ (Qf2 l h) _ (by omega),List.take_of_length_le];have:=Ype l;omega
end Go.Proofs.YtjjmalchelniiaaGreatDoor
namespace Go.Proofs.YtjjmalchelniiaaGreatDoor
open Go.RowKit
def gap (n:Nat):Nat:=(8-n%8)%8
def Yn5 (a:Nat):List UInt8→Nat
 |[]=>a
 |c::l=>Yn5 (256*a+c.toNat) l
def Qd8 (l:List UInt8):Nat:=Yn5 0 l
theorem Yvs (a:Nat)(l m:List UInt8):Yn5 a (l++m)=Yn5 (Yn5 a l) m:=by
 induction l generalizing a with
 |nil=>rfl
 |cons c l ih=>exact ih _
theorem Y8e (l:List UInt8)(j:Nat)(h:j<l.length):Qd8 (l.take (j+1))=256*Qd8 (l.take j)+l[j].toNat:=by
 rw[List.take_succ_eq_append_getElem h];exact Yvs 0 _ _
theorem Qd5 (l:List UInt8)(a:Nat):Yn5 a l<(a+1)*256^l.length:=by
 induction l generalizing a with
 |nil=>simp[Yn5]
 |cons c l ih=>
  have h1:=ih (256*a+c.toNat);have h2:=c.toNat_lt;have h3:(256*a+c.toNat+1)*256^l.length≤((a+1)*256)*256^l.length:=Nat.mul_le_mul_right _ (by omega);rw[List.length_cons,Nat.pow_succ,Nat.mul_comm (256^l.length),←Nat.mul_assoc];exact Nat.lt_of_lt_of_le h1 h3
theorem Qii (l:List UInt8)(k:Nat)(h:l.length≤k):Qd8 l<256^k:=by
 have h1:=Qd5 l 0;have h2:256^l.length≤256^k:=Nat.pow_le_pow_right (by omega) h;unfold Qd8;omega
section
attribute [local irreducible] Yee
theorem Yeu (l m:List UInt8):num (l++m)=num l*2^m.length+num m:=by
 unfold num;rw[Ydv,Yg7]
 rfl
theorem Ycx (v n:Nat):num (Yav v n)=v%2^n:=by
 induction n with
 |zero=>simp[Yav,num,Yfy,Nat.mod_one]
 |succ n ih=>
  rw[Yav,Yuc,ih,Yan,Nat.mod_pow_succ];have:(Yhn (v / 2^n)).toNat-48=v / 2^n%2:=by
   generalize v / 2^n=y;unfold Yhn;rcases (by omega:y%2=0∨y%2=1) with h|h
   ·rw[if_pos h,h];rfl
   ·rw[if_neg (by omega),h];rfl
  rw[this,Nat.mul_comm,Nat.add_comm]
theorem Yiz (c:UInt8)(l:List UInt8):Yae (c::l)=Yav c.toNat 8++Yae l:=by simp[Yae]
theorem Qcb (l:List UInt8)(a:Nat):Yee a (Yae l)=Yn5 a l:=by
 induction l generalizing a with
 |nil=>rw[show Yae []=[] from rfl,Yfy];rfl
 |cons c l ih=>
  rw[Yiz,Ydv,ih,Yg7,Yan,Ycx,Nat.mod_eq_of_lt (by have:=c.toNat_lt;omega),Yn5,Nat.mul_comm]
end
theorem Qgr (l:List UInt8):num (Yae l)=Qd8 l:=Qcb l 0
theorem Ydx (l:List UInt8):Yax (Yae l)=true:=by
 induction l with
 |nil=>rfl
 |cons c l ih=>rw[Yiz,Yar,Ycy,ih];rfl
theorem Qjf (A X C:List UInt8)(hx:Yax X=true)(hc:Yax C=true):num (A++X++C) / 2^C.length%2^X.length=num X:=by
 rw[Yeu,Yeu,Nat.add_comm,Nat.add_mul_div_right _ _ (Nat.two_pow_pos _),Nat.div_eq_of_lt (Yiv C hc),Nat.zero_add,Nat.add_comm,Nat.add_mul_mod_self_right,Nat.mod_eq_of_lt (Yiv X hx)]
theorem Yl7 (l:List UInt8)(f k:Nat)(h:f+k≤l.length):Yae ((l.drop f).take k)=((Yae l).drop (8*f)).take (8*k):=by
 have e:l=l.take f++((l.drop f).take k++(l.drop f).drop k):=by rw[List.take_append_drop,List.take_append_drop]
 have e2:Yae l=Yae (l.take f)++(Yae ((l.drop f).take k)++Yae ((l.drop f).drop k)):=by rw[←Yih,←Yih,←e]
 rw[e2,List.drop_left' (by rw[Yah,List.length_take,Nat.min_eq_left (by omega)]),List.take_left' (by rw[Yah,List.length_take,List.length_drop,Nat.min_eq_left (by omega)])]
def Ya5 (l:List UInt8)(p n:Nat):Nat:=num (((Yae l).drop p).take n)
theorem Yme (l:List UInt8)(f k p n:Nat)(h1:8*f≤p)(h2:p+n≤8*(f+k))(h3:f+k≤l.length):Qd8 ((l.drop f).take k) / 2^(8*(f+k)-p-n)%2^n=Ya5 l p n:=by
 have hr:=Ydx l;have hl:=Yah l;rw[←Qgr,Yl7 l f k h3];unfold Ya5;generalize Yae l=S at hr hl;obtain⟨T,hT⟩:∃T,(S.drop (8*f)).take (8*k)=T:=⟨_,rfl⟩;have hTr:Yax T=true:=by rw[←hT];exact Ycc _ _ (Ybg _ _ hr)
 have hTl:T.length=8*k:=by rw[←hT,List.length_take,List.length_drop];omega
 have hX:(T.drop (p-8*f)).take n=(S.drop p).take n:=by
  rw[←hT,List.drop_take,List.take_take,List.drop_drop,show min n (8*k-(p-8*f))=n by omega,show 8*f+(p-8*f)=p by omega]
 have hXl:((T.drop (p-8*f)).take n).length=n:=by rw[List.length_take,List.length_drop];omega
 have hCl:((T.drop (p-8*f)).drop n).length=8*(f+k)-p-n:=by rw[List.length_drop,List.length_drop];omega
 have e:T=T.take (p-8*f)++(T.drop (p-8*f)).take n++(T.drop (p-8*f)).drop n:=by rw[List.append_assoc,List.take_append_drop,List.take_append_drop]
 have m:=Qjf (T.take (p-8*f)) ((T.drop (p-8*f)).take n) ((T.drop (p-8*f)).drop n) (Ycc _ _ (Ybg _ _ hTr)) (Ybg _ _ (Ybg _ _ hTr));rw[←e,hXl,hCl,hX] at m;rw[hT];exact m
theorem Ych (l:List UInt8)(p n:Nat):Ya5 l p n<2^n:=by
 have h:=Yiv _ (Ycc _ n (Ybg _ p (Ydx l)));have h2:2^(((Yae l).drop p).take n).length≤2^n:=Nat.pow_le_pow_right (by omega) (by rw[List.length_take];omega);exact Nat.lt_of_lt_of_le h h2
def ask (l:List UInt8)(p:Nat)(n:Int):Int×Int:=
 if n<0∨32<n then (0,1) else if 8*(l.length:Int)-p<n then (0,2) else (((Ya5 l p n.toNat:Nat):Int),0)
theorem Y75 {l:List UInt8}{p:Nat}{n:Int}(h:n<0∨32<n):ask l p n=(0,1):=if_pos h
theorem Ybp {l:List UInt8}{p:Nat}{n:Int}(h:0≤n∧n≤32)(h2:8*(l.length:Int)-p<n):ask l p n=(0,2):=by
 unfold ask;rw[if_neg (by omega),if_pos h2]
theorem Yda {l:List UInt8}{p:Nat}{n:Int}(h:0≤n∧n≤32)(h2:n≤8*(l.length:Int)-p):ask l p n=(((Ya5 l p n.toNat:Nat):Int),0):=by
 unfold ask;rw[if_neg (by omega),if_neg (by omega)]
def Yh4 (l:List UInt8)(p:Nat):Int×Int:=if Ya5 l p (gap p)=0 then (((gap p:Nat):Int),0) else (0,5)
def Yc3 (l:List UInt8)(p:Nat)(n:Int):Nat:=if (ask l p n).2=0 then p+n.toNat else p
def Ymn (l:List UInt8)(p:Nat):Nat:=if Ya5 l p (gap p)=0 then p+gap p else p
theorem Qaw (k:Nat):num (List.replicate k 48)=0:=by
 have:=Yo6 [] k;rw[List.nil_append] at this;rw[this,show num []=0 from rfl,Nat.zero_mul]
def Seg (S:List UInt8)(p q:Nat)(r:List UInt8):Prop:=p≤q∧q≤S.length∧(S.drop p).take (q-p)=r
theorem Seg.nil {S:List UInt8}{p:Nat}(hp:p≤S.length):Seg S p p []:=⟨Nat.le_refl _,hp,by rw[Nat.sub_self];rfl⟩
theorem Seg.app {S:List UInt8}{p q t:Nat}{r s:List UInt8}(h:Seg S p q r)(k:Seg S q t s):Seg S p t (r++s):=by
 obtain⟨h1,h2,h3⟩:=h;obtain⟨k1,k2,k3⟩:=k;refine⟨by omega,k2,?_⟩;rw[show t-p=(q-p)+(t-q) by omega,List.take_add,h3,List.drop_drop,show p+(q-p)=q by omega,k3]
theorem Seg.of {S:List UInt8}{p n:Nat}{r:List UInt8}(hp:p≤S.length)(hn:n≤(S.drop p).length)(h:(S.drop p).take n=r):Seg S p (p+n) r:=by
 rw[List.length_drop] at hn;exact⟨by omega,by omega,by rw[Nat.add_sub_cancel_left,h]⟩
theorem Seg.at {S:List UInt8}{p q:Nat}{r:List UInt8}(h:Seg S p q r):S.drop p=r++S.drop q:=by
 obtain⟨h1,h2,h3⟩:=h;rw[←h3,show S.drop q=(S.drop p).drop (q-p) by rw[List.drop_drop,show p+(q-p)=q by omega],List.take_append_drop]
theorem Seg.len {S:List UInt8}{p q:Nat}{r:List UInt8}(h:Seg S p q r):q=p+r.length:=by
 obtain⟨h1,h2,h3⟩:=h;have:=congrArg List.length h3;rw[List.length_take,List.length_drop] at this;omega
theorem Seg.split {S:List UInt8}{p q:Nat}{r s:List UInt8}(h:Seg S p q (r++s)):Seg S p (p+r.length) r∧Seg S (p+r.length) q s:=by
 have hl:=h.len;rw[List.length_append] at hl;obtain⟨h1,h2,h3⟩:=h;refine⟨⟨by omega,by omega,?_⟩,⟨by omega,h2,?_⟩⟩
 ·have h4:=congrArg (List.take r.length) h3;rw[List.take_take,List.take_left,show min r.length (q-p)=r.length by omega] at h4;rw[Nat.add_sub_cancel_left,h4]
 ·have h4:=congrArg (List.drop r.length) h3;rw[List.drop_take,List.drop_drop,List.drop_left] at h4;rw[show q-(p+r.length)=q-p-r.length by omega,h4]
theorem Seg.cut {S:List UInt8}{p q:Nat}{r s:List UInt8}(h:Seg S p q (r++s)):∃m,Seg S p m r∧Seg S m q s:=⟨_,h.split.1,h.split.2⟩
theorem Ybw {l:List UInt8}{p q v n:Nat}(h:Seg (Yae l) p q (Yav v n))(hv:v<2^n):Ya5 l p n=v∧q=p+n∧p+n≤8*l.length:=by
 have hl:=h.len;obtain⟨h1,h2,h3⟩:=h;rw[Yan] at hl;rw[Yah] at h2;refine⟨?_,hl,by omega⟩;unfold Ya5;rw[show List.take n (List.drop p (Yae l))=Yav v n by rw[←h3];congr 1;omega,Ycx,Nat.mod_eq_of_lt hv]
theorem Ycf {l:List UInt8}{p n:Nat}(h:p+n≤8*l.length):Seg (Yae l) p (p+n) (Yav (Ya5 l p n) n):=by
 have hs:=Yah l;refine⟨by omega,by omega,?_⟩;rw[Nat.add_sub_cancel_left];have hr:Yax (((Yae l).drop p).take n)=true:=Ycc _ _ (Ybg _ _ (Ydx l));have e:=Yhc _ hr;rw[List.length_take,List.length_drop,show min n ((Yae l).length-p)=n by omega] at e;exact e.symm
def Qke (k:Int):Int×Int×Int×Int:=
 if k=1 then (128,96,6,1) else if k=2 then (176,144,9,1) else if k=3 then (352,288,18,1) else if k=4 then (704,576,18,2) else if k=5 then (1408,1152,18,4) else if k=6 then (32,32,2,1) else (0,0,0,0)
def Y9y (k:Int):Int:=(Qke k).1
def Qe7 (k:Int):Int:=(Qke k).2.1
def Yh5 (k:Int):Int:=(Qke k).2.2.1
def Yj4 (k:Int):Int:=(Qke k).2.2.2
def Yg6 (k:Int):Bool:=decide (1≤k∧k≤6)
theorem Yeb (k:Int):k=1∨k=2∨k=3∨k=4∨k=5∨k=6∨(Yg6 k=false∧Qke k=(0,0,0,0)):=by
 by_cases h:1≤k∧k≤6
 ·omega
 ·refine .inr (.inr (.inr (.inr (.inr (.inr ⟨by simpa [Yg6] using h,?_⟩)))));unfold Qke;rw[if_neg (by omega),if_neg (by omega),if_neg (by omega),if_neg (by omega),if_neg (by omega),if_neg (by omega)]
theorem Y2d {k:Int}(h:Yg6 k=false):(k==1)=false∧(k==2)=false∧(k==3)=false∧(k==4)=false∧(k==5)=false∧(k==6)=false:=by
 have h1:¬ (1≤k∧k≤6):=by simpa [Yg6] using h
 refine⟨?_,?_,?_,?_,?_,?_⟩ <;> (simp;omega)
end Go.Proofs.YtjjmalchelniiaaGreatDoor