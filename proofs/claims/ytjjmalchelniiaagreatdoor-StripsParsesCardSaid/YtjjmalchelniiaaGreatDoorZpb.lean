/- No condition. -/
import Derived.OpenShut
namespace Go.Proofs.YtjjmalchelniiaaGreatDoor
section
theorem sX{p:Prop}(h:p:=by omega):p:=h
theorem sY{p:Prop}(h:p:=by decide):p:=h
theorem sZ{p:Prop}(h:p:=by simp):p:=h
theorem tB{p:Prop}(h:p:=by rw[Be];omega):p:=h
theorem tC{p:Prop}(h:p:=by unfold AI;omega):p:=h
theorem tD{p:Prop}(h:p:=by rw[Bf];omega):p:=h
theorem tE{p:Prop}(h:p:=by rw[h]):p:=h
abbrev B8:=@List.length_append
abbrev B9:=@Nat.le_refl
abbrev Ba:=@if_neg
abbrev Bb:=@if_pos
abbrev Bc:=@Nat.lt_of_lt_of_le
abbrev Bd:=@List.take_succ_eq_append_getElem
abbrev Be:=@List.length_take
abbrev Bf:=@List.length_drop
abbrev Bg:=@List.append_assoc
abbrev Bh:=@List.take_of_length_le
abbrev Bi:=@List.length_cons
abbrev Bj:=@beq_iff_eq
abbrev Bk:=@List.take_zero
abbrev Bl:=@List.getElem_mem
abbrev Bm:=@Nat.add_sub_cancel_left
abbrev Bn:=@Nat.zero_add
abbrev Bo:=@List.length_singleton
abbrev Bp:=@List.length_replicate
abbrev Bq:=@Nat.mod_eq_of_lt
abbrev Br:=@Nat.pow_le_pow_right
abbrev Bs:=@List.mem_range
abbrev Bt:=@List.take_append_drop
abbrev Bu:=@List.length_nil
abbrev Bv:=@Nat.min_eq_left
abbrev Bw:=@List.all_eq_true
abbrev By:=@Nat.add_assoc
abbrev Bz:=@congrArg
abbrev C6:=@Nat.add_zero
abbrev C7:=@BitVec.ofInt_natCast
abbrev C8:=@BitVec.toNat_ofNat
abbrev C9:=@List.take_append_of_le_length
abbrev Ca:=@Nat.mul_comm
abbrev Cb:=@List.nil_append
abbrev Cc:=@List.map_append
abbrev Cd:=@List.drop_eq_nil_of_le
abbrev Ce:=@Int.toNat_of_nonneg
abbrev Cf:=@List.drop_drop
abbrev Cg:=@Nat.zero_mul
abbrev Ch:=@Nat.two_pow_pos
abbrev Ci:=@Nat.sub_self
abbrev Cj:=@Nat.add_comm
abbrev Ck:=@List.range_succ
abbrev Cl:=@List.size_toArray
abbrev Cm:=@Nat.two_pow_add_eq_or_of_lt
abbrev Cn:=@List.map_cons
abbrev Co:=@List.take_take
abbrev Cp:=@Nat.pow_succ
abbrev Cq:=@List.drop_append_of_le_length
abbrev Cr:=@IntKind.wrap_i64
abbrev Cs:=@List.map_nil
abbrev Ct:=@List.take_add
abbrev Cu:=@List.drop_take
abbrev Cv:=@List.eq_of_mem_replicate
abbrev Cw:=@Bool.or_eq_true
abbrev Cx:=@Nat.div_eq_of_lt
abbrev Cy:=@Nat.mul_le_mul_right
abbrev Cz:=@Nat.add_mul
abbrev D8:=@List.map_congr_left
abbrev D9:=@BitVec.toNat_or
abbrev Da:=@Nat.mod_mul_right_div_self
abbrev Db:=@Nat.mul_zero
abbrev Dc:=@List.take_left
abbrev Dd:=@Nat.mul_assoc
abbrev De:=@ByteArray.ext
def F9 (b:Nat):UInt8:=if b%2=0 then 48 else 49
def AF (v:Nat):Nat->List UInt8
 |0=>[]
 |n+1=>F9 (v / 2^n)::AF v n
theorem BS (v n:Nat):(AF v n).length=n:=by
 induction n with
 |zero=>rfl
 |succ n a=>simp[AF,a]
def AH (l:List UInt8):Bool:=l.all (fun c=>c==48 || c==49)
theorem Qfa (b:Nat):(F9 b==48 || F9 b==49)=true:=by
 unfold F9
 split <;> rfl
theorem JL (v n:Nat):AH (AF v n)=true:=by
 induction n with
 |zero=>rfl
 |succ n a=>
  show ((F9 (v / 2^n)==48 || F9 (v / 2^n)==49)&&AH (AF v n))=true;rw[a,Qfa];rfl
def HW (a:Nat):List UInt8->Nat
 |[]=>a
 |c::l=>HW (2*a+(c.toNat-48)) l
def num (l:List UInt8):Nat:=HW 0 l
theorem Rh (a:Nat)(l m:List UInt8):HW a (l++m)=HW (HW a l) m:=by
 induction l generalizing a with
 |nil=>rfl
 |cons c l b=>exact b _
theorem Uq (a b:List UInt8):(⟨a.toArray⟩:ByteArray)++⟨b.toArray⟩=⟨(a++b).toArray⟩:=by
 apply De;simp
theorem Xg (l:List UInt8)(i j:Nat):(⟨l.toArray⟩:ByteArray).extract i j=⟨((l.take j).drop i).toArray⟩:=by
 apply De;simp[List.drop_take]
theorem Qku (y:Nat):(⟨#[48,49]⟩:ByteArray).extract (y%2) (y%2+1)=⟨[F9 y].toArray⟩:=by
 have h:y%2=0\/y%2=1:=sX;rcases h with h|h
 ·rw[h];unfold F9;rw[h];rfl
 ·rw[h];unfold F9;rw[h];rfl
theorem sS (v j y:Nat)(h:v / 2^j=y):(⟨#[48,49]⟩:ByteArray).extract (y%2) (y%2+1)++⟨(AF v j).toArray⟩=⟨(AF v (j+1)).toArray⟩:=by
 rw[Qku,Uq,AF,h];rfl
theorem LD (l:List UInt8):(⟨l.toArray⟩:ByteArray).size=l.length:=Cl
def A2 (l:List UInt8):List UInt8:=l.flatMap fun c=>AF c.toNat 8
theorem RG (l m:List UInt8):A2 (l++m)=A2 l++A2 m:=by simp[A2]
theorem Ye (c:UInt8):A2 [c]=AF c.toNat 8:=by simp[A2]
theorem AZ (l:List UInt8):(A2 l).length=8*l.length:=by
 induction l with
 |nil=>rfl
 |cons c l a=>
  have e:A2 (c::l)=AF c.toNat 8++A2 l:=by simp[A2]
  rw[e,B8,BS,a,Bi];omega
theorem oP (l:List UInt8)(j:Nat)(h:j<l.length):A2 (l.take (j+1))=A2 (l.take j)++AF l[j].toNat 8:=by
 rw[Bd h,RG,Ye]
theorem D7 (l m:List UInt8):AH (l++m)=(AH l&&AH m):=by simp[AH]
theorem ET (l:List UInt8)(j:Nat)(h:AH l=true):AH (l.take j)=true:=by
 unfold AH at h ⊢;rw[Bw] at h ⊢;exact fun c hc=>h c (List.mem_of_mem_take hc)
theorem DH (l:List UInt8)(j:Nat)(h:AH l=true):AH (l.drop j)=true:=by
 unfold AH at h ⊢;rw[Bw] at h ⊢;exact fun c hc=>h c (List.mem_of_mem_drop hc)
theorem NN (l:List UInt8)(j:Nat)(hj:j<l.length)(h:AH l=true):l[j].toNat=48\/l[j].toNat=49:=by
 unfold AH at h;rw[Bw] at h;have:=h l[j] (Bl hj);simp only[Cw,Bj] at this;rcases this with e|e <;> rw[e]
 ·exact .inl rfl
 ·exact .inr rfl
theorem Ri (k:Nat):AH (List.replicate k 48)=true:=by
 unfold AH;rw[Bw];intro c hc;rw[Cv hc]
 rfl
theorem SK (l:List UInt8)(j:Nat)(h:j<l.length):num (l.take (j+1))=2*num (l.take j)+(l[j].toNat-48):=by
 rw[Bd h];exact Rh 0 _ _
theorem K0 (l:List UInt8)(h:AH l=true)(j:Nat)(hj:j<=l.length):num (l.take j)<2^j:=by
 induction j with
 |zero=>rw[Bk];decide
 |succ j a=>
  have:=a sX;rw[SK l j hj,Cp];rcases NN l j hj h with e|e <;> omega
def JR (l:List UInt8):List UInt8:=l++List.replicate ((8-l.length%8)%8) 48
theorem Qlt (l:List UInt8)(h:AH l=true):AH (JR l)=true:=by
 unfold JR;rw[D7,h,Ri];rfl
theorem cB (l:List UInt8):(JR l).length=l.length+(8-l.length%8)%8:=by
 unfold JR;rw[B8,Bp]
def NW (l:List UInt8):Nat->List UInt8
 |0=>[]
 |n+1=>NW l n++[UInt8.ofNat (num ((l.take (8*n+8)).drop (8*n)))]
def FV (l:List UInt8):List UInt8:=NW (JR l) ((JR l).length / 8)
end
section
open Go.RowKit
theorem ES {k:IntKind}{a b:Int}(h:a=b):Ending.returned (.int k a)=.returned (.int k b):=tE
theorem AJ {a b:Bool}(h:a=b):Ending.returned (.bool a)=.returned (.bool b):=tE
theorem CE {n:Int}(h:-9223372036854775808<=n/\n<=9223372036854775807):IntKind.i64.wrap n=n:=by
 rw[Cr];omega
theorem OG {n:Nat}(h:n<=9223372036854775807):IntKind.i64.wrap (n:Int)=(n:Int):=CE sX
def MR (n lo hi:Int):Int:=max lo (min n hi)
def GF (a b c:Int):Int:=max (min a b) (min (max a b) c)
def AI (n:Int):Int:=(n+32)%64-32
theorem PV (n:Int):-32<=AI n:=tC
theorem PU (n:Int):AI n<=31:=tC
theorem LQ (n:Int)(k:Nat)(hk:k<=62):bits .and .i64 n ((2:Int)^k-1)=n%(2:Int)^k:=by
 have c:(2:Nat)^k<=2^62:=Br sX hk;have f:1<=(2:Nat)^k:=Nat.one_le_two_pow;have a:((2:Int)^k)=(((2:Nat)^k:Nat):Int):=sZ;have h2:(BitVec.ofInt 64 ((2:Int)^k-1)).toNat=2^k-1:=by
  rw[a,show ((((2:Nat)^k:Nat):Int)-1)=((2^k-1:Nat):Int) by omega,C7,C8];exact Bq sX
 have h1:(BitVec.ofInt 64 n).toNat=(n%18446744073709551616).toNat:=by rw[BitVec.toNat_ofInt];rfl
 show IntKind.i64.wrap ((BitVec.ofInt 64 n &&& BitVec.ofInt 64 ((2:Int)^k-1)).toNat:Int)=_;rw[BitVec.toNat_and,h1,h2,Nat.and_two_pow_sub_one_eq_mod,a,Cr];have hd:(((2:Nat)^k:Nat):Int) ∣ 18446744073709551616:=by
  have e:(18446744073709551616:Nat)=2^64:=sY;have d:(2:Nat)^k ∣ (18446744073709551616:Nat):=by rw[e];exact Nat.pow_dvd_pow 2 (by omega)
  exact Int.natCast_dvd_natCast.2 d
 have hm:((((n%18446744073709551616).toNat%2^k:Nat)):Int)=n%(((2:Nat)^k:Nat):Int):=by
  rw[Int.natCast_emod,Ce (Int.emod_nonneg _ sX),Int.emod_emod_of_dvd _ hd]
 rw[hm];have:=Int.emod_nonneg n (b:=(((2:Nat)^k:Nat):Int)) sX;have:=Int.emod_lt_of_pos n (b:=(((2:Nat)^k:Nat):Int)) sX;omega
theorem ZM (n:Int):bits .and .i64 n 63=n%64:=LQ n 6 sX
def round (n bits:Int):Int:=
 if MR bits 0 32=0 then MR n (-1099511627776) 1099511627776
 else (MR n (-1099511627776) 1099511627776+2^((MR bits 0 32).toNat-1)) / 2^(MR bits 0 32).toNat
theorem jG (k:Nat)(h:k<=32):1<=(2:Int)^k/\(2:Int)^k<=4294967296:=by
 have h1:(2:Nat)^k<=2^32:=Br sX h;have h2:1<=(2:Nat)^k:=Nat.one_le_two_pow;have h3:((2:Int)^k)=(((2:Nat)^k:Nat):Int):=sZ;omega
def P8 (c:List UInt8):Nat:=num c*2^(8-c.length)
def CF (r:List UInt8)(i:Nat):Nat:=P8 ((r.drop (8*i)).take 8)
theorem bE (c:List UInt8)(d:UInt8):num (c++[d])=2*num c+(d.toNat-48):=Rh 0 c [d]
theorem Xu (c:List UInt8)(m:Nat):num (c++List.replicate m 48)=num c*2^m:=by
 induction m with
 |zero=>simp
 |succ m a=>
  rw[List.replicate_succ',<-Bg,bE,a,Cp,<-Dd (num c)];have:((48:UInt8).toNat-48)=0:=rfl;omega
theorem PR (c:List UInt8)(h:AH c=true):num c<2^c.length:=by
 have:=K0 c h c.length (B9 _);rwa [Bh (B9 _)] at this
theorem Tx (r:List UInt8)(i:Nat):((r.drop (8*i)).take 8).length=min 8 (r.length-8*i):=sZ
theorem Qeq (r:List UInt8)(i:Nat)(h:AH r=true):AH ((r.drop (8*i)).take 8)=true:=ET _ _ (DH _ _ h)
theorem Qkf (c:List UInt8)(h:AH c=true)(hl:c.length<=8):P8 c<256:=by
 have h1:=PR c h;have h2:num c*2^(8-c.length)<2^c.length*2^(8-c.length):=Nat.mul_lt_mul_of_pos_right h1 (Ch _);rw[<-Nat.pow_add,show c.length+(8-c.length)=8 by omega] at h2;exact h2
theorem dX (r:List UInt8)(i:Nat)(h:AH r=true):CF r i<256:=Qkf _ (Qeq r i h) (by rw[Tx];omega)
theorem TW (r:List UInt8)(i:Nat)(h:r.length<=8*i):CF r i=0:=by
 unfold CF P8;rw[Cd h]
 rfl
theorem aF (r e:List UInt8)(i:Nat)(h:8*i+8<=r.length):CF (r++e) i=CF r i:=by
 unfold CF;rw[Cq sX,C9 tD]
theorem gK (r:List UInt8)(d:UInt8):((r++[d]).drop (8*(r.length / 8))).take 8=(r.drop (8*(r.length / 8))).take 8++[d]:=by
 rw[Cq sX,Bh (l:=r.drop _) tD,Bh (by rw[B8,Bf,Bo];omega)]
theorem fU (r:List UInt8)(d:UInt8):CF (r++[d]) (r.length / 8)=CF r (r.length / 8)+(d.toNat-48)*2^(7-r.length%8):=by
 unfold CF;rw[gK];have hl:((r.drop (8*(r.length / 8))).take 8).length=r.length%8:=by rw[Tx];omega
 generalize (r.drop (8*(r.length / 8))).take 8=c at hl;unfold P8;rw[bE,B8,Bo,hl,show 8-(r.length%8+1)=7-r.length%8 by omega,show 8-r.length%8=7-r.length%8+1 by omega,Cp,Cz]
 congr 1
 rw[Ca 2 (num c),Dd,Ca 2]
theorem YY (r:List UInt8)(d:UInt8)(i:Nat)(h:i≠r.length / 8):CF (r++[d]) i=CF r i:=by
 by_cases hi:8*i+8<=r.length
 ·exact aF r [d] i hi
 ·rw[TW r i sX,TW _ i (by rw[B8,Bo];omega)]
theorem Yxy (r:List UInt8)(i:Nat):CF (r++[48]) i=CF r i:=by
 by_cases hi:i=r.length / 8
 ·subst hi;rw[fU,show ((48:UInt8).toNat-48)=0 from rfl];omega
 ·exact YY r 48 i hi
theorem mN (r:List UInt8):CF (r++[49]) (r.length / 8)=CF r (r.length / 8)+2^(7-r.length%8):=by
 rw[fU,show ((49:UInt8).toNat-48)=1 from rfl];omega
theorem iD (r:List UInt8):∃A,CF r (r.length / 8)=2^(8-r.length%8)*A:=by
 refine⟨num ((r.drop (8*(r.length / 8))).take 8),?_⟩;unfold CF P8;rw[Tx,show min 8 (r.length-8*(r.length / 8))=r.length%8 by omega,Ca]
theorem jU (x j A:Nat)(hj:j<8)(c:x=2^(8-j)*A)(h:x<256):bits .or .u8 (x:Int) (128 / 2^j)=((x+2^(7-j):Nat):Int):=by
 have e1:(128:Int) / 2^j=((2^(7-j):Nat):Int):=by
  have e:(128:Int)=2^(7-j)*2^j:=by rw[<-Int.pow_add,show 7-j+j=7 by omega];rfl
  rw[e,Int.mul_ediv_cancel _ (by have:(0:Int)<2^j:=Int.pow_pos (by decide);omega)];simp
 have d:(2:Nat)^(7-j)<2^(8-j):=Nat.pow_lt_pow_right sX sX;have a:=Cm d A;rw[<-c] at a;have f:2^(7-j)<=2^7:=Br sX sX;have b:x ||| 2^(7-j)<2^8:=Nat.or_lt_two_pow sX sX;rw[e1];show IntKind.u8.wrap ((BitVec.ofInt 8 (x:Int) ||| BitVec.ofInt 8 ((2^(7-j):Nat):Int)).toNat:Int)=_;rw[C7,C7,D9,C8,C8,Bq (by omega:x<2^8),Bq (by omega:2^(7-j)<2^8),<-a];rw[<-a] at b;have:IntKind.u8.wrap ((x+2^(7-j):Nat):Int)=((x+2^(7-j):Nat):Int)%256:=rfl;rw[this];omega
theorem YI (p:List UInt8):∀n,NW p n=(List.range n).map fun i=>UInt8.ofNat (num ((p.drop (8*i)).take 8))
 |0=>rfl
 |n+1=>by
  rw[NW,YI p n,Ck,Cc]
  congr 1
  simp only[Cn,Cs];rw[show (p.drop (8*n)).take 8=(p.take (8*n+8)).drop (8*n) by rw[Cu,show 8*n+8-8*n=8 by omega]]
theorem Qgo (r:List UInt8)(i:Nat)(h:8*i<r.length):num (((JR r).drop (8*i)).take 8)=CF r i:=by
 unfold CF P8 JR;rw[Cq sX,List.take_append,<-Xu,Tx,Bf]
 congr 2
 rw[List.take_replicate]
 congr 1
 omega
theorem bD (r:List UInt8):FV r=(List.range ((r.length+7) / 8)).map fun i=>UInt8.ofNat (CF r i):=by
 unfold FV;rw[YI,cB,show (r.length+(8-r.length%8)%8) / 8=(r.length+7) / 8 by omega];apply D8;intro i hi;rw[Bs] at hi;rw[Qgo r i sX]
theorem W0 (r:List UInt8):(FV r).length=(r.length+7) / 8:=by rw[bD];simp
end
section
theorem nV (c:UInt8)(h:c=48\/c=49):F9 (c.toNat-48)=c:=by
 rcases h with rfl|rfl <;> rfl
theorem mU (c:UInt8)(l:List UInt8):AH (c::l)=((c==48 || c==49)&&AH l):=rfl
theorem YM {c:UInt8}{l:List UInt8}(h:AH (c::l)=true):(c=48\/c=49)/\AH l=true:=by
 rw[mU] at h
 simpa using h
theorem qE (v x n:Nat)(h:v%2^n=x%2^n):AF v n=AF x n:=by
 induction n generalizing v x with
 |zero=>rfl
 |succ n b=>
  have a:(2:Nat)^(n+1)=2^n*2:=Cp 2 n;have h1:v%2^n=x%2^n:=by
   have e1:=Nat.mod_mul_right_mod v (2^n) 2;have e2:=Nat.mod_mul_right_mod x (2^n) 2;rw[<-a] at e1 e2;rw[<-e1,<-e2,h]
  have h2:v / 2^n%2=x / 2^n%2:=by
   have e1:=Da v (2^n) 2;have e2:=Da x (2^n) 2;rw[<-a] at e1 e2;rw[<-e1,<-e2,h]
  show F9 (v / 2^n)::AF v n=F9 (x / 2^n)::AF x n;rw[b v x h1]
  congr 1
  unfold F9;rw[h2]
theorem R2 (a:Nat):HW a []=a:=rfl
theorem TK (a:Nat)(c:UInt8)(l:List UInt8):HW a (c::l)=HW (2*a+(c.toNat-48)) l:=Rh a [c] l
section
attribute [local irreducible] HW
theorem VY (a:Nat)(l:List UInt8):HW a l=a*2^l.length+num l:=by
 unfold num
 induction l generalizing a with
 |nil=>rw[R2,R2,Bu];simp
 |cons c l b=>
  rw[TK,TK,b,b (2*0+(c.toNat-48)),Bi,Cp];generalize 2^l.length=x;generalize HW 0 l=y;generalize c.toNat-48=z;rw[Db,Bn,Cz,Ca 2 a,Dd,Ca 2 x,By]
theorem UG (c:UInt8)(l:List UInt8):num (c::l)=(c.toNat-48)*2^l.length+num l:=by
 unfold num;rw[TK,VY,Db,Bn]
 rfl
end
theorem Lq:∀l:List UInt8,AH l=true->AF (num l) l.length=l
 |[],_=>rfl
 |c::l,h=>by
  obtain⟨hc,hl⟩:=YM h;have hn:=UG c l;have a:=PR l hl;show F9 (num (c::l) / 2^l.length)::AF (num (c::l)) l.length=c::l;rw[hn,Ca,Nat.mul_add_div (Ch _),Cx a,C6,nV c hc]
  congr 1
  rw[qE _ (num l) l.length (by rw[Nat.mul_add_mod])];exact Lq l hl
theorem Xe (p:List UInt8)(b:AH p=true):∀n,8*n<=p.length->A2 (NW p n)=p.take (8*n)
 |0,_=>by simp[NW,A2]
 |n+1,h=>by
  rw[NW,RG,Xe p b n sX,Ye];have hr:AH ((p.take (8*n+8)).drop (8*n))=true:=DH _ _ (ET _ _ b);have hl:((p.take (8*n+8)).drop (8*n)).length=8:=by rw[Bf,Be];omega
  have a:=PR _ hr;rw[hl] at a;rw[UInt8.toNat_ofNat',Bq a];have e:=Lq _ hr;rw[hl] at e;rw[e,show 8*(n+1)=8*n+8 by omega];have e2:=Bt (8*n) (p.take (8*n+8));rw[Co,show min (8*n) (8*n+8)=8*n by omega] at e2;exact e2
theorem XE (l:List UInt8)(h:AH l=true):A2 (FV l)=JR l:=by
 unfold FV;rw[Xe _ (Qlt l h) _ sX,Bh];have:=cB l;omega
end
section
open Go.RowKit
def gap (n:Nat):Nat:=(8-n%8)%8
def KA (a:Nat):List UInt8->Nat
 |[]=>a
 |c::l=>KA (256*a+c.toNat) l
def LZ (l:List UInt8):Nat:=KA 0 l
theorem Y0j (a:Nat)(l m:List UInt8):KA a (l++m)=KA (KA a l) m:=by
 induction l generalizing a with
 |nil=>rfl
 |cons c l b=>exact b _
theorem iS (l:List UInt8)(j:Nat)(h:j<l.length):LZ (l.take (j+1))=256*LZ (l.take j)+l[j].toNat:=by
 rw[Bd h];exact Y0j 0 _ _
theorem qI (l:List UInt8)(a:Nat):KA a l<(a+1)*256^l.length:=by
 induction l generalizing a with
 |nil=>simp[KA]
 |cons c l b=>
  have h1:=b (256*a+c.toNat);have h2:=c.toNat_lt;have h3:(256*a+c.toNat+1)*256^l.length<=((a+1)*256)*256^l.length:=Cy _ sX;rw[Bi,Cp,Ca (256^l.length),<-Dd];exact Bc h1 h3
theorem Qoc (l:List UInt8)(k:Nat)(h:l.length<=k):LZ l<256^k:=by
 have h1:=qI l 0;have h2:256^l.length<=256^k:=Br sX h;unfold LZ;omega
section
attribute [local irreducible] HW
theorem LR (l m:List UInt8):num (l++m)=num l*2^m.length+num m:=by
 unfold num;rw[Rh,VY]
 rfl
theorem IQ (v n:Nat):num (AF v n)=v%2^n:=by
 induction n with
 |zero=>simp[AF,num,R2,Nat.mod_one]
 |succ n a=>
  rw[AF,UG,a,BS,Nat.mod_pow_succ];have:(F9 (v / 2^n)).toNat-48=v / 2^n%2:=by
   generalize v / 2^n=y;unfold F9;rcases (by omega:y%2=0\/y%2=1) with h|h
   ·rw[Bb h,h];rfl
   ·rw[Ba sX,h];rfl
  rw[this,Ca,Cj]
theorem RR (c:UInt8)(l:List UInt8):A2 (c::l)=AF c.toNat 8++A2 l:=by simp[A2]
theorem iR (l:List UInt8)(a:Nat):HW a (A2 l)=KA a l:=by
 induction l generalizing a with
 |nil=>rw[show A2 []=[] from rfl,R2];rfl
 |cons c l b=>
  rw[RR,Rh,b,VY,BS,IQ,Bq (by have:=c.toNat_lt;omega),KA,Ca]
end
theorem kN (l:List UInt8):num (A2 l)=LZ l:=iR l 0
theorem GX (l:List UInt8):AH (A2 l)=true:=by
 induction l with
 |nil=>rfl
 |cons c l a=>rw[RR,D7,JL,a];rfl
theorem Qo9 (A X C:List UInt8)(a:AH X=true)(hc:AH C=true):num (A++X++C) / 2^C.length%2^X.length=num X:=by
 rw[LR,LR,Cj,Nat.add_mul_div_right _ _ (Ch _),Cx (PR C hc),Bn,Cj,Nat.add_mul_mod_self_right,Bq (PR X a)]
theorem VO (l:List UInt8)(f k:Nat)(h:f+k<=l.length):A2 ((l.drop f).take k)=((A2 l).drop (8*f)).take (8*k):=by
 have e:l=l.take f++((l.drop f).take k++(l.drop f).drop k):=by rw[Bt,Bt]
 have e2:A2 l=A2 (l.take f)++(A2 ((l.drop f).take k)++A2 ((l.drop f).drop k)):=by rw[<-RG,<-RG,<-e]
 rw[e2,List.drop_left' (by rw[AZ,Be,Bv (by omega)]),List.take_left' (by rw[AZ,Be,Bf,Bv (by omega)])]
def AB (l:List UInt8)(p n:Nat):Nat:=num (((A2 l).drop p).take n)
theorem Vg (l:List UInt8)(f k p n:Nat)(h1:8*f<=p)(h2:p+n<=8*(f+k))(h3:f+k<=l.length):LZ ((l.drop f).take k) / 2^(8*(f+k)-p-n)%2^n=AB l p n:=by
 have hr:=GX l;have hl:=AZ l;rw[<-kN,VO l f k h3];unfold AB;generalize A2 l=S at hr hl;obtain⟨T,b⟩:∃T,(S.drop (8*f)).take (8*k)=T:=⟨_,rfl⟩;have a:AH T=true:=by rw[<-b];exact ET _ _ (DH _ _ hr)
 have g:T.length=8*k:=by rw[<-b,Be,Bf];omega
 have h:(T.drop (p-8*f)).take n=(S.drop p).take n:=by
  rw[<-b,Cu,Co,Cf,show min n (8*k-(p-8*f))=n by omega,show 8*f+(p-8*f)=p by omega]
 have c:((T.drop (p-8*f)).take n).length=n:=by rw[Be,Bf];omega
 have d:((T.drop (p-8*f)).drop n).length=8*(f+k)-p-n:=by rw[Bf,Bf];omega
 have e:T=T.take (p-8*f)++(T.drop (p-8*f)).take n++(T.drop (p-8*f)).drop n:=by rw[Bg,Bt,Bt]
 have m:=Qo9 (T.take (p-8*f)) ((T.drop (p-8*f)).take n) ((T.drop (p-8*f)).drop n) (ET _ _ (DH _ _ a)) (DH _ _ (DH _ _ a));rw[<-e,c,d,h] at m;rw[b];exact m
theorem EB (l:List UInt8)(p n:Nat):AB l p n<2^n:=by
 have h:=PR _ (ET _ n (DH _ p (GX l)));have h2:2^(((A2 l).drop p).take n).length<=2^n:=Br sX tB;exact Bc h h2
def ask (l:List UInt8)(p:Nat)(n:Int):Int×Int:=
 if n<0\/32<n then (0,1) else if 8*(l.length:Int)-p<n then (0,2) else (((AB l p n.toNat:Nat):Int),0)
theorem fX {l:List UInt8}{p:Nat}{n:Int}(h:n<0\/32<n):ask l p n=(0,1):=Bb h
theorem FS {l:List UInt8}{p:Nat}{n:Int}(h:0<=n/\n<=32)(h2:8*(l.length:Int)-p<n):ask l p n=(0,2):=by
 unfold ask;rw[Ba sX,Bb h2]
theorem EK {l:List UInt8}{p:Nat}{n:Int}(h:0<=n/\n<=32)(h2:n<=8*(l.length:Int)-p):ask l p n=(((AB l p n.toNat:Nat):Int),0):=by
 unfold ask;rw[Ba sX,Ba sX]
def JU (l:List UInt8)(p:Nat):Int×Int:=if AB l p (gap p)=0 then (((gap p:Nat):Int),0) else (0,5)
def CM (l:List UInt8)(p:Nat)(n:Int):Nat:=if (ask l p n).2=0 then p+n.toNat else p
def MY (l:List UInt8)(p:Nat):Nat:=if AB l p (gap p)=0 then p+gap p else p
theorem gL (k:Nat):num (List.replicate k 48)=0:=by
 have:=Xu [] k;rw[Cb] at this;rw[this,show num []=0 from rfl,Cg]
def Seg (S:List UInt8)(p q:Nat)(r:List UInt8):Prop:=p<=q/\q<=S.length/\(S.drop p).take (q-p)=r
theorem Seg.nil {S:List UInt8}{p:Nat}(a:p<=S.length):Seg S p p []:=⟨B9 _,a,by rw[Ci];rfl⟩
theorem Seg.app {S:List UInt8}{p q t:Nat}{r s:List UInt8}(h:Seg S p q r)(k:Seg S q t s):Seg S p t (r++s):=by
 obtain⟨h1,h2,h3⟩:=h;obtain⟨c,a,b⟩:=k;refine⟨sX,a,?_⟩;rw[show t-p=(q-p)+(t-q) by omega,Ct,h3,Cf,show p+(q-p)=q by omega,b]
theorem Seg.of {S:List UInt8}{p n:Nat}{r:List UInt8}(a:p<=S.length)(hn:n<=(S.drop p).length)(h:(S.drop p).take n=r):Seg S p (p+n) r:=by
 rw[Bf] at hn;exact⟨sX,sX,by rw[Bm,h]⟩
theorem Seg.at {S:List UInt8}{p q:Nat}{r:List UInt8}(h:Seg S p q r):S.drop p=r++S.drop q:=by
 obtain⟨h1,h2,h3⟩:=h;rw[<-h3,show S.drop q=(S.drop p).drop (q-p) by rw[Cf,show p+(q-p)=q by omega],Bt]
theorem Seg.len {S:List UInt8}{p q:Nat}{r:List UInt8}(h:Seg S p q r):q=p+r.length:=by
 obtain⟨h1,h2,h3⟩:=h;have:=Bz List.length h3;rw[Be,Bf] at this;omega
theorem Seg.split {S:List UInt8}{p q:Nat}{r s:List UInt8}(h:Seg S p q (r++s)):Seg S p (p+r.length) r/\Seg S (p+r.length) q s:=by
 have hl:=h.len;rw[B8] at hl;obtain⟨h1,h2,h3⟩:=h;refine⟨⟨sX,sX,?_⟩,⟨sX,h2,?_⟩⟩
 ·have h4:=Bz (List.take r.length) h3;rw[Co,Dc,show min r.length (q-p)=r.length by omega] at h4;rw[Bm,h4]
 ·have h4:=Bz (List.drop r.length) h3;rw[Cu,Cf,List.drop_left] at h4;rw[show q-(p+r.length)=q-p-r.length by omega,h4]
theorem Seg.cut {S:List UInt8}{p q:Nat}{r s:List UInt8}(h:Seg S p q (r++s)):∃m,Seg S p m r/\Seg S m q s:=⟨_,h.split.1,h.split.2⟩
theorem ER {l:List UInt8}{p q v n:Nat}(h:Seg (A2 l) p q (AF v n))(hv:v<2^n):AB l p n=v/\q=p+n/\p+n<=8*l.length:=by
 have hl:=h.len;obtain⟨h1,h2,h3⟩:=h;rw[BS] at hl;rw[AZ] at h2;refine⟨?_,hl,sX⟩;unfold AB;rw[show List.take n (List.drop p (A2 l))=AF v n by rw[<-h3];congr 1;omega,IQ,Bq hv]
theorem FR {l:List UInt8}{p n:Nat}(h:p+n<=8*l.length):Seg (A2 l) p (p+n) (AF (AB l p n) n):=by
 have hs:=AZ l;refine⟨sX,sX,?_⟩;rw[Bm];have hr:AH (((A2 l).drop p).take n)=true:=ET _ _ (DH _ _ (GX l));have e:=Lq _ hr;rw[Be,Bf,show min n ((A2 l).length-p)=n by omega] at e;exact e.symm
def MS (k:Int):Int×Int×Int×Int:=
 if k=1 then (128,96,6,1) else if k=2 then (176,144,9,1) else if k=3 then (352,288,18,1) else if k=4 then (704,576,18,2) else if k=5 then (1408,1152,18,4) else if k=6 then (32,32,2,1) else (0,0,0,0)
def DF (k:Int):Int:=(MS k).1
def DP (k:Int):Int:=(MS k).2.1
def BE (k:Int):Int:=(MS k).2.2.1
def BQ (k:Int):Int:=(MS k).2.2.2
def DS (k:Int):Bool:=decide (1<=k/\k<=6)
theorem KD (k:Int):k=1\/k=2\/k=3\/k=4\/k=5\/k=6\/(DS k=false/\MS k=(0,0,0,0)):=by
 by_cases h:1<=k/\k<=6
 ·omega
 ·refine .inr (.inr (.inr (.inr (.inr (.inr ⟨by simpa [DS] using h,?_⟩)))));unfold MS;rw[Ba sX,Ba sX,Ba sX,Ba sX,Ba sX,Ba sX]
theorem fQ {k:Int}(h:DS k=false):(k==1)=false/\(k==2)=false/\(k==3)=false/\(k==4)=false/\(k==5)=false/\(k==6)=false:=by
 have h1:¬ (1<=k/\k<=6):=by simpa [DS] using h
 refine⟨?_,?_,?_,?_,?_,?_⟩ <;> (simp;omega)
end
end Go.Proofs.YtjjmalchelniiaaGreatDoor
