/- StripsWrites, 2. No condition. -/
import Derived.OpenShut
namespace Go.Proofs.YtjjmalchelniiaaGreatDoor
section
abbrev B9:=@List.length_append
abbrev Ba:=@Nat.le_refl
abbrev Bb:=@if_neg
abbrev Bc:=@if_pos
abbrev Bd:=@List.append_assoc
abbrev Be:=@List.take_succ_eq_append_getElem
abbrev Bf:=@List.length_take
abbrev Bg:=@Nat.lt_of_lt_of_le
abbrev Bh:=@List.length_cons
abbrev Bi:=@List.take_zero
abbrev Bj:=@List.length_drop
abbrev Bk:=@List.take_of_length_le
abbrev Bl:=@List.length_replicate
abbrev Bm:=@beq_iff_eq
abbrev Bn:=@List.getElem_mem
abbrev Bo:=@Nat.zero_add
abbrev Bp:=@Nat.mod_eq_of_lt
abbrev Bq:=@List.length_singleton
abbrev Br:=@Nat.pow_le_pow_right
abbrev Bs:=@List.take_append_drop
abbrev Bt:=@List.mem_range
abbrev Bu:=@List.all_eq_true
abbrev Bv:=@Nat.add_sub_cancel_left
abbrev Bw:=@Nat.min_eq_left
abbrev By:=@List.length_nil
abbrev Bz:=@Nat.add_assoc
abbrev C6:=@congrArg
abbrev C7:=@BitVec.ofInt_natCast
abbrev C9:=@Nat.mul_comm
abbrev Ca:=@BitVec.toNat_ofNat
abbrev Cb:=@List.take_append_of_le_length
abbrev Cc:=@List.nil_append
abbrev Cd:=@List.replicate_succ'
abbrev Ce:=@Int.toNat_of_nonneg
abbrev Cf:=@Nat.two_pow_pos
abbrev Cg:=@Nat.add_comm
abbrev Ch:=@Nat.zero_mul
abbrev Ci:=@Nat.sub_self
abbrev Cj:=@List.size_toArray
abbrev Ck:=@Nat.two_pow_add_eq_or_of_lt
abbrev Cl:=@List.map_append
abbrev Cm:=@List.map_cons
abbrev Cn:=@List.take_take
abbrev Co:=@Nat.pow_succ
abbrev Cp:=@List.drop_append_of_le_length
abbrev Cq:=@IntKind.wrap_i64
abbrev Cr:=@List.drop_drop
abbrev Cs:=@List.drop_eq_nil_of_le
abbrev Ct:=@List.map_nil
abbrev Cu:=@List.eq_of_mem_replicate
abbrev Cv:=@List.range_succ
abbrev Cw:=@Bool.or_eq_true
abbrev Cx:=@Nat.add_mul
abbrev Cy:=@Nat.add_zero
abbrev Cz:=@Nat.div_eq_of_lt
abbrev D8:=@Nat.mul_le_mul_right
abbrev D9:=@List.take_add
abbrev Da:=@ByteArray.ext
abbrev Db:=@List.map_congr_left
abbrev Dc:=@BitVec.toNat_or
abbrev Dd:=@Nat.mod_mul_right_div_self
abbrev De:=@UInt8.toNat_ofNat'
abbrev Df:=@List.drop_take
abbrev Dg:=@Nat.mul_assoc
abbrev Dh:=@Nat.mul_zero
abbrev Di:=@List.take_left
def F7 (b:Nat):UInt8:=if b%2=0 then 48 else 49
def AB (v:Nat):Nat->List UInt8
 |0=>[]
 |n+1=>F7 (v / 2^n)::AB v n
theorem BB (v n:Nat):(AB v n).length=n:=by
 induction n with
 |zero=>rfl
 |succ n a=>simp[AB,a]
def AL (l:List UInt8):Bool:=l.all (fun c=>c==48 || c==49)
theorem uU (b:Nat):(F7 b==48 || F7 b==49)=true:=by
 unfold F7
 split <;> rfl
theorem I2 (v n:Nat):AL (AB v n)=true:=by
 induction n with
 |zero=>rfl
 |succ n a=>
  show ((F7 (v / 2^n)==48 || F7 (v / 2^n)==49)&&AL (AB v n))=true;rw[a,uU];rfl
def IE (a:Nat):List UInt8->Nat
 |[]=>a
 |c::l=>IE (2*a+(c.toNat-48)) l
def num (l:List UInt8):Nat:=IE 0 l
theorem Q1 (a:Nat)(l m:List UInt8):IE a (l++m)=IE (IE a l) m:=by
 induction l generalizing a with
 |nil=>rfl
 |cons c l b=>exact b _
theorem L2 (a b:List UInt8):(⟨a.toArray⟩:ByteArray)++⟨b.toArray⟩=⟨(a++b).toArray⟩:=by
 apply Da;simp
theorem YY (l:List UInt8)(i j:Nat):(⟨l.toArray⟩:ByteArray).extract i j=⟨((l.take j).drop i).toArray⟩:=by
 apply Da;simp[List.drop_take]
theorem kP (y:Nat):(⟨#[48,49]⟩:ByteArray).extract (y%2) (y%2+1)=⟨[F7 y].toArray⟩:=by
 have h:y%2=0\/y%2=1:=by omega
 rcases h with h|h
 ·rw[h];unfold F7;rw[h];rfl
 ·rw[h];unfold F7;rw[h];rfl
theorem fY (v j y:Nat)(h:v / 2^j=y):(⟨#[48,49]⟩:ByteArray).extract (y%2) (y%2+1)++⟨(AB v j).toArray⟩=⟨(AB v (j+1)).toArray⟩:=by
 rw[kP,L2,AB,h];rfl
theorem HX (l:List UInt8):(⟨l.toArray⟩:ByteArray).size=l.length:=Cj
theorem jR (s:ByteArray):∃l:List UInt8,s=⟨l.toArray⟩:=⟨s.data.toList,by simp⟩
theorem TC (l:List UInt8)(k:Nat):(⟨(l++List.replicate k 48).toArray⟩:ByteArray)++⟨#[48]⟩=⟨(l++List.replicate (k+1) 48).toArray⟩:=by
 rw[show (⟨#[48]⟩:ByteArray)=⟨[48].toArray⟩ from rfl,L2,Bd,<-Cd]
def A2 (l:List UInt8):List UInt8:=l.flatMap fun c=>AB c.toNat 8
theorem SC (l m:List UInt8):A2 (l++m)=A2 l++A2 m:=by simp[A2]
theorem gS (c:UInt8):A2 [c]=AB c.toNat 8:=by simp[A2]
theorem BO (l:List UInt8):(A2 l).length=8*l.length:=by
 induction l with
 |nil=>rfl
 |cons c l a=>
  have e:A2 (c::l)=AB c.toNat 8++A2 l:=by simp[A2]
  rw[e,B9,BB,a,Bh];omega
theorem CO (l m:List UInt8):AL (l++m)=(AL l&&AL m):=by simp[AL]
theorem I1 (l:List UInt8)(j:Nat)(h:AL l=true):AL (l.take j)=true:=by
 unfold AL at h ⊢;rw[Bu] at h ⊢;exact fun c hc=>h c (List.mem_of_mem_take hc)
theorem FR (l:List UInt8)(j:Nat)(h:AL l=true):AL (l.drop j)=true:=by
 unfold AL at h ⊢;rw[Bu] at h ⊢;exact fun c hc=>h c (List.mem_of_mem_drop hc)
theorem PM (l:List UInt8)(j:Nat)(hj:j<l.length)(h:AL l=true):l[j].toNat=48\/l[j].toNat=49:=by
 unfold AL at h;rw[Bu] at h;have:=h l[j] (Bn hj);simp only[Cw,Bm] at this;rcases this with e|e <;> rw[e]
 ·exact .inl rfl
 ·exact .inr rfl
theorem OT (k:Nat):AL (List.replicate k 48)=true:=by
 unfold AL;rw[Bu];intro c hc;rw[Cu hc]
 rfl
theorem YQ (l:List UInt8)(j:Nat)(h:j<l.length):num (l.take (j+1))=2*num (l.take j)+(l[j].toNat-48):=by
 rw[Be h];exact Q1 0 _ _
theorem M2 (l:List UInt8)(h:AL l=true)(j:Nat)(hj:j<=l.length):num (l.take j)<2^j:=by
 induction j with
 |zero=>rw[Bi];decide
 |succ j a=>
  have:=a (by omega);rw[YQ l j hj,Co];rcases PM l j hj h with e|e <;> omega
def HV (l:List UInt8):List UInt8:=l++List.replicate ((8-l.length%8)%8) 48
theorem Yq (l:List UInt8)(h:AL l=true):AL (HV l)=true:=by
 unfold HV;rw[CO,h,OT];rfl
theorem SD (l:List UInt8):(HV l).length=l.length+(8-l.length%8)%8:=by
 unfold HV;rw[B9,Bl]
def HW (l:List UInt8):Nat->List UInt8
 |0=>[]
 |n+1=>HW l n++[UInt8.ofNat (num ((l.take (8*n+8)).drop (8*n)))]
theorem bV (l:List UInt8)(n:Nat):(HW l n).length=n:=by
 induction n with
 |zero=>rfl
 |succ n a=>simp[HW,a]
def BM (l:List UInt8):List UInt8:=HW (HV l) ((HV l).length / 8)
theorem eQ (p:List UInt8)(j:Nat)(h:8*j+8<=p.length):((⟨p.toArray⟩:ByteArray).extract (8*j) (8*j+8)).size=8:=by
 rw[YY,HX,Bj,Bf];omega
theorem Xf (p:List UInt8)(j:Nat):((⟨p.toArray⟩:ByteArray).extract (8*j) (8*j+8)).data.toList=(p.take (8*j+8)).drop (8*j):=by
 rw[YY]
theorem yU (y:Nat)(h:(y:Int)<=255):((UInt8.ofNat y).toNat:Int)=y:=by
 rw[De];omega
end
section
open Go.RowKit
theorem FT {k:IntKind}{a b:Int}(h:a=b):Ending.returned (.int k a)=.returned (.int k b):=by rw[h]
theorem AH {a b:Bool}(h:a=b):Ending.returned (.bool a)=.returned (.bool b):=by rw[h]
theorem CL {n:Int}(h:-9223372036854775808<=n/\n<=9223372036854775807):IntKind.i64.wrap n=n:=by
 rw[Cq];omega
theorem Ug {n:Nat}(h:n<=9223372036854775807):IntKind.i64.wrap (n:Int)=(n:Int):=CL (by omega)
def MB (n lo hi:Int):Int:=max lo (min n hi)
def GD (a b c:Int):Int:=max (min a b) (min (max a b) c)
def AF (n:Int):Int:=(n+32)%64-32
theorem VM (n:Int):-32<=AF n:=by unfold AF;omega
theorem Yl (n:Int):AF n<=31:=by unfold AF;omega
theorem LR (n:Int)(k:Nat)(c:k<=62):bits .and .i64 n ((2:Int)^k-1)=n%(2:Int)^k:=by
 have f:(2:Nat)^k<=2^62:=Br (by omega) c;have g:1<=(2:Nat)^k:=Nat.one_le_two_pow;have a:((2:Int)^k)=(((2:Nat)^k:Nat):Int):=by simp
 have h2:(BitVec.ofInt 64 ((2:Int)^k-1)).toNat=2^k-1:=by
  rw[a,show ((((2:Nat)^k:Nat):Int)-1)=((2^k-1:Nat):Int) by omega,C7,Ca];exact Bp (by omega)
 have h1:(BitVec.ofInt 64 n).toNat=(n%18446744073709551616).toNat:=by rw[BitVec.toNat_ofInt];rfl
 show IntKind.i64.wrap ((BitVec.ofInt 64 n &&& BitVec.ofInt 64 ((2:Int)^k-1)).toNat:Int)=_;rw[BitVec.toNat_and,h1,h2,Nat.and_two_pow_sub_one_eq_mod,a,Cq];have hd:(((2:Nat)^k:Nat):Int) ∣ 18446744073709551616:=by
  have e:(18446744073709551616:Nat)=2^64:=by decide
  have d:(2:Nat)^k ∣ (18446744073709551616:Nat):=by rw[e];exact Nat.pow_dvd_pow 2 (by omega)
  exact Int.natCast_dvd_natCast.2 d
 have hm:((((n%18446744073709551616).toNat%2^k:Nat)):Int)=n%(((2:Nat)^k:Nat):Int):=by
  rw[Int.natCast_emod,Ce (Int.emod_nonneg _ (by omega)),Int.emod_emod_of_dvd _ hd]
 rw[hm];have:=Int.emod_nonneg n (b:=(((2:Nat)^k:Nat):Int)) (by omega);have:=Int.emod_lt_of_pos n (b:=(((2:Nat)^k:Nat):Int)) (by omega);omega
theorem Yf (n:Int):bits .and .i64 n 63=n%64:=LR n 6 (by omega)
def round (n bits:Int):Int:=
 if MB bits 0 32=0 then MB n (-1099511627776) 1099511627776
 else (MB n (-1099511627776) 1099511627776+2^((MB bits 0 32).toNat-1)) / 2^(MB bits 0 32).toNat
theorem gR (k:Nat)(h:k<=32):1<=(2:Int)^k/\(2:Int)^k<=4294967296:=by
 have h1:(2:Nat)^k<=2^32:=Br (by omega) h;have h2:1<=(2:Nat)^k:=Nat.one_le_two_pow;have h3:((2:Int)^k)=(((2:Nat)^k:Nat):Int):=by simp
 omega
def OR (c:List UInt8):Nat:=num c*2^(8-c.length)
def CB (r:List UInt8)(i:Nat):Nat:=OR ((r.drop (8*i)).take 8)
theorem Z7 (c:List UInt8)(d:UInt8):num (c++[d])=2*num c+(d.toNat-48):=Q1 0 c [d]
theorem VZ (c:List UInt8)(m:Nat):num (c++List.replicate m 48)=num c*2^m:=by
 induction m with
 |zero=>simp
 |succ m a=>
  rw[Cd,<-Bd,Z7,a,Co,<-Dg (num c)];have:((48:UInt8).toNat-48)=0:=rfl;omega
theorem OE (c:List UInt8)(h:AL c=true):num c<2^c.length:=by
 have:=M2 c h c.length (Ba _);rwa [Bk (Ba _)] at this
theorem Ro (r:List UInt8)(i:Nat):((r.drop (8*i)).take 8).length=min 8 (r.length-8*i):=by simp
theorem jP (r:List UInt8)(i:Nat)(h:AL r=true):AL ((r.drop (8*i)).take 8)=true:=I1 _ _ (FR _ _ h)
theorem xL (c:List UInt8)(h:AL c=true)(hl:c.length<=8):OR c<256:=by
 have h1:=OE c h;have h2:num c*2^(8-c.length)<2^c.length*2^(8-c.length):=Nat.mul_lt_mul_of_pos_right h1 (Cf _);rw[<-Nat.pow_add,show c.length+(8-c.length)=8 by omega] at h2;exact h2
theorem YD (r:List UInt8)(i:Nat)(h:AL r=true):CB r i<256:=xL _ (jP r i h) (by rw[Ro];omega)
theorem T9 (r:List UInt8)(i:Nat)(h:r.length<=8*i):CB r i=0:=by
 unfold CB OR;rw[Cs h]
 rfl
theorem aF (r e:List UInt8)(i:Nat)(h:8*i+8<=r.length):CB (r++e) i=CB r i:=by
 unfold CB;rw[Cp (by omega),Cb (by rw[Bj];omega)]
theorem vU (r:List UInt8)(d:UInt8):((r++[d]).drop (8*(r.length / 8))).take 8=(r.drop (8*(r.length / 8))).take 8++[d]:=by
 rw[Cp (by omega),Bk (l:=r.drop _) (by rw[Bj];omega),Bk (by rw[B9,Bj,Bq];omega)]
theorem WB (r:List UInt8)(d:UInt8):CB (r++[d]) (r.length / 8)=CB r (r.length / 8)+(d.toNat-48)*2^(7-r.length%8):=by
 unfold CB;rw[vU];have hl:((r.drop (8*(r.length / 8))).take 8).length=r.length%8:=by rw[Ro];omega
 generalize (r.drop (8*(r.length / 8))).take 8=c at hl;unfold OR;rw[Z7,B9,Bq,hl,show 8-(r.length%8+1)=7-r.length%8 by omega,show 8-r.length%8=7-r.length%8+1 by omega,Co,Cx]
 congr 1
 rw[C9 2 (num c),Dg,C9 2]
theorem Yi (r:List UInt8)(d:UInt8)(i:Nat)(h:i≠r.length / 8):CB (r++[d]) i=CB r i:=by
 by_cases hi:8*i+8<=r.length
 ·exact aF r [d] i hi
 ·rw[T9 r i (by omega),T9 _ i (by rw[B9,Bq];omega)]
theorem Yv5 (r:List UInt8)(i:Nat):CB (r++[48]) i=CB r i:=by
 by_cases hi:i=r.length / 8
 ·subst hi;rw[WB,show ((48:UInt8).toNat-48)=0 from rfl];omega
 ·exact Yi r 48 i hi
theorem nO (r:List UInt8):CB (r++[49]) (r.length / 8)=CB r (r.length / 8)+2^(7-r.length%8):=by
 rw[WB,show ((49:UInt8).toNat-48)=1 from rfl];omega
theorem jT (r:List UInt8):∃A,CB r (r.length / 8)=2^(8-r.length%8)*A:=by
 refine⟨num ((r.drop (8*(r.length / 8))).take 8),?_⟩;unfold CB OR;rw[Ro,show min 8 (r.length-8*(r.length / 8))=r.length%8 by omega,C9]
theorem fQ (x j A:Nat)(hj:j<8)(c:x=2^(8-j)*A)(h:x<256):bits .or .u8 (x:Int) (128 / 2^j)=((x+2^(7-j):Nat):Int):=by
 have d:(128:Int) / 2^j=((2^(7-j):Nat):Int):=by
  have e:(128:Int)=2^(7-j)*2^j:=by rw[<-Int.pow_add,show 7-j+j=7 by omega];rfl
  rw[e,Int.mul_ediv_cancel _ (by have:(0:Int)<2^j:=Int.pow_pos (by decide);omega)];simp
 have f:(2:Nat)^(7-j)<2^(8-j):=Nat.pow_lt_pow_right (by omega) (by omega);have a:=Ck f A;rw[<-c] at a;have g:2^(7-j)<=2^7:=Br (by omega) (by omega);have b:x ||| 2^(7-j)<2^8:=Nat.or_lt_two_pow (by omega) (by omega);rw[d];show IntKind.u8.wrap ((BitVec.ofInt 8 (x:Int) ||| BitVec.ofInt 8 ((2^(7-j):Nat):Int)).toNat:Int)=_
 rw[C7,C7,Dc,Ca,Ca,Bp (by omega:x<2^8),Bp (by omega:2^(7-j)<2^8),<-a];rw[<-a] at b;have:IntKind.u8.wrap ((x+2^(7-j):Nat):Int)=((x+2^(7-j):Nat):Int)%256:=rfl;rw[this];omega
theorem YJ (p:List UInt8):∀n,HW p n=(List.range n).map fun i=>UInt8.ofNat (num ((p.drop (8*i)).take 8))
 |0=>rfl
 |n+1=>by
  rw[HW,YJ p n,Cv,Cl]
  congr 1
  simp only[Cm,Ct];rw[show (p.drop (8*n)).take 8=(p.take (8*n+8)).drop (8*n) by rw[Df,show 8*n+8-8*n=8 by omega]]
theorem Qep (r:List UInt8)(i:Nat)(h:8*i<r.length):num (((HV r).drop (8*i)).take 8)=CB r i:=by
 unfold CB OR HV;rw[Cp (by omega),List.take_append,<-VZ,Ro,Bj]
 congr 2
 rw[List.take_replicate]
 congr 1
 omega
theorem bH (r:List UInt8):BM r=(List.range ((r.length+7) / 8)).map fun i=>UInt8.ofNat (CB r i):=by
 unfold BM;rw[YJ,SD,show (r.length+(8-r.length%8)%8) / 8=(r.length+7) / 8 by omega];apply Db;intro i hi;rw[Bt] at hi;rw[Qep r i (by omega)]
theorem QY (r:List UInt8):(BM r).length=(r.length+7) / 8:=by rw[bH];simp
end
section
theorem Y8h (c:UInt8)(h:c=48\/c=49):F7 (c.toNat-48)=c:=by
 rcases h with rfl|rfl <;> rfl
theorem yX (c:UInt8)(l:List UInt8):AL (c::l)=((c==48 || c==49)&&AL l):=rfl
theorem WL {c:UInt8}{l:List UInt8}(h:AL (c::l)=true):(c=48\/c=49)/\AL l=true:=by
 rw[yX] at h
 simpa using h
theorem mG (v x n:Nat)(h:v%2^n=x%2^n):AB v n=AB x n:=by
 induction n generalizing v x with
 |zero=>rfl
 |succ n d=>
  have c:(2:Nat)^(n+1)=2^n*2:=Co 2 n;have h1:v%2^n=x%2^n:=by
   have a:=Nat.mod_mul_right_mod v (2^n) 2;have b:=Nat.mod_mul_right_mod x (2^n) 2;rw[<-c] at a b;rw[<-a,<-b,h]
  have h2:v / 2^n%2=x / 2^n%2:=by
   have a:=Dd v (2^n) 2;have b:=Dd x (2^n) 2;rw[<-c] at a b;rw[<-a,<-b,h]
  show F7 (v / 2^n)::AB v n=F7 (x / 2^n)::AB x n;rw[d v x h1]
  congr 1
  unfold F7;rw[h2]
theorem Qz (a:Nat):IE a []=a:=rfl
theorem SG (a:Nat)(c:UInt8)(l:List UInt8):IE a (c::l)=IE (2*a+(c.toNat-48)) l:=Q1 a [c] l
section
attribute [local irreducible] IE
theorem SH (a:Nat)(l:List UInt8):IE a l=a*2^l.length+num l:=by
 unfold num
 induction l generalizing a with
 |nil=>rw[Qz,Qz,By];simp
 |cons c l b=>
  rw[SG,SG,b,b (2*0+(c.toNat-48)),Bh,Co];generalize 2^l.length=x;generalize IE 0 l=y;generalize c.toNat-48=z;rw[Dh,Bo,Cx,C9 2 a,Dg,C9 2 x,Bz]
theorem TO (c:UInt8)(l:List UInt8):num (c::l)=(c.toNat-48)*2^l.length+num l:=by
 unfold num;rw[SG,SH,Dh,Bo]
 rfl
end
theorem KR:∀l:List UInt8,AL l=true->AB (num l) l.length=l
 |[],_=>rfl
 |c::l,h=>by
  obtain⟨hc,hl⟩:=WL h;have hn:=TO c l;have a:=OE l hl;show F7 (num (c::l) / 2^l.length)::AB (num (c::l)) l.length=c::l;rw[hn,C9,Nat.mul_add_div (Cf _),Cz a,Cy,Y8h c hc]
  congr 1
  rw[mG _ (num l) l.length (by rw[Nat.mul_add_mod])];exact KR l hl
theorem YO (p:List UInt8)(b:AL p=true):∀n,8*n<=p.length->A2 (HW p n)=p.take (8*n)
 |0,_=>by simp[HW,A2]
 |n+1,h=>by
  rw[HW,SC,YO p b n (by omega),gS];have hr:AL ((p.take (8*n+8)).drop (8*n))=true:=FR _ _ (I1 _ _ b);have hl:((p.take (8*n+8)).drop (8*n)).length=8:=by rw[Bj,Bf];omega
  have a:=OE _ hr;rw[hl] at a;rw[De,Bp a];have e:=KR _ hr;rw[hl] at e;rw[e,show 8*(n+1)=8*n+8 by omega];have c:=Bs (8*n) (p.take (8*n+8));rw[Cn,show min (8*n) (8*n+8)=8*n by omega] at c;exact c
theorem Qw (l:List UInt8)(h:AL l=true):A2 (BM l)=HV l:=by
 unfold BM;rw[YO _ (Yq l h) _ (by omega),Bk];have:=SD l;omega
end
section
open Go.RowKit
def gap (n:Nat):Nat:=(8-n%8)%8
def KF (a:Nat):List UInt8->Nat
 |[]=>a
 |c::l=>KF (256*a+c.toNat) l
def LV (l:List UInt8):Nat:=KF 0 l
theorem yA (a:Nat)(l m:List UInt8):KF a (l++m)=KF (KF a l) m:=by
 induction l generalizing a with
 |nil=>rfl
 |cons c l b=>exact b _
theorem nB (l:List UInt8)(j:Nat)(h:j<l.length):LV (l.take (j+1))=256*LV (l.take j)+l[j].toNat:=by
 rw[Be h];exact yA 0 _ _
theorem zZ (l:List UInt8)(a:Nat):KF a l<(a+1)*256^l.length:=by
 induction l generalizing a with
 |nil=>simp[KF]
 |cons c l b=>
  have h1:=b (256*a+c.toNat);have h2:=c.toNat_lt;have h3:(256*a+c.toNat+1)*256^l.length<=((a+1)*256)*256^l.length:=D8 _ (by omega);rw[Bh,Co,C9 (256^l.length),<-Dg];exact Bg h1 h3
theorem yF (l:List UInt8)(k:Nat)(h:l.length<=k):LV l<256^k:=by
 have h1:=zZ l 0;have h2:256^l.length<=256^k:=Br (by omega) h;unfold LV;omega
section
attribute [local irreducible] IE
theorem MI (l m:List UInt8):num (l++m)=num l*2^m.length+num m:=by
 unfold num;rw[Q1,SH]
 rfl
theorem IF (v n:Nat):num (AB v n)=v%2^n:=by
 induction n with
 |zero=>simp[AB,num,Qz,Nat.mod_one]
 |succ n a=>
  rw[AB,TO,a,BB,Nat.mod_pow_succ];have:(F7 (v / 2^n)).toNat-48=v / 2^n%2:=by
   generalize v / 2^n=y;unfold F7;rcases (by omega:y%2=0\/y%2=1) with h|h
   ·rw[Bc h,h];rfl
   ·rw[Bb (by omega),h];rfl
  rw[this,C9,Cg]
theorem QQ (c:UInt8)(l:List UInt8):A2 (c::l)=AB c.toNat 8++A2 l:=by simp[A2]
theorem cJ (l:List UInt8)(a:Nat):IE a (A2 l)=KF a l:=by
 induction l generalizing a with
 |nil=>rw[show A2 []=[] from rfl,Qz];rfl
 |cons c l b=>
  rw[QQ,Q1,b,SH,BB,IF,Bp (by have:=c.toNat_lt;omega),KF,C9]
end
theorem Qkn (l:List UInt8):num (A2 l)=LV l:=cJ l 0
theorem KS (l:List UInt8):AL (A2 l)=true:=by
 induction l with
 |nil=>rfl
 |cons c l a=>rw[QQ,CO,I2,a];rfl
theorem jI (A X C:List UInt8)(a:AL X=true)(hc:AL C=true):num (A++X++C) / 2^C.length%2^X.length=num X:=by
 rw[MI,MI,Cg,Nat.add_mul_div_right _ _ (Cf _),Cz (OE C hc),Bo,Cg,Nat.add_mul_mod_self_right,Bp (OE X a)]
theorem Tk (l:List UInt8)(f k:Nat)(h:f+k<=l.length):A2 ((l.drop f).take k)=((A2 l).drop (8*f)).take (8*k):=by
 have e:l=l.take f++((l.drop f).take k++(l.drop f).drop k):=by rw[Bs,Bs]
 have a:A2 l=A2 (l.take f)++(A2 ((l.drop f).take k)++A2 ((l.drop f).drop k)):=by rw[<-SC,<-SC,<-e]
 rw[a,List.drop_left' (by rw[BO,Bf,Bw (by omega)]),List.take_left' (by rw[BO,Bf,Bj,Bw (by omega)])]
def AE (l:List UInt8)(p n:Nat):Nat:=num (((A2 l).drop p).take n)
theorem Sh (l:List UInt8)(f k p n:Nat)(h1:8*f<=p)(h2:p+n<=8*(f+k))(h3:f+k<=l.length):LV ((l.drop f).take k) / 2^(8*(f+k)-p-n)%2^n=AE l p n:=by
 have hr:=KS l;have hl:=BO l;rw[<-Qkn,Tk l f k h3];unfold AE;generalize A2 l=S at hr hl;obtain⟨T,b⟩:∃T,(S.drop (8*f)).take (8*k)=T:=⟨_,rfl⟩;have a:AL T=true:=by rw[<-b];exact I1 _ _ (FR _ _ hr)
 have g:T.length=8*k:=by rw[<-b,Bf,Bj];omega
 have h:(T.drop (p-8*f)).take n=(S.drop p).take n:=by
  rw[<-b,Df,Cn,Cr,show min n (8*k-(p-8*f))=n by omega,show 8*f+(p-8*f)=p by omega]
 have c:((T.drop (p-8*f)).take n).length=n:=by rw[Bf,Bj];omega
 have d:((T.drop (p-8*f)).drop n).length=8*(f+k)-p-n:=by rw[Bj,Bj];omega
 have e:T=T.take (p-8*f)++(T.drop (p-8*f)).take n++(T.drop (p-8*f)).drop n:=by rw[Bd,Bs,Bs]
 have m:=jI (T.take (p-8*f)) ((T.drop (p-8*f)).take n) ((T.drop (p-8*f)).drop n) (I1 _ _ (FR _ _ a)) (FR _ _ (FR _ _ a));rw[<-e,c,d,h] at m;rw[b];exact m
theorem F1 (l:List UInt8)(p n:Nat):AE l p n<2^n:=by
 have h:=OE _ (I1 _ n (FR _ p (KS l)));have h2:2^(((A2 l).drop p).take n).length<=2^n:=Br (by omega) (by rw[Bf];omega);exact Bg h h2
def ask (l:List UInt8)(p:Nat)(n:Int):Int×Int:=
 if n<0\/32<n then (0,1) else if 8*(l.length:Int)-p<n then (0,2) else (((AE l p n.toNat:Nat):Int),0)
theorem Ya {l:List UInt8}{p:Nat}{n:Int}(h:n<0\/32<n):ask l p n=(0,1):=Bc h
theorem FM {l:List UInt8}{p:Nat}{n:Int}(h:0<=n/\n<=32)(h2:8*(l.length:Int)-p<n):ask l p n=(0,2):=by
 unfold ask;rw[Bb (by omega),Bc h2]
theorem EL {l:List UInt8}{p:Nat}{n:Int}(h:0<=n/\n<=32)(h2:n<=8*(l.length:Int)-p):ask l p n=(((AE l p n.toNat:Nat):Int),0):=by
 unfold ask;rw[Bb (by omega),Bb (by omega)]
def K2 (l:List UInt8)(p:Nat):Int×Int:=if AE l p (gap p)=0 then (((gap p:Nat):Int),0) else (0,5)
def CF (l:List UInt8)(p:Nat)(n:Int):Nat:=if (ask l p n).2=0 then p+n.toNat else p
def MK (l:List UInt8)(p:Nat):Nat:=if AE l p (gap p)=0 then p+gap p else p
theorem fJ (k:Nat):num (List.replicate k 48)=0:=by
 have:=VZ [] k;rw[Cc] at this;rw[this,show num []=0 from rfl,Ch]
def Seg (S:List UInt8)(p q:Nat)(r:List UInt8):Prop:=p<=q/\q<=S.length/\(S.drop p).take (q-p)=r
theorem Seg.nil {S:List UInt8}{p:Nat}(a:p<=S.length):Seg S p p []:=⟨Ba _,a,by rw[Ci];rfl⟩
theorem Seg.app {S:List UInt8}{p q t:Nat}{r s:List UInt8}(h:Seg S p q r)(k:Seg S q t s):Seg S p t (r++s):=by
 obtain⟨h1,h2,h3⟩:=h;obtain⟨c,a,b⟩:=k;refine⟨by omega,a,?_⟩;rw[show t-p=(q-p)+(t-q) by omega,D9,h3,Cr,show p+(q-p)=q by omega,b]
theorem Seg.of {S:List UInt8}{p n:Nat}{r:List UInt8}(a:p<=S.length)(hn:n<=(S.drop p).length)(h:(S.drop p).take n=r):Seg S p (p+n) r:=by
 rw[Bj] at hn;exact⟨by omega,by omega,by rw[Bv,h]⟩
theorem Seg.at {S:List UInt8}{p q:Nat}{r:List UInt8}(h:Seg S p q r):S.drop p=r++S.drop q:=by
 obtain⟨h1,h2,h3⟩:=h;rw[<-h3,show S.drop q=(S.drop p).drop (q-p) by rw[Cr,show p+(q-p)=q by omega],Bs]
theorem Seg.len {S:List UInt8}{p q:Nat}{r:List UInt8}(h:Seg S p q r):q=p+r.length:=by
 obtain⟨h1,h2,h3⟩:=h;have:=C6 List.length h3;rw[Bf,Bj] at this;omega
theorem Seg.split {S:List UInt8}{p q:Nat}{r s:List UInt8}(h:Seg S p q (r++s)):Seg S p (p+r.length) r/\Seg S (p+r.length) q s:=by
 have hl:=h.len;rw[B9] at hl;obtain⟨h1,h2,h3⟩:=h;refine⟨⟨by omega,by omega,?_⟩,⟨by omega,h2,?_⟩⟩
 ·have h4:=C6 (List.take r.length) h3;rw[Cn,Di,show min r.length (q-p)=r.length by omega] at h4;rw[Bv,h4]
 ·have h4:=C6 (List.drop r.length) h3;rw[Df,Cr,List.drop_left] at h4;rw[show q-(p+r.length)=q-p-r.length by omega,h4]
theorem Seg.cut {S:List UInt8}{p q:Nat}{r s:List UInt8}(h:Seg S p q (r++s)):∃m,Seg S p m r/\Seg S m q s:=⟨_,h.split.1,h.split.2⟩
theorem ET {l:List UInt8}{p q v n:Nat}(h:Seg (A2 l) p q (AB v n))(hv:v<2^n):AE l p n=v/\q=p+n/\p+n<=8*l.length:=by
 have hl:=h.len;obtain⟨h1,h2,h3⟩:=h;rw[BB] at hl;rw[BO] at h2;refine⟨?_,hl,by omega⟩;unfold AE;rw[show List.take n (List.drop p (A2 l))=AB v n by rw[<-h3];congr 1;omega,IF,Bp hv]
theorem GN {l:List UInt8}{p n:Nat}(h:p+n<=8*l.length):Seg (A2 l) p (p+n) (AB (AE l p n) n):=by
 have hs:=BO l;refine⟨by omega,by omega,?_⟩;rw[Bv];have hr:AL (((A2 l).drop p).take n)=true:=I1 _ _ (FR _ _ (KS l));have e:=KR _ hr;rw[Bf,Bj,show min n ((A2 l).length-p)=n by omega] at e;exact e.symm
def MW (k:Int):Int×Int×Int×Int:=
 if k=1 then (128,96,6,1) else if k=2 then (176,144,9,1) else if k=3 then (352,288,18,1) else if k=4 then (704,576,18,2) else if k=5 then (1408,1152,18,4) else if k=6 then (32,32,2,1) else (0,0,0,0)
def CU (k:Int):Int:=(MW k).1
def D4 (k:Int):Int:=(MW k).2.1
def BJ (k:Int):Int:=(MW k).2.2.1
def BP (k:Int):Int:=(MW k).2.2.2
def DV (k:Int):Bool:=decide (1<=k/\k<=6)
theorem K1 (k:Int):k=1\/k=2\/k=3\/k=4\/k=5\/k=6\/(DV k=false/\MW k=(0,0,0,0)):=by
 by_cases h:1<=k/\k<=6
 ·omega
 ·refine .inr (.inr (.inr (.inr (.inr (.inr ⟨by simpa [DV] using h,?_⟩)))));unfold MW;rw[Bb (by omega),Bb (by omega),Bb (by omega),Bb (by omega),Bb (by omega),Bb (by omega)]
theorem XX {k:Int}(h:DV k=false):(k==1)=false/\(k==2)=false/\(k==3)=false/\(k==4)=false/\(k==5)=false/\(k==6)=false:=by
 have h1:¬ (1<=k/\k<=6):=by simpa [DV] using h
 refine⟨?_,?_,?_,?_,?_,?_⟩ <;> (simp;omega)
end
end Go.Proofs.YtjjmalchelniiaaGreatDoor
