/- StripsChecks, 2. No condition. -/
import Derived.OpenShut
namespace Go.Proofs.YtjjmalchelniiaaGreatDoor
section
abbrev B9:=@List.length_append
abbrev Ba:=@Nat.le_refl
abbrev Bb:=@if_neg
abbrev Bc:=@if_pos
abbrev Bd:=@List.take_succ_eq_append_getElem
abbrev Be:=@List.length_take
abbrev Bf:=@List.append_assoc
abbrev Bg:=@Nat.lt_of_lt_of_le
abbrev Bh:=@List.take_of_length_le
abbrev Bi:=@List.length_cons
abbrev Bj:=@List.length_drop
abbrev Bk:=@List.take_zero
abbrev Bl:=@List.getElem_mem
abbrev Bm:=@beq_iff_eq
abbrev Bn:=@Nat.mod_eq_of_lt
abbrev Bo:=@List.length_singleton
abbrev Bp:=@List.length_replicate
abbrev Bq:=@List.mem_range
abbrev Br:=@Nat.zero_add
abbrev Bs:=@List.take_append_drop
abbrev Bt:=@Nat.pow_le_pow_right
abbrev Bu:=@List.all_eq_true
abbrev Bv:=@Nat.add_sub_cancel_left
abbrev Bw:=@Nat.min_eq_left
abbrev By:=@List.length_nil
abbrev Bz:=@Nat.add_assoc
abbrev C6:=@BitVec.ofInt_natCast
abbrev C7:=@BitVec.toNat_ofNat
abbrev C8:=@congrArg
abbrev C9:=@List.take_append_of_le_length
abbrev Ca:=@Nat.mul_comm
abbrev Cb:=@Int.toNat_of_nonneg
abbrev Cc:=@Nat.two_pow_pos
abbrev Cd:=@Nat.add_comm
abbrev Ce:=@List.nil_append
abbrev Cf:=@Nat.zero_mul
abbrev Cg:=@List.size_toArray
abbrev Ch:=@Nat.two_pow_add_eq_or_of_lt
abbrev Ci:=@List.map_cons
abbrev Cj:=@List.take_take
abbrev Ck:=@List.map_append
abbrev Cl:=@Nat.sub_self
abbrev Cm:=@List.drop_append_of_le_length
abbrev Cn:=@IntKind.wrap_i64
abbrev Co:=@List.drop_drop
abbrev Cp:=@List.drop_eq_nil_of_le
abbrev Cq:=@Nat.pow_succ
abbrev Cr:=@List.map_nil
abbrev Cs:=@List.eq_of_mem_replicate
abbrev Ct:=@List.range_succ
abbrev Cu:=@Bool.or_eq_true
abbrev Cv:=@Nat.add_mul
abbrev Cw:=@Nat.add_zero
abbrev Cx:=@Nat.div_eq_of_lt
abbrev Cy:=@Nat.mul_le_mul_right
abbrev Cz:=@List.take_add
abbrev D8:=@List.map_congr_left
abbrev D9:=@BitVec.toNat_or
abbrev Da:=@Nat.mod_mul_right_div_self
abbrev Db:=@Nat.mul_assoc
abbrev Dc:=@Nat.mul_zero
abbrev Dd:=@List.take_left
abbrev De:=@List.drop_take
def FT (b:Nat):UInt8:=if b%2=0 then 48 else 49
def AI (v:Nat):Nat->List UInt8
 |0=>[]
 |n+1=>FT (v / 2^n)::AI v n
theorem BN (v n:Nat):(AI v n).length=n:=by
 induction n with
 |zero=>rfl
 |succ n a=>simp[AI,a]
def AK (l:List UInt8):Bool:=l.all (fun c=>c==48 || c==49)
theorem rI (b:Nat):(FT b==48 || FT b==49)=true:=by
 unfold FT
 split <;> rfl
theorem IW (v n:Nat):AK (AI v n)=true:=by
 induction n with
 |zero=>rfl
 |succ n a=>
  show ((FT (v / 2^n)==48 || FT (v / 2^n)==49)&&AK (AI v n))=true;rw[a,rI];rfl
def HJ (a:Nat):List UInt8->Nat
 |[]=>a
 |c::l=>HJ (2*a+(c.toNat-48)) l
def num (l:List UInt8):Nat:=HJ 0 l
theorem Pg (a:Nat)(l m:List UInt8):HJ a (l++m)=HJ (HJ a l) m:=by
 induction l generalizing a with
 |nil=>rfl
 |cons c l b=>exact b _
theorem Wu (l:List UInt8):(⟨l.toArray⟩:ByteArray).size=l.length:=Cg
def AA (l:List UInt8):List UInt8:=l.flatMap fun c=>AI c.toNat 8
theorem SF (l m:List UInt8):AA (l++m)=AA l++AA m:=by simp[AA]
theorem dC (c:UInt8):AA [c]=AI c.toNat 8:=by simp[AA]
theorem BB (l:List UInt8):(AA l).length=8*l.length:=by
 induction l with
 |nil=>rfl
 |cons c l a=>
  have e:AA (c::l)=AI c.toNat 8++AA l:=by simp[AA]
  rw[e,B9,BN,a,Bi];omega
theorem CX (l m:List UInt8):AK (l++m)=(AK l&&AK m):=by simp[AK]
theorem HZ (l:List UInt8)(j:Nat)(h:AK l=true):AK (l.take j)=true:=by
 unfold AK at h ⊢;rw[Bu] at h ⊢;exact fun c hc=>h c (List.mem_of_mem_take hc)
theorem FO (l:List UInt8)(j:Nat)(h:AK l=true):AK (l.drop j)=true:=by
 unfold AK at h ⊢;rw[Bu] at h ⊢;exact fun c hc=>h c (List.mem_of_mem_drop hc)
theorem Qv (l:List UInt8)(j:Nat)(hj:j<l.length)(h:AK l=true):l[j].toNat=48\/l[j].toNat=49:=by
 unfold AK at h;rw[Bu] at h;have:=h l[j] (Bl hj);simp only[Cu,Bm] at this;rcases this with e|e <;> rw[e]
 ·exact .inl rfl
 ·exact .inr rfl
theorem P1 (k:Nat):AK (List.replicate k 48)=true:=by
 unfold AK;rw[Bu];intro c hc;rw[Cs hc]
 rfl
theorem uB (l:List UInt8)(j:Nat)(h:j<l.length):num (l.take (j+1))=2*num (l.take j)+(l[j].toNat-48):=by
 rw[Bd h];exact Pg 0 _ _
theorem O3 (l:List UInt8)(h:AK l=true)(j:Nat)(hj:j<=l.length):num (l.take j)<2^j:=by
 induction j with
 |zero=>rw[Bk];decide
 |succ j a=>
  have:=a (by omega);rw[uB l j hj,Cq];rcases Qv l j hj h with e|e <;> omega
def II (l:List UInt8):List UInt8:=l++List.replicate ((8-l.length%8)%8) 48
theorem ZC (l:List UInt8)(h:AK l=true):AK (II l)=true:=by
 unfold II;rw[CX,h,P1];rfl
theorem VX (l:List UInt8):(II l).length=l.length+(8-l.length%8)%8:=by
 unfold II;rw[B9,Bp]
def N8 (l:List UInt8):Nat->List UInt8
 |0=>[]
 |n+1=>N8 l n++[UInt8.ofNat (num ((l.take (8*n+8)).drop (8*n)))]
def FF (l:List UInt8):List UInt8:=N8 (II l) ((II l).length / 8)
end
section
open Go.RowKit
theorem H0 {k:IntKind}{a b:Int}(h:a=b):Ending.returned (.int k a)=.returned (.int k b):=by rw[h]
theorem AB {a b:Bool}(h:a=b):Ending.returned (.bool a)=.returned (.bool b):=by rw[h]
theorem DA {n:Int}(h:-9223372036854775808<=n/\n<=9223372036854775807):IntKind.i64.wrap n=n:=by
 rw[Cn];omega
theorem Vu {n:Nat}(h:n<=9223372036854775807):IntKind.i64.wrap (n:Int)=(n:Int):=DA (by omega)
def LO (n lo hi:Int):Int:=max lo (min n hi)
def LH (a b c:Int):Int:=max (min a b) (min (max a b) c)
def AM (n:Int):Int:=(n+32)%64-32
theorem YZ (n:Int):-32<=AM n:=by unfold AM;omega
theorem Vf (n:Int):AM n<=31:=by unfold AM;omega
theorem KE (n:Int)(k:Nat)(c:k<=62):bits .and .i64 n ((2:Int)^k-1)=n%(2:Int)^k:=by
 have f:(2:Nat)^k<=2^62:=Bt (by omega) c;have g:1<=(2:Nat)^k:=Nat.one_le_two_pow;have a:((2:Int)^k)=(((2:Nat)^k:Nat):Int):=by simp
 have h2:(BitVec.ofInt 64 ((2:Int)^k-1)).toNat=2^k-1:=by
  rw[a,show ((((2:Nat)^k:Nat):Int)-1)=((2^k-1:Nat):Int) by omega,C6,C7];exact Bn (by omega)
 have h1:(BitVec.ofInt 64 n).toNat=(n%18446744073709551616).toNat:=by rw[BitVec.toNat_ofInt];rfl
 show IntKind.i64.wrap ((BitVec.ofInt 64 n &&& BitVec.ofInt 64 ((2:Int)^k-1)).toNat:Int)=_;rw[BitVec.toNat_and,h1,h2,Nat.and_two_pow_sub_one_eq_mod,a,Cn];have hd:(((2:Nat)^k:Nat):Int) ∣ 18446744073709551616:=by
  have e:(18446744073709551616:Nat)=2^64:=by decide
  have d:(2:Nat)^k ∣ (18446744073709551616:Nat):=by rw[e];exact Nat.pow_dvd_pow 2 (by omega)
  exact Int.natCast_dvd_natCast.2 d
 have hm:((((n%18446744073709551616).toNat%2^k:Nat)):Int)=n%(((2:Nat)^k:Nat):Int):=by
  rw[Int.natCast_emod,Cb (Int.emod_nonneg _ (by omega)),Int.emod_emod_of_dvd _ hd]
 rw[hm];have:=Int.emod_nonneg n (b:=(((2:Nat)^k:Nat):Int)) (by omega);have:=Int.emod_lt_of_pos n (b:=(((2:Nat)^k:Nat):Int)) (by omega);omega
theorem WV (n:Int):bits .and .i64 n 63=n%64:=KE n 6 (by omega)
def round (n bits:Int):Int:=
 if LO bits 0 32=0 then LO n (-1099511627776) 1099511627776
 else (LO n (-1099511627776) 1099511627776+2^((LO bits 0 32).toNat-1)) / 2^(LO bits 0 32).toNat
theorem ZW (k:Nat)(h:k<=32):1<=(2:Int)^k/\(2:Int)^k<=4294967296:=by
 have h1:(2:Nat)^k<=2^32:=Bt (by omega) h;have h2:1<=(2:Nat)^k:=Nat.one_le_two_pow;have h3:((2:Int)^k)=(((2:Nat)^k:Nat):Int):=by simp
 omega
def OF (c:List UInt8):Nat:=num c*2^(8-c.length)
def BX (r:List UInt8)(i:Nat):Nat:=OF ((r.drop (8*i)).take 8)
theorem VD (c:List UInt8)(d:UInt8):num (c++[d])=2*num c+(d.toNat-48):=Pg 0 c [d]
theorem Wv (c:List UInt8)(m:Nat):num (c++List.replicate m 48)=num c*2^m:=by
 induction m with
 |zero=>simp
 |succ m a=>
  rw[List.replicate_succ',<-Bf,VD,a,Cq,<-Db (num c)];have:((48:UInt8).toNat-48)=0:=rfl;omega
theorem NL (c:List UInt8)(h:AK c=true):num c<2^c.length:=by
 have:=O3 c h c.length (Ba _);rwa [Bh (Ba _)] at this
theorem PU (r:List UInt8)(i:Nat):((r.drop (8*i)).take 8).length=min 8 (r.length-8*i):=by simp
theorem aM (r:List UInt8)(i:Nat)(h:AK r=true):AK ((r.drop (8*i)).take 8)=true:=HZ _ _ (FO _ _ h)
theorem kL (c:List UInt8)(h:AK c=true)(hl:c.length<=8):OF c<256:=by
 have h1:=NL c h;have h2:num c*2^(8-c.length)<2^c.length*2^(8-c.length):=Nat.mul_lt_mul_of_pos_right h1 (Cc _);rw[<-Nat.pow_add,show c.length+(8-c.length)=8 by omega] at h2;exact h2
theorem WM (r:List UInt8)(i:Nat)(h:AK r=true):BX r i<256:=kL _ (aM r i h) (by rw[PU];omega)
theorem RG (r:List UInt8)(i:Nat)(h:r.length<=8*i):BX r i=0:=by
 unfold BX OF;rw[Cp h]
 rfl
theorem YB (r e:List UInt8)(i:Nat)(h:8*i+8<=r.length):BX (r++e) i=BX r i:=by
 unfold BX;rw[Cm (by omega),C9 (by rw[Bj];omega)]
theorem Z3 (r:List UInt8)(d:UInt8):((r++[d]).drop (8*(r.length / 8))).take 8=(r.drop (8*(r.length / 8))).take 8++[d]:=by
 rw[Cm (by omega),Bh (l:=r.drop _) (by rw[Bj];omega),Bh (by rw[B9,Bj,Bo];omega)]
theorem UR (r:List UInt8)(d:UInt8):BX (r++[d]) (r.length / 8)=BX r (r.length / 8)+(d.toNat-48)*2^(7-r.length%8):=by
 unfold BX;rw[Z3];have hl:((r.drop (8*(r.length / 8))).take 8).length=r.length%8:=by rw[PU];omega
 generalize (r.drop (8*(r.length / 8))).take 8=c at hl;unfold OF;rw[VD,B9,Bo,hl,show 8-(r.length%8+1)=7-r.length%8 by omega,show 8-r.length%8=7-r.length%8+1 by omega,Cq,Cv]
 congr 1
 rw[Ca 2 (num c),Db,Ca 2]
theorem WK (r:List UInt8)(d:UInt8)(i:Nat)(h:i≠r.length / 8):BX (r++[d]) i=BX r i:=by
 by_cases hi:8*i+8<=r.length
 ·exact YB r [d] i hi
 ·rw[RG r i (by omega),RG _ i (by rw[B9,Bo];omega)]
theorem bU (r:List UInt8)(i:Nat):BX (r++[48]) i=BX r i:=by
 by_cases hi:i=r.length / 8
 ·subst hi;rw[UR,show ((48:UInt8).toNat-48)=0 from rfl];omega
 ·exact WK r 48 i hi
theorem fM (r:List UInt8):BX (r++[49]) (r.length / 8)=BX r (r.length / 8)+2^(7-r.length%8):=by
 rw[UR,show ((49:UInt8).toNat-48)=1 from rfl];omega
theorem lF (r:List UInt8):∃A,BX r (r.length / 8)=2^(8-r.length%8)*A:=by
 refine⟨num ((r.drop (8*(r.length / 8))).take 8),?_⟩;unfold BX OF;rw[PU,show min 8 (r.length-8*(r.length / 8))=r.length%8 by omega,Ca]
theorem xK (x j A:Nat)(hj:j<8)(c:x=2^(8-j)*A)(h:x<256):bits .or .u8 (x:Int) (128 / 2^j)=((x+2^(7-j):Nat):Int):=by
 have d:(128:Int) / 2^j=((2^(7-j):Nat):Int):=by
  have e:(128:Int)=2^(7-j)*2^j:=by rw[<-Int.pow_add,show 7-j+j=7 by omega];rfl
  rw[e,Int.mul_ediv_cancel _ (by have:(0:Int)<2^j:=Int.pow_pos (by decide);omega)];simp
 have f:(2:Nat)^(7-j)<2^(8-j):=Nat.pow_lt_pow_right (by omega) (by omega);have a:=Ch f A;rw[<-c] at a;have g:2^(7-j)<=2^7:=Bt (by omega) (by omega);have b:x ||| 2^(7-j)<2^8:=Nat.or_lt_two_pow (by omega) (by omega);rw[d];show IntKind.u8.wrap ((BitVec.ofInt 8 (x:Int) ||| BitVec.ofInt 8 ((2^(7-j):Nat):Int)).toNat:Int)=_
 rw[C6,C6,D9,C7,C7,Bn (by omega:x<2^8),Bn (by omega:2^(7-j)<2^8),<-a];rw[<-a] at b;have:IntKind.u8.wrap ((x+2^(7-j):Nat):Int)=((x+2^(7-j):Nat):Int)%256:=rfl;rw[this];omega
theorem XV (p:List UInt8):∀n,N8 p n=(List.range n).map fun i=>UInt8.ofNat (num ((p.drop (8*i)).take 8))
 |0=>rfl
 |n+1=>by
  rw[N8,XV p n,Ct,Ck]
  congr 1
  simp only[Ci,Cr];rw[show (p.drop (8*n)).take 8=(p.take (8*n+8)).drop (8*n) by rw[De,show 8*n+8-8*n=8 by omega]]
theorem lX (r:List UInt8)(i:Nat)(h:8*i<r.length):num (((II r).drop (8*i)).take 8)=BX r i:=by
 unfold BX OF II;rw[Cm (by omega),List.take_append,<-Wv,PU,Bj]
 congr 2
 rw[List.take_replicate]
 congr 1
 omega
theorem US (r:List UInt8):FF r=(List.range ((r.length+7) / 8)).map fun i=>UInt8.ofNat (BX r i):=by
 unfold FF;rw[XV,VX,show (r.length+(8-r.length%8)%8) / 8=(r.length+7) / 8 by omega];apply D8;intro i hi;rw[Bq] at hi;rw[lX r i (by omega)]
theorem Ry (r:List UInt8):(FF r).length=(r.length+7) / 8:=by rw[US];simp
end
section
theorem nK (c:UInt8)(h:c=48\/c=49):FT (c.toNat-48)=c:=by
 rcases h with rfl|rfl <;> rfl
theorem cU (c:UInt8)(l:List UInt8):AK (c::l)=((c==48 || c==49)&&AK l):=rfl
theorem UP {c:UInt8}{l:List UInt8}(h:AK (c::l)=true):(c=48\/c=49)/\AK l=true:=by
 rw[cU] at h
 simpa using h
theorem iH (v x n:Nat)(h:v%2^n=x%2^n):AI v n=AI x n:=by
 induction n generalizing v x with
 |zero=>rfl
 |succ n d=>
  have c:(2:Nat)^(n+1)=2^n*2:=Cq 2 n;have h1:v%2^n=x%2^n:=by
   have a:=Nat.mod_mul_right_mod v (2^n) 2;have b:=Nat.mod_mul_right_mod x (2^n) 2;rw[<-c] at a b;rw[<-a,<-b,h]
  have h2:v / 2^n%2=x / 2^n%2:=by
   have a:=Da v (2^n) 2;have b:=Da x (2^n) 2;rw[<-c] at a b;rw[<-a,<-b,h]
  show FT (v / 2^n)::AI v n=FT (x / 2^n)::AI x n;rw[d v x h1]
  congr 1
  unfold FT;rw[h2]
theorem OS (a:Nat):HJ a []=a:=rfl
theorem SQ (a:Nat)(c:UInt8)(l:List UInt8):HJ a (c::l)=HJ (2*a+(c.toNat-48)) l:=Pg a [c] l
section
attribute [local irreducible] HJ
theorem RA (a:Nat)(l:List UInt8):HJ a l=a*2^l.length+num l:=by
 unfold num
 induction l generalizing a with
 |nil=>rw[OS,OS,By];simp
 |cons c l b=>
  rw[SQ,SQ,b,b (2*0+(c.toNat-48)),Bi,Cq];generalize 2^l.length=x;generalize HJ 0 l=y;generalize c.toNat-48=z;rw[Dc,Br,Cv,Ca 2 a,Db,Ca 2 x,Bz]
theorem RI (c:UInt8)(l:List UInt8):num (c::l)=(c.toNat-48)*2^l.length+num l:=by
 unfold num;rw[SQ,RA,Dc,Br]
 rfl
end
theorem L1:∀l:List UInt8,AK l=true->AI (num l) l.length=l
 |[],_=>rfl
 |c::l,h=>by
  obtain⟨hc,hl⟩:=UP h;have hn:=RI c l;have a:=NL l hl;show FT (num (c::l) / 2^l.length)::AI (num (c::l)) l.length=c::l;rw[hn,Ca,Nat.mul_add_div (Cc _),Cx a,Cw,nK c hc]
  congr 1
  rw[iH _ (num l) l.length (by rw[Nat.mul_add_mod])];exact L1 l hl
theorem WO (p:List UInt8)(b:AK p=true):∀n,8*n<=p.length->AA (N8 p n)=p.take (8*n)
 |0,_=>by simp[N8,AA]
 |n+1,h=>by
  rw[N8,SF,WO p b n (by omega),dC];have hr:AK ((p.take (8*n+8)).drop (8*n))=true:=FO _ _ (HZ _ _ b);have hl:((p.take (8*n+8)).drop (8*n)).length=8:=by rw[Bj,Be];omega
  have a:=NL _ hr;rw[hl] at a;rw[UInt8.toNat_ofNat',Bn a];have e:=L1 _ hr;rw[hl] at e;rw[e,show 8*(n+1)=8*n+8 by omega];have c:=Bs (8*n) (p.take (8*n+8));rw[Cj,show min (8*n) (8*n+8)=8*n by omega] at c;exact c
theorem Vx (l:List UInt8)(h:AK l=true):AA (FF l)=II l:=by
 unfold FF;rw[WO _ (ZC l h) _ (by omega),Bh];have:=VX l;omega
end
section
open Go.RowKit
def gap (n:Nat):Nat:=(8-n%8)%8
def JC (a:Nat):List UInt8->Nat
 |[]=>a
 |c::l=>JC (256*a+c.toNat) l
def Lq (l:List UInt8):Nat:=JC 0 l
theorem mK (a:Nat)(l m:List UInt8):JC a (l++m)=JC (JC a l) m:=by
 induction l generalizing a with
 |nil=>rfl
 |cons c l b=>exact b _
theorem qL (l:List UInt8)(j:Nat)(h:j<l.length):Lq (l.take (j+1))=256*Lq (l.take j)+l[j].toNat:=by
 rw[Bd h];exact mK 0 _ _
theorem ZZ (l:List UInt8)(a:Nat):JC a l<(a+1)*256^l.length:=by
 induction l generalizing a with
 |nil=>simp[JC]
 |cons c l b=>
  have h1:=b (256*a+c.toNat);have h2:=c.toNat_lt;have h3:(256*a+c.toNat+1)*256^l.length<=((a+1)*256)*256^l.length:=Cy _ (by omega);rw[Bi,Cq,Ca (256^l.length),<-Db];exact Bg h1 h3
theorem jR (l:List UInt8)(k:Nat)(h:l.length<=k):Lq l<256^k:=by
 have h1:=ZZ l 0;have h2:256^l.length<=256^k:=Bt (by omega) h;unfold Lq;omega
section
attribute [local irreducible] HJ
theorem MZ (l m:List UInt8):num (l++m)=num l*2^m.length+num m:=by
 unfold num;rw[Pg,RA]
 rfl
theorem IM (v n:Nat):num (AI v n)=v%2^n:=by
 induction n with
 |zero=>simp[AI,num,OS,Nat.mod_one]
 |succ n a=>
  rw[AI,RI,a,BN,Nat.mod_pow_succ];have:(FT (v / 2^n)).toNat-48=v / 2^n%2:=by
   generalize v / 2^n=y;unfold FT;rcases (by omega:y%2=0\/y%2=1) with h|h
   ·rw[Bc h,h];rfl
   ·rw[Bb (by omega),h];rfl
  rw[this,Ca,Cd]
theorem PK (c:UInt8)(l:List UInt8):AA (c::l)=AI c.toNat 8++AA l:=by simp[AA]
theorem oQ (l:List UInt8)(a:Nat):HJ a (AA l)=JC a l:=by
 induction l generalizing a with
 |nil=>rw[show AA []=[] from rfl,OS];rfl
 |cons c l b=>
  rw[PK,Pg,b,RA,BN,IM,Bn (by have:=c.toNat_lt;omega),JC,Ca]
end
theorem jC (l:List UInt8):num (AA l)=Lq l:=oQ l 0
theorem K0 (l:List UInt8):AK (AA l)=true:=by
 induction l with
 |nil=>rfl
 |cons c l a=>rw[PK,CX,IW,a];rfl
theorem rY (A X C:List UInt8)(a:AK X=true)(hc:AK C=true):num (A++X++C) / 2^C.length%2^X.length=num X:=by
 rw[MZ,MZ,Cd,Nat.add_mul_div_right _ _ (Cc _),Cx (NL C hc),Br,Cd,Nat.add_mul_mod_self_right,Bn (NL X a)]
theorem QW (l:List UInt8)(f k:Nat)(h:f+k<=l.length):AA ((l.drop f).take k)=((AA l).drop (8*f)).take (8*k):=by
 have e:l=l.take f++((l.drop f).take k++(l.drop f).drop k):=by rw[Bs,Bs]
 have a:AA l=AA (l.take f)++(AA ((l.drop f).take k)++AA ((l.drop f).drop k)):=by rw[<-SF,<-SF,<-e]
 rw[a,List.drop_left' (by rw[BB,Be,Bw (by omega)]),List.take_left' (by rw[BB,Be,Bj,Bw (by omega)])]
def AD (l:List UInt8)(p n:Nat):Nat:=num (((AA l).drop p).take n)
theorem TL (l:List UInt8)(f k p n:Nat)(h1:8*f<=p)(h2:p+n<=8*(f+k))(h3:f+k<=l.length):Lq ((l.drop f).take k) / 2^(8*(f+k)-p-n)%2^n=AD l p n:=by
 have hr:=K0 l;have hl:=BB l;rw[<-jC,QW l f k h3];unfold AD;generalize AA l=S at hr hl;obtain⟨T,b⟩:∃T,(S.drop (8*f)).take (8*k)=T:=⟨_,rfl⟩;have a:AK T=true:=by rw[<-b];exact HZ _ _ (FO _ _ hr)
 have g:T.length=8*k:=by rw[<-b,Be,Bj];omega
 have h:(T.drop (p-8*f)).take n=(S.drop p).take n:=by
  rw[<-b,De,Cj,Co,show min n (8*k-(p-8*f))=n by omega,show 8*f+(p-8*f)=p by omega]
 have c:((T.drop (p-8*f)).take n).length=n:=by rw[Be,Bj];omega
 have d:((T.drop (p-8*f)).drop n).length=8*(f+k)-p-n:=by rw[Bj,Bj];omega
 have e:T=T.take (p-8*f)++(T.drop (p-8*f)).take n++(T.drop (p-8*f)).drop n:=by rw[Bf,Bs,Bs]
 have m:=rY (T.take (p-8*f)) ((T.drop (p-8*f)).take n) ((T.drop (p-8*f)).drop n) (HZ _ _ (FO _ _ a)) (FO _ _ (FO _ _ a));rw[<-e,c,d,h] at m;rw[b];exact m
theorem EA (l:List UInt8)(p n:Nat):AD l p n<2^n:=by
 have h:=NL _ (HZ _ n (FO _ p (K0 l)));have h2:2^(((AA l).drop p).take n).length<=2^n:=Bt (by omega) (by rw[Be];omega);exact Bg h h2
def ask (l:List UInt8)(p:Nat)(n:Int):Int×Int:=
 if n<0\/32<n then (0,1) else if 8*(l.length:Int)-p<n then (0,2) else (((AD l p n.toNat:Nat):Int),0)
theorem Xf {l:List UInt8}{p:Nat}{n:Int}(h:n<0\/32<n):ask l p n=(0,1):=Bc h
theorem FG {l:List UInt8}{p:Nat}{n:Int}(h:0<=n/\n<=32)(h2:8*(l.length:Int)-p<n):ask l p n=(0,2):=by
 unfold ask;rw[Bb (by omega),Bc h2]
theorem E7 {l:List UInt8}{p:Nat}{n:Int}(h:0<=n/\n<=32)(h2:n<=8*(l.length:Int)-p):ask l p n=(((AD l p n.toNat:Nat):Int),0):=by
 unfold ask;rw[Bb (by omega),Bb (by omega)]
def JB (l:List UInt8)(p:Nat):Int×Int:=if AD l p (gap p)=0 then (((gap p:Nat):Int),0) else (0,5)
def C1 (l:List UInt8)(p:Nat)(n:Int):Nat:=if (ask l p n).2=0 then p+n.toNat else p
def MC (l:List UInt8)(p:Nat):Nat:=if AD l p (gap p)=0 then p+gap p else p
theorem xM (k:Nat):num (List.replicate k 48)=0:=by
 have:=Wv [] k;rw[Ce] at this;rw[this,show num []=0 from rfl,Cf]
def Seg (S:List UInt8)(p q:Nat)(r:List UInt8):Prop:=p<=q/\q<=S.length/\(S.drop p).take (q-p)=r
theorem Seg.nil {S:List UInt8}{p:Nat}(a:p<=S.length):Seg S p p []:=⟨Ba _,a,by rw[Cl];rfl⟩
theorem Seg.app {S:List UInt8}{p q t:Nat}{r s:List UInt8}(h:Seg S p q r)(k:Seg S q t s):Seg S p t (r++s):=by
 obtain⟨h1,h2,h3⟩:=h;obtain⟨c,a,b⟩:=k;refine⟨by omega,a,?_⟩;rw[show t-p=(q-p)+(t-q) by omega,Cz,h3,Co,show p+(q-p)=q by omega,b]
theorem Seg.of {S:List UInt8}{p n:Nat}{r:List UInt8}(a:p<=S.length)(hn:n<=(S.drop p).length)(h:(S.drop p).take n=r):Seg S p (p+n) r:=by
 rw[Bj] at hn;exact⟨by omega,by omega,by rw[Bv,h]⟩
theorem Seg.at {S:List UInt8}{p q:Nat}{r:List UInt8}(h:Seg S p q r):S.drop p=r++S.drop q:=by
 obtain⟨h1,h2,h3⟩:=h;rw[<-h3,show S.drop q=(S.drop p).drop (q-p) by rw[Co,show p+(q-p)=q by omega],Bs]
theorem Seg.len {S:List UInt8}{p q:Nat}{r:List UInt8}(h:Seg S p q r):q=p+r.length:=by
 obtain⟨h1,h2,h3⟩:=h;have:=C8 List.length h3;rw[Be,Bj] at this;omega
theorem Seg.split {S:List UInt8}{p q:Nat}{r s:List UInt8}(h:Seg S p q (r++s)):Seg S p (p+r.length) r/\Seg S (p+r.length) q s:=by
 have hl:=h.len;rw[B9] at hl;obtain⟨h1,h2,h3⟩:=h;refine⟨⟨by omega,by omega,?_⟩,⟨by omega,h2,?_⟩⟩
 ·have h4:=C8 (List.take r.length) h3;rw[Cj,Dd,show min r.length (q-p)=r.length by omega] at h4;rw[Bv,h4]
 ·have h4:=C8 (List.drop r.length) h3;rw[De,Co,List.drop_left] at h4;rw[show q-(p+r.length)=q-p-r.length by omega,h4]
theorem Seg.cut {S:List UInt8}{p q:Nat}{r s:List UInt8}(h:Seg S p q (r++s)):∃m,Seg S p m r/\Seg S m q s:=⟨_,h.split.1,h.split.2⟩
theorem EK {l:List UInt8}{p q v n:Nat}(h:Seg (AA l) p q (AI v n))(hv:v<2^n):AD l p n=v/\q=p+n/\p+n<=8*l.length:=by
 have hl:=h.len;obtain⟨h1,h2,h3⟩:=h;rw[BN] at hl;rw[BB] at h2;refine⟨?_,hl,by omega⟩;unfold AD;rw[show List.take n (List.drop p (AA l))=AI v n by rw[<-h3];congr 1;omega,IM,Bn hv]
theorem GG {l:List UInt8}{p n:Nat}(h:p+n<=8*l.length):Seg (AA l) p (p+n) (AI (AD l p n) n):=by
 have hs:=BB l;refine⟨by omega,by omega,?_⟩;rw[Bv];have hr:AK (((AA l).drop p).take n)=true:=HZ _ _ (FO _ _ (K0 l));have e:=L1 _ hr;rw[Be,Bj,show min n ((AA l).length-p)=n by omega] at e;exact e.symm
def LW (k:Int):Int×Int×Int×Int:=
 if k=1 then (128,96,6,1) else if k=2 then (176,144,9,1) else if k=3 then (352,288,18,1) else if k=4 then (704,576,18,2) else if k=5 then (1408,1152,18,4) else if k=6 then (32,32,2,1) else (0,0,0,0)
def CS (k:Int):Int:=(LW k).1
def CY (k:Int):Int:=(LW k).2.1
def BC (k:Int):Int:=(LW k).2.2.1
def BG (k:Int):Int:=(LW k).2.2.2
def DG (k:Int):Bool:=decide (1<=k/\k<=6)
theorem JO (k:Int):k=1\/k=2\/k=3\/k=4\/k=5\/k=6\/(DG k=false/\LW k=(0,0,0,0)):=by
 by_cases h:1<=k/\k<=6
 ·omega
 ·refine .inr (.inr (.inr (.inr (.inr (.inr ⟨by simpa [DG] using h,?_⟩)))));unfold LW;rw[Bb (by omega),Bb (by omega),Bb (by omega),Bb (by omega),Bb (by omega),Bb (by omega)]
theorem Ul {k:Int}(h:DG k=false):(k==1)=false/\(k==2)=false/\(k==3)=false/\(k==4)=false/\(k==5)=false/\(k==6)=false:=by
 have h1:¬ (1<=k/\k<=6):=by simpa [DG] using h
 refine⟨?_,?_,?_,?_,?_,?_⟩ <;> (simp;omega)
end
end Go.Proofs.YtjjmalchelniiaaGreatDoor
