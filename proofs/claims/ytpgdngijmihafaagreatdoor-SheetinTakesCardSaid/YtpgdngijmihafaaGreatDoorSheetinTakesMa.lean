/- Texts that SheetinTakes's proof stands on, part 1 of 52. No condition of its own. -/
import Derived.OpenShut
import Derived.IntWalk
namespace Go.Proofs.YtpgdngijmihafaaGreatDoor
def Yh6 (b:Nat):UInt8:=if b%2=0 then 48 else 49
def Ybg (v:Nat):Nat→List UInt8
 | 0=> []
 | n+1=> Yh6 (v / 2^n)::Ybg v n
theorem Ya6 (v n:Nat):(Ybg v n).length=n:=by
 induction n with
 | zero=> rfl
 | succ n ih=> simp [Ybg,ih]
def Yba (l:List UInt8):Bool:=l.all (fun c=> c==48 || c==49)
theorem Y23 (b:Nat):(Yh6 b==48 || Yh6 b==49)=true:=by
 unfold Yh6
 split <;> rfl
theorem Y1f (v n:Nat):Yba (Ybg v n)=true:=by
 induction n with
 | zero=> rfl
 | succ n ih=>
  show ((Yh6 (v / 2^n)==48 || Yh6 (v / 2^n)==49)&&Yba (Ybg v n))=true
  rw [ih,Y23];rfl
def Ydt (a:Nat):List UInt8→Nat
 | []=> a
 | c::l=> Ydt (2*a+(c.toNat-48)) l
def num (l:List UInt8):Nat:=Ydt 0 l
theorem Yc9 (a:Nat) (l m:List UInt8):Ydt a (l++m)=Ydt (Ydt a l) m:=by
 induction l generalizing a with
 | nil=> rfl
 | cons c l ih=> exact ih _
theorem Yg3 (a b:List UInt8):(⟨a.toArray⟩:ByteArray)++⟨b.toArray⟩=⟨(a++b).toArray⟩:=by
 apply ByteArray.ext
 simp
theorem Yi6 (l:List UInt8) (i j:Nat):(⟨l.toArray⟩:ByteArray).extract i j=⟨((l.take j).drop i).toArray⟩:=by
 apply ByteArray.ext
 simp [List.drop_take]
theorem Y5s (y:Nat):(⟨#[48,49]⟩:ByteArray).extract (y%2) (y%2+1)=⟨[Yh6 y].toArray⟩:=by
 have h:y%2=0∨y%2=1:=by omega
 rcases h with h | h
 ·rw [h];unfold Yh6;rw [h];rfl
 ·rw [h];unfold Yh6;rw [h];rfl
theorem Y0n (v j y:Nat) (h:v / 2^j=y):(⟨#[48,49]⟩:ByteArray).extract (y%2) (y%2+1)++⟨(Ybg v j).toArray⟩=⟨(Ybg v (j+1)).toArray⟩:=by
 rw [Y5s,Yg3,Ybg,h];rfl
theorem Yis (l:List UInt8):(⟨l.toArray⟩:ByteArray).size=l.length:=List.size_toArray
def Yac (l:List UInt8):List UInt8:=l.flatMap fun c=> Ybg c.toNat 8
theorem Yhl (l m:List UInt8):Yac (l++m)=Yac l++Yac m:=by simp [Yac]
theorem Y1b (c:UInt8):Yac [c]=Ybg c.toNat 8:=by simp [Yac]
theorem Yah (l:List UInt8):(Yac l).length=8*l.length:=by
 induction l with
 | nil=> rfl
 | cons c l ih=>
  have e:Yac (c::l)=Ybg c.toNat 8++Yac l:=by simp [Yac]
  rw [e,List.length_append,Ya6,ih,List.length_cons];omega
theorem Yy0 (l:List UInt8) (j:Nat) (h:j<l.length):Yac (l.take (j+1))=Yac (l.take j)++Ybg l[j].toNat 8:=by
 rw [List.take_succ_eq_append_getElem h,Yhl,Y1b]
theorem Yul (l m:List UInt8):Yba (l++m)=(Yba l&&Yba m):=by simp [Yba]
theorem Ya9 (l:List UInt8) (j:Nat) (h:Yba l=true):Yba (l.take j)=true:=by
 unfold Yba at h ⊢
 rw [List.all_eq_true] at h ⊢
 exact fun c hc=> h c (List.mem_of_mem_take hc)
theorem Yax (l:List UInt8) (j:Nat) (h:Yba l=true):Yba (l.drop j)=true:=by
 unfold Yba at h ⊢
 rw [List.all_eq_true] at h ⊢
 exact fun c hc=> h c (List.mem_of_mem_drop hc)
theorem Yfr (l:List UInt8) (j:Nat) (hj:j<l.length) (h:Yba l=true):l[j].toNat=48∨l[j].toNat=49:=by
 unfold Yba at h
 rw [List.all_eq_true] at h
 have:=h l[j] (List.getElem_mem hj)
 simp only [Bool.or_eq_true,beq_iff_eq] at this
 rcases this with e | e <;> rw [e]
 ·exact .inl rfl
 ·exact .inr rfl
theorem Ypy (k:Nat):Yba (List.replicate k 48)=true:=by
 unfold Yba
 rw [List.all_eq_true]
 intro c hc
 rw [List.eq_of_mem_replicate hc]
 rfl
theorem Ylz (l:List UInt8) (j:Nat) (h:j<l.length):num (l.take (j+1))=2*num (l.take j)+(l[j].toNat-48):=by
 rw [List.take_succ_eq_append_getElem h]
 exact Yc9 0 _ _
theorem Yhj (l:List UInt8) (h:Yba l=true) (j:Nat) (hj:j≤l.length):num (l.take j)<2^j:=by
 induction j with
 | zero=> rw [List.take_zero];decide
 | succ j ih=>
  have:=ih (by omega)
  rw [Ylz l j hj,Nat.pow_succ]
  rcases Yfr l j hj h with e | e <;> omega
end Go.Proofs.YtpgdngijmihafaaGreatDoor
namespace Go.Proofs.YtpgdngijmihafaaGreatDoor
open Go.RowKit
theorem Yby {k:IntKind} {a b:Int} (h:a=b):Ending.returned (.int k a) = .returned (.int k b):=by rw [h]
theorem Yap {a b:Bool} (h:a=b):Ending.returned (.bool a) = .returned (.bool b):=by rw [h]
theorem Yeh {n:Int} (h:-9223372036854775808≤n∧n≤9223372036854775807):IntKind.i64.wrap n=n:=by
 rw [IntKind.wrap_i64]
 omega
theorem Yir {n:Nat} (h:n≤9223372036854775807):IntKind.i64.wrap (n:Int)=(n:Int):=Yeh (by omega)
def Qa4 (n lo hi:Int):Int:=max lo (min n hi)
def Ydz (a b c:Int):Int:=max (min a b) (min (max a b) c)
def Ycj (n:Int):Int:=(n+32)%64-32
theorem Ygy (n:Int):-32≤Ycj n:=by unfold Ycj;omega
theorem Ygx (n:Int):Ycj n≤31:=by unfold Ycj;omega
theorem Yhb (n:Int) (k:Nat) (hk:k≤62):bits .and .i64 n ((2:Int)^k-1)=n%(2:Int)^k:=by
 have hpn:(2:Nat)^k≤2^62:=Nat.pow_le_pow_right (by omega) hk
 have hp1:1≤(2:Nat)^k:=Nat.one_le_two_pow
 have hpc:((2:Int)^k)=(((2:Nat)^k:Nat):Int):=by simp
 have h2:(BitVec.ofInt 64 ((2:Int)^k-1)).toNat=2^k-1:=by
  rw [hpc,show ((((2:Nat)^k:Nat):Int)-1)=((2^k-1:Nat):Int) by omega,BitVec.ofInt_natCast,BitVec.toNat_ofNat]
  exact Nat.mod_eq_of_lt (by omega)
 have h1:(BitVec.ofInt 64 n).toNat=(n%18446744073709551616).toNat:=by rw [BitVec.toNat_ofInt];rfl
 show IntKind.i64.wrap ((BitVec.ofInt 64 n &&& BitVec.ofInt 64 ((2:Int)^k-1)).toNat:Int)=_
 rw [BitVec.toNat_and,h1,h2,Nat.and_two_pow_sub_one_eq_mod,hpc,IntKind.wrap_i64]
 have hd:(((2:Nat)^k:Nat):Int) ∣ 18446744073709551616:=by
  have e:(18446744073709551616:Nat)=2^64:=by decide
  have d:(2:Nat)^k ∣ (18446744073709551616:Nat):=by rw [e];exact Nat.pow_dvd_pow 2 (by omega)
  exact Int.natCast_dvd_natCast.2 d
 have hm:((((n%18446744073709551616).toNat%2^k:Nat)):Int)=n%(((2:Nat)^k:Nat):Int):=by
  rw [Int.natCast_emod,Int.toNat_of_nonneg (Int.emod_nonneg _ (by omega)),Int.emod_emod_of_dvd _ hd]
 rw [hm]
 have:=Int.emod_nonneg n (b:=(((2:Nat)^k:Nat):Int)) (by omega)
 have:=Int.emod_lt_of_pos n (b:=(((2:Nat)^k:Nat):Int)) (by omega)
 omega
theorem Y8r (n:Int):bits .and .i64 n 63=n%64:=Yhb n 6 (by omega)
def round (n bits:Int):Int:=
 if Qa4 bits 0 32=0 then Qa4 n (-1099511627776) 1099511627776
 else (Qa4 n (-1099511627776) 1099511627776+2^((Qa4 bits 0 32).toNat-1)) / 2^(Qa4 bits 0 32).toNat
theorem Y66 (k:Nat) (h:k≤32):1≤(2:Int)^k∧(2:Int)^k≤4294967296:=by
 have h1:(2:Nat)^k≤2^32:=Nat.pow_le_pow_right (by omega) h
 have h2:1≤(2:Nat)^k:=Nat.one_le_two_pow
 have h3:((2:Int)^k)=(((2:Nat)^k:Nat):Int):=by simp
 omega
theorem Y5v (c:List UInt8) (d:UInt8):num (c ++ [d])=2*num c+(d.toNat-48):=Yc9 0 c [d]
theorem Yur (c:List UInt8) (m:Nat):num (c++List.replicate m 48)=num c*2^m:=by
 induction m with
 | zero=> simp
 | succ m ih=>
  rw [List.replicate_succ',←List.append_assoc,Y5v,ih,Nat.pow_succ,←Nat.mul_assoc (num c)]
  have:((48:UInt8).toNat-48)=0:=rfl
  omega
theorem Ylq (c:List UInt8) (h:Yba c=true):num c<2^c.length:=by
 have:=Yhj c h c.length (Nat.le_refl _)
 rwa [List.take_of_length_le (Nat.le_refl _)] at this
end Go.Proofs.YtpgdngijmihafaaGreatDoor
namespace Go.Proofs.YtpgdngijmihafaaGreatDoor
theorem Yyw (c:UInt8) (h:c=48∨c=49):Yh6 (c.toNat-48)=c:=by
 rcases h with rfl | rfl <;> rfl
theorem Yyt (c:UInt8) (l:List UInt8):Yba (c::l)=((c==48 || c==49)&&Yba l):=rfl
theorem Yo1 {c:UInt8} {l:List UInt8} (h:Yba (c::l)=true):(c=48∨c=49)∧Yba l=true:=by
 rw [Yyt] at h
 simpa using h
theorem Y2i (v x n:Nat) (h:v%2^n=x%2^n):Ybg v n=Ybg x n:=by
 induction n generalizing v x with
 | zero=> rfl
 | succ n ih=>
  have hp:(2:Nat)^(n+1)=2^n*2:=Nat.pow_succ 2 n
  have h1:v%2^n=x%2^n:=by
   have e1:=Nat.mod_mul_right_mod v (2^n) 2
   have e2:=Nat.mod_mul_right_mod x (2^n) 2
   rw [←hp] at e1 e2
   rw [←e1,←e2,h]
  have h2:v / 2^n%2=x / 2^n%2:=by
   have e1:=Nat.mod_mul_right_div_self v (2^n) 2
   have e2:=Nat.mod_mul_right_div_self x (2^n) 2
   rw [←hp] at e1 e2
   rw [←e1,←e2,h]
  show Yh6 (v / 2^n)::Ybg v n=Yh6 (x / 2^n)::Ybg x n
  rw [ih v x h1]
  congr 1
  unfold Yh6
  rw [h2]
theorem Ye4 (a:Nat):Ydt a []=a:=rfl
theorem Yhd (a:Nat) (c:UInt8) (l:List UInt8):Ydt a (c::l)=Ydt (2*a+(c.toNat-48)) l:=Yc9 a [c] l
section
attribute [local irreducible] Ydt
theorem Ygf (a:Nat) (l:List UInt8):Ydt a l=a*2^l.length+num l:=by
 unfold num
 induction l generalizing a with
 | nil=> rw [Ye4,Ye4,List.length_nil];simp
 | cons c l ih=>
  rw [Yhd,Yhd,ih,ih (2*0+(c.toNat-48)),List.length_cons,Nat.pow_succ]
  generalize 2^l.length=x
  generalize Ydt 0 l=y
  generalize c.toNat-48=z
  rw [Nat.mul_zero,Nat.zero_add,Nat.add_mul,Nat.mul_comm 2 a,Nat.mul_assoc,Nat.mul_comm 2 x,Nat.add_assoc]
theorem Yrk (c:UInt8) (l:List UInt8):num (c::l)=(c.toNat-48)*2^l.length+num l:=by
 unfold num
 rw [Yhd,Ygf,Nat.mul_zero,Nat.zero_add]
 rfl
end
theorem Ygv:∀l:List UInt8,Yba l=true→Ybg (num l) l.length=l
 | [],_=> rfl
 | c::l,h=> by
  obtain ⟨hc,hl⟩:=Yo1 h
  have hn:=Yrk c l
  have hlt:=Ylq l hl
  show Yh6 (num (c::l) / 2^l.length)::Ybg (num (c::l)) l.length=c::l
  rw [hn,Nat.mul_comm,Nat.mul_add_div (Nat.two_pow_pos _),Nat.div_eq_of_lt hlt,Nat.add_zero,Yyw c hc]
  congr 1
  rw [Y2i _ (num l) l.length (by rw [Nat.mul_add_mod])]
  exact Ygv l hl
end Go.Proofs.YtpgdngijmihafaaGreatDoor
namespace Go.Proofs.YtpgdngijmihafaaGreatDoor
open Go.RowKit
def gap (n:Nat):Nat:=(8-n%8)%8
def Ymt (a:Nat):List UInt8→Nat
 | []=> a
 | c::l=> Ymt (256*a+c.toNat) l
def Y5k (l:List UInt8):Nat:=Ymt 0 l
theorem Yts (a:Nat) (l m:List UInt8):Ymt a (l++m)=Ymt (Ymt a l) m:=by
 induction l generalizing a with
 | nil=> rfl
 | cons c l ih=> exact ih _
theorem Y3q (l:List UInt8) (j:Nat) (h:j<l.length):Y5k (l.take (j+1))=256*Y5k (l.take j)+l[j].toNat:=by
 rw [List.take_succ_eq_append_getElem h]
 exact Yts 0 _ _
theorem Y52 (l:List UInt8) (a:Nat):Ymt a l<(a+1)*256^l.length:=by
 induction l generalizing a with
 | nil=> simp [Ymt]
 | cons c l ih=>
  have h1:=ih (256*a+c.toNat)
  have h2:=c.toNat_lt
  have h3:(256*a+c.toNat+1)*256^l.length≤((a+1)*256)*256^l.length:=Nat.mul_le_mul_right _ (by omega)
  rw [List.length_cons,Nat.pow_succ,Nat.mul_comm (256^l.length),←Nat.mul_assoc]
  exact Nat.lt_of_lt_of_le h1 h3
theorem Y9c (l:List UInt8) (k:Nat) (h:l.length≤k):Y5k l<256^k:=by
 have h1:=Y52 l 0
 have h2:256^l.length≤256^k:=Nat.pow_le_pow_right (by omega) h
 unfold Y5k
 omega
section
attribute [local irreducible] Ydt
theorem Ydl (l m:List UInt8):num (l++m)=num l*2^m.length+num m:=by
 unfold num
 rw [Yc9,Ygf]
 rfl
theorem Yg9 (v n:Nat):num (Ybg v n)=v%2^n:=by
 induction n with
 | zero=> simp [Ybg,num,Ye4,Nat.mod_one]
 | succ n ih=>
  rw [Ybg,Yrk,ih,Ya6,Nat.mod_pow_succ]
  have:(Yh6 (v / 2^n)).toNat-48=v / 2^n%2:=by
   generalize v / 2^n=y
   unfold Yh6
   rcases (by omega:y%2=0∨y%2=1) with h | h
   ·rw [if_pos h,h];rfl
   ·rw [if_neg (by omega),h];rfl
  rw [this,Nat.mul_comm,Nat.add_comm]
theorem Yoh (c:UInt8) (l:List UInt8):Yac (c::l)=Ybg c.toNat 8++Yac l:=by simp [Yac]
theorem Y06 (l:List UInt8) (a:Nat):Ydt a (Yac l)=Ymt a l:=by
 induction l generalizing a with
 | nil=> rw [show Yac [] = [] from rfl,Ye4];rfl
 | cons c l ih=>
  rw [Yoh,Yc9,ih,Ygf,Ya6,Yg9,Nat.mod_eq_of_lt (by have:=c.toNat_lt;omega),Ymt,Nat.mul_comm]
end
theorem Y5i (l:List UInt8):num (Yac l)=Y5k l:=Y06 l 0
theorem Ybn (l:List UInt8):Yba (Yac l)=true:=by
 induction l with
 | nil=> rfl
 | cons c l ih=> rw [Yoh,Yul,Y1f,ih];rfl
theorem Y91 (A X C:List UInt8) (hx:Yba X=true) (hc:Yba C=true):num (A++X++C) / 2^C.length%2^X.length=num X:=by
 rw [Ydl,Ydl,Nat.add_comm,Nat.add_mul_div_right _ _ (Nat.two_pow_pos _),Nat.div_eq_of_lt (Ylq C hc),Nat.zero_add,Nat.add_comm,Nat.add_mul_mod_self_right,Nat.mod_eq_of_lt (Ylq X hx)]
theorem Y0y (l:List UInt8) (f k:Nat) (h:f+k≤l.length):Yac ((l.drop f).take k)=((Yac l).drop (8*f)).take (8*k):=by
 have e:l=l.take f++((l.drop f).take k++(l.drop f).drop k):=by rw [List.take_append_drop,List.take_append_drop]
 have e2:Yac l=Yac (l.take f)++(Yac ((l.drop f).take k)++Yac ((l.drop f).drop k)):=by rw [←Yhl,←Yhl,←e]
 rw [e2,List.drop_left' (by rw [Yah,List.length_take,Nat.min_eq_left (by omega)]),List.take_left' (by rw [Yah,List.length_take,List.length_drop,Nat.min_eq_left (by omega)])]
def Ya0 (l:List UInt8) (p n:Nat):Nat:=num (((Yac l).drop p).take n)
theorem Ykj (l:List UInt8) (f k p n:Nat) (h1:8*f≤p) (h2:p+n≤8*(f+k)) (h3:f+k≤l.length):Y5k ((l.drop f).take k) / 2^(8*(f+k)-p-n)%2^n=Ya0 l p n:=by
 have hr:=Ybn l
 have hl:=Yah l
 rw [←Y5i,Y0y l f k h3]
 unfold Ya0
 generalize Yac l=S at hr hl
 obtain ⟨T,hT⟩:∃T,(S.drop (8*f)).take (8*k)=T:=⟨_,rfl⟩
 have hTr:Yba T=true:=by rw [←hT];exact Ya9 _ _ (Yax _ _ hr)
 have hTl:T.length=8*k:=by rw [←hT,List.length_take,List.length_drop];omega
 have hX:(T.drop (p-8*f)).take n=(S.drop p).take n:=by
  rw [←hT,List.drop_take,List.take_take,List.drop_drop,show min n (8*k-(p-8*f))=n by omega,show 8*f+(p-8*f)=p by omega]
 have hXl:((T.drop (p-8*f)).take n).length=n:=by rw [List.length_take,List.length_drop];omega
 have hCl:((T.drop (p-8*f)).drop n).length=8*(f+k)-p-n:=by rw [List.length_drop,List.length_drop];omega
 have e:T=T.take (p-8*f)++(T.drop (p-8*f)).take n++(T.drop (p-8*f)).drop n:=by rw [List.append_assoc,List.take_append_drop,List.take_append_drop]
 have m:=Y91 (T.take (p-8*f)) ((T.drop (p-8*f)).take n) ((T.drop (p-8*f)).drop n) (Ya9 _ _ (Yax _ _ hTr)) (Yax _ _ (Yax _ _ hTr))
 rw [←e,hXl,hCl,hX] at m
 rw [hT]
 exact m
theorem Ybr (l:List UInt8) (p n:Nat):Ya0 l p n<2^n:=by
 have h:=Ylq _ (Ya9 _ n (Yax _ p (Ybn l)))
 have h2:2^(((Yac l).drop p).take n).length≤2^n:=Nat.pow_le_pow_right (by omega) (by rw [List.length_take];omega)
 exact Nat.lt_of_lt_of_le h h2
def ask (l:List UInt8) (p:Nat) (n:Int):Int×Int:=
 if n<0∨32<n then (0,1) else if 8*(l.length:Int)-p<n then (0,2) else (((Ya0 l p n.toNat:Nat):Int),0)
theorem Y4t {l:List UInt8} {p:Nat} {n:Int} (h:n<0∨32<n):ask l p n=(0,1):=if_pos h
theorem Ybi {l:List UInt8} {p:Nat} {n:Int} (h:0≤n∧n≤32) (h2:8*(l.length:Int)-p<n):ask l p n=(0,2):=by
 unfold ask;rw [if_neg (by omega),if_pos h2]
theorem Ycw {l:List UInt8} {p:Nat} {n:Int} (h:0≤n∧n≤32) (h2:n≤8*(l.length:Int)-p):ask l p n=(((Ya0 l p n.toNat:Nat):Int),0):=by
 unfold ask;rw [if_neg (by omega),if_neg (by omega)]
def Yg2 (l:List UInt8) (p:Nat):Int×Int:=if Ya0 l p (gap p)=0 then (((gap p:Nat):Int),0) else (0,5)
def Ycm (l:List UInt8) (p:Nat) (n:Int):Nat:=if (ask l p n).2=0 then p+n.toNat else p
def Yk2 (l:List UInt8) (p:Nat):Nat:=if Ya0 l p (gap p)=0 then p+gap p else p
theorem Y2q (k:Nat):num (List.replicate k 48)=0:=by
 have:=Yur [] k
 rw [List.nil_append] at this
 rw [this,show num []=0 from rfl,Nat.zero_mul]
def Seg (S:List UInt8) (p q:Nat) (r:List UInt8):Prop:=p≤q∧q≤S.length∧(S.drop p).take (q-p)=r
theorem Seg.nil {S:List UInt8} {p:Nat} (hp:p≤S.length):Seg S p p []:=⟨Nat.le_refl _,hp,by rw [Nat.sub_self];rfl⟩
theorem Seg.app {S:List UInt8} {p q t:Nat} {r s:List UInt8} (h:Seg S p q r) (k:Seg S q t s):Seg S p t (r++s):=by
 obtain ⟨h1,h2,h3⟩:=h
 obtain ⟨k1,k2,k3⟩:=k
 refine ⟨by omega,k2,?_⟩
 rw [show t-p=(q-p)+(t-q) by omega,List.take_add,h3,List.drop_drop,show p+(q-p)=q by omega,k3]
theorem Seg.of {S:List UInt8} {p n:Nat} {r:List UInt8} (hp:p≤S.length) (hn:n≤(S.drop p).length) (h:(S.drop p).take n=r):Seg S p (p+n) r:=by
 rw [List.length_drop] at hn
 exact ⟨by omega,by omega,by rw [Nat.add_sub_cancel_left,h]⟩
theorem Seg.len {S:List UInt8} {p q:Nat} {r:List UInt8} (h:Seg S p q r):q=p+r.length:=by
 obtain ⟨h1,h2,h3⟩:=h
 have:=congrArg List.length h3
 rw [List.length_take,List.length_drop] at this
 omega
theorem Yb3 {l:List UInt8} {p n:Nat} (h:p+n≤8*l.length):Seg (Yac l) p (p+n) (Ybg (Ya0 l p n) n):=by
 have hs:=Yah l
 refine ⟨by omega,by omega,?_⟩
 rw [Nat.add_sub_cancel_left]
 have hr:Yba (((Yac l).drop p).take n)=true:=Ya9 _ _ (Yax _ _ (Ybn l))
 have e:=Ygv _ hr
 rw [List.length_take,List.length_drop,show min n ((Yac l).length-p)=n by omega] at e
 exact e.symm
def Y8e (k:Int):Int×Int×Int×Int:=
 if k=1 then (128,96,6,1) else if k=2 then (176,144,9,1) else if k=3 then (352,288,18,1) else if k=4 then (704,576,18,2) else if k=5 then (1408,1152,18,4) else if k=6 then (32,32,2,1) else (0,0,0,0)
def Yix (k:Int):Int:=(Y8e k).1
def Yjx (k:Int):Int:=(Y8e k).2.1
def Yfo (k:Int):Int:=(Y8e k).2.2.1
def Yf6 (k:Int):Int:=(Y8e k).2.2.2
def Yes (k:Int):Bool:=decide (1≤k∧k≤6)
theorem Yc8 (k:Int):k=1∨k=2∨k=3∨k=4∨k=5∨k=6∨(Yes k=false∧Y8e k=(0,0,0,0)):=by
 by_cases h:1≤k∧k≤6
 ·omega
 ·refine .inr (.inr (.inr (.inr (.inr (.inr ⟨by simpa [Yes] using h,?_⟩)))))
  unfold Y8e
  rw [if_neg (by omega),if_neg (by omega),if_neg (by omega),if_neg (by omega),if_neg (by omega),if_neg (by omega)]
theorem Yxb {k:Int} (h:Yes k=false):(k==1)=false∧(k==2)=false∧(k==3)=false∧(k==4)=false∧(k==5)=false∧(k==6)=false:=by
 have h1:¬ (1≤k∧k≤6):=by simpa [Yes] using h
 refine ⟨?_,?_,?_,?_,?_,?_⟩ <;> (simp;omega)
end Go.Proofs.YtpgdngijmihafaaGreatDoor