/- Texts that SheetoutPuts's proof stands on, part 1 of 47. No condition of its own. -/
import Derived.OpenShut
import Derived.IntWalk
namespace Go.Proofs.YtgikochfffdpfaaGreatDoor
def Yd6 (b:Nat):UInt8:=if b%2=0 then 48 else 49
def Yak (v:Nat):Nat→List UInt8
 | 0=> []
 | n+1=> Yd6 (v / 2^n)::Yak v n
theorem Yag (v n:Nat):(Yak v n).length=n:=by
 induction n with
 | zero=> rfl
 | succ n ih=> simp [Yak,ih]
def Yat (l:List UInt8):Bool:=l.all (fun c=> c==48 || c==49)
theorem Ytr (b:Nat):(Yd6 b==48 || Yd6 b==49)=true:=by
 unfold Yd6
 split <;> rfl
theorem Yb5 (v n:Nat):Yat (Yak v n)=true:=by
 induction n with
 | zero=> rfl
 | succ n ih=>
  show ((Yd6 (v / 2^n)==48 || Yd6 (v / 2^n)==49)&&Yat (Yak v n))=true
  rw [ih,Ytr];rfl
def Ydq (a:Nat):List UInt8→Nat
 | []=> a
 | c::l=> Ydq (2*a+(c.toNat-48)) l
def num (l:List UInt8):Nat:=Ydq 0 l
theorem Yc0 (a:Nat) (l m:List UInt8):Ydq a (l++m)=Ydq (Ydq a l) m:=by
 induction l generalizing a with
 | nil=> rfl
 | cons c l ih=> exact ih _
theorem Ybk (a b:List UInt8):(⟨a.toArray⟩:ByteArray)++⟨b.toArray⟩=⟨(a++b).toArray⟩:=by
 apply ByteArray.ext
 simp
theorem Ygy (l:List UInt8) (i j:Nat):(⟨l.toArray⟩:ByteArray).extract i j=⟨((l.take j).drop i).toArray⟩:=by
 apply ByteArray.ext
 simp [List.drop_take]
theorem Ywc (y:Nat):(⟨#[48,49]⟩:ByteArray).extract (y%2) (y%2+1)=⟨[Yd6 y].toArray⟩:=by
 have h:y%2=0∨y%2=1:=by omega
 rcases h with h | h
 ·rw [h];unfold Yd6;rw [h];rfl
 ·rw [h];unfold Yd6;rw [h];rfl
theorem Yr7 (v j y:Nat) (h:v / 2^j=y):(⟨#[48,49]⟩:ByteArray).extract (y%2) (y%2+1)++⟨(Yak v j).toArray⟩=⟨(Yak v (j+1)).toArray⟩:=by
 rw [Ywc,Ybk,Yak,h];rfl
theorem Yds (l:List UInt8):(⟨l.toArray⟩:ByteArray).size=l.length:=List.size_toArray
theorem Yya (s:ByteArray):∃l:List UInt8,s=⟨l.toArray⟩:=⟨s.data.toList,by simp⟩
theorem Ygj (l:List UInt8) (k:Nat):(⟨(l++List.replicate k 48).toArray⟩:ByteArray)++⟨#[48]⟩=⟨(l++List.replicate (k+1) 48).toArray⟩:=by
 rw [show (⟨#[48]⟩:ByteArray)=⟨[48].toArray⟩ from rfl,Ybk,List.append_assoc,←List.replicate_succ']
def Yzc (l:List UInt8):List UInt8:=l.flatMap fun c=> Yak c.toNat 8
theorem Yam (l m:List UInt8):Yat (l++m)=(Yat l&&Yat m):=by simp [Yat]
theorem Ykw (l:List UInt8) (j:Nat) (h:Yat l=true):Yat (l.take j)=true:=by
 unfold Yat at h ⊢
 rw [List.all_eq_true] at h ⊢
 exact fun c hc=> h c (List.mem_of_mem_take hc)
theorem Ykv (l:List UInt8) (j:Nat) (h:Yat l=true):Yat (l.drop j)=true:=by
 unfold Yat at h ⊢
 rw [List.all_eq_true] at h ⊢
 exact fun c hc=> h c (List.mem_of_mem_drop hc)
theorem Yi5 (l:List UInt8) (j:Nat) (hj:j<l.length) (h:Yat l=true):l[j].toNat=48∨l[j].toNat=49:=by
 unfold Yat at h
 rw [List.all_eq_true] at h
 have:=h l[j] (List.getElem_mem hj)
 simp only [Bool.or_eq_true,beq_iff_eq] at this
 rcases this with e | e <;> rw [e]
 ·exact .inl rfl
 ·exact .inr rfl
theorem Yb8 (k:Nat):Yat (List.replicate k 48)=true:=by
 unfold Yat
 rw [List.all_eq_true]
 intro c hc
 rw [List.eq_of_mem_replicate hc]
 rfl
theorem Yqd (l:List UInt8) (j:Nat) (h:j<l.length):num (l.take (j+1))=2*num (l.take j)+(l[j].toNat-48):=by
 rw [List.take_succ_eq_append_getElem h]
 exact Yc0 0 _ _
theorem Yue (l:List UInt8) (h:Yat l=true) (j:Nat) (hj:j≤l.length):num (l.take j)<2^j:=by
 induction j with
 | zero=> rw [List.take_zero];decide
 | succ j ih=>
  have:=ih (by omega)
  rw [Yqd l j hj,Nat.pow_succ]
  rcases Yi5 l j hj h with e | e <;> omega
def Yws (l:List UInt8):List UInt8:=l++List.replicate ((8-l.length%8)%8) 48
theorem Ywt (l:List UInt8) (h:Yat l=true):Yat (Yws l)=true:=by
 unfold Yws
 rw [Yam,h,Yb8];rfl
theorem Yji (l:List UInt8):(Yws l).length=l.length+(8-l.length%8)%8:=by
 unfold Yws
 rw [List.length_append,List.length_replicate]
def Yjh (l:List UInt8):Nat→List UInt8
 | 0=> []
 | n+1=> Yjh l n ++ [UInt8.ofNat (num ((l.take (8*n+8)).drop (8*n)))]
theorem Yni (l:List UInt8) (n:Nat):(Yjh l n).length=n:=by
 induction n with
 | zero=> rfl
 | succ n ih=> simp [Yjh,ih]
def Ykb (l:List UInt8):List UInt8:=Yjh (Yws l) ((Yws l).length / 8)
theorem Yun (p:List UInt8) (j:Nat) (h:8*j+8≤p.length):((⟨p.toArray⟩:ByteArray).extract (8*j) (8*j+8)).size=8:=by
 rw [Ygy,Yds,List.length_drop,List.length_take];omega
theorem Ynj (p:List UInt8) (j:Nat):((⟨p.toArray⟩:ByteArray).extract (8*j) (8*j+8)).data.toList=(p.take (8*j+8)).drop (8*j):=by
 rw [Ygy]
theorem Ytd (y:Nat) (h:(y:Int)≤255):((UInt8.ofNat y).toNat:Int)=y:=by
 rw [UInt8.toNat_ofNat'];omega
end Go.Proofs.YtgikochfffdpfaaGreatDoor
namespace Go.Proofs.YtgikochfffdpfaaGreatDoor
open Go.RowKit
theorem Yfd {k:IntKind} {a b:Int} (h:a=b):Ending.returned (.int k a) = .returned (.int k b):=by rw [h]
theorem Yad {a b:Bool} (h:a=b):Ending.returned (.bool a) = .returned (.bool b):=by rw [h]
theorem Yc8 {n:Int} (h:-9223372036854775808≤n∧n≤9223372036854775807):IntKind.i64.wrap n=n:=by
 rw [IntKind.wrap_i64]
 omega
theorem Ypr {n:Nat} (h:n≤9223372036854775807):IntKind.i64.wrap (n:Int)=(n:Int):=Yc8 (by omega)
def Yxh (n lo hi:Int):Int:=max lo (min n hi)
def Ycv (a b c:Int):Int:=max (min a b) (min (max a b) c)
def Ya5 (n:Int):Int:=(n+32)%64-32
theorem Yol (n:Int) (k:Nat) (hk:k≤62):bits .and .i64 n ((2:Int)^k-1)=n%(2:Int)^k:=by
 have hpn:(2:Nat)^k≤2^62:=Nat.pow_le_pow_right (by omega) hk
 have hp1:1≤(2:Nat)^k:=Nat.one_le_two_pow
 have hpc:((2:Int)^k)=(((2:Nat)^k:Nat):Int):=by simp
 have h2:(BitVec.ofInt 64 ((2:Int)^k-1)).toNat=2^k-1:=by
  rw [hpc,show ((((2:Nat)^k:Nat):Int)-1)=((2^k-1:Nat):Int) by omega,BitVec.ofInt_natCast,BitVec.toNat_ofNat]
  exact Nat.mod_eq_of_lt (by omega)
 have h1:(BitVec.ofInt 64 n).toNat=(n%18446744073709551616).toNat:=by rw [BitVec.toNat_ofInt];rfl
 show IntKind.i64.wrap ((BitVec.ofInt 64 n &&& BitVec.ofInt 64 ((2:Int)^k-1)).toNat:Int)=_
 rw [BitVec.toNat_and,h1,h2,Nat.and_two_pow_sub_one_eq_mod,hpc,IntKind.wrap_i64]
 have hd:(((2:Nat)^k:Nat):Int) ∣ 18446744073709551616:=by
  have e:(18446744073709551616:Nat)=2^64:=by decide
  have d:(2:Nat)^k ∣ (18446744073709551616:Nat):=by rw [e];exact Nat.pow_dvd_pow 2 (by omega)
  exact Int.natCast_dvd_natCast.2 d
 have hm:((((n%18446744073709551616).toNat%2^k:Nat)):Int)=n%(((2:Nat)^k:Nat):Int):=by
  rw [Int.natCast_emod,Int.toNat_of_nonneg (Int.emod_nonneg _ (by omega)),Int.emod_emod_of_dvd _ hd]
 rw [hm]
 have:=Int.emod_nonneg n (b:=(((2:Nat)^k:Nat):Int)) (by omega)
 have:=Int.emod_lt_of_pos n (b:=(((2:Nat)^k:Nat):Int)) (by omega)
 omega
theorem Yyt (n:Int):bits .and .i64 n 63=n%64:=Yol n 6 (by omega)
def round (n bits:Int):Int:=
 if Yxh bits 0 32=0 then Yxh n (-1099511627776) 1099511627776
 else (Yxh n (-1099511627776) 1099511627776+2^((Yxh bits 0 32).toNat-1)) / 2^(Yxh bits 0 32).toNat
def Yq5 (c:List UInt8):Nat:=num c*2^(8-c.length)
def Ya6 (r:List UInt8) (i:Nat):Nat:=Yq5 ((r.drop (8*i)).take 8)
theorem Yqc (c:List UInt8) (d:UInt8):num (c ++ [d])=2*num c+(d.toNat-48):=Yc0 0 c [d]
theorem Yjb (c:List UInt8) (m:Nat):num (c++List.replicate m 48)=num c*2^m:=by
 induction m with
 | zero=> simp
 | succ m ih=>
  rw [List.replicate_succ',←List.append_assoc,Yqc,ih,Nat.pow_succ,←Nat.mul_assoc (num c)]
  have:((48:UInt8).toNat-48)=0:=rfl
  omega
theorem Yqb (c:List UInt8) (h:Yat c=true):num c<2^c.length:=by
 have:=Yue c h c.length (Nat.le_refl _)
 rwa [List.take_of_length_le (Nat.le_refl _)] at this
theorem Yg1 (r:List UInt8) (i:Nat):((r.drop (8*i)).take 8).length=min 8 (r.length-8*i):=by simp
theorem Ytj (r:List UInt8) (i:Nat) (h:Yat r=true):Yat ((r.drop (8*i)).take 8)=true:=Ykw _ _ (Ykv _ _ h)
theorem Yv4 (c:List UInt8) (h:Yat c=true) (hl:c.length≤8):Yq5 c<256:=by
 have h1:=Yqb c h
 have h2:num c*2^(8-c.length)<2^c.length*2^(8-c.length):=Nat.mul_lt_mul_of_pos_right h1 (Nat.two_pow_pos _)
 rw [←Nat.pow_add,show c.length+(8-c.length)=8 by omega] at h2
 exact h2
theorem Ymp (r:List UInt8) (i:Nat) (h:Yat r=true):Ya6 r i<256:=Yv4 _ (Ytj r i h) (by rw [Yg1];omega)
theorem Ygd (r:List UInt8) (i:Nat) (h:r.length≤8*i):Ya6 r i=0:=by
 unfold Ya6 Yq5
 rw [List.drop_eq_nil_of_le h]
 rfl
theorem Yis (r e:List UInt8) (i:Nat) (h:8*i+8≤r.length):Ya6 (r++e) i=Ya6 r i:=by
 unfold Ya6
 rw [List.drop_append_of_le_length (by omega),List.take_append_of_le_length (by rw [List.length_drop];omega)]
theorem Yti (r:List UInt8) (d:UInt8):((r ++ [d]).drop (8*(r.length / 8))).take 8=(r.drop (8*(r.length / 8))).take 8 ++ [d]:=by
 rw [List.drop_append_of_le_length (by omega),List.take_of_length_le (l:=r.drop _) (by rw [List.length_drop];omega),List.take_of_length_le (by rw [List.length_append,List.length_drop,List.length_singleton];omega)]
theorem Ye3 (r:List UInt8) (d:UInt8):Ya6 (r ++ [d]) (r.length / 8)=Ya6 r (r.length / 8)+(d.toNat-48)*2^(7-r.length%8):=by
 unfold Ya6
 rw [Yti]
 have hl:((r.drop (8*(r.length / 8))).take 8).length=r.length%8:=by rw [Yg1];omega
 generalize (r.drop (8*(r.length / 8))).take 8=c at hl
 unfold Yq5
 rw [Yqc,List.length_append,List.length_singleton,hl,show 8-(r.length%8+1)=7-r.length%8 by omega,show 8-r.length%8=7-r.length%8+1 by omega,Nat.pow_succ,Nat.add_mul]
 congr 1
 rw [Nat.mul_comm 2 (num c),Nat.mul_assoc,Nat.mul_comm 2]
theorem Yew (r:List UInt8) (d:UInt8) (i:Nat) (h:i≠r.length / 8):Ya6 (r ++ [d]) i=Ya6 r i:=by
 by_cases hi:8*i+8≤r.length
 ·exact Yis r [d] i hi
 ·rw [Ygd r i (by omega),Ygd _ i (by rw [List.length_append,List.length_singleton];omega)]
theorem Ylq (r:List UInt8) (i:Nat):Ya6 (r ++ [48]) i=Ya6 r i:=by
 by_cases hi:i=r.length / 8
 ·subst hi
  rw [Ye3,show ((48:UInt8).toNat-48)=0 from rfl];omega
 ·exact Yew r 48 i hi
theorem Yq4 (r:List UInt8):Ya6 (r ++ [49]) (r.length / 8)=Ya6 r (r.length / 8)+2^(7-r.length%8):=by
 rw [Ye3,show ((49:UInt8).toNat-48)=1 from rfl];omega
theorem Yq3 (r:List UInt8):∃A,Ya6 r (r.length / 8)=2^(8-r.length%8)*A:=by
 refine ⟨num ((r.drop (8*(r.length / 8))).take 8),?_⟩
 unfold Ya6 Yq5
 rw [Yg1,show min 8 (r.length-8*(r.length / 8))=r.length%8 by omega,Nat.mul_comm]
theorem Yy0 (x j A:Nat) (hj:j<8) (hx:x=2^(8-j)*A) (h:x<256):bits .or .u8 (x:Int) (128 / 2^j)=((x+2^(7-j):Nat):Int):=by
 have e1:(128:Int) / 2^j=((2^(7-j):Nat):Int):=by
  have e:(128:Int)=2^(7-j)*2^j:=by rw [←Int.pow_add,show 7-j+j=7 by omega];rfl
  rw [e,Int.mul_ediv_cancel _ (by have:(0:Int)<2^j:=Int.pow_pos (by decide);omega)]
  simp
 have hb:(2:Nat)^(7-j)<2^(8-j):=Nat.pow_lt_pow_right (by omega) (by omega)
 have hor:=Nat.two_pow_add_eq_or_of_lt hb A
 rw [←hx] at hor
 have hp:2^(7-j)≤2^7:=Nat.pow_le_pow_right (by omega) (by omega)
 have hlt:x ||| 2^(7-j)<2^8:=Nat.or_lt_two_pow (by omega) (by omega)
 rw [e1]
 show IntKind.u8.wrap ((BitVec.ofInt 8 (x:Int) ||| BitVec.ofInt 8 ((2^(7-j):Nat):Int)).toNat:Int)=_
 rw [BitVec.ofInt_natCast,BitVec.ofInt_natCast,BitVec.toNat_or,BitVec.toNat_ofNat,BitVec.toNat_ofNat,Nat.mod_eq_of_lt (by omega:x<2^8),Nat.mod_eq_of_lt (by omega:2^(7-j)<2^8),←hor]
 rw [←hor] at hlt
 have:IntKind.u8.wrap ((x+2^(7-j):Nat):Int)=((x+2^(7-j):Nat):Int)%256:=rfl
 rw [this]
 omega
theorem Ynh (p:List UInt8):∀n,Yjh p n=(List.range n).map fun i=> UInt8.ofNat (num ((p.drop (8*i)).take 8))
 | 0=> rfl
 | n+1=> by
  rw [Yjh,Ynh p n,List.range_succ,List.map_append]
  congr 1
  simp only [List.map_cons,List.map_nil]
  rw [show (p.drop (8*n)).take 8=(p.take (8*n+8)).drop (8*n) by rw [List.drop_take,show 8*n+8-8*n=8 by omega]]
theorem Yum (r:List UInt8) (i:Nat) (h:8*i<r.length):num (((Yws r).drop (8*i)).take 8)=Ya6 r i:=by
 unfold Ya6 Yq5 Yws
 rw [List.drop_append_of_le_length (by omega),List.take_append,←Yjb,Yg1,List.length_drop]
 congr 2
 rw [List.take_replicate]
 congr 1
 omega
theorem Yng (r:List UInt8):Ykb r=(List.range ((r.length+7) / 8)).map fun i=> UInt8.ofNat (Ya6 r i):=by
 unfold Ykb
 rw [Ynh,Yji,show (r.length+(8-r.length%8)%8) / 8=(r.length+7) / 8 by omega]
 apply List.map_congr_left
 intro i hi
 rw [List.mem_range] at hi
 rw [Yum r i (by omega)]
theorem Yfb (r:List UInt8):(Ykb r).length=(r.length+7) / 8:=by rw [Yng];simp
end Go.Proofs.YtgikochfffdpfaaGreatDoor
namespace Go.Proofs.YtgikochfffdpfaaGreatDoor
theorem Yrg (c:UInt8) (h:c=48∨c=49):Yd6 (c.toNat-48)=c:=by
 rcases h with rfl | rfl <;> rfl
theorem Yrn (c:UInt8) (l:List UInt8):Yat (c::l)=((c==48 || c==49)&&Yat l):=rfl
theorem Yro {c:UInt8} {l:List UInt8} (h:Yat (c::l)=true):(c=48∨c=49)∧Yat l=true:=by
 rw [Yrn] at h
 simpa using h
theorem Yu4 (v x n:Nat) (h:v%2^n=x%2^n):Yak v n=Yak x n:=by
 induction n generalizing v x with
 | zero=> rfl
 | succ n ih=>
  have hp:(2:Nat)^(n+1)=2^n*2:=Nat.pow_succ 2 n
  have h1:v%2^n=x%2^n:=by
   have e1:=Nat.mod_mul_right_mod v (2^n) 2
   have e2:=Nat.mod_mul_right_mod x (2^n) 2
   rw [←hp] at e1 e2
   rw [←e1,←e2,h]
  have h2:v / 2^n%2=x / 2^n%2:=by
   have e1:=Nat.mod_mul_right_div_self v (2^n) 2
   have e2:=Nat.mod_mul_right_div_self x (2^n) 2
   rw [←hp] at e1 e2
   rw [←e1,←e2,h]
  show Yd6 (v / 2^n)::Yak v n=Yd6 (x / 2^n)::Yak x n
  rw [ih v x h1]
  congr 1
  unfold Yd6
  rw [h2]
theorem Ygk (a:Nat):Ydq a []=a:=rfl
theorem Yfa (a:Nat) (c:UInt8) (l:List UInt8):Ydq a (c::l)=Ydq (2*a+(c.toNat-48)) l:=Yc0 a [c] l
section
attribute [local irreducible] Ydq
theorem Yg9 (a:Nat) (l:List UInt8):Ydq a l=a*2^l.length+num l:=by
 unfold num
 induction l generalizing a with
 | nil=> rw [Ygk,Ygk,List.length_nil];simp
 | cons c l ih=>
  rw [Yfa,Yfa,ih,ih (2*0+(c.toNat-48)),List.length_cons,Nat.pow_succ]
  generalize 2^l.length=x
  generalize Ydq 0 l=y
  generalize c.toNat-48=z
  rw [Nat.mul_zero,Nat.zero_add,Nat.add_mul,Nat.mul_comm 2 a,Nat.mul_assoc,Nat.mul_comm 2 x,Nat.add_assoc]
theorem Yqa (c:UInt8) (l:List UInt8):num (c::l)=(c.toNat-48)*2^l.length+num l:=by
 unfold num
 rw [Yfa,Yg9,Nat.mul_zero,Nat.zero_add]
 rfl
end
theorem Ypb:∀l:List UInt8,Yat l=true→Yak (num l) l.length=l
 | [],_=> rfl
 | c::l,h=> by
  obtain ⟨hc,hl⟩:=Yro h
  have hn:=Yqa c l
  have hlt:=Yqb l hl
  show Yd6 (num (c::l) / 2^l.length)::Yak (num (c::l)) l.length=c::l
  rw [hn,Nat.mul_comm,Nat.mul_add_div (Nat.two_pow_pos _),Nat.div_eq_of_lt hlt,Nat.add_zero,Yrg c hc]
  congr 1
  rw [Yu4 _ (num l) l.length (by rw [Nat.mul_add_mod])]
  exact Ypb l hl
end Go.Proofs.YtgikochfffdpfaaGreatDoor
namespace Go.Proofs.YtgikochfffdpfaaGreatDoor
open Go.RowKit
def gap (n:Nat):Nat:=(8-n%8)%8
section
theorem Yry (l m:List UInt8):num (l++m)=num l*2^m.length+num m:=by
 unfold num
 rw [Yc0,Yg9]
 rfl
theorem Ync (v n:Nat):num (Yak v n)=v%2^n:=by
 induction n with
 | zero=> simp [Yak,num,Ygk,Nat.mod_one]
 | succ n ih=>
  rw [Yak,Yqa,ih,Yag,Nat.mod_pow_succ]
  have:(Yd6 (v / 2^n)).toNat-48=v / 2^n%2:=by
   generalize v / 2^n=y
   unfold Yd6
   rcases (by omega:y%2=0∨y%2=1) with h | h
   ·rw [if_pos h,h];rfl
   ·rw [if_neg (by omega),h];rfl
  rw [this,Nat.mul_comm,Nat.add_comm]
end
def tell (l:List UInt8) (p n:Nat):Nat:=num (((Yzc l).drop p).take n)
theorem Yuf (k:Nat):num (List.replicate k 48)=0:=by
 have:=Yjb [] k
 rw [List.nil_append] at this
 rw [this,show num []=0 from rfl,Nat.zero_mul]
def Yxk (k:Int):Int×Int×Int×Int:=
 if k=1 then (128,96,6,1) else if k=2 then (176,144,9,1) else if k=3 then (352,288,18,1) else if k=4 then (704,576,18,2) else if k=5 then (1408,1152,18,4) else if k=6 then (32,32,2,1) else (0,0,0,0)
def Yf4 (k:Int):Int:=(Yxk k).1
def Ygi (k:Int):Int:=(Yxk k).2.1
def Yf3 (k:Int):Int:=(Yxk k).2.2.1
def Yfm (k:Int):Int:=(Yxk k).2.2.2
def Yem (k:Int):Bool:=decide (1≤k∧k≤6)
theorem Ycd (k:Int):k=1∨k=2∨k=3∨k=4∨k=5∨k=6∨(Yem k=false∧Yxk k=(0,0,0,0)):=by
 by_cases h:1≤k∧k≤6
 ·omega
 ·refine .inr (.inr (.inr (.inr (.inr (.inr ⟨by simpa [Yem] using h,?_⟩)))))
  unfold Yxk
  rw [if_neg (by omega),if_neg (by omega),if_neg (by omega),if_neg (by omega),if_neg (by omega),if_neg (by omega)]
theorem Yp2 {k:Int} (h:Yem k=false):(k==1)=false∧(k==2)=false∧(k==3)=false∧(k==4)=false∧(k==5)=false∧(k==6)=false:=by
 have h1:¬ (1≤k∧k≤6):=by simpa [Yem] using h
 refine ⟨?_,?_,?_,?_,?_,?_⟩ <;> (simp;omega)
end Go.Proofs.YtgikochfffdpfaaGreatDoor