/- Texts that SheetoutBack's proof stands on, part 1 of 52. No condition of its own. -/
import Derived.OpenShut
import Derived.IntWalk
namespace Go.Proofs.YtgikochfffdpfaaGreatDoor
def Yhd (b:Nat):UInt8:=if b%2=0 then 48 else 49
def Yau (v:Nat):Nat→List UInt8
 | 0=> []
 | n+1=> Yhd (v / 2^n)::Yau v n
theorem Yak (v n:Nat):(Yau v n).length=n:=by
 induction n with
 | zero=> rfl
 | succ n ih=> simp [Yau,ih]
def Yaw (l:List UInt8):Bool:=l.all (fun c=> c==48 || c==49)
theorem Y6q (b:Nat):(Yhd b==48 || Yhd b==49)=true:=by
 unfold Yhd
 split <;> rfl
theorem Yco (v n:Nat):Yaw (Yau v n)=true:=by
 induction n with
 | zero=> rfl
 | succ n ih=>
  show ((Yhd (v / 2^n)==48 || Yhd (v / 2^n)==49)&&Yaw (Yau v n))=true
  rw [ih,Y6q];rfl
def Ydw (a:Nat):List UInt8→Nat
 | []=> a
 | c::l=> Ydw (2*a+(c.toNat-48)) l
def num (l:List UInt8):Nat:=Ydw 0 l
theorem Ydh (a:Nat) (l m:List UInt8):Ydw a (l++m)=Ydw (Ydw a l) m:=by
 induction l generalizing a with
 | nil=> rfl
 | cons c l ih=> exact ih _
theorem Y9n (l:List UInt8):(⟨l.toArray⟩:ByteArray).size=l.length:=List.size_toArray
def Yac (l:List UInt8):List UInt8:=l.flatMap fun c=> Yau c.toNat 8
theorem Yia (l m:List UInt8):Yac (l++m)=Yac l++Yac m:=by simp [Yac]
theorem Y9j (c:UInt8):Yac [c]=Yau c.toNat 8:=by simp [Yac]
theorem Yas (l:List UInt8):(Yac l).length=8*l.length:=by
 induction l with
 | nil=> rfl
 | cons c l ih=>
  have e:Yac (c::l)=Yau c.toNat 8++Yac l:=by simp [Yac]
  rw [e,List.length_append,Yak,ih,List.length_cons];omega
theorem Yaq (l m:List UInt8):Yaw (l++m)=(Yaw l&&Yaw m):=by simp [Yaw]
theorem Yb4 (l:List UInt8) (j:Nat) (h:Yaw l=true):Yaw (l.take j)=true:=by
 unfold Yaw at h ⊢
 rw [List.all_eq_true] at h ⊢
 exact fun c hc=> h c (List.mem_of_mem_take hc)
theorem Ybd (l:List UInt8) (j:Nat) (h:Yaw l=true):Yaw (l.drop j)=true:=by
 unfold Yaw at h ⊢
 rw [List.all_eq_true] at h ⊢
 exact fun c hc=> h c (List.mem_of_mem_drop hc)
theorem Yki (l:List UInt8) (j:Nat) (hj:j<l.length) (h:Yaw l=true):l[j].toNat=48∨l[j].toNat=49:=by
 unfold Yaw at h
 rw [List.all_eq_true] at h
 have:=h l[j] (List.getElem_mem hj)
 simp only [Bool.or_eq_true,beq_iff_eq] at this
 rcases this with e | e <;> rw [e]
 ·exact .inl rfl
 ·exact .inr rfl
theorem Yc6 (k:Nat):Yaw (List.replicate k 48)=true:=by
 unfold Yaw
 rw [List.all_eq_true]
 intro c hc
 rw [List.eq_of_mem_replicate hc]
 rfl
theorem Qcv (l:List UInt8) (j:Nat) (h:j<l.length):num (l.take (j+1))=2*num (l.take j)+(l[j].toNat-48):=by
 rw [List.take_succ_eq_append_getElem h]
 exact Ydh 0 _ _
theorem Yq0 (l:List UInt8) (h:Yaw l=true) (j:Nat) (hj:j≤l.length):num (l.take j)<2^j:=by
 induction j with
 | zero=> rw [List.take_zero];decide
 | succ j ih=>
  have:=ih (by omega)
  rw [Qcv l j hj,Nat.pow_succ]
  rcases Yki l j hj h with e | e <;> omega
def Qah (l:List UInt8):List UInt8:=l++List.replicate ((8-l.length%8)%8) 48
theorem Qcy (l:List UInt8) (h:Yaw l=true):Yaw (Qah l)=true:=by
 unfold Qah
 rw [Yaq,h,Yc6];rfl
theorem Yov (l:List UInt8):(Qah l).length=l.length+(8-l.length%8)%8:=by
 unfold Qah
 rw [List.length_append,List.length_replicate]
def Yyz (l:List UInt8):Nat→List UInt8
 | 0=> []
 | n+1=> Yyz l n ++ [UInt8.ofNat (num ((l.take (8*n+8)).drop (8*n)))]
def Yep (l:List UInt8):List UInt8:=Yyz (Qah l) ((Qah l).length / 8)
end Go.Proofs.YtgikochfffdpfaaGreatDoor
namespace Go.Proofs.YtgikochfffdpfaaGreatDoor
open Go.RowKit
theorem Ydo {k:IntKind} {a b:Int} (h:a=b):Ending.returned (.int k a) = .returned (.int k b):=by rw [h]
theorem Yah {a b:Bool} (h:a=b):Ending.returned (.bool a) = .returned (.bool b):=by rw [h]
theorem Yhg {n:Int} (h:-9223372036854775808≤n∧n≤9223372036854775807):IntKind.i64.wrap n=n:=by
 rw [IntKind.wrap_i64]
 omega
theorem Qaa {n:Nat} (h:n≤9223372036854775807):IntKind.i64.wrap (n:Int)=(n:Int):=Yhg (by omega)
def Qel (n lo hi:Int):Int:=max lo (min n hi)
def Yme (a b c:Int):Int:=max (min a b) (min (max a b) c)
def Ybu (n:Int):Int:=(n+32)%64-32
theorem Yt4 (n:Int):-32≤Ybu n:=by unfold Ybu;omega
theorem Yt3 (n:Int):Ybu n≤31:=by unfold Ybu;omega
theorem Ygq (n:Int) (k:Nat) (hk:k≤62):bits .and .i64 n ((2:Int)^k-1)=n%(2:Int)^k:=by
 have hpn:(2:Nat)^k≤2^62:=Nat.pow_le_pow_right (by omega) hk
 have hp1:1≤(2:Nat)^k:=Nat.one_le_two_pow
 have hpc:((2:Int)^k)=(((2:Nat)^k:Nat):Int):=by simp
 have h2:(BitVec.ofInt 64 ((2:Int)^k-1)).toNat=2^k-1:=by
  rw [hpc,show ((((2:Nat)^k:Nat):Int)-1)=((2^k-1:Nat):Int) by omega,BitVec.ofInt_natCast,BitVec.toNat_ofNat]
  exact Nat.mod_eq_of_lt (by omega)
 have h1:(BitVec.ofInt 64 n).toNat=(n%18446744073709551616).toNat:=by rw [BitVec.toNat_ofInt];rfl
 show IntKind.i64.wrap ((BitVec.ofInt 64 n &&& BitVec.ofInt 64 ((2:Int)^k-1)).toNat:Int)=_
 rw [BitVec.toNat_and,h1,h2,Nat.and_two_pow_sub_one_eq_mod,hpc,IntKind.wrap_i64]
 have hd:(((2:Nat)^k:Nat):Int) ∣ 18446744073709551616:=by
  have e:(18446744073709551616:Nat)=2^64:=by decide
  have d:(2:Nat)^k ∣ (18446744073709551616:Nat):=by rw [e];exact Nat.pow_dvd_pow 2 (by omega)
  exact Int.natCast_dvd_natCast.2 d
 have hm:((((n%18446744073709551616).toNat%2^k:Nat)):Int)=n%(((2:Nat)^k:Nat):Int):=by
  rw [Int.natCast_emod,Int.toNat_of_nonneg (Int.emod_nonneg _ (by omega)),Int.emod_emod_of_dvd _ hd]
 rw [hm]
 have:=Int.emod_nonneg n (b:=(((2:Nat)^k:Nat):Int)) (by omega)
 have:=Int.emod_lt_of_pos n (b:=(((2:Nat)^k:Nat):Int)) (by omega)
 omega
theorem Qef (n:Int):bits .and .i64 n 63=n%64:=Ygq n 6 (by omega)
def round (n bits:Int):Int:=
 if Qel bits 0 32=0 then Qel n (-1099511627776) 1099511627776
 else (Qel n (-1099511627776) 1099511627776+2^((Qel bits 0 32).toNat-1)) / 2^(Qel bits 0 32).toNat
theorem Qc2 (k:Nat) (h:k≤32):1≤(2:Int)^k∧(2:Int)^k≤4294967296:=by
 have h1:(2:Nat)^k≤2^32:=Nat.pow_le_pow_right (by omega) h
 have h2:1≤(2:Nat)^k:=Nat.one_le_two_pow
 have h3:((2:Int)^k)=(((2:Nat)^k:Nat):Int):=by simp
 omega
def Y16 (c:List UInt8):Nat:=num c*2^(8-c.length)
def Ybl (r:List UInt8) (i:Nat):Nat:=Y16 ((r.drop (8*i)).take 8)
theorem Y0r (c:List UInt8) (d:UInt8):num (c ++ [d])=2*num c+(d.toNat-48):=Ydh 0 c [d]
theorem Yon (c:List UInt8) (m:Nat):num (c++List.replicate m 48)=num c*2^m:=by
 induction m with
 | zero=> simp
 | succ m ih=>
  rw [List.replicate_succ',←List.append_assoc,Y0r,ih,Nat.pow_succ,←Nat.mul_assoc (num c)]
  have:((48:UInt8).toNat-48)=0:=rfl
  omega
theorem Yip (c:List UInt8) (h:Yaw c=true):num c<2^c.length:=by
 have:=Yq0 c h c.length (Nat.le_refl _)
 rwa [List.take_of_length_le (Nat.le_refl _)] at this
theorem Yj7 (r:List UInt8) (i:Nat):((r.drop (8*i)).take 8).length=min 8 (r.length-8*i):=by simp
theorem Y58 (r:List UInt8) (i:Nat) (h:Yaw r=true):Yaw ((r.drop (8*i)).take 8)=true:=Yb4 _ _ (Ybd _ _ h)
theorem Qbg (c:List UInt8) (h:Yaw c=true) (hl:c.length≤8):Y16 c<256:=by
 have h1:=Yip c h
 have h2:num c*2^(8-c.length)<2^c.length*2^(8-c.length):=Nat.mul_lt_mul_of_pos_right h1 (Nat.two_pow_pos _)
 rw [←Nat.pow_add,show c.length+(8-c.length)=8 by omega] at h2
 exact h2
theorem Yuk (r:List UInt8) (i:Nat) (h:Yaw r=true):Ybl r i<256:=Qbg _ (Y58 r i h) (by rw [Yj7];omega)
theorem Yjb (r:List UInt8) (i:Nat) (h:r.length≤8*i):Ybl r i=0:=by
 unfold Ybl Y16
 rw [List.drop_eq_nil_of_le h]
 rfl
theorem Ynq (r e:List UInt8) (i:Nat) (h:8*i+8≤r.length):Ybl (r++e) i=Ybl r i:=by
 unfold Ybl
 rw [List.drop_append_of_le_length (by omega),List.take_append_of_le_length (by rw [List.length_drop];omega)]
theorem Y57 (r:List UInt8) (d:UInt8):((r ++ [d]).drop (8*(r.length / 8))).take 8=(r.drop (8*(r.length / 8))).take 8 ++ [d]:=by
 rw [List.drop_append_of_le_length (by omega),List.take_of_length_le (l:=r.drop _) (by rw [List.length_drop];omega),List.take_of_length_le (by rw [List.length_append,List.length_drop,List.length_singleton];omega)]
theorem Yho (r:List UInt8) (d:UInt8):Ybl (r ++ [d]) (r.length / 8)=Ybl r (r.length / 8)+(d.toNat-48)*2^(7-r.length%8):=by
 unfold Ybl
 rw [Y57]
 have hl:((r.drop (8*(r.length / 8))).take 8).length=r.length%8:=by rw [Yj7];omega
 generalize (r.drop (8*(r.length / 8))).take 8=c at hl
 unfold Y16
 rw [Y0r,List.length_append,List.length_singleton,hl,show 8-(r.length%8+1)=7-r.length%8 by omega,show 8-r.length%8=7-r.length%8+1 by omega,Nat.pow_succ,Nat.add_mul]
 congr 1
 rw [Nat.mul_comm 2 (num c),Nat.mul_assoc,Nat.mul_comm 2]
theorem Yg8 (r:List UInt8) (d:UInt8) (i:Nat) (h:i≠r.length / 8):Ybl (r ++ [d]) i=Ybl r i:=by
 by_cases hi:8*i+8≤r.length
 ·exact Ynq r [d] i hi
 ·rw [Yjb r i (by omega),Yjb _ i (by rw [List.length_append,List.length_singleton];omega)]
theorem Ysh (r:List UInt8) (i:Nat):Ybl (r ++ [48]) i=Ybl r i:=by
 by_cases hi:i=r.length / 8
 ·subst hi
  rw [Yho,show ((48:UInt8).toNat-48)=0 from rfl];omega
 ·exact Yg8 r 48 i hi
theorem Y15 (r:List UInt8):Ybl (r ++ [49]) (r.length / 8)=Ybl r (r.length / 8)+2^(7-r.length%8):=by
 rw [Yho,show ((49:UInt8).toNat-48)=1 from rfl];omega
theorem Y14 (r:List UInt8):∃A,Ybl r (r.length / 8)=2^(8-r.length%8)*A:=by
 refine ⟨num ((r.drop (8*(r.length / 8))).take 8),?_⟩
 unfold Ybl Y16
 rw [Yj7,show min 8 (r.length-8*(r.length / 8))=r.length%8 by omega,Nat.mul_comm]
theorem Qhl (x j A:Nat) (hj:j<8) (hx:x=2^(8-j)*A) (h:x<256):bits .or .u8 (x:Int) (128 / 2^j)=((x+2^(7-j):Nat):Int):=by
 have e1:(128:Int) / 2^j=((2^(7-j):Nat):Int):=by
  have e:(128:Int)=2^(7-j)*2^j:=by rw [←Int.pow_add,show 7-j+j=7 by omega];rfl
  rw [e,Int.mul_ediv_cancel _ (by have:(0:Int)<2^j:=Int.pow_pos (by decide);omega)]
  simp
 have hb:(2:Nat)^(7-j)<2^(8-j):=Nat.pow_lt_pow_right (by omega) (by omega)
 have hor:=Nat.two_pow_add_eq_or_of_lt hb A
 rw [←hx] at hor
 have hp:2^(7-j)≤2^7:=Nat.pow_le_pow_right (by omega) (by omega)
 have hlt:x ||| 2^(7-j)<2^8:=Nat.or_lt_two_pow (by omega) (by omega)
 rw [e1]
 show IntKind.u8.wrap ((BitVec.ofInt 8 (x:Int) ||| BitVec.ofInt 8 ((2^(7-j):Nat):Int)).toNat:Int)=_
 rw [BitVec.ofInt_natCast,BitVec.ofInt_natCast,BitVec.toNat_or,BitVec.toNat_ofNat,BitVec.toNat_ofNat,Nat.mod_eq_of_lt (by omega:x<2^8),Nat.mod_eq_of_lt (by omega:2^(7-j)<2^8),←hor]
 rw [←hor] at hlt
 have:IntKind.u8.wrap ((x+2^(7-j):Nat):Int)=((x+2^(7-j):Nat):Int)%256:=rfl
 rw [this]
 omega
theorem Yv8 (p:List UInt8):∀n,Yyz p n=(List.range n).map fun i=> UInt8.ofNat (num ((p.drop (8*i)).take 8))
 | 0=> rfl
 | n+1=> by
  rw [Yyz,Yv8 p n,List.range_succ,List.map_append]
  congr 1
  simp only [List.map_cons,List.map_nil]
  rw [show (p.drop (8*n)).take 8=(p.take (8*n+8)).drop (8*n) by rw [List.drop_take,show 8*n+8-8*n=8 by omega]]
theorem Y8e (r:List UInt8) (i:Nat) (h:8*i<r.length):num (((Qah r).drop (8*i)).take 8)=Ybl r i:=by
 unfold Ybl Y16 Qah
 rw [List.drop_append_of_le_length (by omega),List.take_append,←Yon,Yj7,List.length_drop]
 congr 2
 rw [List.take_replicate]
 congr 1
 omega
theorem Yv7 (r:List UInt8):Yep r=(List.range ((r.length+7) / 8)).map fun i=> UInt8.ofNat (Ybl r i):=by
 unfold Yep
 rw [Yv8,Yov,show (r.length+(8-r.length%8)%8) / 8=(r.length+7) / 8 by omega]
 apply List.map_congr_left
 intro i hi
 rw [List.mem_range] at hi
 rw [Y8e r i (by omega)]
theorem Yfv (r:List UInt8):(Yep r).length=(r.length+7) / 8:=by rw [Yv7];simp
end Go.Proofs.YtgikochfffdpfaaGreatDoor
namespace Go.Proofs.YtgikochfffdpfaaGreatDoor
theorem Y2s (c:UInt8) (h:c=48∨c=49):Yhd (c.toNat-48)=c:=by
 rcases h with rfl | rfl <;> rfl
theorem Y24 (c:UInt8) (l:List UInt8):Yaw (c::l)=((c==48 || c==49)&&Yaw l):=rfl
theorem Yqs {c:UInt8} {l:List UInt8} (h:Yaw (c::l)=true):(c=48∨c=49)∧Yaw l=true:=by
 rw [Y24] at h
 simpa using h
theorem Y8y (v x n:Nat) (h:v%2^n=x%2^n):Yau v n=Yau x n:=by
 induction n generalizing v x with
 | zero=> rfl
 | succ n ih=>
  have hp:(2:Nat)^(n+1)=2^n*2:=Nat.pow_succ 2 n
  have h1:v%2^n=x%2^n:=by
   have e1:=Nat.mod_mul_right_mod v (2^n) 2
   have e2:=Nat.mod_mul_right_mod x (2^n) 2
   rw [←hp] at e1 e2
   rw [←e1,←e2,h]
  have h2:v / 2^n%2=x / 2^n%2:=by
   have e1:=Nat.mod_mul_right_div_self v (2^n) 2
   have e2:=Nat.mod_mul_right_div_self x (2^n) 2
   rw [←hp] at e1 e2
   rw [←e1,←e2,h]
  show Yhd (v / 2^n)::Yau v n=Yhd (x / 2^n)::Yau x n
  rw [ih v x h1]
  congr 1
  unfold Yhd
  rw [h2]
theorem Yfi (a:Nat):Ydw a []=a:=rfl
theorem Yh3 (a:Nat) (c:UInt8) (l:List UInt8):Ydw a (c::l)=Ydw (2*a+(c.toNat-48)) l:=Ydh a [c] l
section
attribute [local irreducible] Ydw
theorem Ygy (a:Nat) (l:List UInt8):Ydw a l=a*2^l.length+num l:=by
 unfold num
 induction l generalizing a with
 | nil=> rw [Yfi,Yfi,List.length_nil];simp
 | cons c l ih=>
  rw [Yh3,Yh3,ih,ih (2*0+(c.toNat-48)),List.length_cons,Nat.pow_succ]
  generalize 2^l.length=x
  generalize Ydw 0 l=y
  generalize c.toNat-48=z
  rw [Nat.mul_zero,Nat.zero_add,Nat.add_mul,Nat.mul_comm 2 a,Nat.mul_assoc,Nat.mul_comm 2 x,Nat.add_assoc]
theorem Ytb (c:UInt8) (l:List UInt8):num (c::l)=(c.toNat-48)*2^l.length+num l:=by
 unfold num
 rw [Yh3,Ygy,Nat.mul_zero,Nat.zero_add]
 rfl
end
theorem Yg3:∀l:List UInt8,Yaw l=true→Yau (num l) l.length=l
 | [],_=> rfl
 | c::l,h=> by
  obtain ⟨hc,hl⟩:=Yqs h
  have hn:=Ytb c l
  have hlt:=Yip l hl
  show Yhd (num (c::l) / 2^l.length)::Yau (num (c::l)) l.length=c::l
  rw [hn,Nat.mul_comm,Nat.mul_add_div (Nat.two_pow_pos _),Nat.div_eq_of_lt hlt,Nat.add_zero,Y2s c hc]
  congr 1
  rw [Y8y _ (num l) l.length (by rw [Nat.mul_add_mod])]
  exact Yg3 l hl
theorem Yrm (p:List UInt8) (hp:Yaw p=true):∀n,8*n≤p.length→Yac (Yyz p n)=p.take (8*n)
 | 0,_=> by simp [Yyz,Yac]
 | n+1,h=> by
  rw [Yyz,Yia,Yrm p hp n (by omega),Y9j]
  have hr:Yaw ((p.take (8*n+8)).drop (8*n))=true:=Ybd _ _ (Yb4 _ _ hp)
  have hl:((p.take (8*n+8)).drop (8*n)).length=8:=by rw [List.length_drop,List.length_take];omega
  have hlt:=Yip _ hr
  rw [hl] at hlt
  rw [UInt8.toNat_ofNat',Nat.mod_eq_of_lt hlt]
  have e:=Yg3 _ hr
  rw [hl] at e
  rw [e,show 8*(n+1)=8*n+8 by omega]
  have e2:=List.take_append_drop (8*n) (p.take (8*n+8))
  rw [List.take_take,show min (8*n) (8*n+8)=8*n by omega] at e2
  exact e2
theorem Y9l (l:List UInt8) (h:Yaw l=true):Yac (Yep l)=Qah l:=by
 unfold Yep
 rw [Yrm _ (Qcy l h) _ (by omega),List.take_of_length_le]
 have:=Yov l
 omega
end Go.Proofs.YtgikochfffdpfaaGreatDoor
namespace Go.Proofs.YtgikochfffdpfaaGreatDoor
open Go.RowKit
def gap (n:Nat):Nat:=(8-n%8)%8
def Ynp (a:Nat):List UInt8→Nat
 | []=> a
 | c::l=> Ynp (256*a+c.toNat) l
def Qbb (l:List UInt8):Nat:=Ynp 0 l
theorem Yuh (a:Nat) (l m:List UInt8):Ynp a (l++m)=Ynp (Ynp a l) m:=by
 induction l generalizing a with
 | nil=> rfl
 | cons c l ih=> exact ih _
theorem Y5q (l:List UInt8) (j:Nat) (h:j<l.length):Qbb (l.take (j+1))=256*Qbb (l.take j)+l[j].toNat:=by
 rw [List.take_succ_eq_append_getElem h]
 exact Yuh 0 _ _
theorem Qa9 (l:List UInt8) (a:Nat):Ynp a l<(a+1)*256^l.length:=by
 induction l generalizing a with
 | nil=> simp [Ynp]
 | cons c l ih=>
  have h1:=ih (256*a+c.toNat)
  have h2:=c.toNat_lt
  have h3:(256*a+c.toNat+1)*256^l.length≤((a+1)*256)*256^l.length:=Nat.mul_le_mul_right _ (by omega)
  rw [List.length_cons,Nat.pow_succ,Nat.mul_comm (256^l.length),←Nat.mul_assoc]
  exact Nat.lt_of_lt_of_le h1 h3
theorem Qfe (l:List UInt8) (k:Nat) (h:l.length≤k):Qbb l<256^k:=by
 have h1:=Qa9 l 0
 have h2:256^l.length≤256^k:=Nat.pow_le_pow_right (by omega) h
 unfold Qbb
 omega
section
attribute [local irreducible] Ydw
theorem Yed (l m:List UInt8):num (l++m)=num l*2^m.length+num m:=by
 unfold num
 rw [Ydh,Ygy]
 rfl
theorem Ydi (v n:Nat):num (Yau v n)=v%2^n:=by
 induction n with
 | zero=> simp [Yau,num,Yfi,Nat.mod_one]
 | succ n ih=>
  rw [Yau,Ytb,ih,Yak,Nat.mod_pow_succ]
  have:(Yhd (v / 2^n)).toNat-48=v / 2^n%2:=by
   generalize v / 2^n=y
   unfold Yhd
   rcases (by omega:y%2=0∨y%2=1) with h | h
   ·rw [if_pos h,h];rfl
   ·rw [if_neg (by omega),h];rfl
  rw [this,Nat.mul_comm,Nat.add_comm]
theorem Yrl (c:UInt8) (l:List UInt8):Yac (c::l)=Yau c.toNat 8++Yac l:=by simp [Yac]
theorem Y9k (l:List UInt8) (a:Nat):Ydw a (Yac l)=Ynp a l:=by
 induction l generalizing a with
 | nil=> rw [show Yac [] = [] from rfl,Yfi];rfl
 | cons c l ih=>
  rw [Yrl,Ydh,ih,Ygy,Yak,Ydi,Nat.mod_eq_of_lt (by have:=c.toNat_lt;omega),Ynp,Nat.mul_comm]
end
theorem Qdl (l:List UInt8):num (Yac l)=Qbb l:=Y9k l 0
theorem Yev (l:List UInt8):Yaw (Yac l)=true:=by
 induction l with
 | nil=> rfl
 | cons c l ih=> rw [Yrl,Yaq,Yco,ih];rfl
theorem Qf9 (A X C:List UInt8) (hx:Yaw X=true) (hc:Yaw C=true):num (A++X++C) / 2^C.length%2^X.length=num X:=by
 rw [Yed,Yed,Nat.add_comm,Nat.add_mul_div_right _ _ (Nat.two_pow_pos _),Nat.div_eq_of_lt (Yip C hc),Nat.zero_add,Nat.add_comm,Nat.add_mul_mod_self_right,Nat.mod_eq_of_lt (Yip X hx)]
theorem Y39 (l:List UInt8) (f k:Nat) (h:f+k≤l.length):Yac ((l.drop f).take k)=((Yac l).drop (8*f)).take (8*k):=by
 have e:l=l.take f++((l.drop f).take k++(l.drop f).drop k):=by rw [List.take_append_drop,List.take_append_drop]
 have e2:Yac l=Yac (l.take f)++(Yac ((l.drop f).take k)++Yac ((l.drop f).drop k)):=by rw [←Yia,←Yia,←e]
 rw [e2,List.drop_left' (by rw [Yas,List.length_take,Nat.min_eq_left (by omega)]),List.take_left' (by rw [Yas,List.length_take,List.length_drop,Nat.min_eq_left (by omega)])]
def Ya5 (l:List UInt8) (p n:Nat):Nat:=num (((Yac l).drop p).take n)
theorem Yl4 (l:List UInt8) (f k p n:Nat) (h1:8*f≤p) (h2:p+n≤8*(f+k)) (h3:f+k≤l.length):Qbb ((l.drop f).take k) / 2^(8*(f+k)-p-n)%2^n=Ya5 l p n:=by
 have hr:=Yev l
 have hl:=Yas l
 rw [←Qdl,Y39 l f k h3]
 unfold Ya5
 generalize Yac l=S at hr hl
 obtain ⟨T,hT⟩:∃T,(S.drop (8*f)).take (8*k)=T:=⟨_,rfl⟩
 have hTr:Yaw T=true:=by rw [←hT];exact Yb4 _ _ (Ybd _ _ hr)
 have hTl:T.length=8*k:=by rw [←hT,List.length_take,List.length_drop];omega
 have hX:(T.drop (p-8*f)).take n=(S.drop p).take n:=by
  rw [←hT,List.drop_take,List.take_take,List.drop_drop,show min n (8*k-(p-8*f))=n by omega,show 8*f+(p-8*f)=p by omega]
 have hXl:((T.drop (p-8*f)).take n).length=n:=by rw [List.length_take,List.length_drop];omega
 have hCl:((T.drop (p-8*f)).drop n).length=8*(f+k)-p-n:=by rw [List.length_drop,List.length_drop];omega
 have e:T=T.take (p-8*f)++(T.drop (p-8*f)).take n++(T.drop (p-8*f)).drop n:=by rw [List.append_assoc,List.take_append_drop,List.take_append_drop]
 have m:=Qf9 (T.take (p-8*f)) ((T.drop (p-8*f)).take n) ((T.drop (p-8*f)).drop n) (Yb4 _ _ (Ybd _ _ hTr)) (Ybd _ _ (Ybd _ _ hTr))
 rw [←e,hXl,hCl,hX] at m
 rw [hT]
 exact m
theorem Ycg (l:List UInt8) (p n:Nat):Ya5 l p n<2^n:=by
 have h:=Yip _ (Yb4 _ n (Ybd _ p (Yev l)))
 have h2:2^(((Yac l).drop p).take n).length≤2^n:=Nat.pow_le_pow_right (by omega) (by rw [List.length_take];omega)
 exact Nat.lt_of_lt_of_le h h2
def ask (l:List UInt8) (p:Nat) (n:Int):Int×Int:=
 if n<0∨32<n then (0,1) else if 8*(l.length:Int)-p<n then (0,2) else (((Ya5 l p n.toNat:Nat):Int),0)
theorem Y5i {l:List UInt8} {p:Nat} {n:Int} (h:n<0∨32<n):ask l p n=(0,1):=if_pos h
theorem Ybj {l:List UInt8} {p:Nat} {n:Int} (h:0≤n∧n≤32) (h2:8*(l.length:Int)-p<n):ask l p n=(0,2):=by
 unfold ask;rw [if_neg (by omega),if_pos h2]
theorem Ycz {l:List UInt8} {p:Nat} {n:Int} (h:0≤n∧n≤32) (h2:n≤8*(l.length:Int)-p):ask l p n=(((Ya5 l p n.toNat:Nat):Int),0):=by
 unfold ask;rw [if_neg (by omega),if_neg (by omega)]
def Yhw (l:List UInt8) (p:Nat):Int×Int:=if Ya5 l p (gap p)=0 then (((gap p:Nat):Int),0) else (0,5)
def Ycu (l:List UInt8) (p:Nat) (n:Int):Nat:=if (ask l p n).2=0 then p+n.toNat else p
def Ymd (l:List UInt8) (p:Nat):Nat:=if Ya5 l p (gap p)=0 then p+gap p else p
theorem Y74 (k:Nat):num (List.replicate k 48)=0:=by
 have:=Yon [] k
 rw [List.nil_append] at this
 rw [this,show num []=0 from rfl,Nat.zero_mul]
def Seg (S:List UInt8) (p q:Nat) (r:List UInt8):Prop:=p≤q∧q≤S.length∧(S.drop p).take (q-p)=r
theorem Seg.nil {S:List UInt8} {p:Nat} (hp:p≤S.length):Seg S p p []:=⟨Nat.le_refl _,hp,by rw [Nat.sub_self];rfl⟩
theorem Seg.app {S:List UInt8} {p q t:Nat} {r s:List UInt8} (h:Seg S p q r) (k:Seg S q t s):Seg S p t (r++s):=by
 obtain ⟨h1,h2,h3⟩:=h
 obtain ⟨k1,k2,k3⟩:=k
 refine ⟨by omega,k2,?_⟩
 rw [show t-p=(q-p)+(t-q) by omega,List.take_add,h3,List.drop_drop,show p+(q-p)=q by omega,k3]
theorem Seg.of {S:List UInt8} {p n:Nat} {r:List UInt8} (hp:p≤S.length) (hn:n≤(S.drop p).length) (h:(S.drop p).take n=r):Seg S p (p+n) r:=by
 rw [List.length_drop] at hn
 exact ⟨by omega,by omega,by rw [Nat.add_sub_cancel_left,h]⟩
theorem Seg.at {S:List UInt8} {p q:Nat} {r:List UInt8} (h:Seg S p q r):S.drop p=r++S.drop q:=by
 obtain ⟨h1,h2,h3⟩:=h
 rw [←h3,show S.drop q=(S.drop p).drop (q-p) by rw [List.drop_drop,show p+(q-p)=q by omega],List.take_append_drop]
theorem Seg.len {S:List UInt8} {p q:Nat} {r:List UInt8} (h:Seg S p q r):q=p+r.length:=by
 obtain ⟨h1,h2,h3⟩:=h
 have:=congrArg List.length h3
 rw [List.length_take,List.length_drop] at this
 omega
theorem Seg.split {S:List UInt8} {p q:Nat} {r s:List UInt8} (h:Seg S p q (r++s)):Seg S p (p+r.length) r∧Seg S (p+r.length) q s:=by
 have hl:=h.len
 rw [List.length_append] at hl
 obtain ⟨h1,h2,h3⟩:=h
 refine ⟨⟨by omega,by omega,?_⟩,⟨by omega,h2,?_⟩⟩
 ·have h4:=congrArg (List.take r.length) h3
  rw [List.take_take,List.take_left,show min r.length (q-p)=r.length by omega] at h4
  rw [Nat.add_sub_cancel_left,h4]
 ·have h4:=congrArg (List.drop r.length) h3
  rw [List.drop_take,List.drop_drop,List.drop_left] at h4
  rw [show q-(p+r.length)=q-p-r.length by omega,h4]
theorem Seg.cut {S:List UInt8} {p q:Nat} {r s:List UInt8} (h:Seg S p q (r++s)):∃m,Seg S p m r∧Seg S m q s:=⟨_,h.split.1,h.split.2⟩
theorem Seg.all (A r C:List UInt8):Seg (A++r++C) A.length (A.length+r.length) r:=by
 refine ⟨by omega,by simp only [List.length_append];omega,?_⟩
 rw [List.append_assoc,List.drop_left,Nat.add_sub_cancel_left,List.take_left]
theorem Yb0 {l:List UInt8} {p q v n:Nat} (h:Seg (Yac l) p q (Yau v n)) (hv:v<2^n):Ya5 l p n=v∧q=p+n∧p+n≤8*l.length:=by
 have hl:=h.len
 obtain ⟨h1,h2,h3⟩:=h
 rw [Yak] at hl
 rw [Yas] at h2
 refine ⟨?_,hl,by omega⟩
 unfold Ya5
 rw [show List.take n (List.drop p (Yac l))=Yau v n by rw [←h3];congr 1;omega,Ydi,Nat.mod_eq_of_lt hv]
theorem Yc8 {l:List UInt8} {p n:Nat} (h:p+n≤8*l.length):Seg (Yac l) p (p+n) (Yau (Ya5 l p n) n):=by
 have hs:=Yas l
 refine ⟨by omega,by omega,?_⟩
 rw [Nat.add_sub_cancel_left]
 have hr:Yaw (((Yac l).drop p).take n)=true:=Yb4 _ _ (Ybd _ _ (Yev l))
 have e:=Yg3 _ hr
 rw [List.length_take,List.length_drop,show min n ((Yac l).length-p)=n by omega] at e
 exact e.symm
def Qg1 (k:Int):Int×Int×Int×Int:=
 if k=1 then (128,96,6,1) else if k=2 then (176,144,9,1) else if k=3 then (352,288,18,1) else if k=4 then (704,576,18,2) else if k=5 then (1408,1152,18,4) else if k=6 then (32,32,2,1) else (0,0,0,0)
def Y66 (k:Int):Int:=(Qg1 k).1
def Qb8 (k:Int):Int:=(Qg1 k).2.1
def Yiw (k:Int):Int:=(Qg1 k).2.2.1
def Yjo (k:Int):Int:=(Qg1 k).2.2.2
def Ygw (k:Int):Bool:=decide (1≤k∧k≤6)
theorem Ydv (k:Int):k=1∨k=2∨k=3∨k=4∨k=5∨k=6∨(Ygw k=false∧Qg1 k=(0,0,0,0)):=by
 by_cases h:1≤k∧k≤6
 ·omega
 ·refine .inr (.inr (.inr (.inr (.inr (.inr ⟨by simpa [Ygw] using h,?_⟩)))))
  unfold Qg1
  rw [if_neg (by omega),if_neg (by omega),if_neg (by omega),if_neg (by omega),if_neg (by omega),if_neg (by omega)]
theorem Y0b {k:Int} (h:Ygw k=false):(k==1)=false∧(k==2)=false∧(k==3)=false∧(k==4)=false∧(k==5)=false∧(k==6)=false:=by
 have h1:¬ (1≤k∧k≤6):=by simpa [Ygw] using h
 refine ⟨?_,?_,?_,?_,?_,?_⟩ <;> (simp;omega)
end Go.Proofs.YtgikochfffdpfaaGreatDoor