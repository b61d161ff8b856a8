/- Texts that SheetoutOnce's proof stands on, part 1 of 52. No condition of its own. -/
import Derived.OpenShut
import Derived.IntWalk
namespace Go.Proofs.YtgikochfffdpfaaGreatDoor
def Ygp (b:Nat):UInt8:=if b%2=0 then 48 else 49
def Yau (v:Nat):Nat→List UInt8
 | 0=> []
 | n+1=> Ygp (v / 2^n)::Yau v n
theorem Yam (v n:Nat):(Yau v n).length=n:=by
 induction n with
 | zero=> rfl
 | succ n ih=> simp [Yau,ih]
def Yav (l:List UInt8):Bool:=l.all (fun c=> c==48 || c==49)
theorem Y4c (b:Nat):(Ygp b==48 || Ygp b==49)=true:=by
 unfold Ygp
 split <;> rfl
theorem Yhh (v n:Nat):Yav (Yau v n)=true:=by
 induction n with
 | zero=> rfl
 | succ n ih=>
  show ((Ygp (v / 2^n)==48 || Ygp (v / 2^n)==49)&&Yav (Yau v n))=true
  rw [ih,Y4c];rfl
def Ydk (a:Nat):List UInt8→Nat
 | []=> a
 | c::l=> Ydk (2*a+(c.toNat-48)) l
def num (l:List UInt8):Nat:=Ydk 0 l
theorem Yc5 (a:Nat) (l m:List UInt8):Ydk a (l++m)=Ydk (Ydk a l) m:=by
 induction l generalizing a with
 | nil=> rfl
 | cons c l ih=> exact ih _
theorem Qdn (l:List UInt8):(⟨l.toArray⟩:ByteArray).size=l.length:=List.size_toArray
def Yad (l:List UInt8):List UInt8:=l.flatMap fun c=> Yau c.toNat 8
theorem Yhk (l m:List UInt8):Yad (l++m)=Yad l++Yad m:=by simp [Yad]
theorem Y6p (c:UInt8):Yad [c]=Yau c.toNat 8:=by simp [Yad]
theorem Yai (l:List UInt8):(Yad l).length=8*l.length:=by
 induction l with
 | nil=> rfl
 | cons c l ih=>
  have e:Yad (c::l)=Yau c.toNat 8++Yad l:=by simp [Yad]
  rw [e,List.length_append,Yam,ih,List.length_cons];omega
theorem Ybp (l m:List UInt8):Yav (l++m)=(Yav l&&Yav m):=by simp [Yav]
theorem Ybz (l:List UInt8) (j:Nat) (h:Yav l=true):Yav (l.take j)=true:=by
 unfold Yav at h ⊢
 rw [List.all_eq_true] at h ⊢
 exact fun c hc=> h c (List.mem_of_mem_take hc)
theorem Ybb (l:List UInt8) (j:Nat) (h:Yav l=true):Yav (l.drop j)=true:=by
 unfold Yav at h ⊢
 rw [List.all_eq_true] at h ⊢
 exact fun c hc=> h c (List.mem_of_mem_drop hc)
theorem Yjl (l:List UInt8) (j:Nat) (hj:j<l.length) (h:Yav l=true):l[j].toNat=48∨l[j].toNat=49:=by
 unfold Yav at h
 rw [List.all_eq_true] at h
 have:=h l[j] (List.getElem_mem hj)
 simp only [Bool.or_eq_true,beq_iff_eq] at this
 rcases this with e | e <;> rw [e]
 ·exact .inl rfl
 ·exact .inr rfl
theorem Yjm (k:Nat):Yav (List.replicate k 48)=true:=by
 unfold Yav
 rw [List.all_eq_true]
 intro c hc
 rw [List.eq_of_mem_replicate hc]
 rfl
theorem Y9r (l:List UInt8) (j:Nat) (h:j<l.length):num (l.take (j+1))=2*num (l.take j)+(l[j].toNat-48):=by
 rw [List.take_succ_eq_append_getElem h]
 exact Yc5 0 _ _
theorem Yo9 (l:List UInt8) (h:Yav l=true) (j:Nat) (hj:j≤l.length):num (l.take j)<2^j:=by
 induction j with
 | zero=> rw [List.take_zero];decide
 | succ j ih=>
  have:=ih (by omega)
  rw [Y9r l j hj,Nat.pow_succ]
  rcases Yjl l j hj h with e | e <;> omega
def Y7m (l:List UInt8):List UInt8:=l++List.replicate ((8-l.length%8)%8) 48
theorem Y9u (l:List UInt8) (h:Yav l=true):Yav (Y7m l)=true:=by
 unfold Y7m
 rw [Ybp,h,Yjm];rfl
theorem Ym8 (l:List UInt8):(Y7m l).length=l.length+(8-l.length%8)%8:=by
 unfold Y7m
 rw [List.length_append,List.length_replicate]
def Yw5 (l:List UInt8):Nat→List UInt8
 | 0=> []
 | n+1=> Yw5 l n ++ [UInt8.ofNat (num ((l.take (8*n+8)).drop (8*n)))]
def Ym7 (l:List UInt8):List UInt8:=Yw5 (Y7m l) ((Y7m l).length / 8)
end Go.Proofs.YtgikochfffdpfaaGreatDoor
namespace Go.Proofs.YtgikochfffdpfaaGreatDoor
open Go.RowKit
theorem Yde {k:IntKind} {a b:Int} (h:a=b):Ending.returned (.int k a) = .returned (.int k b):=by rw [h]
theorem Yan {a b:Bool} (h:a=b):Ending.returned (.bool a) = .returned (.bool b):=by rw [h]
theorem Yh8 {n:Int} (h:-9223372036854775808≤n∧n≤9223372036854775807):IntKind.i64.wrap n=n:=by
 rw [IntKind.wrap_i64]
 omega
theorem Y7e {n:Nat} (h:n≤9223372036854775807):IntKind.i64.wrap (n:Int)=(n:Int):=Yh8 (by omega)
def Qbi (n lo hi:Int):Int:=max lo (min n hi)
def Yk6 (a b c:Int):Int:=max (min a b) (min (max a b) c)
def Ybu (n:Int):Int:=(n+32)%64-32
theorem Ysd (n:Int):-32≤Ybu n:=by unfold Ybu;omega
theorem Ysc (n:Int):Ybu n≤31:=by unfold Ybu;omega
theorem Yfz (n:Int) (k:Nat) (hk:k≤62):bits .and .i64 n ((2:Int)^k-1)=n%(2:Int)^k:=by
 have hpn:(2:Nat)^k≤2^62:=Nat.pow_le_pow_right (by omega) hk
 have hp1:1≤(2:Nat)^k:=Nat.one_le_two_pow
 have hpc:((2:Int)^k)=(((2:Nat)^k:Nat):Int):=by simp
 have h2:(BitVec.ofInt 64 ((2:Int)^k-1)).toNat=2^k-1:=by
  rw [hpc,show ((((2:Nat)^k:Nat):Int)-1)=((2^k-1:Nat):Int) by omega,BitVec.ofInt_natCast,BitVec.toNat_ofNat]
  exact Nat.mod_eq_of_lt (by omega)
 have h1:(BitVec.ofInt 64 n).toNat=(n%18446744073709551616).toNat:=by rw [BitVec.toNat_ofInt];rfl
 show IntKind.i64.wrap ((BitVec.ofInt 64 n &&& BitVec.ofInt 64 ((2:Int)^k-1)).toNat:Int)=_
 rw [BitVec.toNat_and,h1,h2,Nat.and_two_pow_sub_one_eq_mod,hpc,IntKind.wrap_i64]
 have hd:(((2:Nat)^k:Nat):Int) ∣ 18446744073709551616:=by
  have e:(18446744073709551616:Nat)=2^64:=by decide
  have d:(2:Nat)^k ∣ (18446744073709551616:Nat):=by rw [e];exact Nat.pow_dvd_pow 2 (by omega)
  exact Int.natCast_dvd_natCast.2 d
 have hm:((((n%18446744073709551616).toNat%2^k:Nat)):Int)=n%(((2:Nat)^k:Nat):Int):=by
  rw [Int.natCast_emod,Int.toNat_of_nonneg (Int.emod_nonneg _ (by omega)),Int.emod_emod_of_dvd _ hd]
 rw [hm]
 have:=Int.emod_nonneg n (b:=(((2:Nat)^k:Nat):Int)) (by omega)
 have:=Int.emod_lt_of_pos n (b:=(((2:Nat)^k:Nat):Int)) (by omega)
 omega
theorem Qbc (n:Int):bits .and .i64 n 63=n%64:=Yfz n 6 (by omega)
def round (n bits:Int):Int:=
 if Qbi bits 0 32=0 then Qbi n (-1099511627776) 1099511627776
 else (Qbi n (-1099511627776) 1099511627776+2^((Qbi bits 0 32).toNat-1)) / 2^(Qbi bits 0 32).toNat
theorem Y9z (k:Nat) (h:k≤32):1≤(2:Int)^k∧(2:Int)^k≤4294967296:=by
 have h1:(2:Nat)^k≤2^32:=Nat.pow_le_pow_right (by omega) h
 have h2:1≤(2:Nat)^k:=Nat.one_le_two_pow
 have h3:((2:Int)^k)=(((2:Nat)^k:Nat):Int):=by simp
 omega
def Yz5 (c:List UInt8):Nat:=num c*2^(8-c.length)
def Ybi (r:List UInt8) (i:Nat):Nat:=Yz5 ((r.drop (8*i)).take 8)
theorem Yyv (c:List UInt8) (d:UInt8):num (c ++ [d])=2*num c+(d.toNat-48):=Yc5 0 c [d]
theorem Ym1 (c:List UInt8) (m:Nat):num (c++List.replicate m 48)=num c*2^m:=by
 induction m with
 | zero=> simp
 | succ m ih=>
  rw [List.replicate_succ',←List.append_assoc,Yyv,ih,Nat.pow_succ,←Nat.mul_assoc (num c)]
  have:((48:UInt8).toNat-48)=0:=rfl
  omega
theorem Yh1 (c:List UInt8) (h:Yav c=true):num c<2^c.length:=by
 have:=Yo9 c h c.length (Nat.le_refl _)
 rwa [List.take_of_length_le (Nat.le_refl _)] at this
theorem Yjc (r:List UInt8) (i:Nat):((r.drop (8*i)).take 8).length=min 8 (r.length-8*i):=by simp
theorem Y3y (r:List UInt8) (i:Nat) (h:Yav r=true):Yav ((r.drop (8*i)).take 8)=true:=Ybz _ _ (Ybb _ _ h)
theorem Y8g (c:List UInt8) (h:Yav c=true) (hl:c.length≤8):Yz5 c<256:=by
 have h1:=Yh1 c h
 have h2:num c*2^(8-c.length)<2^c.length*2^(8-c.length):=Nat.mul_lt_mul_of_pos_right h1 (Nat.two_pow_pos _)
 rw [←Nat.pow_add,show c.length+(8-c.length)=8 by omega] at h2
 exact h2
theorem Ysw (r:List UInt8) (i:Nat) (h:Yav r=true):Ybi r i<256:=Y8g _ (Y3y r i h) (by rw [Yjc];omega)
theorem Yik (r:List UInt8) (i:Nat) (h:r.length≤8*i):Ybi r i=0:=by
 unfold Ybi Yz5
 rw [List.drop_eq_nil_of_le h]
 rfl
theorem Yma (r e:List UInt8) (i:Nat) (h:8*i+8≤r.length):Ybi (r++e) i=Ybi r i:=by
 unfold Ybi
 rw [List.drop_append_of_le_length (by omega),List.take_append_of_le_length (by rw [List.length_drop];omega)]
theorem Y3x (r:List UInt8) (d:UInt8):((r ++ [d]).drop (8*(r.length / 8))).take 8=(r.drop (8*(r.length / 8))).take 8 ++ [d]:=by
 rw [List.drop_append_of_le_length (by omega),List.take_of_length_le (l:=r.drop _) (by rw [List.length_drop];omega),List.take_of_length_le (by rw [List.length_append,List.length_drop,List.length_singleton];omega)]
theorem Ygw (r:List UInt8) (d:UInt8):Ybi (r ++ [d]) (r.length / 8)=Ybi r (r.length / 8)+(d.toNat-48)*2^(7-r.length%8):=by
 unfold Ybi
 rw [Y3x]
 have hl:((r.drop (8*(r.length / 8))).take 8).length=r.length%8:=by rw [Yjc];omega
 generalize (r.drop (8*(r.length / 8))).take 8=c at hl
 unfold Yz5
 rw [Yyv,List.length_append,List.length_singleton,hl,show 8-(r.length%8+1)=7-r.length%8 by omega,show 8-r.length%8=7-r.length%8+1 by omega,Nat.pow_succ,Nat.add_mul]
 congr 1
 rw [Nat.mul_comm 2 (num c),Nat.mul_assoc,Nat.mul_comm 2]
theorem Ygi (r:List UInt8) (d:UInt8) (i:Nat) (h:i≠r.length / 8):Ybi (r ++ [d]) i=Ybi r i:=by
 by_cases hi:8*i+8≤r.length
 ·exact Yma r [d] i hi
 ·rw [Yik r i (by omega),Yik _ i (by rw [List.length_append,List.length_singleton];omega)]
theorem Yqo (r:List UInt8) (i:Nat):Ybi (r ++ [48]) i=Ybi r i:=by
 by_cases hi:i=r.length / 8
 ·subst hi
  rw [Ygw,show ((48:UInt8).toNat-48)=0 from rfl];omega
 ·exact Ygi r 48 i hi
theorem Yz4 (r:List UInt8):Ybi (r ++ [49]) (r.length / 8)=Ybi r (r.length / 8)+2^(7-r.length%8):=by
 rw [Ygw,show ((49:UInt8).toNat-48)=1 from rfl];omega
theorem Yz3 (r:List UInt8):∃A,Ybi r (r.length / 8)=2^(8-r.length%8)*A:=by
 refine ⟨num ((r.drop (8*(r.length / 8))).take 8),?_⟩
 unfold Ybi Yz5
 rw [Yjc,show min 8 (r.length-8*(r.length / 8))=r.length%8 by omega,Nat.mul_comm]
theorem Qeo (x j A:Nat) (hj:j<8) (hx:x=2^(8-j)*A) (h:x<256):bits .or .u8 (x:Int) (128 / 2^j)=((x+2^(7-j):Nat):Int):=by
 have e1:(128:Int) / 2^j=((2^(7-j):Nat):Int):=by
  have e:(128:Int)=2^(7-j)*2^j:=by rw [←Int.pow_add,show 7-j+j=7 by omega];rfl
  rw [e,Int.mul_ediv_cancel _ (by have:(0:Int)<2^j:=Int.pow_pos (by decide);omega)]
  simp
 have hb:(2:Nat)^(7-j)<2^(8-j):=Nat.pow_lt_pow_right (by omega) (by omega)
 have hor:=Nat.two_pow_add_eq_or_of_lt hb A
 rw [←hx] at hor
 have hp:2^(7-j)≤2^7:=Nat.pow_le_pow_right (by omega) (by omega)
 have hlt:x ||| 2^(7-j)<2^8:=Nat.or_lt_two_pow (by omega) (by omega)
 rw [e1]
 show IntKind.u8.wrap ((BitVec.ofInt 8 (x:Int) ||| BitVec.ofInt 8 ((2^(7-j):Nat):Int)).toNat:Int)=_
 rw [BitVec.ofInt_natCast,BitVec.ofInt_natCast,BitVec.toNat_or,BitVec.toNat_ofNat,BitVec.toNat_ofNat,Nat.mod_eq_of_lt (by omega:x<2^8),Nat.mod_eq_of_lt (by omega:2^(7-j)<2^8),←hor]
 rw [←hor] at hlt
 have:IntKind.u8.wrap ((x+2^(7-j):Nat):Int)=((x+2^(7-j):Nat):Int)%256:=rfl
 rw [this]
 omega
theorem Yul (p:List UInt8):∀n,Yw5 p n=(List.range n).map fun i=> UInt8.ofNat (num ((p.drop (8*i)).take 8))
 | 0=> rfl
 | n+1=> by
  rw [Yw5,Yul p n,List.range_succ,List.map_append]
  congr 1
  simp only [List.map_cons,List.map_nil]
  rw [show (p.drop (8*n)).take 8=(p.take (8*n+8)).drop (8*n) by rw [List.drop_take,show 8*n+8-8*n=8 by omega]]
theorem Y5p (r:List UInt8) (i:Nat) (h:8*i<r.length):num (((Y7m r).drop (8*i)).take 8)=Ybi r i:=by
 unfold Ybi Yz5 Y7m
 rw [List.drop_append_of_le_length (by omega),List.take_append,←Ym1,Yjc,List.length_drop]
 congr 2
 rw [List.take_replicate]
 congr 1
 omega
theorem Yuk (r:List UInt8):Ym7 r=(List.range ((r.length+7) / 8)).map fun i=> UInt8.ofNat (Ybi r i):=by
 unfold Ym7
 rw [Yul,Ym8,show (r.length+(8-r.length%8)%8) / 8=(r.length+7) / 8 by omega]
 apply List.map_congr_left
 intro i hi
 rw [List.mem_range] at hi
 rw [Y5p r i (by omega)]
theorem Yhd (r:List UInt8):(Ym7 r).length=(r.length+7) / 8:=by rw [Yuk];simp
end Go.Proofs.YtgikochfffdpfaaGreatDoor
namespace Go.Proofs.YtgikochfffdpfaaGreatDoor
theorem Y0o (c:UInt8) (h:c=48∨c=49):Ygp (c.toNat-48)=c:=by
 rcases h with rfl | rfl <;> rfl
theorem Y0z (c:UInt8) (l:List UInt8):Yav (c::l)=((c==48 || c==49)&&Yav l):=rfl
theorem Yo3 {c:UInt8} {l:List UInt8} (h:Yav (c::l)=true):(c=48∨c=49)∧Yav l=true:=by
 rw [Y0z] at h
 simpa using h
theorem Y57 (v x n:Nat) (h:v%2^n=x%2^n):Yau v n=Yau x n:=by
 induction n generalizing v x with
 | zero=> rfl
 | succ n ih=>
  have hp:(2:Nat)^(n+1)=2^n*2:=Nat.pow_succ 2 n
  have h1:v%2^n=x%2^n:=by
   have e1:=Nat.mod_mul_right_mod v (2^n) 2
   have e2:=Nat.mod_mul_right_mod x (2^n) 2
   rw [←hp] at e1 e2
   rw [←e1,←e2,h]
  have h2:v / 2^n%2=x / 2^n%2:=by
   have e1:=Nat.mod_mul_right_div_self v (2^n) 2
   have e2:=Nat.mod_mul_right_div_self x (2^n) 2
   rw [←hp] at e1 e2
   rw [←e1,←e2,h]
  show Ygp (v / 2^n)::Yau v n=Ygp (x / 2^n)::Yau x n
  rw [ih v x h1]
  congr 1
  unfold Ygp
  rw [h2]
theorem Yeu (a:Nat):Ydk a []=a:=rfl
theorem Yhb (a:Nat) (c:UInt8) (l:List UInt8):Ydk a (c::l)=Ydk (2*a+(c.toNat-48)) l:=Yc5 a [c] l
section
attribute [local irreducible] Ydk
theorem Yf6 (a:Nat) (l:List UInt8):Ydk a l=a*2^l.length+num l:=by
 unfold num
 induction l generalizing a with
 | nil=> rw [Yeu,Yeu,List.length_nil];simp
 | cons c l ih=>
  rw [Yhb,Yhb,ih,ih (2*0+(c.toNat-48)),List.length_cons,Nat.pow_succ]
  generalize 2^l.length=x
  generalize Ydk 0 l=y
  generalize c.toNat-48=z
  rw [Nat.mul_zero,Nat.zero_add,Nat.add_mul,Nat.mul_comm 2 a,Nat.mul_assoc,Nat.mul_comm 2 x,Nat.add_assoc]
theorem Yrj (c:UInt8) (l:List UInt8):num (c::l)=(c.toNat-48)*2^l.length+num l:=by
 unfold num
 rw [Yhb,Yf6,Nat.mul_zero,Nat.zero_add]
 rfl
end
theorem Yhi:∀l:List UInt8,Yav l=true→Yau (num l) l.length=l
 | [],_=> rfl
 | c::l,h=> by
  obtain ⟨hc,hl⟩:=Yo3 h
  have hn:=Yrj c l
  have hlt:=Yh1 l hl
  show Ygp (num (c::l) / 2^l.length)::Yau (num (c::l)) l.length=c::l
  rw [hn,Nat.mul_comm,Nat.mul_add_div (Nat.two_pow_pos _),Nat.div_eq_of_lt hlt,Nat.add_zero,Y0o c hc]
  congr 1
  rw [Y57 _ (num l) l.length (by rw [Nat.mul_add_mod])]
  exact Yhi l hl
theorem Ypt (p:List UInt8) (hp:Yav p=true):∀n,8*n≤p.length→Yad (Yw5 p n)=p.take (8*n)
 | 0,_=> by simp [Yw5,Yad]
 | n+1,h=> by
  rw [Yw5,Yhk,Ypt p hp n (by omega),Y6p]
  have hr:Yav ((p.take (8*n+8)).drop (8*n))=true:=Ybb _ _ (Ybz _ _ hp)
  have hl:((p.take (8*n+8)).drop (8*n)).length=8:=by rw [List.length_drop,List.length_take];omega
  have hlt:=Yh1 _ hr
  rw [hl] at hlt
  rw [UInt8.toNat_ofNat',Nat.mod_eq_of_lt hlt]
  have e:=Yhi _ hr
  rw [hl] at e
  rw [e,show 8*(n+1)=8*n+8 by omega]
  have e2:=List.take_append_drop (8*n) (p.take (8*n+8))
  rw [List.take_take,show min (8*n) (8*n+8)=8*n by omega] at e2
  exact e2
theorem Y6r (l:List UInt8) (h:Yav l=true):Yad (Ym7 l)=Y7m l:=by
 unfold Ym7
 rw [Ypt _ (Y9u l h) _ (by omega),List.take_of_length_le]
 have:=Ym8 l
 omega
end Go.Proofs.YtgikochfffdpfaaGreatDoor
namespace Go.Proofs.YtgikochfffdpfaaGreatDoor
open Go.RowKit
def gap (n:Nat):Nat:=(8-n%8)%8
def Yl9 (a:Nat):List UInt8→Nat
 | []=> a
 | c::l=> Yl9 (256*a+c.toNat) l
def Y8b (l:List UInt8):Nat:=Yl9 0 l
theorem Ysv (a:Nat) (l m:List UInt8):Yl9 a (l++m)=Yl9 (Yl9 a l) m:=by
 induction l generalizing a with
 | nil=> rfl
 | cons c l ih=> exact ih _
theorem Y3k (l:List UInt8) (j:Nat) (h:j<l.length):Y8b (l.take (j+1))=256*Y8b (l.take j)+l[j].toNat:=by
 rw [List.take_succ_eq_append_getElem h]
 exact Ysv 0 _ _
theorem Y79 (l:List UInt8) (a:Nat):Yl9 a l<(a+1)*256^l.length:=by
 induction l generalizing a with
 | nil=> simp [Yl9]
 | cons c l ih=>
  have h1:=ih (256*a+c.toNat)
  have h2:=c.toNat_lt
  have h3:(256*a+c.toNat+1)*256^l.length≤((a+1)*256)*256^l.length:=Nat.mul_le_mul_right _ (by omega)
  rw [List.length_cons,Nat.pow_succ,Nat.mul_comm (256^l.length),←Nat.mul_assoc]
  exact Nat.lt_of_lt_of_le h1 h3
theorem Qcb (l:List UInt8) (k:Nat) (h:l.length≤k):Y8b l<256^k:=by
 have h1:=Y79 l 0
 have h2:256^l.length≤256^k:=Nat.pow_le_pow_right (by omega) h
 unfold Y8b
 omega
section
attribute [local irreducible] Ydk
theorem Yel (l m:List UInt8):num (l++m)=num l*2^m.length+num m:=by
 unfold num
 rw [Yc5,Yf6]
 rfl
theorem Yev (v n:Nat):num (Yau v n)=v%2^n:=by
 induction n with
 | zero=> simp [Yau,num,Yeu,Nat.mod_one]
 | succ n ih=>
  rw [Yau,Yrj,ih,Yam,Nat.mod_pow_succ]
  have:(Ygp (v / 2^n)).toNat-48=v / 2^n%2:=by
   generalize v / 2^n=y
   unfold Ygp
   rcases (by omega:y%2=0∨y%2=1) with h | h
   ·rw [if_pos h,h];rfl
   ·rw [if_neg (by omega),h];rfl
  rw [this,Nat.mul_comm,Nat.add_comm]
theorem Yh2 (c:UInt8) (l:List UInt8):Yad (c::l)=Yau c.toNat 8++Yad l:=by simp [Yad]
theorem Y6q (l:List UInt8) (a:Nat):Ydk a (Yad l)=Yl9 a l:=by
 induction l generalizing a with
 | nil=> rw [show Yad [] = [] from rfl,Yeu];rfl
 | cons c l ih=>
  rw [Yh2,Yc5,ih,Yf6,Yam,Yev,Nat.mod_eq_of_lt (by have:=c.toNat_lt;omega),Yl9,Nat.mul_comm]
end
theorem Qah (l:List UInt8):num (Yad l)=Y8b l:=Y6q l 0
theorem Yc7 (l:List UInt8):Yav (Yad l)=true:=by
 induction l with
 | nil=> rfl
 | cons c l ih=> rw [Yh2,Ybp,Yhh,ih];rfl
theorem Qc7 (A X C:List UInt8) (hx:Yav X=true) (hc:Yav C=true):num (A++X++C) / 2^C.length%2^X.length=num X:=by
 rw [Yel,Yel,Nat.add_comm,Nat.add_mul_div_right _ _ (Nat.two_pow_pos _),Nat.div_eq_of_lt (Yh1 C hc),Nat.zero_add,Nat.add_comm,Nat.add_mul_mod_self_right,Nat.mod_eq_of_lt (Yh1 X hx)]
theorem Yps (l:List UInt8) (f k:Nat) (h:f+k≤l.length):Yad ((l.drop f).take k)=((Yad l).drop (8*f)).take (8*k):=by
 have e:l=l.take f++((l.drop f).take k++(l.drop f).drop k):=by rw [List.take_append_drop,List.take_append_drop]
 have e2:Yad l=Yad (l.take f)++(Yad ((l.drop f).take k)++Yad ((l.drop f).drop k)):=by rw [←Yhk,←Yhk,←e]
 rw [e2,List.drop_left' (by rw [Yai,List.length_take,Nat.min_eq_left (by omega)]),List.take_left' (by rw [Yai,List.length_take,List.length_drop,Nat.min_eq_left (by omega)])]
def Ya2 (l:List UInt8) (p n:Nat):Nat:=num (((Yad l).drop p).take n)
theorem Ykx (l:List UInt8) (f k p n:Nat) (h1:8*f≤p) (h2:p+n≤8*(f+k)) (h3:f+k≤l.length):Y8b ((l.drop f).take k) / 2^(8*(f+k)-p-n)%2^n=Ya2 l p n:=by
 have hr:=Yc7 l
 have hl:=Yai l
 rw [←Qah,Yps l f k h3]
 unfold Ya2
 generalize Yad l=S at hr hl
 obtain ⟨T,hT⟩:∃T,(S.drop (8*f)).take (8*k)=T:=⟨_,rfl⟩
 have hTr:Yav T=true:=by rw [←hT];exact Ybz _ _ (Ybb _ _ hr)
 have hTl:T.length=8*k:=by rw [←hT,List.length_take,List.length_drop];omega
 have hX:(T.drop (p-8*f)).take n=(S.drop p).take n:=by
  rw [←hT,List.drop_take,List.take_take,List.drop_drop,show min n (8*k-(p-8*f))=n by omega,show 8*f+(p-8*f)=p by omega]
 have hXl:((T.drop (p-8*f)).take n).length=n:=by rw [List.length_take,List.length_drop];omega
 have hCl:((T.drop (p-8*f)).drop n).length=8*(f+k)-p-n:=by rw [List.length_drop,List.length_drop];omega
 have e:T=T.take (p-8*f)++(T.drop (p-8*f)).take n++(T.drop (p-8*f)).drop n:=by rw [List.append_assoc,List.take_append_drop,List.take_append_drop]
 have m:=Qc7 (T.take (p-8*f)) ((T.drop (p-8*f)).take n) ((T.drop (p-8*f)).drop n) (Ybz _ _ (Ybb _ _ hTr)) (Ybb _ _ (Ybb _ _ hTr))
 rw [←e,hXl,hCl,hX] at m
 rw [hT]
 exact m
theorem Yb6 (l:List UInt8) (p n:Nat):Ya2 l p n<2^n:=by
 have h:=Yh1 _ (Ybz _ n (Ybb _ p (Yc7 l)))
 have h2:2^(((Yad l).drop p).take n).length≤2^n:=Nat.pow_le_pow_right (by omega) (by rw [List.length_take];omega)
 exact Nat.lt_of_lt_of_le h h2
def ask (l:List UInt8) (p:Nat) (n:Int):Int×Int:=
 if n<0∨32<n then (0,1) else if 8*(l.length:Int)-p<n then (0,2) else (((Ya2 l p n.toNat:Nat):Int),0)
theorem Y3b {l:List UInt8} {p:Nat} {n:Int} (h:n<0∨32<n):ask l p n=(0,1):=if_pos h
theorem Ybg {l:List UInt8} {p:Nat} {n:Int} (h:0≤n∧n≤32) (h2:8*(l.length:Int)-p<n):ask l p n=(0,2):=by
 unfold ask;rw [if_neg (by omega),if_pos h2]
theorem Ycu {l:List UInt8} {p:Nat} {n:Int} (h:0≤n∧n≤32) (h2:n≤8*(l.length:Int)-p):ask l p n=(((Ya2 l p n.toNat:Nat):Int),0):=by
 unfold ask;rw [if_neg (by omega),if_neg (by omega)]
def Yg4 (l:List UInt8) (p:Nat):Int×Int:=if Ya2 l p (gap p)=0 then (((gap p:Nat):Int),0) else (0,5)
def Ycl (l:List UInt8) (p:Nat) (n:Int):Nat:=if (ask l p n).2=0 then p+n.toNat else p
def Yk5 (l:List UInt8) (p:Nat):Nat:=if Ya2 l p (gap p)=0 then p+gap p else p
theorem Y5i (k:Nat):num (List.replicate k 48)=0:=by
 have:=Ym1 [] k
 rw [List.nil_append] at this
 rw [this,show num []=0 from rfl,Nat.zero_mul]
def Seg (S:List UInt8) (p q:Nat) (r:List UInt8):Prop:=p≤q∧q≤S.length∧(S.drop p).take (q-p)=r
theorem Seg.nil {S:List UInt8} {p:Nat} (hp:p≤S.length):Seg S p p []:=⟨Nat.le_refl _,hp,by rw [Nat.sub_self];rfl⟩
theorem Seg.app {S:List UInt8} {p q t:Nat} {r s:List UInt8} (h:Seg S p q r) (k:Seg S q t s):Seg S p t (r++s):=by
 obtain ⟨h1,h2,h3⟩:=h
 obtain ⟨k1,k2,k3⟩:=k
 refine ⟨by omega,k2,?_⟩
 rw [show t-p=(q-p)+(t-q) by omega,List.take_add,h3,List.drop_drop,show p+(q-p)=q by omega,k3]
theorem Seg.of {S:List UInt8} {p n:Nat} {r:List UInt8} (hp:p≤S.length) (hn:n≤(S.drop p).length) (h:(S.drop p).take n=r):Seg S p (p+n) r:=by
 rw [List.length_drop] at hn
 exact ⟨by omega,by omega,by rw [Nat.add_sub_cancel_left,h]⟩
theorem Seg.len {S:List UInt8} {p q:Nat} {r:List UInt8} (h:Seg S p q r):q=p+r.length:=by
 obtain ⟨h1,h2,h3⟩:=h
 have:=congrArg List.length h3
 rw [List.length_take,List.length_drop] at this
 omega
theorem Yca {l:List UInt8} {p n:Nat} (h:p+n≤8*l.length):Seg (Yad l) p (p+n) (Yau (Ya2 l p n) n):=by
 have hs:=Yai l
 refine ⟨by omega,by omega,?_⟩
 rw [Nat.add_sub_cancel_left]
 have hr:Yav (((Yad l).drop p).take n)=true:=Ybz _ _ (Ybb _ _ (Yc7 l))
 have e:=Yhi _ hr
 rw [List.length_take,List.length_drop,show min n ((Yad l).length-p)=n by omega] at e
 exact e.symm
def Qd4 (k:Int):Int×Int×Int×Int:=
 if k=1 then (128,96,6,1) else if k=2 then (176,144,9,1) else if k=3 then (352,288,18,1) else if k=4 then (704,576,18,2) else if k=5 then (1408,1152,18,4) else if k=6 then (32,32,2,1) else (0,0,0,0)
def Y4q (k:Int):Int:=(Qd4 k).1
def Y88 (k:Int):Int:=(Qd4 k).2.1
def Yib (k:Int):Int:=(Qd4 k).2.2.1
def Yiy (k:Int):Int:=(Qd4 k).2.2.2
def Ygs (k:Int):Bool:=decide (1≤k∧k≤6)
theorem Ydj (k:Int):k=1∨k=2∨k=3∨k=4∨k=5∨k=6∨(Ygs k=false∧Qd4 k=(0,0,0,0)):=by
 by_cases h:1≤k∧k≤6
 ·omega
 ·refine .inr (.inr (.inr (.inr (.inr (.inr ⟨by simpa [Ygs] using h,?_⟩)))))
  unfold Qd4
  rw [if_neg (by omega),if_neg (by omega),if_neg (by omega),if_neg (by omega),if_neg (by omega),if_neg (by omega)]
theorem Yyc {k:Int} (h:Ygs k=false):(k==1)=false∧(k==2)=false∧(k==3)=false∧(k==4)=false∧(k==5)=false∧(k==6)=false:=by
 have h1:¬ (1≤k∧k≤6):=by simpa [Ygs] using h
 refine ⟨?_,?_,?_,?_,?_,?_⟩ <;> (simp;omega)
end Go.Proofs.YtgikochfffdpfaaGreatDoor