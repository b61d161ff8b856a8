/- Part 22 of StripsBack. No condition. -/
import Derived.Test.YtjjmalchelniiaaGreatDoorStripsBackMd
import Derived.Test.YtjjmalchelniiaaGreatDoorStripsBackMg
import Derived.Test.YtjjmalchelniiaaGreatDoorStripsBackMo
import Derived.Test.YtjjmalchelniiaaGreatDoorStripsBackMu
import Derived.WalkMore
import Derived.IntWalk
import Derived.WalkKit
import Derived.Lib.LaidTab
import Derived.MakeChecks
import Derived.Test.YtjjmalchelniiaaGreatDoorRows
namespace Go.Proofs.YtjjmalchelniiaaGreatDoor
open Go.RowKit Go.Lib
def Qir:List Nat:=[1,1,1,1,3,5,4,3,11,10,9,17,16,15,14,13,12,11,10,9,8,7,6,5,4,7,6,5,4,3,2,3,2]
def Qkf:List Nat:=[1,2,3,4,6,7,7,7,9,9,9,10,10,10,10,10,10,10,10,10,10,10,10,10,10,11,11,11,11,11,11,12,12]
def Ygi (i:Nat):Nat:=Qir[i]?.getD 0
def Ydt (i:Nat):Nat:=Qkf[i]?.getD 0
theorem Yc9:∀i,i<33→1≤Ydt i∧Ydt i≤12∧Ygi i<2^Ydt i∧Ygi i≤17:=by decide +kernel
def Yjd (i:Nat):List UInt8:=Yav (Ygi i) (Ydt i)
def Yfu (d:Int):Nat:=if d=0 then 1 else if 0<d then 2*Ygi d.toNat else 2*Ygi (-d).toNat+1
def Yh8 (d:Int):Nat:=if d=0 then 1 else if 0<d then Ydt d.toNat+1 else Ydt (-d).toNat+1
def Yb0 (d:Int):ByteArray:=if -32≤d∧d≤31 then ⟨(Yav (Yfu d) (Yh8 d)).toArray⟩ else ⟨#[]⟩
theorem Ylr {d:Int}(h:d < -32∨31<d):Yb0 d=⟨#[]⟩:=by
 unfold Yb0;rw[if_neg (by omega)]
theorem Yog {d:Int}(h:-32≤d∧d≤31):Yb0 d=⟨(Yav (Yfu d) (Yh8 d)).toArray⟩:=by
 unfold Yb0;rw[if_pos h]
theorem Yoh {d:Int}(h:-32≤d∧d≤31):1≤Yh8 d∧Yh8 d≤13∧Yfu d<2^Yh8 d∧Yfu d≤35:=by
 have e:∀i:Nat,i<64→1≤Yh8 ((i:Int)-32)∧Yh8 ((i:Int)-32)≤13∧Yfu ((i:Int)-32)<2^Yh8 ((i:Int)-32)∧Yfu ((i:Int)-32)≤35:=by decide +kernel
 have:=e (d+32).toNat (by omega);rwa [show (((d+32).toNat:Nat):Int)-32=d by omega] at this
theorem Yzx {d:Int}(h:-32≤d∧d≤31):(Yb0 d).data.toList.isEmpty=false:=by
 rw[Yog h];show (Yav (Yfu d) (Yh8 d)).isEmpty=false;have:=Yoh h;cases hl:Yav (Yfu d) (Yh8 d) with
 |nil=>
  have e:=Yan (Yfu d) (Yh8 d);rw[hl] at e;simp at e;omega
 |cons a l=>rfl
def Yem (w:World):Prop:=∀i,i<33→w.cell? ⟨2,i,none⟩=some (.int .i64 (Ygi i:Nat))∧w.cell? ⟨3,i,none⟩=some (.int .i64 (Ydt i:Nat))
theorem Yem.lt {w:World}(h:Yem w):2<w.heap.size∧3<w.heap.size:=
 ⟨World.block_lt_of_cell? w ⟨2,0,none⟩ (h 0 (by decide)).1,World.block_lt_of_cell? w ⟨3,0,none⟩ (h 0 (by decide)).2⟩
theorem Yem.below {w w':World}(h:Yem w)(hb:Below w.heap.size w w'):Yem w':=fun i hi=>
 ⟨(hb.cell (p:=⟨2,i,none⟩) h.lt.1).trans (h i hi).1,(hb.cell (p:=⟨3,i,none⟩) h.lt.2).trans (h i hi).2⟩
theorem Qky (y:Nat)(hy:y<4294967296):bits .or .i64 ((y:Int)*2) 1=((2*y+1:Nat):Int):=by
 have hor:=Nat.two_pow_add_eq_or_of_lt (i:=1) (b:=1) (by omega) y;have e1:((y:Int)*2)=((2*y:Nat):Int):=by omega
 rw[e1];show IntKind.i64.wrap ((BitVec.ofInt 64 ((2*y:Nat):Int) ||| BitVec.ofInt 64 ((1:Nat):Int)).toNat:Int)=_;rw[BitVec.ofInt_natCast,BitVec.ofInt_natCast,BitVec.toNat_or,BitVec.toNat_ofNat,BitVec.toNat_ofNat,Nat.mod_eq_of_lt (by omega),Nat.mod_eq_of_lt (by omega)];have e2:2*y ||| 1=2*y+1:=by
  have e:(2:Nat)^1=2:=rfl;rw[e] at hor;exact hor.symm
 rw[e2,IntKind.wrap_i64];omega
theorem Qbo {a b c d:Int}{k k':IntKind}(h:a=c)(h':b=d):Ending.returned (.tuple #[.int k a,.int k' b])=.returned (.tuple #[.int k c,.int k' d]):=by rw[h,h']
set_option maxHeartbeats 1000000 in
theorem Y4o (d:Int)(h:-32≤d∧d≤31)(w:World)(hp:Yem w):Calls Tryz.prog 203 #[.int .i64 d] w fun e w'=>e=.returned (.tuple #[.int .i64 (Yfu d:Nat),.int .i64 (Yh8 d:Nat)])∧Below w.heap.size w w':=by
 by_cases h0:d=0
 ·subst h0;have c0:w.cell? ⟨2,0,none⟩=some (.int .i64 1):=(hp 0 (by decide)).1;have c1:w.cell? ⟨3,0,none⟩=some (.int .i64 1):=(hp 0 (by decide)).2
  go_enter Tryz.func203,Tryz.ntmps203
  go_wp2
  go_region
  go_wp2
  go_ret2
  exact⟨rfl,(Below.refl _ w).drew⟩
 by_cases h1:0<d
 ·have F1:=Lib.hid (show Yfu d=2*Ygi d.toNat by unfold Yfu;rw[if_neg h0,if_pos h1]);have F2:=Lib.hid (show Yh8 d=Ydt d.toNat+1 by unfold Yh8;rw[if_neg h0,if_pos h1]);rw[F1.out,F2.out];obtain⟨a,ha⟩:∃a:Nat,d=a:=⟨d.toNat,by omega⟩;subst ha;rw[Int.toNat_natCast];have ha33:a<33:=by omega
  obtain⟨c0,c1⟩:=hp a ha33;obtain⟨b0,b1,_,b3⟩:=Yc9 a ha33;have t0:0<a:=by omega
  generalize Ygi a=x at c0 b3 ⊢;generalize Ydt a=y at c1 b0 b1 ⊢;clear F1 F2 h0 h1
  go_enter Tryz.func203,Tryz.ntmps203
  go_wp2
  go_region
  go_wp2
  go_ret2
  exact⟨Qbo (by omega) (by omega),(Below.refl _ w).drew⟩
 ·have F1:=Lib.hid (show Yfu d=2*Ygi (-d).toNat+1 by unfold Yfu;rw[if_neg h0,if_neg h1]);have F2:=Lib.hid (show Yh8 d=Ydt (-d).toNat+1 by unfold Yh8;rw[if_neg h0,if_neg h1]);rw[F1.out,F2.out];obtain⟨a,ha⟩:∃a:Nat,(-d).toNat=a:=⟨_,rfl⟩;have t2:-d=(a:Int):=by omega
  rw[ha];have ha33:a<33:=by omega
  obtain⟨c0,c1⟩:=hp a ha33;obtain⟨b0,b1,_,b3⟩:=Yc9 a ha33;have t0:decide (0<d)=false:=by simpa using h1
  have t1:decide (d<0)=true:=by simp;omega
  generalize Ygi a=x at c0 b3 ⊢;generalize Ydt a=y at c1 b0 b1 ⊢;have O:=Lib.hid (Qky x (by omega));clear F1 F2 h0 h1 ha
  go_enter Tryz.func203,Tryz.ntmps203
  go_wp2
  go_region
  go_wp2
  go_ret2
  exact⟨Qbo O.out (by omega),(Below.refl _ w).drew⟩
theorem Y9j (d:Int)(w:World)(hp:Yem w):Calls Tryz.prog 188 #[.int .i64 d] w fun e w'=>e=.returned (.tuple #[.string (Yb0 d),.bool (!(Yb0 d).data.toList.isEmpty)])∧Below w.heap.size w w':=by
 by_cases h0:d < -32
 ·have F:=Lib.hid (Ylr (d:=d) (.inl h0));have t0:decide (d < -32)=true:=by simpa using h0
  clear h0;rw[F.out]
  go_enter Tryz.func188,Tryz.ntmps188
  go_wp2
  go_ret2
  exact⟨rfl,Below.refl _ _⟩
 by_cases h1:31<d
 ·have F:=Lib.hid (Ylr (d:=d) (.inr h1));have t0:decide (d < -32)=false:=by simpa using h0
  have t1:decide (31<d)=true:=by simpa using h1
  clear h0 h1;rw[F.out]
  go_enter Tryz.func188,Tryz.ntmps188
  go_wp2
  go_ret2
  exact⟨rfl,Below.refl _ _⟩
 have hr:-32≤d∧d≤31:=by omega
 have t0:decide (d < -32)=false:=by simpa using h0
 have t1:decide (31<d)=false:=by simpa using h1
 have hcon:=fun x hx=>Y4o d hr x hx;obtain⟨b0,b1,b2,b3⟩:=Yoh hr;have G:=Lib.hid (show (!(Yb0 d).data.toList.isEmpty)=true by rw[Yzx hr];rfl);have F:=Lib.hid (Yog hr);rw[G.out,F.out];generalize Yfu d=x at hcon b2 b3 ⊢;generalize Yh8 d=y at hcon b0 b1 b2 ⊢;have hrow:=fun w=>Yk0 (x:Int) (y:Int) w (by omega) (by
  unfold Ydm;rw[decide_eq_true_iff];refine⟨by omega,by omega,by omega,?_⟩;rw[Int.toNat_natCast]
  exact_mod_cast b2)
 simp only[Int.toNat_natCast] at hrow;clear h0 h1 F G b2
 go_enter Tryz.func188,Tryz.ntmps188
 go_wp2_with fail
 refine(hcon _ hp).mono ?_;rintro e w1 ⟨rfl,hb1⟩;have hz1:=hb1.size
 go_wp2_with fail
 refine(hrow _).mono ?_;rintro e w2 ⟨rfl,hb⟩
 go_wp2
 go_ret2
 exact⟨rfl,hb1.trans (hb.mono hz1)⟩
end Go.Proofs.YtjjmalchelniiaaGreatDoor
namespace Go.Proofs.YtjjmalchelniiaaGreatDoor
def Ym2 (i:Nat):ByteArray×Int:=(Yb0 ((i:Int)-32),(i:Int)-32)
def allD:List (ByteArray×Int):=(List.range 64).map Ym2
def rowsD:List (List UInt8):=allD.map Ya2
def dtk (b:List UInt8):Int×Int×Nat:=gtk allD b
theorem Ynz:Yhp rowsD:=by unfold Yhp;decide +kernel
theorem Qia:∀x∈allD,Yck (Ya2 x)=true:=by decide +kernel
theorem Ykj {i:Nat}(h:i<64):Ym2 i∈allD:=List.mem_map_of_mem (List.mem_range.2 h)
theorem Yn9 {i:Nat}(h:i<64):Ya2 (Ym2 i)∈rowsD:=List.mem_map_of_mem (Ykj h)
theorem Yeq (i:Nat):(Yjd i).length=Ydt i:=Yan _ _
theorem Qdt:∀i,i<33→∀j,j<33→i≠j→(Yjd i).isPrefixOf (Yjd j)=false:=by decide +kernel
theorem Qbs:∀r∈rowsD,r=Yjd 0∨∃i∈List.range 33,r.dropLast=Yjd i∧1<r.length:=by decide +kernel
theorem Y1t:Yjd 0=Ya2 (Ym2 32):=by decide +kernel
theorem Qkk:∀i,i<32→0<i→Yjd i++[48]=Ya2 (Ym2 (32+i)):=by decide +kernel
theorem Ynd:∀i,i<33→0<i→Yjd i++[49]=Ya2 (Ym2 (32-i)):=by decide +kernel
theorem Qdu:∀r∈rowsD,(Yjd 32++[48]).isPrefixOf r=false:=by decide +kernel
theorem Yll {i:Nat}(h:i<33):∃r∈rowsD,(Yjd i).isPrefixOf r=true:=by
 by_cases h0:i=0
 ·subst h0;exact⟨_,Yn9 (i:=32) (by decide),by rw[Y1t,Yd1]⟩
 ·refine⟨_,Yn9 (i:=32-i) (by omega),?_⟩;rw[←Ynd i h (by omega),List.isPrefixOf_iff_prefix];exact List.prefix_append _ _
theorem Qid {i j:Nat}(hi:i<33)(hj:j<33)(h:(Yjd i).isPrefixOf (Yjd j)=true):i=j:=by
 by_cases e:i=j
 ·exact e
 ·rw[Qdt i hi j hj e] at h;cases h
theorem Y74 {i:Nat}(hi:i<33)(h0:i≠0):Yjd i∉rowsD:=by
 intro h;have e:=Yjt Ynz h (Yn9 (i:=32-i) (by omega)) (by rw[←Ynd i hi (by omega),List.isPrefixOf_iff_prefix];exact List.prefix_append _ _);rw[←Ynd i hi (by omega)] at e;have:=congrArg List.length e;rw[List.length_append,List.length_singleton] at this;omega
def Yw9 (q:List UInt8):Prop:=∀i,i<33→(Yjd i).isPrefixOf q=false
theorem Qft:Yw9 []:=by unfold Yw9;decide +kernel
theorem Qgi {b r:List UInt8}{n:Nat}(hn:n+1≤b.length)(hno:Yw9 (b.take n))(hr:r∈rowsD)(hp:(b.take (n+1)).isPrefixOf r=true):∃i,i<33∧(b.take (n+1)).isPrefixOf (Yjd i)=true:=by
 have hl:(b.take (n+1)).length=n+1:=by rw[List.length_take];omega
 rcases Qbs r hr with rfl|⟨i,hi,hd,h1⟩
 ·exact⟨0,by decide,hp⟩
 ·rw[List.mem_range] at hi;refine⟨i,hi,?_⟩;by_cases hlt:(b.take (n+1)).length<r.length
  ·rw[←hd];exact Qf8 hp hlt
  ·exfalso;have hle:=Yb5 hp;have e:b.take (n+1)=r:=by
    have:=Yb6.1 hp;rw[List.take_of_length_le (by omega)] at this;exact this.symm
   have h2:(Yjd i).isPrefixOf (b.take n)=true:=by
    rw[←hd,←e,List.dropLast_eq_take,List.take_take,hl,show min (n+1-1) (n+1)=n by omega,Yd1]
   rw[hno i hi] at h2;cases h2
theorem Qey {b:List UInt8}{k n:Nat}(hn:n+1≤b.length)(hno:Yw9 (b.take n))(h:∀i,i<33→(b.take (n+1)).isPrefixOf (Yjd i)=false):tk rowsD b (k+1) (n+1)=(3,0):=by
 refine Qcz hn fun r hr=>?_;cases hp:(b.take (n+1)).isPrefixOf r with
 |false=>rfl
 |true=>
  obtain⟨i,hi,h2⟩:=Qgi hn hno hr hp;rw[h i hi] at h2;cases h2
theorem Qex {b:List UInt8}{k n i:Nat}(hn:n+1≤b.length)(hno:Yw9 (b.take n))(hi:i<33)(h:(b.take (n+1)).isPrefixOf (Yjd i)=true)(hne:Ydt i≠n+1):
  tk rowsD b (k+1) (n+1)=tk rowsD b k (n+2)∧Yw9 (b.take (n+1)):=by
 have hl:(b.take (n+1)).length=n+1:=by rw[List.length_take];omega
 have hlt:=Yb5 h;rw[hl,Yeq] at hlt;have hnone:Yw9 (b.take (n+1)):=by
  intro j hj;cases hp:(Yjd j).isPrefixOf (b.take (n+1)) with
  |false=>rfl
  |true=>
   have e:=Qid hj hi (Yf0 hp h);subst e;have:=Yb5 hp;rw[hl,Yeq] at this;omega
 refine⟨?_,hnone⟩;obtain⟨r,hr,hp⟩:=Yll hi;refine Yu1 hn (fun hm=>?_) hr (Yf0 h hp);rcases Qbs _ hm with e|⟨j,hj,hd,_⟩
 ·have:=hnone 0 (by decide);rw[e,Yd1] at this;cases this
 ·have:=hno j (List.mem_range.1 hj);rw[←hd,List.dropLast_eq_take,List.take_take,hl,show min (n+1-1) (n+1)=n by omega,Yd1] at this;cases this
theorem Qdv {b:List UInt8}{i n:Nat}(hn:n≤b.length)(h:(b.take n).isPrefixOf (Yjd i)=true)(he:Ydt i=n):b.take n=Yjd i:=by
 have:=Yb6.1 h;rw[List.take_of_length_le (by rw[Yeq,List.length_take];omega)] at this;exact this.symm
theorem Qe0 {b:List UInt8}(hb:b.take (Ydt 0)=Yjd 0):dtk b=(0,0,1):=by
 have hp:(Yjd 0).isPrefixOf b=true:=by rw[←hb];exact Yhe _ _
 rw[Y1t] at hp;have:=Yor Ynz (Ykj (i:=32) (by decide)) (by decide +kernel) (by decide +kernel) hp;rw[show (Ya2 (Ym2 32)).length=1 by decide +kernel] at this;exact this
theorem Yto {b:List UInt8}{i n:Nat}(hi:i<33)(h0:i≠0)(he:Ydt i=n)(hn:n≤b.length)(hb:b.take n=Yjd i)(ht:tk rowsD b 25 1=tk rowsD b (26-n) n)(hs:b.length<n+1):dtk b=(0,2,0):=by
 have h12:=(Yc9 i hi).2.1;obtain⟨r,hr,hp⟩:=Yll hi;refine Yjx (n:=0) (ht.trans ?_) (by decide);rw[show 26-n=(24-n)+1+1 by omega,Yu1 hn (by rw[hb];exact Y74 hi h0) hr (by rw[hb];exact hp)];exact Yu2 hs
theorem Yta {b:List UInt8}{i n:Nat}(hn:n<b.length)(hb:b.take n=Yjd i){c:UInt8}(hc:b[n]=c):b.take (n+1)=Yjd i++[c]:=by
 rw[List.take_succ_eq_append_getElem hn,hb,hc]
theorem Ywb {b:List UInt8}{n:Nat}(he:Ydt 32=n)(hn:n<b.length)(hb:b.take n=Yjd 32)(hc:b[n]=48)(ht:tk rowsD b 25 1=tk rowsD b (26-n) n):dtk b=(0,3,0):=by
 have h12:n≤12:=by rw[←he];exact(Yc9 32 (by decide)).2.1
 obtain⟨r,hr,hp⟩:=Yll (i:=32) (by decide);refine Yjx (n:=0) (ht.trans ?_) (by decide);rw[show 26-n=(24-n)+1+1 by omega,Yu1 (by omega) (by rw[hb];exact Y74 (by decide) (by decide)) hr (by rw[hb];exact hp)];refine Qcz (by omega) fun r hr=>?_;rw[Yta hn hb hc];exact Qdu r hr
theorem Yz0 {b:List UInt8}{j:Nat}(hj:j<64)(hp:(Ya2 (Ym2 j)).isPrefixOf b=true):dtk b=((j:Int)-32,0,(Ya2 (Ym2 j)).length):=by
 obtain⟨h1,h2,_⟩:=Yb2 (Qia _ (Ykj hj));exact Yor Ynz (Ykj hj) (by have:=List.length_pos_iff.2 h1;omega) h2 hp
theorem Y4y {b:List UInt8}{i n:Nat}(hi:i<32)(h0:0<i)(he:Ydt i=n)(hn:n<b.length)(hb:b.take n=Yjd i)(hc:b[n]=48):dtk b=((i:Int),0,n+1):=by
 have e:=Qkk i hi h0;have hp:(Ya2 (Ym2 (32+i))).isPrefixOf b=true:=by rw[←e,←Yta hn hb hc];exact Yhe _ _
 rw[Yz0 (by omega) hp,←e,List.length_append,Yeq,he,show ((32+i:Nat):Int)-32=i by omega]
 rfl
theorem Ywa {b:List UInt8}{i n:Nat}(hi:i<33)(h0:0<i)(he:Ydt i=n)(hn:n<b.length)(hb:b.take n=Yjd i)(hc:b[n]=49):dtk b=(-(i:Int),0,n+1):=by
 have e:=Ynd i hi h0;have hp:(Ya2 (Ym2 (32-i))).isPrefixOf b=true:=by rw[←e,←Yta hn hb hc];exact Yhe _ _
 rw[Yz0 (by omega) hp,←e,List.length_append,Yeq,he,show ((32-i:Nat):Int)-32 = -(i:Int) by omega]
 rfl
end Go.Proofs.YtjjmalchelniiaaGreatDoor
namespace Go.Proofs.YtjjmalchelniiaaGreatDoor
open Go.RowKit Go.Lib
theorem Y2t:(Rows.laid_overspill_mvd_codes:DataW Unit)=tabData .i64 (Qir.map fun z:Nat=>(z:Int))∧(Rows.laid_overspill_mvd_lengths:DataW Unit)=tabData .i64 (Qkf.map fun z:Nat=>(z:Int)):=⟨by kernel_rfl,by kernel_rfl⟩
theorem Qkv (l:List Nat)(i:Nat)(h:i<(l.map fun z:Nat=>(z:Int)).length):(l.map fun z:Nat=>(z:Int))[i]=((l[i]?.getD 0:Nat):Int):=by
 have h2:i<l.length:=by simpa using h
 rw[List.getElem_map,List.getElem?_eq_getElem h2]
 rfl
theorem Qfr {laid : List (String × DataW Unit)} {W : World} (hL : laidMetH Tryz.prog laid W) (hm : (("overspill/mvd.codes", Rows.laid_overspill_mvd_codes) ∈ laid ∧ ("overspill/mvd.lengths", Rows.laid_overspill_mvd_lengths) ∈ laid) ∧ (laid.all fun x => x.2.handleName?.isNone) = true) : Yem W := by
 rw[MakeChecks.laidMetH_plain _ _ _ hm.2] at hL;obtain⟨ps,hv,_,_⟩:=hL;obtain⟨h1,h2⟩:=hm.1;rw[Y2t.1] at h1;rw[Y2t.2] at h2;have hlc:(Qir.map fun z:Nat=>(z:Int)).length=33:=rfl;have hll:(Qkf.map fun z:Nat=>(z:Int)).length=33:=rfl;intro i hi;have g1:=Yw0 hv h1 (g:=2) (t:=248) (by kernel_rfl) (by kernel_rfl) Tryz.underlying248 Tryz.underlying3 (by kernel_rfl) (by kernel_rfl) i (by rw[hlc];exact hi)
 have g2:=Yw0 hv h2 (g:=3) (t:=248) (by kernel_rfl) (by kernel_rfl) Tryz.underlying248 Tryz.underlying3 (by kernel_rfl) (by kernel_rfl) i (by rw[hll];exact hi);rw[Qkv] at g1 g2;exact⟨g1,g2⟩
end Go.Proofs.YtjjmalchelniiaaGreatDoor