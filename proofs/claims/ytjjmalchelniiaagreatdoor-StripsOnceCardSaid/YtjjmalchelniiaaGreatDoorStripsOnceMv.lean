/- Part 22 of StripsOnce. No condition. -/
import Derived.Test.YtjjmalchelniiaaGreatDoorStripsOnceMd
import Derived.Test.YtjjmalchelniiaaGreatDoorStripsOnceMg
import Derived.Test.YtjjmalchelniiaaGreatDoorStripsOnceMo
import Derived.Test.YtjjmalchelniiaaGreatDoorStripsOnceMu
import Derived.WalkMore
import Derived.IntWalk
import Derived.WalkKit
import Derived.Lib.LaidTab
import Derived.MakeChecks
import Derived.Test.YtjjmalchelniiaaGreatDoorRows
namespace Go.Proofs.YtjjmalchelniiaaGreatDoor
open Go.RowKit Go.Lib
def Qhi:List Nat:=[1,1,1,1,3,5,4,3,11,10,9,17,16,15,14,13,12,11,10,9,8,7,6,5,4,7,6,5,4,3,2,3,2]
def Qi4:List Nat:=[1,2,3,4,6,7,7,7,9,9,9,10,10,10,10,10,10,10,10,10,10,10,10,10,10,11,11,11,11,11,11,12,12]
def Yf9 (i:Nat):Nat:=Qhi[i]?.getD 0
def Ydo (i:Nat):Nat:=Qi4[i]?.getD 0
theorem Yc7:∀i,i<33→1≤Ydo i∧Ydo i≤12∧Yf9 i<2^Ydo i∧Yf9 i≤17:=by decide +kernel
def Yi4 (i:Nat):List UInt8:=Yav (Yf9 i) (Ydo i)
def Yfl (d:Int):Nat:=if d=0 then 1 else if 0<d then 2*Yf9 d.toNat else 2*Yf9 (-d).toNat+1
def Yh0 (d:Int):Nat:=if d=0 then 1 else if 0<d then Ydo d.toNat+1 else Ydo (-d).toNat+1
def Ybz (d:Int):ByteArray:=if -32≤d∧d≤31 then ⟨(Yav (Yfl d) (Yh0 d)).toArray⟩ else ⟨#[]⟩
theorem Yli {d:Int}(h:d < -32∨31<d):Ybz d=⟨#[]⟩:=by
 unfold Ybz;rw[if_neg (by omega)]
theorem Yn9 {d:Int}(h:-32≤d∧d≤31):Ybz d=⟨(Yav (Yfl d) (Yh0 d)).toArray⟩:=by
 unfold Ybz;rw[if_pos h]
theorem Yoa {d:Int}(h:-32≤d∧d≤31):1≤Yh0 d∧Yh0 d≤13∧Yfl d<2^Yh0 d∧Yfl d≤35:=by
 have e:∀i:Nat,i<64→1≤Yh0 ((i:Int)-32)∧Yh0 ((i:Int)-32)≤13∧Yfl ((i:Int)-32)<2^Yh0 ((i:Int)-32)∧Yfl ((i:Int)-32)≤35:=by decide +kernel
 have:=e (d+32).toNat (by omega);rwa [show (((d+32).toNat:Nat):Int)-32=d by omega] at this
theorem Yzc {d:Int}(h:-32≤d∧d≤31):(Ybz d).data.toList.isEmpty=false:=by
 rw[Yn9 h];show (Yav (Yfl d) (Yh0 d)).isEmpty=false;have:=Yoa h;cases hl:Yav (Yfl d) (Yh0 d) with
 |nil=>
  have e:=Yal (Yfl d) (Yh0 d);rw[hl] at e;simp at e;omega
 |cons a l=>rfl
def Yeg (w:World):Prop:=∀i,i<33→w.cell? ⟨2,i,none⟩=some (.int .i64 (Yf9 i:Nat))∧w.cell? ⟨3,i,none⟩=some (.int .i64 (Ydo i:Nat))
theorem Yeg.lt {w:World}(h:Yeg w):2<w.heap.size∧3<w.heap.size:=
 ⟨World.block_lt_of_cell? w ⟨2,0,none⟩ (h 0 (by decide)).1,World.block_lt_of_cell? w ⟨3,0,none⟩ (h 0 (by decide)).2⟩
theorem Yeg.below {w w':World}(h:Yeg w)(hb:Below w.heap.size w w'):Yeg w':=fun i hi=>
 ⟨(hb.cell (p:=⟨2,i,none⟩) h.lt.1).trans (h i hi).1,(hb.cell (p:=⟨3,i,none⟩) h.lt.2).trans (h i hi).2⟩
theorem Qjm (y:Nat)(hy:y<4294967296):bits .or .i64 ((y:Int)*2) 1=((2*y+1:Nat):Int):=by
 have hor:=Nat.two_pow_add_eq_or_of_lt (i:=1) (b:=1) (by omega) y;have e1:((y:Int)*2)=((2*y:Nat):Int):=by omega
 rw[e1];show IntKind.i64.wrap ((BitVec.ofInt 64 ((2*y:Nat):Int) ||| BitVec.ofInt 64 ((1:Nat):Int)).toNat:Int)=_;rw[BitVec.ofInt_natCast,BitVec.ofInt_natCast,BitVec.toNat_or,BitVec.toNat_ofNat,BitVec.toNat_ofNat,Nat.mod_eq_of_lt (by omega),Nat.mod_eq_of_lt (by omega)];have e2:2*y ||| 1=2*y+1:=by
  have e:(2:Nat)^1=2:=rfl;rw[e] at hor;exact hor.symm
 rw[e2,IntKind.wrap_i64];omega
theorem Qad {a b c d:Int}{k k':IntKind}(h:a=c)(h':b=d):Ending.returned (.tuple #[.int k a,.int k' b])=.returned (.tuple #[.int k c,.int k' d]):=by rw[h,h']
set_option maxHeartbeats 1000000 in
theorem Y3v (d:Int)(h:-32≤d∧d≤31)(w:World)(hp:Yeg w):Calls Tryz.prog 203 #[.int .i64 d] w fun e w'=>e=.returned (.tuple #[.int .i64 (Yfl d:Nat),.int .i64 (Yh0 d:Nat)])∧Below w.heap.size w w':=by
 by_cases h0:d=0
 ·subst h0;have c0:w.cell? ⟨2,0,none⟩=some (.int .i64 1):=(hp 0 (by decide)).1;have c1:w.cell? ⟨3,0,none⟩=some (.int .i64 1):=(hp 0 (by decide)).2
  go_enter Tryz.func203,Tryz.ntmps203
  go_wp2
  go_region
  go_wp2
  go_ret2
  exact⟨rfl,(Below.refl _ w).drew⟩
 by_cases h1:0<d
 ·have F1:=Lib.hid (show Yfl d=2*Yf9 d.toNat by unfold Yfl;rw[if_neg h0,if_pos h1]);have F2:=Lib.hid (show Yh0 d=Ydo d.toNat+1 by unfold Yh0;rw[if_neg h0,if_pos h1]);rw[F1.out,F2.out];obtain⟨a,ha⟩:∃a:Nat,d=a:=⟨d.toNat,by omega⟩;subst ha;rw[Int.toNat_natCast];have ha33:a<33:=by omega
  obtain⟨c0,c1⟩:=hp a ha33;obtain⟨b0,b1,_,b3⟩:=Yc7 a ha33;have t0:0<a:=by omega
  generalize Yf9 a=x at c0 b3 ⊢;generalize Ydo a=y at c1 b0 b1 ⊢;clear F1 F2 h0 h1
  go_enter Tryz.func203,Tryz.ntmps203
  go_wp2
  go_region
  go_wp2
  go_ret2
  exact⟨Qad (by omega) (by omega),(Below.refl _ w).drew⟩
 ·have F1:=Lib.hid (show Yfl d=2*Yf9 (-d).toNat+1 by unfold Yfl;rw[if_neg h0,if_neg h1]);have F2:=Lib.hid (show Yh0 d=Ydo (-d).toNat+1 by unfold Yh0;rw[if_neg h0,if_neg h1]);rw[F1.out,F2.out];obtain⟨a,ha⟩:∃a:Nat,(-d).toNat=a:=⟨_,rfl⟩;have t2:-d=(a:Int):=by omega
  rw[ha];have ha33:a<33:=by omega
  obtain⟨c0,c1⟩:=hp a ha33;obtain⟨b0,b1,_,b3⟩:=Yc7 a ha33;have t0:decide (0<d)=false:=by simpa using h1
  have t1:decide (d<0)=true:=by simp;omega
  generalize Yf9 a=x at c0 b3 ⊢;generalize Ydo a=y at c1 b0 b1 ⊢;have O:=Lib.hid (Qjm x (by omega));clear F1 F2 h0 h1 ha
  go_enter Tryz.func203,Tryz.ntmps203
  go_wp2
  go_region
  go_wp2
  go_ret2
  exact⟨Qad O.out (by omega),(Below.refl _ w).drew⟩
theorem Y8f (d:Int)(w:World)(hp:Yeg w):Calls Tryz.prog 188 #[.int .i64 d] w fun e w'=>e=.returned (.tuple #[.string (Ybz d),.bool (!(Ybz d).data.toList.isEmpty)])∧Below w.heap.size w w':=by
 by_cases h0:d < -32
 ·have F:=Lib.hid (Yli (d:=d) (.inl h0));have t0:decide (d < -32)=true:=by simpa using h0
  clear h0;rw[F.out]
  go_enter Tryz.func188,Tryz.ntmps188
  go_wp2
  go_ret2
  exact⟨rfl,Below.refl _ _⟩
 by_cases h1:31<d
 ·have F:=Lib.hid (Yli (d:=d) (.inr h1));have t0:decide (d < -32)=false:=by simpa using h0
  have t1:decide (31<d)=true:=by simpa using h1
  clear h0 h1;rw[F.out]
  go_enter Tryz.func188,Tryz.ntmps188
  go_wp2
  go_ret2
  exact⟨rfl,Below.refl _ _⟩
 have hr:-32≤d∧d≤31:=by omega
 have t0:decide (d < -32)=false:=by simpa using h0
 have t1:decide (31<d)=false:=by simpa using h1
 have hcon:=fun x hx=>Y3v d hr x hx;obtain⟨b0,b1,b2,b3⟩:=Yoa hr;have G:=Lib.hid (show (!(Ybz d).data.toList.isEmpty)=true by rw[Yzc hr];rfl);have F:=Lib.hid (Yn9 hr);rw[G.out,F.out];generalize Yfl d=x at hcon b2 b3 ⊢;generalize Yh0 d=y at hcon b0 b1 b2 ⊢;have hrow:=fun w=>Yks (x:Int) (y:Int) w (by omega) (by
  unfold Ydh;rw[decide_eq_true_iff];refine⟨by omega,by omega,by omega,?_⟩;rw[Int.toNat_natCast]
  exact_mod_cast b2)
 simp only[Int.toNat_natCast] at hrow;clear h0 h1 F G b2
 go_enter Tryz.func188,Tryz.ntmps188
 go_wp2_with fail
 refine(hcon _ hp).mono ?_;rintro e w1 ⟨rfl,hb1⟩;have hz1:=hb1.size
 go_wp2_with fail
 refine(hrow _).mono ?_;rintro e w2 ⟨rfl,hb⟩
 go_wp2
 go_ret2
 exact⟨rfl,hb1.trans (hb.mono hz1)⟩
end Go.Proofs.YtjjmalchelniiaaGreatDoor
namespace Go.Proofs.YtjjmalchelniiaaGreatDoor
def Ymv (i:Nat):ByteArray×Int:=(Ybz ((i:Int)-32),(i:Int)-32)
def allD:List (ByteArray×Int):=(List.range 64).map Ymv
def rowsD:List (List UInt8):=allD.map Ya1
def dtk (b:List UInt8):Int×Int×Nat:=gtk allD b
theorem Yns:Yhh rowsD:=by unfold Yhh;decide +kernel
theorem Qg1:∀x∈allD,Yck (Ya1 x)=true:=by decide +kernel
theorem Yka {i:Nat}(h:i<64):Ymv i∈allD:=List.mem_map_of_mem (List.mem_range.2 h)
theorem Yn2 {i:Nat}(h:i<64):Ya1 (Ymv i)∈rowsD:=List.mem_map_of_mem (Yka h)
theorem Yel (i:Nat):(Yi4 i).length=Ydo i:=Yal _ _
theorem Qch:∀i,i<33→∀j,j<33→i≠j→(Yi4 i).isPrefixOf (Yi4 j)=false:=by decide +kernel
theorem Qah:∀r∈rowsD,r=Yi4 0∨∃i∈List.range 33,r.dropLast=Yi4 i∧1<r.length:=by decide +kernel
theorem Y01:Yi4 0=Ya1 (Ymv 32):=by decide +kernel
theorem Qi8:∀i,i<32→0<i→Yi4 i++[48]=Ya1 (Ymv (32+i)):=by decide +kernel
theorem Ym6:∀i,i<33→0<i→Yi4 i++[49]=Ya1 (Ymv (32-i)):=by decide +kernel
theorem Qci:∀r∈rowsD,(Yi4 32++[48]).isPrefixOf r=false:=by decide +kernel
theorem Ylc {i:Nat}(h:i<33):∃r∈rowsD,(Yi4 i).isPrefixOf r=true:=by
 by_cases h0:i=0
 ·subst h0;exact⟨_,Yn2 (i:=32) (by decide),by rw[Y01,Ydv]⟩
 ·refine⟨_,Yn2 (i:=32-i) (by omega),?_⟩;rw[←Ym6 i h (by omega),List.isPrefixOf_iff_prefix];exact List.prefix_append _ _
theorem Qg4 {i j:Nat}(hi:i<33)(hj:j<33)(h:(Yi4 i).isPrefixOf (Yi4 j)=true):i=j:=by
 by_cases e:i=j
 ·exact e
 ·rw[Qch i hi j hj e] at h;cases h
theorem Y62 {i:Nat}(hi:i<33)(h0:i≠0):Yi4 i∉rowsD:=by
 intro h;have e:=Yjl Yns h (Yn2 (i:=32-i) (by omega)) (by rw[←Ym6 i hi (by omega),List.isPrefixOf_iff_prefix];exact List.prefix_append _ _);rw[←Ym6 i hi (by omega)] at e;have:=congrArg List.length e;rw[List.length_append,List.length_singleton] at this;omega
def Yww (q:List UInt8):Prop:=∀i,i<33→(Yi4 i).isPrefixOf q=false
theorem Qeh:Yww []:=by unfold Yww;decide +kernel
theorem Qe6 {b r:List UInt8}{n:Nat}(hn:n+1≤b.length)(hno:Yww (b.take n))(hr:r∈rowsD)(hp:(b.take (n+1)).isPrefixOf r=true):∃i,i<33∧(b.take (n+1)).isPrefixOf (Yi4 i)=true:=by
 have hl:(b.take (n+1)).length=n+1:=by rw[List.length_take];omega
 rcases Qah r hr with rfl|⟨i,hi,hd,h1⟩
 ·exact⟨0,by decide,hp⟩
 ·rw[List.mem_range] at hi;refine⟨i,hi,?_⟩;by_cases hlt:(b.take (n+1)).length<r.length
  ·rw[←hd];exact Qew hp hlt
  ·exfalso;have hle:=Yb4 hp;have e:b.take (n+1)=r:=by
    have:=Yb5.1 hp;rw[List.take_of_length_le (by omega)] at this;exact this.symm
   have h2:(Yi4 i).isPrefixOf (b.take n)=true:=by
    rw[←hd,←e,List.dropLast_eq_take,List.take_take,hl,show min (n+1-1) (n+1)=n by omega,Ydv]
   rw[hno i hi] at h2;cases h2
theorem Qdn {b:List UInt8}{k n:Nat}(hn:n+1≤b.length)(hno:Yww (b.take n))(h:∀i,i<33→(b.take (n+1)).isPrefixOf (Yi4 i)=false):tk rowsD b (k+1) (n+1)=(3,0):=by
 refine Qbn hn fun r hr=>?_;cases hp:(b.take (n+1)).isPrefixOf r with
 |false=>rfl
 |true=>
  obtain⟨i,hi,h2⟩:=Qe6 hn hno hr hp;rw[h i hi] at h2;cases h2
theorem Qdm {b:List UInt8}{k n i:Nat}(hn:n+1≤b.length)(hno:Yww (b.take n))(hi:i<33)(h:(b.take (n+1)).isPrefixOf (Yi4 i)=true)(hne:Ydo i≠n+1):
  tk rowsD b (k+1) (n+1)=tk rowsD b k (n+2)∧Yww (b.take (n+1)):=by
 have hl:(b.take (n+1)).length=n+1:=by rw[List.length_take];omega
 have hlt:=Yb4 h;rw[hl,Yel] at hlt;have hnone:Yww (b.take (n+1)):=by
  intro j hj;cases hp:(Yi4 j).isPrefixOf (b.take (n+1)) with
  |false=>rfl
  |true=>
   have e:=Qg4 hj hi (Yfr hp h);subst e;have:=Yb4 hp;rw[hl,Yel] at this;omega
 refine⟨?_,hnone⟩;obtain⟨r,hr,hp⟩:=Ylc hi;refine Yus hn (fun hm=>?_) hr (Yfr h hp);rcases Qah _ hm with e|⟨j,hj,hd,_⟩
 ·have:=hnone 0 (by decide);rw[e,Ydv] at this;cases this
 ·have:=hno j (List.mem_range.1 hj);rw[←hd,List.dropLast_eq_take,List.take_take,hl,show min (n+1-1) (n+1)=n by omega,Ydv] at this;cases this
theorem Qcj {b:List UInt8}{i n:Nat}(hn:n≤b.length)(h:(b.take n).isPrefixOf (Yi4 i)=true)(he:Ydo i=n):b.take n=Yi4 i:=by
 have:=Yb5.1 h;rw[List.take_of_length_le (by rw[Yel,List.length_take];omega)] at this;exact this.symm
theorem Qdp {b:List UInt8}(hb:b.take (Ydo 0)=Yi4 0):dtk b=(0,0,1):=by
 have hp:(Yi4 0).isPrefixOf b=true:=by rw[←hb];exact Yg5 _ _
 rw[Y01] at hp;have:=Yok Yns (Yka (i:=32) (by decide)) (by decide +kernel) (by decide +kernel) hp;rw[show (Ya1 (Ymv 32)).length=1 by decide +kernel] at this;exact this
theorem Ytd {b:List UInt8}{i n:Nat}(hi:i<33)(h0:i≠0)(he:Ydo i=n)(hn:n≤b.length)(hb:b.take n=Yi4 i)(ht:tk rowsD b 25 1=tk rowsD b (26-n) n)(hs:b.length<n+1):dtk b=(0,2,0):=by
 have h12:=(Yc7 i hi).2.1;obtain⟨r,hr,hp⟩:=Ylc hi;refine Yjp (n:=0) (ht.trans ?_) (by decide);rw[show 26-n=(24-n)+1+1 by omega,Yus hn (by rw[hb];exact Y62 hi h0) hr (by rw[hb];exact hp)];exact Yut hs
theorem Ys0 {b:List UInt8}{i n:Nat}(hn:n<b.length)(hb:b.take n=Yi4 i){c:UInt8}(hc:b[n]=c):b.take (n+1)=Yi4 i++[c]:=by
 rw[List.take_succ_eq_append_getElem hn,hb,hc]
theorem Yvy {b:List UInt8}{n:Nat}(he:Ydo 32=n)(hn:n<b.length)(hb:b.take n=Yi4 32)(hc:b[n]=48)(ht:tk rowsD b 25 1=tk rowsD b (26-n) n):dtk b=(0,3,0):=by
 have h12:n≤12:=by rw[←he];exact(Yc7 32 (by decide)).2.1
 obtain⟨r,hr,hp⟩:=Ylc (i:=32) (by decide);refine Yjp (n:=0) (ht.trans ?_) (by decide);rw[show 26-n=(24-n)+1+1 by omega,Yus (by omega) (by rw[hb];exact Y62 (by decide) (by decide)) hr (by rw[hb];exact hp)];refine Qbn (by omega) fun r hr=>?_;rw[Ys0 hn hb hc];exact Qci r hr
theorem Yzf {b:List UInt8}{j:Nat}(hj:j<64)(hp:(Ya1 (Ymv j)).isPrefixOf b=true):dtk b=((j:Int)-32,0,(Ya1 (Ymv j)).length):=by
 obtain⟨h1,h2,_⟩:=Yb1 (Qg1 _ (Yka hj));exact Yok Yns (Yka hj) (by have:=List.length_pos_iff.2 h1;omega) h2 hp
theorem Y35 {b:List UInt8}{i n:Nat}(hi:i<32)(h0:0<i)(he:Ydo i=n)(hn:n<b.length)(hb:b.take n=Yi4 i)(hc:b[n]=48):dtk b=((i:Int),0,n+1):=by
 have e:=Qi8 i hi h0;have hp:(Ya1 (Ymv (32+i))).isPrefixOf b=true:=by rw[←e,←Ys0 hn hb hc];exact Yg5 _ _
 rw[Yzf (by omega) hp,←e,List.length_append,Yel,he,show ((32+i:Nat):Int)-32=i by omega]
 rfl
theorem Yvx {b:List UInt8}{i n:Nat}(hi:i<33)(h0:0<i)(he:Ydo i=n)(hn:n<b.length)(hb:b.take n=Yi4 i)(hc:b[n]=49):dtk b=(-(i:Int),0,n+1):=by
 have e:=Ym6 i hi h0;have hp:(Ya1 (Ymv (32-i))).isPrefixOf b=true:=by rw[←e,←Ys0 hn hb hc];exact Yg5 _ _
 rw[Yzf (by omega) hp,←e,List.length_append,Yel,he,show ((32-i:Nat):Int)-32 = -(i:Int) by omega]
 rfl
end Go.Proofs.YtjjmalchelniiaaGreatDoor
namespace Go.Proofs.YtjjmalchelniiaaGreatDoor
open Go.RowKit Go.Lib
theorem Y10:(Rows.laid_overspill_mvd_codes:DataW Unit)=tabData .i64 (Qhi.map fun z:Nat=>(z:Int))∧(Rows.laid_overspill_mvd_lengths:DataW Unit)=tabData .i64 (Qi4.map fun z:Nat=>(z:Int)):=⟨by kernel_rfl,by kernel_rfl⟩
theorem Qjj (l:List Nat)(i:Nat)(h:i<(l.map fun z:Nat=>(z:Int)).length):(l.map fun z:Nat=>(z:Int))[i]=((l[i]?.getD 0:Nat):Int):=by
 have h2:i<l.length:=by simpa using h
 rw[List.getElem_map,List.getElem?_eq_getElem h2]
 rfl
theorem Qef {laid : List (String × DataW Unit)} {W : World} (hL : laidMetH Tryz.prog laid W) (hm : (("overspill/mvd.codes", Rows.laid_overspill_mvd_codes) ∈ laid ∧ ("overspill/mvd.lengths", Rows.laid_overspill_mvd_lengths) ∈ laid) ∧ (laid.all fun x => x.2.handleName?.isNone) = true) : Yeg W := by
 rw[MakeChecks.laidMetH_plain _ _ _ hm.2] at hL;obtain⟨ps,hv,_,_⟩:=hL;obtain⟨h1,h2⟩:=hm.1;rw[Y10.1] at h1;rw[Y10.2] at h2;have hlc:(Qhi.map fun z:Nat=>(z:Int)).length=33:=rfl;have hll:(Qi4.map fun z:Nat=>(z:Int)).length=33:=rfl;intro i hi;have g1:=Ywn hv h1 (g:=2) (t:=248) (by kernel_rfl) (by kernel_rfl) Tryz.underlying248 Tryz.underlying3 (by kernel_rfl) (by kernel_rfl) i (by rw[hlc];exact hi)
 have g2:=Ywn hv h2 (g:=3) (t:=248) (by kernel_rfl) (by kernel_rfl) Tryz.underlying248 Tryz.underlying3 (by kernel_rfl) (by kernel_rfl) i (by rw[hll];exact hi);rw[Qjj] at g1 g2;exact⟨g1,g2⟩
end Go.Proofs.YtjjmalchelniiaaGreatDoor