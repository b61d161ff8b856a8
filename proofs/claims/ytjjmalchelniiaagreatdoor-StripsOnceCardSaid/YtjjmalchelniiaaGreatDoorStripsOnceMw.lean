/- Part 23 of StripsOnce. No condition. -/
import Derived.Test.YtjjmalchelniiaaGreatDoorStripsOnceMd
import Derived.Test.YtjjmalchelniiaaGreatDoorStripsOnceMg
import Derived.Test.YtjjmalchelniiaaGreatDoorStripsOnceMh
import Derived.Test.YtjjmalchelniiaaGreatDoorStripsOnceMo
import Derived.Test.YtjjmalchelniiaaGreatDoorStripsOnceMs
import Derived.Test.YtjjmalchelniiaaGreatDoorStripsOnceMu
import Derived.Test.YtjjmalchelniiaaGreatDoorStripsOnceMv
import Derived.WalkMore
import Derived.IntWalk
import Derived.Laws.ResultCell
import Derived.Laws.Rows
import Derived.WalkKit
import Derived.Lib.LaidTab
import Derived.MakeChecks
namespace Go.Proofs.YtjjmalchelniiaaGreatDoor
open Go.RowKit Go.Lib
def Y7y:List Nat:=[2,15,21,23,31,37,36,33,32,7,6,32,6,20,30,15,33,80,14,29,14,81,13,35,13,12,34,82,11,12,83,19,11,84,18,10,17,9,16,8,22,85,21,20,28,27,33,32,31,30,29,28,27,26,34,35,86,87,7,25,5,15,4,14,13,12,19,18,17,16,26,25,24,23,22,21,20,19,24,23,22,21,20,19,18,17,7,6,5,4,36,37,38,39,88,89,90,91,92,93,94,95,3]
def Qh1:List Nat:=[2,4,6,7,8,9,9,10,10,11,11,11,3,6,8,10,11,12,4,8,10,12,5,9,10,5,9,12,5,10,12,6,10,12,6,10,6,10,6,10,7,12,7,7,8,8,9,9,9,9,9,9,9,9,11,11,12,12,4,9,11,6,11,6,6,6,7,7,7,7,8,8,8,8,8,8,8,8,9,9,9,9,9,9,9,9,10,10,10,10,11,11,11,11,12,12,12,12,12,12,12,12,7]
def Yyq:List Nat:=[12,6,4,3,3,3,3,2,2,2,2]
def Yd6 (i:Nat):Nat:=Y7y[i]?.getD 0
def Yc2 (i:Nat):Nat:=Qh1[i]?.getD 0
def Yq2 (i:Nat):Nat:=Yyq[i]?.getD 0
theorem Yda:∀i,i<103→1≤Yc2 i∧Yc2 i≤12∧Yd6 i<2^Yc2 i∧Yd6 i≤95:=by decide +kernel
theorem Yq3:∀i,i<11→1≤Yq2 i∧Yq2 i≤12:=by decide +kernel
def Yk6 (last:Bool)(run:Nat):Nat:=
 if last then (if run=0 then 3 else if run=1 then 2 else if run≤40 then 1 else 0) else (if run<11 then Yq2 run else if run≤26 then 1 else 0)
theorem Yhm (last:Bool)(run:Nat):Yk6 last run≤12:=by
 unfold Yk6;cases last
 ·simp only[Bool.false_eq_true,if_false];by_cases h:run<11
  ·rw[if_pos h];exact(Yq3 run h).2
  ·rw[if_neg h];split <;> omega
 ·simp only[if_true]
  repeat' split
  all_goals omega
def Yxq (last:Bool):Nat→Nat
 |0=>0
 |r+1=>Yxq last r+Yk6 last r
theorem Ypx (last:Bool):∀r,Yxq last r≤12*r
 |0=>Nat.le_refl _
 |r+1=>by
  have:=Ypx last r;have:=Yhm last r;unfold Yxq;omega
theorem Qbh (last:Bool){r k:Nat}(h:r≤k):Yxq last r≤Yxq last k:=by
 induction h with
 |refl=>exact Nat.le_refl _
 |step _ ih=>exact Nat.le_trans ih (Nat.le_add_right _ _)
def Yqd (last:Bool):Nat:=if last then 58 else 0
def plT (last:Bool)(run amt:Nat):Nat:=Yqd last+Yxq last run+(amt-1)
def inT (last:Bool)(run amt:Nat):Bool:=decide (1≤amt)&&decide (amt≤Yk6 last run)
theorem Qjd:∀last:Bool,∀run,run<64→∀amt,amt<13→inT last run amt=true→plT last run amt<102:=by decide +kernel
theorem Y16 {last:Bool}{run amt:Nat}(hr:run<64)(h:inT last run amt=true):plT last run amt<102:=by
 refine Qjd last run hr amt ?_ h;unfold inT at h;rw[Bool.and_eq_true,decide_eq_true_iff,decide_eq_true_iff] at h;have:=Yhm last run;omega
def Yk7 (last:Bool)(run:Nat)(level:Int):Nat:=if inT last run level.natAbs then 2*Yd6 (plT last run level.natAbs)+(if level<0 then 1 else 0) else ((6+last.toNat)*64+run)*256+(level%256).toNat
def Ykf (last:Bool)(run:Nat)(level:Int):Nat:=if inT last run level.natAbs then Yc2 (plT last run level.natAbs)+1 else 22
def Ycr (last:Bool)(run level:Int):ByteArray:=if Yec run level then ⟨(Yav (Yk7 last run.toNat level) (Ykf last run.toNat level)).toArray⟩ else ⟨#[]⟩
def Ye6 (w:World):Prop:=
 (∀i,i<103→w.cell? ⟨5,i,none⟩=some (.int .u16 (Yd6 i:Nat))∧w.cell? ⟨6,i,none⟩=some (.int .u8 (Yc2 i:Nat)))∧
  ∀i,i<11→w.cell? ⟨7,i,none⟩=some (.int .u8 (Yq2 i:Nat))
theorem Ye6.lt {w:World}(h:Ye6 w):5<w.heap.size∧6<w.heap.size∧7<w.heap.size:=
 ⟨World.block_lt_of_cell? w ⟨5,0,none⟩ (h.1 0 (by decide)).1,World.block_lt_of_cell? w ⟨6,0,none⟩ (h.1 0 (by decide)).2,World.block_lt_of_cell? w ⟨7,0,none⟩ (h.2 0 (by decide))⟩
theorem Ye6.below {w w':World}(h:Ye6 w)(hb:Below w.heap.size w w'):Ye6 w':=
 ⟨fun i hi=>⟨(hb.cell (p:=⟨5,i,none⟩) h.lt.1).trans (h.1 i hi).1,(hb.cell (p:=⟨6,i,none⟩) h.lt.2.1).trans (h.1 i hi).2⟩,
  fun i hi=>(hb.cell (p:=⟨7,i,none⟩) h.lt.2.2).trans (h.2 i hi)⟩
theorem Yt4 {a b c d:Int}{k k':IntKind}(h:a=c)(h':b=d):Ending.returned (.tuple #[.int k a,.int k' b])=.returned (.tuple #[.int k c,.int k' d]):=by rw[h,h']
theorem Yvw (b:Bool)(w:World):Calls Tryz.prog 235 #[.bool b] w fun e w'=>e=.returned (.int .i64 (b.toNat:Nat))∧w=w':=by
 cases b
 all_goals
  go_enter Tryz.func235,Tryz.ntmps235
  go_wp2
  go_ret
  exact⟨rfl,rfl⟩
theorem Yfm (i:Nat)(hi:i<103)(w:World)(hp:Ye6 w):Calls Tryz.prog 234 #[.int .i64 (i:Int)] w fun e w'=>e=.returned (.tuple #[.int .i64 (Yd6 i:Nat),.int .i64 (Yc2 i:Nat)])∧Below w.heap.size w w':=by
 obtain⟨c0,c1⟩:=hp.1 i hi;obtain⟨b0,b1,_,b3⟩:=Yda i hi;generalize Yd6 i=x at c0 b3 ⊢;generalize Yc2 i=y at c1 b0 b1 ⊢;clear hp
 go_enter Tryz.func234,Tryz.ntmps234
 go_wp2
 go_region
 go_wp2
 go_ret2
 exact⟨Yt4 (by omega) (by omega),(Below.refl _ w).drew⟩
theorem Yhv (i:Nat)(hi:i<103)(w:World)(hp:Ye6 w):Calls Tryz.prog 236 #[.int .i64 (i:Int)] w fun e w'=>e=.returned (.int .i64 ((if i=102 then 22 else Yc2 i+1:Nat):Int))∧Below w.heap.size w w':=by
 have hcon:=fun x hx=>Yfm i hi x hx;obtain⟨b0,b1,_,b3⟩:=Yda i hi;by_cases h:i=102
 ·subst h
  go_enter Tryz.func236,Tryz.ntmps236
  go_wp2_with fail
  refine(hcon _ hp).mono ?_;rintro e w1 ⟨rfl,hb1⟩
  go_wp2
  go_ret
  exact⟨rfl,hb1⟩
 ·rw[if_neg h];generalize Yc2 i=y at hcon b0 b1 ⊢;have g0:((i:Int)==102)=false:=by rw[beq_eq_false_iff_ne];omega
  clear h
  go_enter Tryz.func236,Tryz.ntmps236
  go_wp2_with fail
  refine(hcon _ hp).mono ?_;rintro e w1 ⟨rfl,hb1⟩
  go_wp2
  go_ret
  exact⟨Ydy (by omega),hb1⟩
theorem Yhl (last:Bool)(r:Nat)(hr:r<64)(w:World)(hp:Ye6 w):Calls Tryz.prog 242 #[.bool last,.int .i64 (r:Int)] w fun e w'=>e=.returned (.int .i64 (Yk6 last r:Nat))∧w=w':=by
 cases last with
 |false=>
  by_cases h:r<11
  ·have F:=Lib.hid (show Yk6 false r=Yq2 r by unfold Yk6;simp[h]);have c0:=hp.2 r h;obtain⟨b0,b1⟩:=Yq3 r h;rw[F.out];generalize Yq2 r=y at c0 b0 b1 ⊢;have t0:decide ((r:Int)<11)=true:=by simp;omega
   clear F hp
   go_enter Tryz.func242,Tryz.ntmps242
   go_wp2
   go_ret
   exact⟨Ydy (by omega),rfl⟩
  ·by_cases h2:r≤26
   ·have F:=Lib.hid (show Yk6 false r=1 by unfold Yk6;simp[h,h2]);have t0:decide ((r:Int)<11)=false:=by simp;omega
    have t1:decide ((r:Int)≤26)=true:=by simp;omega
    rw[F.out];clear h h2 hp
    go_enter Tryz.func242,Tryz.ntmps242
    go_wp2
    go_ret
    exact⟨rfl,rfl⟩
   ·have F:=Lib.hid (show Yk6 false r=0 by unfold Yk6;simp[h,h2]);have t0:decide ((r:Int)<11)=false:=by simp;omega
    have t1:decide ((r:Int)≤26)=false:=by simp;omega
    rw[F.out];clear h h2 hp
    go_enter Tryz.func242,Tryz.ntmps242
    go_wp2
    go_ret
    exact⟨rfl,rfl⟩
 |true=>
  by_cases h0:r=0
  ·subst h0
   go_enter Tryz.func242,Tryz.ntmps242
   go_wp2
   go_ret
   exact⟨rfl,rfl⟩
  ·have g0:((r:Int)==0)=false:=by rw[beq_eq_false_iff_ne];omega
   by_cases h1:r=1
   ·subst h1
    go_enter Tryz.func242,Tryz.ntmps242
    go_wp2
    go_ret
    exact⟨rfl,rfl⟩
   ·have g1:((r:Int)==1)=false:=by rw[beq_eq_false_iff_ne];omega
    by_cases h2:r≤40
    ·have F:=Lib.hid (show Yk6 true r=1 by unfold Yk6;simp[h0,h1,h2]);have t1:decide ((r:Int)≤40)=true:=by simp;omega
     rw[F.out];clear h0 h1 h2 hp
     go_enter Tryz.func242,Tryz.ntmps242
     go_wp2
     go_ret
     exact⟨rfl,rfl⟩
    ·have F:=Lib.hid (show Yk6 true r=0 by unfold Yk6;simp[h0,h1,h2]);have t1:decide ((r:Int)≤40)=false:=by simp;omega
     rw[F.out];clear h0 h1 h2 hp
     go_enter Tryz.func242,Tryz.ntmps242
     go_wp2
     go_ret
     exact⟨rfl,rfl⟩
theorem Y46 {a c:Int}{k:IntKind}{b:Bool}(h:a=c):Ending.returned (.tuple #[.int k a,.bool b])=.returned (.tuple #[.int k c,.bool b]):=by rw[h]
set_option maxHeartbeats 1000000 in
theorem Ypd (last:Bool)(r:Nat)(level:Int)(hr:r<64)(hl:-128≤level∧level≤127)(w:World)(hp:Ye6 w):Calls Tryz.prog 233 #[.agg #[.bool last,.int .i64 (r:Int),.int .i64 level]] w fun e w'=>
  e=.returned (.tuple #[.int .i64 ((if inT last r level.natAbs then plT last r level.natAbs else 102:Nat):Int),.bool (inT last r level.natAbs)])∧Below w.heap.size w w':=by
 have hb0:∀o,Below w.heap.size w (w.alloc o):=fun o=>(Below.refl _ w).alloc (Nat.le_refl _) o;obtain⟨a,ha⟩:∃a:Nat,level.natAbs=a:=⟨_,rfl⟩;rw[ha];by_cases h0:level=0
 ·subst h0;obtain rfl:a=0:=by omega
  have F:=Lib.hid (show inT last r 0=false by unfold inT;simp);rw[F.out]
  go_enter Tryz.func233,Tryz.ntmps233
  go_wp2
  go_ret2
  exact⟨rfl,hb0 _⟩
 have hm:=Yhm last r;have hcon:=fun x hx=>Yhl last r hr x hx;have hsum:=Ypx last r;have hmo:∀j,j<r→Yqd last+Yxq last (j+1)≤900:=fun j hj=>by have:=Ypx last (j+1);have hbs:Yqd last≤58:=by{cases last <;> decide};omega
 have hpl:plT last r a=Yqd last+Yxq last r+(a-1):=rfl;have hin:inT last r a=(decide (1≤a)&&decide (a≤Yk6 last r)):=rfl;have hsuc:∀j,Yxq last (j+1)=Yxq last j+Yk6 last j:=fun j=>rfl;have hcon2:=fun(j:Nat) (hj:j<r) x hx=>Yhl last j (by omega) x hx;have hm2:=fun(j:Nat)=>Yhm last j;have HP:=Lib.hid (fun(x:World) (hx:Below w.heap.size w x)=>(hp.below hx:Ye6 x));by_cases hin1:a≤Yk6 last r
 ·have F:=Lib.hid (show inT last r a=true by rw[hin];simp;omega);rw[F.out,if_pos rfl];have HPL:=Lib.hid hpl;have SUC:=Lib.hid hsuc;have MO:=Lib.hid hmo;have CON2:=Lib.hid hcon2;have M2:=Lib.hid hm2;generalize Yk6 last r=m at hcon hm hin1 hin;have t0:decide ((m:Int)<a)=false:=by simp;omega
  have t1:decide (m<a)=false:=by simp;omega
  have qw:IntKind.i64.wrap (-(a:Int)) = -(a:Int):=IntWalk.i64_in _ (by omega);have g0:((a:Int)==0)=false:=by rw[beq_eq_false_iff_ne];omega
  have hl2:level=(a:Int)∨level = -(a:Int):=by omega
  have ha0:0<a:=by omega
  have ha1:a≤128:=by omega
  clear hp hin h0 ha hl hin1 F hpl hsuc hmo hcon2 hm2;have hbl:Below w.heap.size w (w.alloc (.cells #[.bool last,.int .i64 (r:Int),.int .i64 level] 153 (0,0))):=hb0 _;have hp1:=HP.out _ hbl;have hz0:Yxq last 0=0:=rfl;generalize Yxq last=sm at HPL SUC MO hsum hz0;generalize Yk6 last=am at SUC CON2 M2;generalize hbse:Yqd last=bse at HPL MO;have HBS:=Lib.hid hbse;have S0:=Lib.hid hz0
  clear hz0 hbse hsum;cases last
  all_goals
   rcases hl2 with rfl|rfl
   all_goals
    go_enter Tryz.func233,Tryz.ntmps233
    go_wp2_with fail
    refine(hcon _ hp1).mono ?_;rintro e w1 ⟨rfl,rfl⟩;clear hcon
    go_wp2
    go_loop [5,32] (fun u v=>∃(j x:Nat),j≤r∧v=.int .i64 j∧u=.int .i64 ((a:Int)-1+x)∧x≤900∧Hid (x=bse+sm j)) (fun _ v=>64-(intOf v).toNat)
    case atStart=>exact⟨0,bse,Nat.zero_le _,rfl,by rw[←HBS.out];simp[Yqd],by rw[←HBS.out];decide,Lib.hid (by rw[S0.out];rfl)⟩
    case round=>
     obtain⟨j,x,hj,rfl,rfl,hx,hxx⟩:=hrel;by_cases hlt:j<r
     ·have t1:decide ((j:Int)<r)=true:=by simp;omega
      have hc2:=CON2.out j hlt _ hp1;have M:=M2.out j;have S:=Lib.hid (SUC.out j);have XX:=Lib.hid (show x+am j≤900 by have:=MO.out j hlt;rw[S.out] at this;rw[hxx.out];omega);generalize am j=y at hc2 M S XX
      go_wp2_with fail
      refine hc2.mono ?_;rintro e w1 ⟨rfl,rfl⟩
      go_wp2
      go_round
      case rel=>exact⟨j+1,x+y,by omega,by go_num,by go_num,XX.out,Lib.hid (by rw[hxx.out,S.out,Nat.add_assoc])⟩
      case measure=>simp[intOf];omega
     ·obtain rfl:j=r:=by omega
      have t2:decide (j<j)=false:=by simp
      go_wp2
      go_ret2
      exact⟨Y46 (by rw[HPL.out];have:=hxx.out;omega),hbl⟩
 ·have F:=Lib.hid (show inT last r a=false by rw[hin];simp;omega);rw[F.out,if_neg (by decide)];generalize Yk6 last r=m at hcon hm hin1 hin;have t0:decide ((m:Int)<a)=true:=by simp;omega
  have t1:decide (m<a)=true:=by simp;omega
  have qw:IntKind.i64.wrap (-(a:Int)) = -(a:Int):=IntWalk.i64_in _ (by omega);have g0:((a:Int)==0)=false:=by rw[beq_eq_false_iff_ne];omega
  have hl2:level=(a:Int)∨level = -(a:Int):=by omega
  have ha0:0<a:=by omega
  have ha1:a≤128:=by omega
  clear hp hin h0 ha hl hin1 F hpl hsuc hmo hcon2 hm2;have hbl:Below w.heap.size w (w.alloc (.cells #[.bool last,.int .i64 (r:Int),.int .i64 level] 153 (0,0))):=hb0 _;have hp1:=HP.out _ hbl;rcases hl2 with rfl|rfl
  all_goals
   go_enter Tryz.func233,Tryz.ntmps233
   go_wp2_with fail
   refine(hcon _ hp1).mono ?_;rintro e w1 ⟨rfl,rfl⟩
   go_wp2
   go_ret2
   exact⟨rfl,hbl⟩
end Go.Proofs.YtjjmalchelniiaaGreatDoor
namespace Go.Proofs.YtjjmalchelniiaaGreatDoor
def Qjp (i:Nat):ByteArray:=⟨(Yav (Yd6 i) (Yc2 i)).toArray⟩
def Ykb (i:Nat):ByteArray×Int:=(Qjp i,i)
def allT:List (ByteArray×Int):=(List.range 103).map Ykb
def rowsT:List (List UInt8):=allT.map Ya1
theorem Yj2:Yhh rowsT:=by unfold Yhh;decide +kernel
theorem Ykc {i:Nat}(h:i<103):Ykb i∈allT:=List.mem_map_of_mem (List.mem_range.2 h)
theorem Qgr (i:Nat):Ya1 (Ykb i)=Yav (Yd6 i) (Yc2 i):=rfl
theorem Yes (i:Nat):(Ya1 (Ykb i)).length=Yc2 i:=Yal _ _
theorem Qe2 {r:List UInt8}(h:r∈rowsT):∃i,i<103∧r=Ya1 (Ykb i):=by
 obtain⟨x,hx,rfl⟩:=List.mem_map.1 h;obtain⟨i,hi,rfl⟩:=List.mem_map.1 hx;exact⟨i,List.mem_range.1 hi,rfl⟩
theorem Yvl {i:Nat}(h:i<103):Ya1 (Ykb i)∈rowsT:=List.mem_map_of_mem (Ykc h)
def Y69 (v n i:Nat):Bool:=Yd6 i / 2^(Yc2 i-n)==v / 2^(n-Yc2 i)
theorem Ys5 {q:List UInt8}(hq:Yax q=true){i:Nat}(hi:i<103):Y69 (num q) q.length i=(q.isPrefixOf (Ya1 (Ykb i)) || (Ya1 (Ykb i)).isPrefixOf q):=by
 obtain⟨b0,b1,b2,_⟩:=Yda i hi;rw[Qgr];unfold Y69;by_cases h:q.length≤Yc2 i
 ·rw[show q.length-Yc2 i=0 by omega,Nat.pow_zero,Nat.div_one,Y1q hq b2,decide_eq_true h,Bool.true_and];cases hp:(Yav (Yd6 i) (Yc2 i)).isPrefixOf q with
  |false=>rw[Bool.or_false]
  |true=>
   have hl:=Yb4 hp;rw[Yal] at hl;have e:q=Yav (Yd6 i) (Yc2 i):=by
    have:=Yb5.1 hp;rw[Yal,List.take_of_length_le (by omega)] at this;exact this
   have hn:num q=Yd6 i:=by rw[e,Ycw,Nat.mod_eq_of_lt b2]
   rw[hn,show Yc2 i-q.length=0 by omega,Nat.pow_zero,Nat.div_one,Bool.or_true];simp
 ·have hno:q.isPrefixOf (Yav (Yd6 i) (Yc2 i))=false:=by
   cases hp:q.isPrefixOf (Yav (Yd6 i) (Yc2 i)) with
   |false=>rfl
   |true=>
    have:=Yb4 hp;rw[Yal] at this;exact absurd this h
  rw[show Yc2 i-q.length=0 by omega,Nat.pow_zero,Nat.div_one,hno,Bool.false_or];have hsplit:num q=num (q.take (Yc2 i))*2^(q.length-Yc2 i)+num (q.drop (Yc2 i)):=by
   rw[←List.length_drop,←Yeo,List.take_append_drop]
  have hlow:num (q.drop (Yc2 i))<2^(q.length-Yc2 i):=by
   have:=Yrm (q.drop (Yc2 i)) (Ybf _ _ hq) (q.drop (Yc2 i)).length (Nat.le_refl _);rw[List.take_of_length_le (Nat.le_refl _),List.length_drop] at this;exact this
  have hdiv:num q / 2^(q.length-Yc2 i)=num (q.take (Yc2 i)):=by
   rw[hsplit,Nat.mul_comm,Nat.mul_add_div (Nat.two_pow_pos _),Nat.div_eq_of_lt hlow,Nat.add_zero]
  rw[hdiv,Bool.eq_iff_iff,beq_iff_eq,Yb5,Yal];constructor
  ·intro e;have h2:=Yg3 (q.take (Yc2 i)) (Ycb _ _ hq);rw[List.length_take,Nat.min_eq_left (by omega),←e] at h2;exact h2.symm
  ·intro e;rw[e,Ycw,Nat.mod_eq_of_lt b2]
theorem Y2s {rows:List (List UInt8)}(hf:Yhh rows){b r:List UInt8}(hr:r∈rows)(hp:b.isPrefixOf r=true)(hl:b.length<r.length):∀{k m:Nat},m≤b.length+1→b.length+2≤m+k→tk rows b k m=(2,0)
 |0,m,h1,h2=>by omega
 |k+1,m,h1,h2=>by
  by_cases hs:b.length<m
  ·exact Yut hs
  ·have hpm:(b.take m).isPrefixOf r=true:=Yfr (Yg5 b m) hp;rw[Yus (by omega) (fun hm=>?_) hr hpm]
   ·exact Y2s hf hr hp hl (by omega) (by omega)
   ·have e:=congrArg List.length (Yjl hf hm hr hpm);rw[List.length_take] at e;omega
theorem Y2t {rows:List (List UInt8)}{b:List UInt8}{n:Nat}(hn:n≤b.length)(h:∀r∈rows,(b.take n).isPrefixOf r=false∧r.isPrefixOf (b.take n)=false):∀{k m:Nat},m≤n→tk rows b k m=(3,0)
 |0,_,_=>rfl
 |k+1,m,hm=>by
  unfold tk;rw[if_neg (by omega),if_neg]
  ·split
   ·rename_i hany
    obtain⟨r,hr,hp⟩:=List.any_eq_true.1 hany;by_cases e:m=n
    ·subst e;rw[(h r hr).1] at hp;cases hp
    ·exact Y2t hn h (by omega)
   ·rfl
  ·intro hmem;have:=(h _ hmem).2;rw[show (b.take m).isPrefixOf (b.take n)=true by rw[List.isPrefixOf_iff_prefix];exact(List.take_prefix_take_left hm)] at this;cases this
theorem Ywe {b:List UInt8}{n i:Nat}(hn:n=min 12 b.length)(hi:i<103)(h:Y69 (num (b.take n)) n i=true)(hb:Yax b=true)(hl:Yc2 i≤n):gtk allT b=((i:Int),0,Yc2 i)∧Yc2 i≤b.length:=by
 have hql:(b.take n).length=n:=by rw[List.length_take];omega
 have h2:=Ys5 (Ycb b n hb) hi;rw[hql,h] at h2;have hp:(Ya1 (Ykb i)).isPrefixOf (b.take n)=true:=by
  rcases (Bool.or_eq_true _ _).mp h2.symm with h3|h3
  ·have:=Yb4 h3;rw[hql,Yes] at this;have e:b.take n=Ya1 (Ykb i):=by
    have:=Yb5.1 h3;rw[List.take_of_length_le (by rw[hql,Yes];omega)] at this;exact this.symm
   rw[e,Ydv]
  ·exact h3
 obtain⟨b0,b1,_,_⟩:=Yda i hi;have:=Yok Yj2 (Ykc hi) (by rw[Yes];exact b0) (by rw[Yes];omega) (Yfr hp (Yg5 b n));rw[Yes] at this;exact⟨this,by omega⟩
theorem Ywg {b:List UInt8}{n i:Nat}(hn:n=min 12 b.length)(hi:i<103)(h:Y69 (num (b.take n)) n i=true)(hb:Yax b=true)(hl:n<Yc2 i):gtk allT b=(0,2,0):=by
 obtain⟨b0,b1,_,_⟩:=Yda i hi;have hnb:n=b.length:=by omega
 have hq:b.take n=b:=List.take_of_length_le (by omega);have h2:=Ys5 hb hi;rw[hq,hnb] at h;rw[h] at h2;refine Yjp (n:=0) (Y2s Yj2 (Yvl hi) (b:=b) ?_ (by rw[Yes];omega) (by omega) (by omega)) (by decide);rcases (Bool.or_eq_true _ _).mp h2.symm with h3|h3
 ·exact h3
 ·have:=Yb4 h3;rw[Yes] at this;omega
theorem Ywf {b:List UInt8}{n:Nat}(hn:n=min 12 b.length)(h:∀i,i<103→Y69 (num (b.take n)) n i=false)(hb:Yax b=true):gtk allT b=(0,3,0):=by
 have hql:(b.take n).length=n:=by rw[List.length_take];omega
 have hall:∀r∈rowsT,(b.take n).isPrefixOf r=false∧r.isPrefixOf (b.take n)=false:=by
  intro r hr;obtain⟨i,hi,rfl⟩:=Qe2 hr;have h2:=Ys5 (Ycb b n hb) hi;rw[hql,h i hi] at h2;exact(Bool.or_eq_false_iff).mp h2.symm
 have h1:1≤n:=by
  rcases Nat.eq_zero_or_pos n with h0|h0
  ·have:=(hall _ (Yvl (i:=0) (by decide))).1;rw[h0,List.take_zero] at this;simp at this
  ·exact h0
 exact Yjp (n:=0) (Y2t (by omega) hall h1) (by decide)
def evZ:List (Bool×Nat×Nat):=(List.range 27).flatMap (fun r=>(List.range (Yk6 false r)).map fun i=>(false,r,i+1))++(List.range 41).flatMap (fun r=>(List.range (Yk6 true r)).map fun i=>(true,r,i+1))
def evT (p:Nat):Bool×Nat×Nat:=evZ[p]?.getD (false,0,0)
theorem Qgm:∀p,p<102→(inT (evT p).1 (evT p).2.1 (evT p).2.2=true∧plT (evT p).1 (evT p).2.1 (evT p).2.2=p∧(evT p).2.1<41)∧(evT p).1=decide (58≤p)∧1≤(evT p).2.2∧(evT p).2.2≤12:=by decide +kernel
theorem Y95:∀last:Bool,∀run,run<64→∀amt,amt<13→inT last run amt=true→evT (plT last run amt)=(last,run,amt):=by decide +kernel
theorem Y8y {last:Bool}{run amt:Nat}:inT last run amt=true↔1≤amt∧amt≤Yk6 last run:=by
 unfold inT;rw[Bool.and_eq_true,decide_eq_true_iff,decide_eq_true_iff]
theorem Qjo {last:Bool}{run amt:Nat}(hr:run<64)(h:inT last run amt=true):evT (plT last run amt)=(last,run,amt):=by
 have:=(Y8y.1 h).2;have:=Yhm last run;exact Y95 last run hr amt (by omega) h
def Yqa (v:Nat):Bool×Nat×Int:=(v / 16384%2==1,v / 256%64,if 127<v%256 then ((v%256:Nat):Int)-256 else ((v%256:Nat):Int))
def Y0e (x:Bool×Nat×Nat)(s:Bool):Bool×Nat×Int:=(x.1,x.2.1,if s then -(x.2.2:Int) else (x.2.2:Int))
def etk (b:List UInt8):(Bool×Nat×Int)×Int×Nat:=
 if (gtk allT b).2.1≠0 then ((false,0,0),(gtk allT b).2.1,0) else
 if (gtk allT b).1.toNat=102 then
  if b.length<22 then ((false,0,0),2,0) else
  if Yec (Yqa (num (b.take 22))).2.1 (Yqa (num (b.take 22))).2.2 && !inT (Yqa (num (b.take 22))).1 (Yqa (num (b.take 22))).2.1 (Yqa (num (b.take 22))).2.2.natAbs then (Yqa (num (b.take 22)),0,22) else ((false,0,0),7,0)
 else
  if b.length<Yc2 (gtk allT b).1.toNat+1 then ((false,0,0),2,0) else
  (Y0e (evT (gtk allT b).1.toNat) (num (b.take (Yc2 (gtk allT b).1.toNat+1))%2==1),0,Yc2 (gtk allT b).1.toNat+1)
theorem Y8n {b:List UInt8}{f:Int}(h:gtk allT b=(0,f,0))(hf:f≠0):etk b=((false,0,0),f,0):=by
 unfold etk;rw[h,if_pos hf]
theorem Y8m {b:List UInt8}{i n:Nat}(h:gtk allT b=((i:Int),0,n))(hl:b.length<if i=102 then 22 else Yc2 i+1):etk b=((false,0,0),2,0):=by
 unfold etk;rw[h,if_neg (fun h=>h rfl),Int.toNat_natCast];by_cases hi:i=102
 ·rw[if_pos hi] at hl;rw[if_pos hi,if_pos hl]
 ·rw[if_neg hi] at hl;rw[if_neg hi,if_pos hl]
theorem Yod {b:List UInt8}{i n:Nat}(h:gtk allT b=((i:Int),0,n))(hi:i≠102)(hl:Yc2 i+1≤b.length):etk b=(Y0e (evT i) (num (b.take (Yc2 i+1))%2==1),0,Yc2 i+1):=by
 unfold etk;rw[h,if_neg (fun h=>h rfl),Int.toNat_natCast,if_neg hi,if_neg (by omega)]
theorem Ylj {b:List UInt8}{n:Nat}(h:gtk allT b=((102:Int),0,n))(hl:22≤b.length):etk b=if Yec (Yqa (num (b.take 22))).2.1 (Yqa (num (b.take 22))).2.2 && !inT (Yqa (num (b.take 22))).1 (Yqa (num (b.take 22))).2.1 (Yqa (num (b.take 22))).2.2.natAbs then (Yqa (num (b.take 22)),0,22) else ((false,0,0),7,0):=by
 unfold etk;rw[h,if_neg (fun h=>h rfl),if_pos (show ((102:Int),(0:Int),n).1.toNat=102 from rfl),if_neg (by omega)]
theorem Yq9 (v:Nat):(Yqa v).2.1<64∧-128≤(Yqa v).2.2∧(Yqa v).2.2≤127:=by
 unfold Yqa;refine⟨Nat.mod_lt _ (by decide),?_⟩;show -128≤(if 127<v%256 then ((v%256:Nat):Int)-256 else ((v%256:Nat):Int))∧(if 127<v%256 then ((v%256:Nat):Int)-256 else ((v%256:Nat):Int))≤127
 split <;> omega
end Go.Proofs.YtjjmalchelniiaaGreatDoor
namespace Go.Proofs.YtjjmalchelniiaaGreatDoor
open Go.RowKit Go.Lib
theorem Ye6.under {w w':World}{B:Nat}(h:Ye6 w)(hb:Below B w w')(h0:5<B∧6<B∧7<B):Ye6 w':=
 ⟨fun i hi=>⟨(hb.cell (p:=⟨5,i,none⟩) h0.1).trans (h.1 i hi).1,(hb.cell (p:=⟨6,i,none⟩) h0.2.1).trans (h.1 i hi).2⟩,
  fun i hi=>(hb.cell (p:=⟨7,i,none⟩) h0.2.2).trans (h.2 i hi)⟩
theorem Yzk {a b c:World}{row:Option Nat}{B:Nat}(h:a.grownBy b row)(hb:Below B b c)(h0:a.heap.size≤B):a.grownBy c row:=
 ⟨hb.os.trans h.os,hb.tape.trans h.tape,hb.output.trans h.output,Nat.le_trans h.size hb.size,fun k hk hne=>(hb.block k (by omega)).trans (h.block k hk hne)⟩
structure Ybh (N:Nat) (w:World):Prop where
 pats:Ye3 w
 mvd:Yeg w
 steps:Ycn w
 tcoef:Ye6 w
 lo:1<N∧2<N∧3<N∧0<N∧5<N∧6<N∧7<N
theorem Ybh.here {w:World}(h1:Ye3 w)(h2:Yeg w)(h3:Ycn w)(h4:Ye6 w):Ybh w.heap.size w:=
 ⟨h1,h2,h3,h4,h1.lt,h2.lt.1,h2.lt.2,h3.lt,h4.lt.1,h4.lt.2.1,h4.lt.2.2⟩
theorem Ybh.below {N:Nat}{w x:World}(h:Ybh N w)(hb:Below N w x):Ybh N x:=by
 obtain⟨h1,h2,h3,h4,l1,l2,l3,l4,l5,l6,l7⟩:=h;refine⟨fun i hi=>?_,fun i hi=>⟨?_,?_⟩,fun i hi=>⟨?_,?_⟩,h4.under hb ⟨l5,l6,l7⟩,l1,l2,l3,l4,l5,l6,l7⟩
 ·exact(hb.cell (p:=⟨1,i,none⟩) l1).trans (h1 i hi)
 ·exact(hb.cell (p:=⟨2,i,none⟩) l2).trans (h2 i hi).1
 ·exact(hb.cell (p:=⟨3,i,none⟩) l3).trans (h2 i hi).2
 ·exact(hb.cell (p:=⟨0,2*i,none⟩) l4).trans (h3 i hi).1
 ·exact(hb.cell (p:=⟨0,2*i+1,none⟩) l4).trans (h3 i hi).2
end Go.Proofs.YtjjmalchelniiaaGreatDoor