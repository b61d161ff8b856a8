/- No condition. -/
import Derived.Test.YtnamlooifcpoaaaGreatDoorScreensStillMb
import Derived.Test.YtnamlooifcpoaaaGreatDoorScreensStillMc
import Derived.Test.YtnamlooifcpoaaaGreatDoorScreensStillMd
import Derived.Test.YtnamlooifcpoaaaGreatDoorScreensStillMe
import Derived.Test.YtnamlooifcpoaaaGreatDoorScreensStillMf
import Derived.Test.YtnamlooifcpoaaaGreatDoorScreensStillMj
import Derived.Test.YtnamlooifcpoaaaGreatDoorScreensStillMk
import Derived.Test.YtnamlooifcpoaaaGreatDoorScreensStillMl
import Derived.Test.YtnamlooifcpoaaaGreatDoorScreensStillMn
import Derived.Test.YtnamlooifcpoaaaGreatDoorScreensStillMp
import Derived.Test.YtnamlooifcpoaaaGreatDoorScreensStillMq
import Derived.RegionTactic
import Derived.Deep.RegionWith
import Derived.WalkKit
import Derived.WalkMore
import Derived.Lib.Strings
import Derived.IntWalk
import Derived.Lib.LaidTab
import Derived.MakeChecks
import Derived.Test.YtnamlooifcpoaaaGreatDoorRows
import Derived.StillTailTactics
namespace Go.Proofs.YtnamlooifcpoaaaGreatDoor
open Go.RowKit Go.Lib
theorem Yy1:∀i,i<103→2≤Yrl i:=by decide +kernel
theorem Yo3 (y m r k:Nat)(hm:m=2^k)(h:r<m)(hy:m*y+r<4294967296):bits .or .i64 ((y:Int)*(m:Int)) (r:Int)=((m*y+r:Nat):Int):=by
 have hor:=Nat.two_pow_add_eq_or_of_lt (i:=k) (b:=r) (by rw[←hm];exact h) y;rw[show (y:Int)*(m:Int)=((m*y:Nat):Int) by rw[Int.mul_comm];simp];show IntKind.i64.wrap ((BitVec.ofInt 64 ((m*y:Nat):Int) ||| BitVec.ofInt 64 ((r:Nat):Int)).toNat:Int)=_
 rw[BitVec.ofInt_natCast,BitVec.ofInt_natCast,BitVec.toNat_or,BitVec.toNat_ofNat,BitVec.toNat_ofNat,Nat.mod_eq_of_lt (by omega),Nat.mod_eq_of_lt (by omega)];rw[←hm] at hor;rw[←hor,IntKind.wrap_i64];omega
set_option maxHeartbeats 1000000 in
theorem Yra (last:Bool)(r:Nat)(level:Int)(hr:r<64)(hl:-128≤level∧level≤127)(w:World)(hp:Yfd w):Calls Tryz.prog 167 #[.agg #[.bool last,.int .i64 (r:Int),.int .i64 level]] w fun e w'=>
  e=.returned (.tuple #[.int .i64 (Ynq last r level:Nat),.int .i64 (Yln last r level:Nat)])∧Below w.heap.size w w':=by
 have hpl:=fun x hx=>Ynt last r level hr hl x hx;have HP:=Lib.hid (fun(x:World) (hx:Below w.heap.size w x)=>(hp.below hx:Yfd x));obtain⟨a,ha⟩:∃a:Nat,level.natAbs=a:=⟨_,rfl⟩;rw[ha] at hpl;cases hin:inT last r a with
 |true=>
  obtain⟨p,hpp⟩:∃p,plT last r a=p:=⟨_,rfl⟩;have hp102:p<102:=by rw[←hpp];exact Ytq hr hin
  have F1:=Lib.hid (show Ynq last r level=2*Yh8 p+(if level<0 then 1 else 0) by unfold Ynq;rw[ha,hin,if_pos rfl,hpp]);have F2:=Lib.hid (show Yln last r level=Yrl p+1 by unfold Yln;rw[ha,hin,if_pos rfl,hpp]);rw[hin,if_pos rfl,hpp] at hpl;have hco:=fun x hx=>Ye5 p (by omega) x hx;have hdi:=fun x hx=>Ygl p (by omega) x hx;rw[if_neg (by omega)] at hdi;rw[F1.out,F2.out]
  obtain⟨b0,b1,b2,b3⟩:=Yfs p (by omega);have hdig:=fun(b:Bool) x=>Ylo b x;obtain⟨s,hs⟩:∃s:Bool,decide (level<0)=s:=⟨_,rfl⟩;have ho:=Yo3 (Yh8 p) 2 s.toNat 1 rfl (by cases s <;> decide) (by cases s <;> simp <;> omega);have hsn:(if level<0 then 1 else 0:Nat)=s.toNat:=by rw[←hs];by_cases h:level<0 <;> simp[h]
  rw[hsn];generalize Yh8 p=x at hco b3 ho ⊢;generalize Yrl p=y at hco hdi b0 b1 ⊢;have O:=Lib.hid (show bits .or .i64 ((x:Int)*2) (s.toNat:Int)=_ from ho);have SN:=Lib.hid hsn;have hb1:Below w.heap.size w (w.alloc (.cells #[.bool last,.int .i64 (r:Int),.int .i64 level] 169 (0,0))):=(Below.refl _ w).alloc (Nat.le_refl _) _;have hp1:=HP.out _ hb1
  have hh:∀x,Below (w.heap.size+1) (w.alloc (.cells #[.bool last,.int .i64 (r:Int),.int .i64 level] 169 (0,0))) x→x.heap[w.heap.size]? =some (Ypz last r level):=fun x hx=>(hx.block w.heap.size (by omega)).trans (heap_alloc_new w _);have HH:=Lib.hid hh;have hz1:(w.alloc (.cells #[.bool last,.int .i64 (r:Int),.int .i64 level] 169 (0,0))).heap.size=w.heap.size+1:=by simp
  have HZ:=Lib.hid hz1;clear F1 F2 hin ha hpp hp ho b2 hsn hh hz1
  go_enter Tryz.func167,Tryz.ntmps167
  go_wp2_with fail
  refine(hpl _ hp1).mono ?_;rintro e w1 ⟨rfl,hb2⟩;rw[HZ.out] at hb2;have hb3:=hb1.trans (hb2.mono (by omega))
  go_wp2_with fail
  refine(hco _ (HP.out _ hb3)).mono ?_;rintro e w2 ⟨rfl,hb4⟩;have hz4:=hb3.size;have hb5:=hb2.trans (hb4.mono (by have:=hb2.size;rw[HZ.out] at this;exact this));have hb6:=hb3.trans (hb4.mono hz4);obtain⟨c0,c1,c2,_,_,_⟩:=Ygy (HH.out _ hb5);have hp6:=HP.out _ hb6;clear hb2 hb3 hb4 hb5 hpl hco hp1 hb1
  go_wp2_with fail
  refine(hdig _ _).mono ?_;rintro e w3 ⟨rfl,rfl⟩
  go_wp2_with fail
  refine(hdi _ hp6).mono ?_;rintro e w4 ⟨rfl,hb7⟩
  go_wp2
  go_ret2
  exact⟨Yko O.out rfl,hb6.trans (hb7.mono hb6.size)⟩
 |false=>
  have F1:=Lib.hid (show Ynq last r level=((6+last.toNat)*64+r)*256+(level%256).toNat by unfold Ynq;rw[ha,hin,if_neg (by decide)]);have F2:=Lib.hid (show Yln last r level=22 by unfold Yln;rw[ha,hin,if_neg (by decide)]);rw[hin,if_neg (by decide)] at hpl;have hco:=fun x hx=>Ye5 102 (by omega) x hx;have hdi:=fun x hx=>Ygl 102 (by omega) x hx;rw[if_pos rfl] at hdi
  rw[show Yh8 102=3 by decide +kernel] at hco;rw[F1.out,F2.out];have hdig:=fun x=>Ylo last x;obtain⟨s,hs⟩:∃s,(level%256).toNat=s:=⟨_,rfl⟩;have hs256:s<256:=by omega
  have hand:bits .and .i64 level 255=(s:Int):=by rw[show (255:Int)=2^8-1 by decide,Ye2 _ 8 (by omega)];omega
  have o1:=Yo3 3 2 last.toNat 1 rfl (by cases last <;> decide) (by cases last <;> simp);obtain⟨y,hy⟩:∃y,6+last.toNat=y:=⟨_,rfl⟩;rw[show 2*3+last.toNat=y by omega] at o1;have hy7:y≤7:=by rw[←hy];cases last <;> decide
  have o2:=Yo3 y 64 r 6 rfl hr (by omega);have o3:=Yo3 (64*y+r) 256 s 8 rfl hs256 (by omega);rw[hs,hy,show (y*64+r)*256+s=256*(64*y+r)+s by omega];obtain⟨z,hz⟩:∃z,64*y+r=z:=⟨_,rfl⟩;rw[hz] at o2 o3 ⊢;have hz512:z<512:=by omega
  have O1:=Lib.hid (show bits .or .i64 6 (last.toNat:Int)=(y:Int) from o1);have O2:=Lib.hid (show bits .or .i64 ((y:Int)*64) (r:Int)=(z:Int) from o2);have O3:=Lib.hid (show bits .or .i64 ((z:Int)*256) (s:Int)=_ from o3);have AND:=Lib.hid hand;have hb1:Below w.heap.size w (w.alloc (.cells #[.bool last,.int .i64 (r:Int),.int .i64 level] 169 (0,0))):=(Below.refl _ w).alloc (Nat.le_refl _) _
  have hp1:=HP.out _ hb1;have hh:∀x,Below (w.heap.size+1) (w.alloc (.cells #[.bool last,.int .i64 (r:Int),.int .i64 level] 169 (0,0))) x→x.heap[w.heap.size]? =some (Ypz last r level):=fun x hx=>(hx.block w.heap.size (by omega)).trans (heap_alloc_new w _);have HH:=Lib.hid hh;have hz1:(w.alloc (.cells #[.bool last,.int .i64 (r:Int),.int .i64 level] 169 (0,0))).heap.size=w.heap.size+1:=by simp
  have HZ:=Lib.hid hz1;clear F1 F2 hin ha hp hh hz1 hs hand o1 o2 o3 hy hz
  go_enter Tryz.func167,Tryz.ntmps167
  go_wp2_with fail
  refine(hpl _ hp1).mono ?_;rintro e w1 ⟨rfl,hb2⟩;rw[HZ.out] at hb2;have hb3:=hb1.trans (hb2.mono (by omega))
  go_wp2_with fail
  refine(hco _ (HP.out _ hb3)).mono ?_;rintro e w2 ⟨rfl,hb4⟩;have hz4:=hb3.size;have hb5:=hb2.trans (hb4.mono (by have:=hb2.size;rw[HZ.out] at this;exact this));have hb6:=hb3.trans (hb4.mono hz4);obtain⟨c0,c1,c2,_,_,_⟩:=Ygy (HH.out _ hb5);have hp6:=HP.out _ hb6;clear hb2 hb3 hb4 hb5 hpl hco hp1 hb1
  go_wp2_with fail
  refine(hdig _).mono ?_;rintro e w3 ⟨rfl,rfl⟩;have p1:=O1.out;have p2:=O2.out;have p3:=AND.out
  go_wp2_with fail
  have hp6d:Yfd w2.drew:=hp6;have hb6d:Below w.heap.size w w2.drew:=hb6.drew;have c2d:w2.drew.cell? ⟨w.heap.size,2,none⟩=some (.int .i64 level):=c2;have hlt:w.heap.size<w2.drew.heap.size:=World.block_lt_of_cell? _ ⟨w.heap.size,2,none⟩ c2d
  have CELL:=Lib.hid (fun(x:World) (hx:Below w2.drew.heap.size w2.drew x)=>((hx.cell (p:=⟨w.heap.size,2,none⟩) hlt).trans c2d:x.cell? ⟨w.heap.size,2,none⟩=some (.int .i64 level)));have sw:IntKind.i64.wrap ((z:Int)*256)=(z:Int)*256:=IntWalk.i64_in _ (by omega)
  go_region_with (go_at_call 174;refine(hdi _ (by assumption)).mono ?_;rintro e w4 ⟨rfl,hb7⟩;have c4:=CELL.out _ hb7)
  all_goals
   go_wp2
   go_ret2
   exact⟨Yko O3.out rfl,hb6d.trans (hb7.mono hb6d.size)⟩
theorem Ykj (last:Bool)(r:Nat)(level:Int)(hr:r<64):3≤Yln last r level∧Yln last r level≤22∧Ynq last r level<2^Yln last r level:=by
 unfold Yln Ynq;cases hin:inT last r level.natAbs with
 |true=>
  simp only[if_true];obtain⟨b0,b1,b2,_⟩:=Yfs (plT last r level.natAbs) (Nat.lt_trans (Ytq hr hin) (by decide));have b4:=Yy1 _ (Nat.lt_trans (Ytq hr hin) (show 102<103 by decide));refine⟨by omega,by omega,?_⟩;rw[Nat.pow_succ]
  split <;> omega
 |false=>
  simp only[Bool.false_eq_true,if_false];refine⟨by decide,by decide,?_⟩;have h1:last.toNat≤1:=by cases last <;> decide
  have h2:(level%256).toNat<256:=by omega
  omega
set_option maxHeartbeats 1000000 in
theorem Yso (last:Bool)(run level:Int)(w:World)(hp:Yfd w):Calls Tryz.prog 165 #[.agg #[.bool last,.int .i64 run,.int .i64 level]] w fun e w'=>
  e=.returned (.tuple #[.string (Yb8 last run level),.bool (!(Yb8 last run level).data.toList.isEmpty)])∧Below w.heap.size w w':=by
 have hri:=fun x=>Yje last run level x;have HP:=Lib.hid (fun(x:World) (hx:Below w.heap.size w x)=>(hp.below hx:Yfd x));have hb1:Below w.heap.size w (w.alloc (.cells #[.bool last,.int .i64 run,.int .i64 level] 169 (0,0))):=(Below.refl _ w).alloc (Nat.le_refl _) _
 have hh:∀x,Below (w.heap.size+1) (w.alloc (.cells #[.bool last,.int .i64 run,.int .i64 level] 169 (0,0))) x→x.heap[w.heap.size]? =some (Ypz last run level):=fun x hx=>(hx.block w.heap.size (by omega)).trans (heap_alloc_new w _);have HH:=Lib.hid hh;have hz1:(w.alloc (.cells #[.bool last,.int .i64 run,.int .i64 level] 169 (0,0))).heap.size=w.heap.size+1:=by simp
 have HZ:=Lib.hid hz1;cases hr:Yd8 run level with
 |false=>
  have F:=Lib.hid (show Yb8 last run level=⟨#[]⟩ by unfold Yb8;rw[hr,if_neg (by decide)]);rw[F.out];rw[hr] at hri;clear hr hp hh hz1
  go_enter Tryz.func165,Tryz.ntmps165
  go_wp2_with fail
  refine(hri _).mono ?_;rintro e w1 ⟨rfl,hb2⟩;rw[HZ.out] at hb2
  go_wp2
  go_ret2
  exact⟨rfl,hb1.trans (hb2.mono (by omega))⟩
 |true=>
  obtain⟨r0,r1,l0,l1,l2⟩:=Yes.1 hr;obtain⟨r,rfl⟩:∃r:Nat,run=r:=⟨run.toNat,by omega⟩;have F:=Lib.hid (show Yb8 last r level=⟨(Yav (Ynq last r level) (Yln last r level)).toArray⟩ by unfold Yb8;rw[hr,if_pos rfl];rfl);have hto:=fun x hx=>Yra last r level (by omega) ⟨by omega,l1⟩ x hx;obtain⟨f1,f2,f3⟩:=Ykj last r level (by omega);have G:=Lib.hid (show (!(Yb8 last r level).data.toList.isEmpty)=true by
   rw[F.out];show (!(Yav (Ynq last r level) (Yln last r level)).isEmpty)=true;cases hl:Yav (Ynq last r level) (Yln last r level) with
   |nil=>
    have e:=Yap (Ynq last r level) (Yln last r level);rw[hl] at e;simp at e;omega
   |cons a l=>rfl)
  rw[G.out,F.out];rw[hr] at hri;generalize Ynq last r level=x at hto f3 ⊢;generalize Yln last r level=y at hto f1 f2 f3 ⊢;have hx22:x<4194304:=Nat.lt_of_lt_of_le f3 (Nat.pow_le_pow_right (by decide) f2);have hrow:=fun w=>Yg2 (x:Int) (y:Int) w (by omega) (by
   unfold Yce;rw[decide_eq_true_iff];refine⟨by omega,by omega,by omega,?_⟩;rw[Int.toNat_natCast]
   exact_mod_cast f3)
  simp only[Int.toNat_natCast] at hrow;clear hr hp hh hz1 F G f3
  go_enter Tryz.func165,Tryz.ntmps165
  go_wp2_with fail
  refine(hri _).mono ?_;rintro e w1 ⟨rfl,hb2⟩;rw[HZ.out] at hb2;have hb3:=hb1.trans (hb2.mono (by omega));obtain⟨c0,c1,c2,_,_,_⟩:=Ygy (HH.out _ hb2)
  go_wp2_with fail
  refine(hto _ (HP.out _ hb3)).mono ?_;rintro e w2 ⟨rfl,hb4⟩;have hb5:=hb3.trans (hb4.mono hb3.size);clear c0 c1 c2 hb2 hb1
  go_wp2_with fail
  refine(hrow _).mono ?_;rintro e w3 ⟨rfl,hb6⟩
  go_wp2
  go_ret2
  exact⟨rfl,hb5.trans (hb6.mono hb5.size)⟩
end Go.Proofs.YtnamlooifcpoaaaGreatDoor
namespace Go.Proofs.YtnamlooifcpoaaaGreatDoor
open Go.RowKit
def Yda (i:Bool):Nat:=i.toNat
def Yub (x:Ev):ByteArray:=Yb8 x.1 x.2.1 x.2.2
def Yqn (l:List Ev):List UInt8:=l.flatMap fun x=>(Yub x).data.toList
def Yyn (i:Bool)(d:Int):Bool:=if i then decide (1≤d)&&decide (d≤254) else d==0
def dcB (i:Bool)(d:Int):List UInt8:=if i then Yav (if d=128 then 255 else d.toNat) 8 else []
def Ytb (i:Bool)(d:Int)(l:List Ev):Bool:=Yyn i d && !Yj3 (Yda i) l l.length
def Ymd (i:Bool)(d:Int)(l:List Ev):List UInt8:=dcB i d++Yqn l
theorem Yym (i:Bool)(d:Int):Ybs (dcB i d)=true:=by
 unfold dcB
 split
 ·exact Yhx _ _
 ·rfl
theorem Yyl (i:Bool)(d:Int):(dcB i d).length=8*Yda i:=by
 unfold dcB Yda;cases i
 ·rfl
 ·exact Yap _ _
theorem Yw3 (x:Ev):Ybs (Yub x).data.toList=true:=by
 unfold Yub Yb8
 split
 ·exact Yhx _ _
 ·rfl
theorem Yw2 (x:Ev):(Yub x).data.toList.length≤22:=by
 unfold Yub Yb8
 split
 next h=>
  obtain⟨r0,r1,_⟩:=Yes.1 h;have:=Ykj x.1 x.2.1.toNat x.2.2 (by omega);show (Yav _ _).length≤22;rw[Yap];exact this.2.1
 ·exact Nat.zero_le _
theorem Yuf (l:List Ev):Ybs (Yqn l)=true:=by
 induction l with
 |nil=>rfl
 |cons x l ih=>rw[Yqn,List.flatMap_cons,Ycb,Yw3,show Ybs (List.flatMap (fun x=>(Yub x).data.toList) l)=true from ih];rfl
theorem Yue (l:List Ev):(Yqn l).length≤22*l.length:=by
 induction l with
 |nil=>exact Nat.le_refl _
 |cons x l ih=>
  have h1:=Yw2 x;have h2:(List.flatMap (fun x=>(Yub x).data.toList) l).length≤22*l.length:=ih;rw[Yqn,List.flatMap_cons,List.length_append,List.length_cons];omega
theorem Yw1 (i:Bool)(d:Int)(l:List Ev):Ybs (Ymd i d l)=true:=by
 unfold Ymd;rw[Ycb,Yym,Yuf]
 rfl
theorem Ykp (i:Bool)(d:Int)(l:List Ev):(Ymd i d l).length≤8+22*l.length:=by
 have h1:=Yyl i d;have h2:=Yue l;have h3:Yda i≤1:=by cases i <;> decide
 unfold Ymd;rw[List.length_append];omega
theorem Yj4 {a:Nat}{l:List Ev}(h:Yj3 a l l.length=false):l.length≤64:=by
 have key:∀j,j≤l.length→j≤(lvS a (l.take j)).1:=by
  intro j
  induction j with
  |zero=>intro _;exact Nat.zero_le _
  |succ j ih=>
   intro hj;have h1:=ih (by omega);have h2:=Yo0 a l (show j<l.length by omega);rw[h2];simp only;omega
 by_cases h64:l.length≤64
 ·exact h64
 ·exfalso;have h1:=Yr0 h (show 64<l.length by omega);have h2:=key 64 (by omega);unfold Yrj at h1;simp only[Bool.and_eq_true,decide_eq_true_eq] at h1;omega
theorem Ypm {a:Nat}{l:List Ev}(h:Yj3 a l l.length=false){j:Nat}(hj:j<l.length):Yd8 l[j].2.1 l[j].2.2=true:=by
 have h1:=Yr0 h hj;unfold Yrj at h1;simp only[Bool.and_eq_true] at h1;exact h1.1.1
theorem Yga {i:Bool}{d:Int}{l:List Ev}(h:Ytb i d l=true):Yyn i d=true∧Yj3 (Yda i) l l.length=false:=by
 unfold Ytb at h;rw[Bool.and_eq_true,Bool.not_eq_true'] at h;exact h
theorem Y0b {i:Bool}{l:List Ev}(h:Yj3 (Yda i) l l.length=false):(lvG l ((Yda i:Nat):Int)).2=0:=by
 unfold lvG;rw[if_pos (by cases i;exact .inl rfl;exact .inr rfl),Int.toNat_natCast,if_neg (by rw[h];decide)]
theorem Yy3 {i:Bool}{l:List Ev}(h:Yj3 (Yda i) l l.length=true):(lvG l ((Yda i:Nat):Int)).2=7:=by
 unfold lvG;rw[if_pos (by cases i;exact .inl rfl;exact .inr rfl),Int.toNat_natCast,if_pos h]
theorem Yit (i:Bool)(w:World):Calls Tryz.prog 164 #[.bool i] w fun e w'=>e=.returned (.int .i64 (Yda i:Nat))∧w=w':=by
 cases i
 all_goals
  go_enter Tryz.func164,Tryz.ntmps164
  go_wp2
  go_ret
  exact⟨rfl,rfl⟩
end Go.Proofs.YtnamlooifcpoaaaGreatDoor
namespace Go.Proofs.YtnamlooifcpoaaaGreatDoor
def Ya3 (k:Int):Bool:=k==3 || k==4
def Y0p (k:Int):Bool:=k==1 || k==4
def Ylv (c:Cel)(i:Nat):Nat:=(decide (0<(c.ev i).length)).toNat
theorem Yyu (c:Cel)(i:Nat):Ylv c i≤1:=by unfold Ylv;cases decide (0<(c.ev i).length) <;> decide
def Ym5 (c:Cel):Nat→Nat
 |0=>0
 |i+1=>2*Ym5 c i+Ylv c i
def Y0m (c:Cel):Nat:=2*Ylv c 4+Ylv c 5
theorem Yvw (c:Cel):Ym5 c 4=8*Ylv c 0+4*Ylv c 1+2*Ylv c 2+Ylv c 3:=by
 simp only[Ym5];omega
theorem Yyk (c:Cel):Ym5 c 6=4*Ym5 c 4+Y0m c:=by
 simp only[Ym5,Y0m];omega
def Yri (c:Cel):Nat→List UInt8
 |0=>[]
 |i+1=>Yri c i++Ymd (Ya3 c.kind) (c.dc i) (c.ev i)
def Yip (c:Cel):Bool:=(c.kind==0&&c.step==0&&(c.mx==0&&c.my==0))&&((List.range 6).all (fun i=>c.dc i==0)&&(List.range 6).all (fun i=>decide ((c.ev i).length=0)))
def Yib (inter:Bool)(k:Int):Bool:=(k==3 || k==4) || (inter&&(k==0 || k==1))
def Yq5 (k s:Int):Bool:=if Y0p k then !(Yfb s).data.toList.isEmpty else s==0
def Yrf (k mx my:Int):Bool:=if Ya3 k then mx==0&&my==0 else mx==Ym8 mx&&my==Ym8 my
def Yf6 (c:Cel):Bool:=(List.range 6).all fun i=>Ytb (Ya3 c.kind) (c.dc i) (c.ev i)
def Ybb (inter:Bool)(c:Cel):Bool:=
 (decide (0≤c.stuff)&&decide (c.stuff≤64))&&(if c.skip then inter&&Yip c else (Yib inter c.kind&&Yq5 c.kind c.step)&&(Yrf c.kind c.mx c.my&&Yf6 c))
theorem Yr1 {c:Cel}:Yf6 c=true↔∀i,i<6→Ytb (Ya3 c.kind) (c.dc i) (c.ev i)=true:=by
 unfold Yf6;rw[List.all_eq_true];exact⟨fun h i hi=>h i (List.mem_range.2 hi),fun h i hi=>h i (List.mem_range.1 hi)⟩
theorem Yom {c:Cel}{n:Nat}:∀i,(∀j,j<i→(c.ev j).length≤n)→(Yri c i).length≤(8+22*n)*i
 |0,_=>Nat.le_refl _
 |i+1,h=>by
  have h1:=Yom i fun j hj=>h j (by omega);have h2:=Ykp (Ya3 c.kind) (c.dc i) (c.ev i);have h3:=h i (by omega);show (Yri c i++Ymd (Ya3 c.kind) (c.dc i) (c.ev i)).length≤_;rw[List.length_append,Nat.mul_add,Nat.mul_one];omega
end Go.Proofs.YtnamlooifcpoaaaGreatDoor
namespace Go.Proofs.YtnamlooifcpoaaaGreatDoor
open Go.RowKit Go.Lib Go.ChangeShapes Go.WideShapes Go.ChangeAt
theorem Ygf:(Rows.laid_overspill_tcoef_codes:DataW Unit)=tabData .u16 (Ysh.map fun z:Nat=>(z:Int))∧(Rows.laid_overspill_tcoef_lengths:DataW Unit)=tabData .u8 (Yy0.map fun z:Nat=>(z:Int))∧(Rows.laid_overspill_tcoef_ahead:DataW Unit)=tabData .u8 (Ynb.map fun z:Nat=>(z:Int)):=⟨by kernel_rfl,by kernel_rfl,by kernel_rfl⟩
theorem Ytg (l:List Nat)(i:Nat)(h:i<(l.map fun z:Nat=>(z:Int)).length):(l.map fun z:Nat=>(z:Int))[i]=((l[i]?.getD 0:Nat):Int):=by
 have h2:i<l.length:=by simpa using h
 rw[List.getElem_map,List.getElem?_eq_getElem h2]
 rfl
theorem Yhn {P:Program}{W:World}{laid:List (String×DataW Unit)}{ps:List MemPlace}{name:String}{k:IntKind}{zs:List Int}{g:Nat}{t e:TypeId}{n:Nat}(hv:DataW.LaidVars P W laid ps)(hm:(name,(tabData k zs:DataW Unit))∈laid)
  (hg:P.globalNamed name=some g)(ht:(P.globals[g]?).map (·.type)=some t)(hu:P.underlying t=some (.array n e))(he:P.underlying e=some (.int k))(hce:P.cellsOf e=1)(hct:P.cellsOf t=n)(i:Nat)(hi:i<zs.length):
  W.cell? ⟨g,i,none⟩=some (.int k zs[i]):=by
 obtain⟨g',t',cs,fuel,p,hg',ht',hc,hd⟩:=Yg0 hv hm;obtain rfl:=Option.some.inj (hg.symm.trans hg');obtain rfl:=Option.some.inj (ht.symm.trans ht');have h1:=cells_of_tab hu he hce hct hd;have hcell:=World.var?_cell hg hc i;rw[hcell,←Array.getElem?_toList,h1,List.getElem?_map,List.getElem?_eq_getElem hi]
 rfl
theorem Yq9 {laid : List (String × DataW Unit)} {W : World} (hL : laidMetH Tryz.prog laid W) (hm : (("overspill/tcoef.codes", Rows.laid_overspill_tcoef_codes) ∈ laid ∧ ("overspill/tcoef.lengths", Rows.laid_overspill_tcoef_lengths) ∈ laid ∧ ("overspill/tcoef.ahead", Rows.laid_overspill_tcoef_ahead) ∈ laid) ∧ (laid.all fun x => x.2.handleName?.isNone) = true) : Yfd W := by
 rw[MakeChecks.laidMetH_plain _ _ _ hm.2] at hL;obtain⟨ps,hv,_,_⟩:=hL;obtain⟨h1,h2,h3⟩:=hm.1;rw[Ygf.1] at h1;rw[Ygf.2.1] at h2;rw[Ygf.2.2] at h3;have hlc:(Ysh.map fun z:Nat=>(z:Int)).length=103:=rfl;have hll:(Yy0.map fun z:Nat=>(z:Int)).length=103:=rfl;have hla:(Ynb.map fun z:Nat=>(z:Int)).length=11:=rfl;refine⟨fun i hi=>?_,fun i hi=>?_⟩
 ·have g1:=Yhn hv h1 (g:=4) (t:=211) (by kernel_rfl) (by kernel_rfl) Tryz.underlying211 Tryz.underlying210 (by kernel_rfl) (by kernel_rfl) i (by rw[hlc];exact hi);have g2:=Yhn hv h2 (g:=5) (t:=212) (by kernel_rfl) (by kernel_rfl) Tryz.underlying212 Tryz.underlying5 (by kernel_rfl) (by kernel_rfl) i (by rw[hll];exact hi);rw[Ytg] at g1 g2;exact⟨g1,g2⟩
 ·have g3:=Yhn hv h3 (g:=6) (t:=215) (by kernel_rfl) (by kernel_rfl) Tryz.underlying215 Tryz.underlying5 (by kernel_rfl) (by kernel_rfl) i (by rw[hla];exact hi);rw[Ytg] at g3;exact g3
theorem Ypc {laid:List (String×DataW Unit)}{W:World}(hL:laidMetH Tryz.prog laid W)
  (hm : (("overspill/steps.codes", Rows.laid_overspill_steps_codes) ∈ laid ∧
   (("overspill/tcoef.codes", Rows.laid_overspill_tcoef_codes) ∈ laid ∧ ("overspill/tcoef.lengths", Rows.laid_overspill_tcoef_lengths) ∈ laid ∧ ("overspill/tcoef.ahead", Rows.laid_overspill_tcoef_ahead) ∈ laid)) ∧ (laid.all fun x => x.2.handleName?.isNone) = true) : Yfd W ∧ Ybh W :=
 ⟨Yq9 hL ⟨hm.1.2,hm.2⟩,Yq4 hL ⟨hm.1.1,hm.2⟩⟩
end Go.Proofs.YtnamlooifcpoaaaGreatDoor