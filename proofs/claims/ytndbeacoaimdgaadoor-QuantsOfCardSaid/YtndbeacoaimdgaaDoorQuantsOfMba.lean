/- No condition. -/
import Derived.Test.YtndbeacoaimdgaaDoorQuantsOfMb
import Derived.Test.YtndbeacoaimdgaaDoorQuantsOfMd
import Derived.Test.YtndbeacoaimdgaaDoorQuantsOfMf
import Derived.Test.YtndbeacoaimdgaaDoorQuantsOfMg
import Derived.Test.YtndbeacoaimdgaaDoorQuantsOfMh
import Derived.Test.YtndbeacoaimdgaaDoorQuantsOfMj
import Derived.Test.YtndbeacoaimdgaaDoorQuantsOfMk
import Derived.Test.YtndbeacoaimdgaaDoorQuantsOfMu
import Derived.Test.YtndbeacoaimdgaaDoorQuantsOfMw
import Derived.Test.YtndbeacoaimdgaaDoorQuantsOfMy
import Derived.Test.YtndbeacoaimdgaaDoorQuantsOfMz
import Derived.RegionTactic
import Derived.Deep.RegionWith
import Derived.WalkKit
import Derived.WalkMore
import Derived.Lib.Strings
import Derived.IntWalk
import Derived.Lib.LaidTab
import Derived.MakeChecks
import Derived.Test.YtndbeacoaimdgaaDoorRows
import Derived.StillTailTactics
namespace Go.Proofs.YtndbeacoaimdgaaDoor
open Go.RowKit Go.Lib
theorem Yqk:∀i,i<103→2≤Ymk i:=by decide +kernel
theorem Ykw (y m r k:Nat)(hm:m=2^k)(h:r<m)(hy:m*y+r<4294967296):bits .or .i64 ((y:Int)*(m:Int)) (r:Int)=((m*y+r:Nat):Int):=by
 have hor:=Nat.two_pow_add_eq_or_of_lt (i:=k) (b:=r) (by rw[←hm];exact h) y;rw[show (y:Int)*(m:Int)=((m*y:Nat):Int) by rw[Int.mul_comm];simp];show IntKind.i64.wrap ((BitVec.ofInt 64 ((m*y:Nat):Int) ||| BitVec.ofInt 64 ((r:Nat):Int)).toNat:Int)=_
 rw[BitVec.ofInt_natCast,BitVec.ofInt_natCast,BitVec.toNat_or,BitVec.toNat_ofNat,BitVec.toNat_ofNat,Nat.mod_eq_of_lt (by omega),Nat.mod_eq_of_lt (by omega)];rw[←hm] at hor;rw[←hor,IntKind.wrap_i64];omega
set_option maxHeartbeats 1000000 in
theorem Ymg (last:Bool)(r:Nat)(level:Int)(hr:r<64)(hl:-128≤level∧level≤127)(w:World)(hp:Yeq w):Calls Tryd.prog 89 #[.agg #[.bool last,.int .i64 (r:Int),.int .i64 level]] w fun e w'=>
  e=.returned (.tuple #[.int .i64 (Yjz last r level:Nat),.int .i64 (Yim last r level:Nat)])∧Below w.heap.size w w':=by
 have hpl:=fun x hx=>Yj1 last r level hr hl x hx;have HP:=Lib.hid (fun(x:World) (hx:Below w.heap.size w x)=>(hp.below hx:Yeq x));obtain⟨a,ha⟩:∃a:Nat,level.natAbs=a:=⟨_,rfl⟩;rw[ha] at hpl;cases hin:inT last r a with
 |true=>
  obtain⟨p,hpp⟩:∃p,plT last r a=p:=⟨_,rfl⟩;have hp102:p<102:=by rw[←hpp];exact Yns hr hin
  have F1:=Lib.hid (show Yjz last r level=2*Ygk p+(if level<0 then 1 else 0) by unfold Yjz;rw[ha,hin,if_pos rfl,hpp]);have F2:=Lib.hid (show Yim last r level=Ymk p+1 by unfold Yim;rw[ha,hin,if_pos rfl,hpp]);rw[hin,if_pos rfl,hpp] at hpl;have hco:=fun x hx=>Ydz p (by omega) x hx;have hdi:=fun x hx=>Yez p (by omega) x hx;rw[if_neg (by omega)] at hdi;rw[F1.out,F2.out]
  obtain⟨b0,b1,b2,b3⟩:=Yeh p (by omega);have hdig:=fun(b:Bool) x=>Yin b x;obtain⟨s,hs⟩:∃s:Bool,decide (level<0)=s:=⟨_,rfl⟩;have ho:=Ykw (Ygk p) 2 s.toNat 1 rfl (by cases s <;> decide) (by cases s <;> simp <;> omega);have hsn:(if level<0 then 1 else 0:Nat)=s.toNat:=by rw[←hs];by_cases h:level<0 <;> simp[h]
  rw[hsn];generalize Ygk p=x at hco b3 ho ⊢;generalize Ymk p=y at hco hdi b0 b1 ⊢;have O:=Lib.hid (show bits .or .i64 ((x:Int)*2) (s.toNat:Int)=_ from ho);have SN:=Lib.hid hsn;have hb1:Below w.heap.size w (w.alloc (.cells #[.bool last,.int .i64 (r:Int),.int .i64 level] 89 (0,0))):=(Below.refl _ w).alloc (Nat.le_refl _) _;have hp1:=HP.out _ hb1
  have hh:∀x,Below (w.heap.size+1) (w.alloc (.cells #[.bool last,.int .i64 (r:Int),.int .i64 level] 89 (0,0))) x→x.heap[w.heap.size]? =some (Yll last r level):=fun x hx=>(hx.block w.heap.size (by omega)).trans (heap_alloc_new w _);have HH:=Lib.hid hh;have hz1:(w.alloc (.cells #[.bool last,.int .i64 (r:Int),.int .i64 level] 89 (0,0))).heap.size=w.heap.size+1:=by simp
  have HZ:=Lib.hid hz1;clear F1 F2 hin ha hpp hp ho b2 hsn hh hz1
  go_enter Tryd.func89,Tryd.ntmps89
  go_wp2_with fail
  refine(hpl _ hp1).mono ?_;rintro e w1 ⟨rfl,hb2⟩;rw[HZ.out] at hb2;have hb3:=hb1.trans (hb2.mono (by omega))
  go_wp2_with fail
  refine(hco _ (HP.out _ hb3)).mono ?_;rintro e w2 ⟨rfl,hb4⟩;have hz4:=hb3.size;have hb5:=hb2.trans (hb4.mono (by have:=hb2.size;rw[HZ.out] at this;exact this));have hb6:=hb3.trans (hb4.mono hz4);obtain⟨c0,c1,c2,_,_,_⟩:=Yfc (HH.out _ hb5);have hp6:=HP.out _ hb6;clear hb2 hb3 hb4 hb5 hpl hco hp1 hb1
  go_wp2_with fail
  refine(hdig _ _).mono ?_;rintro e w3 ⟨rfl,rfl⟩
  go_wp2_with fail
  refine(hdi _ hp6).mono ?_;rintro e w4 ⟨rfl,hb7⟩
  go_wp2
  go_ret2
  exact⟨Yh2 O.out rfl,hb6.trans (hb7.mono hb6.size)⟩
 |false=>
  have F1:=Lib.hid (show Yjz last r level=((6+last.toNat)*64+r)*256+(level%256).toNat by unfold Yjz;rw[ha,hin,if_neg (by decide)]);have F2:=Lib.hid (show Yim last r level=22 by unfold Yim;rw[ha,hin,if_neg (by decide)]);rw[hin,if_neg (by decide)] at hpl;have hco:=fun x hx=>Ydz 102 (by omega) x hx;have hdi:=fun x hx=>Yez 102 (by omega) x hx;rw[if_pos rfl] at hdi
  rw[show Ygk 102=3 by decide +kernel] at hco;rw[F1.out,F2.out];have hdig:=fun x=>Yin last x;obtain⟨s,hs⟩:∃s,(level%256).toNat=s:=⟨_,rfl⟩;have hs256:s<256:=by omega
  have hand:bits .and .i64 level 255=(s:Int):=by rw[show (255:Int)=2^8-1 by decide,Yjs _ 8 (by omega)];omega
  have o1:=Ykw 3 2 last.toNat 1 rfl (by cases last <;> decide) (by cases last <;> simp);obtain⟨y,hy⟩:∃y,6+last.toNat=y:=⟨_,rfl⟩;rw[show 2*3+last.toNat=y by omega] at o1;have hy7:y≤7:=by rw[←hy];cases last <;> decide
  have o2:=Ykw y 64 r 6 rfl hr (by omega);have o3:=Ykw (64*y+r) 256 s 8 rfl hs256 (by omega);rw[hs,hy,show (y*64+r)*256+s=256*(64*y+r)+s by omega];obtain⟨z,hz⟩:∃z,64*y+r=z:=⟨_,rfl⟩;rw[hz] at o2 o3 ⊢;have hz512:z<512:=by omega
  have O1:=Lib.hid (show bits .or .i64 6 (last.toNat:Int)=(y:Int) from o1);have O2:=Lib.hid (show bits .or .i64 ((y:Int)*64) (r:Int)=(z:Int) from o2);have O3:=Lib.hid (show bits .or .i64 ((z:Int)*256) (s:Int)=_ from o3);have AND:=Lib.hid hand;have hb1:Below w.heap.size w (w.alloc (.cells #[.bool last,.int .i64 (r:Int),.int .i64 level] 89 (0,0))):=(Below.refl _ w).alloc (Nat.le_refl _) _
  have hp1:=HP.out _ hb1;have hh:∀x,Below (w.heap.size+1) (w.alloc (.cells #[.bool last,.int .i64 (r:Int),.int .i64 level] 89 (0,0))) x→x.heap[w.heap.size]? =some (Yll last r level):=fun x hx=>(hx.block w.heap.size (by omega)).trans (heap_alloc_new w _);have HH:=Lib.hid hh;have hz1:(w.alloc (.cells #[.bool last,.int .i64 (r:Int),.int .i64 level] 89 (0,0))).heap.size=w.heap.size+1:=by simp
  have HZ:=Lib.hid hz1;clear F1 F2 hin ha hp hh hz1 hs hand o1 o2 o3 hy hz
  go_enter Tryd.func89,Tryd.ntmps89
  go_wp2_with fail
  refine(hpl _ hp1).mono ?_;rintro e w1 ⟨rfl,hb2⟩;rw[HZ.out] at hb2;have hb3:=hb1.trans (hb2.mono (by omega))
  go_wp2_with fail
  refine(hco _ (HP.out _ hb3)).mono ?_;rintro e w2 ⟨rfl,hb4⟩;have hz4:=hb3.size;have hb5:=hb2.trans (hb4.mono (by have:=hb2.size;rw[HZ.out] at this;exact this));have hb6:=hb3.trans (hb4.mono hz4);obtain⟨c0,c1,c2,_,_,_⟩:=Yfc (HH.out _ hb5);have hp6:=HP.out _ hb6;clear hb2 hb3 hb4 hb5 hpl hco hp1 hb1
  go_wp2_with fail
  refine(hdig _).mono ?_;rintro e w3 ⟨rfl,rfl⟩;have p1:=O1.out;have p2:=O2.out;have p3:=AND.out
  go_wp2_with fail
  have hp6d:Yeq w2.drew:=hp6;have hb6d:Below w.heap.size w w2.drew:=hb6.drew;have c2d:w2.drew.cell? ⟨w.heap.size,2,none⟩=some (.int .i64 level):=c2;have hlt:w.heap.size<w2.drew.heap.size:=World.block_lt_of_cell? _ ⟨w.heap.size,2,none⟩ c2d
  have CELL:=Lib.hid (fun(x:World) (hx:Below w2.drew.heap.size w2.drew x)=>((hx.cell (p:=⟨w.heap.size,2,none⟩) hlt).trans c2d:x.cell? ⟨w.heap.size,2,none⟩=some (.int .i64 level)));have sw:IntKind.i64.wrap ((z:Int)*256)=(z:Int)*256:=IntWalk.i64_in _ (by omega)
  go_region_with (go_at_call 96;refine(hdi _ (by assumption)).mono ?_;rintro e w4 ⟨rfl,hb7⟩;have c4:=CELL.out _ hb7)
  all_goals
   go_wp2
   go_ret2
   exact⟨Yh2 O3.out rfl,hb6d.trans (hb7.mono hb6d.size)⟩
theorem Yhx (last:Bool)(r:Nat)(level:Int)(hr:r<64):3≤Yim last r level∧Yim last r level≤22∧Yjz last r level<2^Yim last r level:=by
 unfold Yim Yjz;cases hin:inT last r level.natAbs with
 |true=>
  simp only[if_true];obtain⟨b0,b1,b2,_⟩:=Yeh (plT last r level.natAbs) (Nat.lt_trans (Yns hr hin) (by decide));have b4:=Yqk _ (Nat.lt_trans (Yns hr hin) (show 102<103 by decide));refine⟨by omega,by omega,?_⟩;rw[Nat.pow_succ]
  split <;> omega
 |false=>
  simp only[Bool.false_eq_true,if_false];refine⟨by decide,by decide,?_⟩;have h1:last.toNat≤1:=by cases last <;> decide
  have h2:(level%256).toNat<256:=by omega
  omega
set_option maxHeartbeats 1000000 in
theorem Ym8 (last:Bool)(run level:Int)(w:World)(hp:Yeq w):Calls Tryd.prog 85 #[.agg #[.bool last,.int .i64 run,.int .i64 level]] w fun e w'=>
  e=.returned (.tuple #[.string (Ybm last run level),.bool (!(Ybm last run level).data.toList.isEmpty)])∧Below w.heap.size w w':=by
 have hri:=fun x=>Yg9 last run level x;have HP:=Lib.hid (fun(x:World) (hx:Below w.heap.size w x)=>(hp.below hx:Yeq x));have hb1:Below w.heap.size w (w.alloc (.cells #[.bool last,.int .i64 run,.int .i64 level] 89 (0,0))):=(Below.refl _ w).alloc (Nat.le_refl _) _
 have hh:∀x,Below (w.heap.size+1) (w.alloc (.cells #[.bool last,.int .i64 run,.int .i64 level] 89 (0,0))) x→x.heap[w.heap.size]? =some (Yll last run level):=fun x hx=>(hx.block w.heap.size (by omega)).trans (heap_alloc_new w _);have HH:=Lib.hid hh;have hz1:(w.alloc (.cells #[.bool last,.int .i64 run,.int .i64 level] 89 (0,0))).heap.size=w.heap.size+1:=by simp
 have HZ:=Lib.hid hz1;cases hr:Yb6 run level with
 |false=>
  have F:=Lib.hid (show Ybm last run level=⟨#[]⟩ by unfold Ybm;rw[hr,if_neg (by decide)]);rw[F.out];rw[hr] at hri;clear hr hp hh hz1
  go_enter Tryd.func85,Tryd.ntmps85
  go_wp2_with fail
  refine(hri _).mono ?_;rintro e w1 ⟨rfl,hb2⟩;rw[HZ.out] at hb2
  go_wp2
  go_ret2
  exact⟨rfl,hb1.trans (hb2.mono (by omega))⟩
 |true=>
  obtain⟨r0,r1,l0,l1,l2⟩:=Ycu.1 hr;obtain⟨r,rfl⟩:∃r:Nat,run=r:=⟨run.toNat,by omega⟩;have F:=Lib.hid (show Ybm last r level=⟨(Yar (Yjz last r level) (Yim last r level)).toArray⟩ by unfold Ybm;rw[hr,if_pos rfl];rfl);have hto:=fun x hx=>Ymg last r level (by omega) ⟨by omega,l1⟩ x hx;obtain⟨f1,f2,f3⟩:=Yhx last r level (by omega);have G:=Lib.hid (show (!(Ybm last r level).data.toList.isEmpty)=true by
   rw[F.out];show (!(Yar (Yjz last r level) (Yim last r level)).isEmpty)=true;cases hl:Yar (Yjz last r level) (Yim last r level) with
   |nil=>
    have e:=Yam (Yjz last r level) (Yim last r level);rw[hl] at e;simp at e;omega
   |cons a l=>rfl)
  rw[G.out,F.out];rw[hr] at hri;generalize Yjz last r level=x at hto f3 ⊢;generalize Yim last r level=y at hto f1 f2 f3 ⊢;have hx22:x<4194304:=Nat.lt_of_lt_of_le f3 (Nat.pow_le_pow_right (by decide) f2);have hrow:=fun w=>Yfh (x:Int) (y:Int) w (by omega) (by
   unfold Ybs;rw[decide_eq_true_iff];refine⟨by omega,by omega,by omega,?_⟩;rw[Int.toNat_natCast]
   exact_mod_cast f3)
  simp only[Int.toNat_natCast] at hrow;clear hr hp hh hz1 F G f3
  go_enter Tryd.func85,Tryd.ntmps85
  go_wp2_with fail
  refine(hri _).mono ?_;rintro e w1 ⟨rfl,hb2⟩;rw[HZ.out] at hb2;have hb3:=hb1.trans (hb2.mono (by omega));obtain⟨c0,c1,c2,_,_,_⟩:=Yfc (HH.out _ hb2)
  go_wp2_with fail
  refine(hto _ (HP.out _ hb3)).mono ?_;rintro e w2 ⟨rfl,hb4⟩;have hb5:=hb3.trans (hb4.mono hb3.size);clear c0 c1 c2 hb2 hb1
  go_wp2_with fail
  refine(hrow _).mono ?_;rintro e w3 ⟨rfl,hb6⟩
  go_wp2
  go_ret2
  exact⟨rfl,hb5.trans (hb6.mono hb5.size)⟩
end Go.Proofs.YtndbeacoaimdgaaDoor
namespace Go.Proofs.YtndbeacoaimdgaaDoor
open Go.RowKit
def Ya8 (i:Bool):Nat:=i.toNat
def Yn0 (x:Ev):ByteArray:=Ybm x.1 x.2.1 x.2.2
def Yl1 (l:List Ev):List UInt8:=l.flatMap fun x=>(Yn0 x).data.toList
def Ym3 (i:Bool)(d:Int):Bool:=if i then decide (1≤d)&&decide (d≤254) else d==0
def dcB (i:Bool)(d:Int):List UInt8:=if i then Yar (if d=128 then 255 else d.toNat) 8 else []
def Ye8 (i:Bool)(d:Int)(l:List Ev):Bool:=Ym3 i d && !Ye7 (Ya8 i) l l.length
def Yi6 (i:Bool)(d:Int)(l:List Ev):List UInt8:=dcB i d++Yl1 l
theorem Yqd (i:Bool)(d:Int):Ya9 (dcB i d)=true:=by
 unfold dcB
 split
 ·exact Ygd _ _
 ·rfl
theorem Yqc (i:Bool)(d:Int):(dcB i d).length=8*Ya8 i:=by
 unfold dcB Ya8;cases i
 ·rfl
 ·exact Yam _ _
theorem Ypi (x:Ev):Ya9 (Yn0 x).data.toList=true:=by
 unfold Yn0 Ybm
 split
 ·exact Ygd _ _
 ·rfl
theorem Yph (x:Ev):(Yn0 x).data.toList.length≤22:=by
 unfold Yn0 Ybm
 split
 next h=>
  obtain⟨r0,r1,_⟩:=Ycu.1 h;have:=Yhx x.1 x.2.1.toNat x.2.2 (by omega);show (Yar _ _).length≤22;rw[Yam];exact this.2.1
 ·exact Nat.zero_le _
theorem Yn3 (l:List Ev):Ya9 (Yl1 l)=true:=by
 induction l with
 |nil=>rfl
 |cons x l ih=>rw[Yl1,List.flatMap_cons,Ybp,Ypi,show Ya9 (List.flatMap (fun x=>(Yn0 x).data.toList) l)=true from ih];rfl
theorem Yn2 (l:List Ev):(Yl1 l).length≤22*l.length:=by
 induction l with
 |nil=>exact Nat.le_refl _
 |cons x l ih=>
  have h1:=Yph x;have h2:(List.flatMap (fun x=>(Yn0 x).data.toList) l).length≤22*l.length:=ih;rw[Yl1,List.flatMap_cons,List.length_append,List.length_cons];omega
theorem Ypg (i:Bool)(d:Int)(l:List Ev):Ya9 (Yi6 i d l)=true:=by
 unfold Yi6;rw[Ybp,Yqd,Yn3]
 rfl
theorem Yh3 (i:Bool)(d:Int)(l:List Ev):(Yi6 i d l).length≤8+22*l.length:=by
 have h1:=Yqc i d;have h2:=Yn2 l;have h3:Ya8 i≤1:=by cases i <;> decide
 unfold Yi6;rw[List.length_append];omega
theorem Yli {d:Int}:Ym3 false d=(d==0):=rfl
theorem Ym4 {d:Int}:Ym3 true d=(decide (1≤d)&&decide (d≤254)):=rfl
theorem Yhk {a:Nat}{l:List Ev}(h:Ye7 a l l.length=false):l.length≤64:=by
 have key:∀j,j≤l.length→j≤(lvS a (l.take j)).1:=by
  intro j
  induction j with
  |zero=>intro _;exact Nat.zero_le _
  |succ j ih=>
   intro hj;have h1:=ih (by omega);have h2:=Yhv a l (show j<l.length by omega);rw[h2];simp only;omega
 by_cases h64:l.length≤64
 ·exact h64
 ·exfalso;have h1:=Yms h (show 64<l.length by omega);have h2:=key 64 (by omega);unfold Yiq at h1;simp only[Bool.and_eq_true,decide_eq_true_eq] at h1;omega
theorem Yla {a:Nat}{l:List Ev}(h:Ye7 a l l.length=false){j:Nat}(hj:j<l.length):Yb6 l[j].2.1 l[j].2.2=true:=by
 have h1:=Yms h hj;unfold Yiq at h1;simp only[Bool.and_eq_true] at h1;exact h1.1.1
theorem Yet {i:Bool}{d:Int}{l:List Ev}(h:Ye8 i d l=true):Ym3 i d=true∧Ye7 (Ya8 i) l l.length=false:=by
 unfold Ye8 at h;rw[Bool.and_eq_true,Bool.not_eq_true'] at h;exact h
theorem Yp2 {i:Bool}{l:List Ev}(h:Ye7 (Ya8 i) l l.length=false):(lvG l ((Ya8 i:Nat):Int)).2=0:=by
 unfold lvG;rw[if_pos (by cases i;exact .inl rfl;exact .inr rfl),Int.toNat_natCast,if_neg (by rw[h];decide)]
theorem Ynj {i:Bool}{l:List Ev}(h:Ye7 (Ya8 i) l l.length=true):(lvG l ((Ya8 i:Nat):Int)).2=7:=by
 unfold lvG;rw[if_pos (by cases i;exact .inl rfl;exact .inr rfl),Int.toNat_natCast,if_pos h]
theorem Ygt (i:Bool)(w:World):Calls Tryd.prog 84 #[.bool i] w fun e w'=>e=.returned (.int .i64 (Ya8 i:Nat))∧w=w':=by
 cases i
 all_goals
  go_enter Tryd.func84,Tryd.ntmps84
  go_wp2
  go_ret
  exact⟨rfl,rfl⟩
end Go.Proofs.YtndbeacoaimdgaaDoor
namespace Go.Proofs.YtndbeacoaimdgaaDoor
def Yaj (k:Int):Bool:=k==3 || k==4
def Yre (k:Int):Bool:=k==1 || k==4
def Yiu (c:Cel)(i:Nat):Nat:=(decide (0<(c.ev i).length)).toNat
theorem Yqe (c:Cel)(i:Nat):Yiu c i≤1:=by unfold Yiu;cases decide (0<(c.ev i).length) <;> decide
def Yjp (c:Cel):Nat→Nat
 |0=>0
 |i+1=>2*Yjp c i+Yiu c i
def Yri (c:Cel):Nat:=2*Yiu c 4+Yiu c 5
theorem Yoy (c:Cel):Yjp c 4=8*Yiu c 0+4*Yiu c 1+2*Yiu c 2+Yiu c 3:=by
 simp only[Yjp];omega
theorem Yqb (c:Cel):Yjp c 6=4*Yjp c 4+Yri c:=by
 simp only[Yjp,Yri];omega
def Ymi (c:Cel):Nat→List UInt8
 |0=>[]
 |i+1=>Ymi c i++Yi6 (Yaj c.kind) (c.dc i) (c.ev i)
def Yd4 (c:Cel):Bool:=(c.kind==0&&c.step==0&&(c.mx==0&&c.my==0))&&((List.range 6).all (fun i=>c.dc i==0)&&(List.range 6).all (fun i=>decide ((c.ev i).length=0)))
def Ydo (inter:Bool)(k:Int):Bool:=(k==3 || k==4) || (inter&&(k==0 || k==1))
def Yc8 (k s:Int):Bool:=if Yre k then !(Ybb s).data.toList.isEmpty else s==0
def Yjk (k mx my:Int):Bool:=if Yaj k then mx==0&&my==0 else mx==Ygi mx&&my==Ygi my
def Ycr (c:Cel):Bool:=(List.range 6).all fun i=>Ye8 (Yaj c.kind) (c.dc i) (c.ev i)
def Ya6 (inter:Bool)(c:Cel):Bool:=
 (decide (0≤c.stuff)&&decide (c.stuff≤64))&&(if c.skip then inter&&Yd4 c else (Ydo inter c.kind&&Yc8 c.kind c.step)&&(Yjk c.kind c.mx c.my&&Ycr c))
theorem Ye5 {s:Int}:(Ybb s).data.toList.isEmpty=false↔(s = -1∨s = -2∨s=1∨s=2):=by
 unfold Ybb;by_cases h1:s = -1
 ·simp[h1]
 by_cases h2:s = -2
 ·simp[h2]
 by_cases h3:s=1
 ·simp[h3]
 by_cases h4:s=2
 ·simp[h4]
 simp[h1,h2,h3,h4]
theorem Yih {c:Cel}:Ycr c=true↔∀i,i<6→Ye8 (Yaj c.kind) (c.dc i) (c.ev i)=true:=by
 unfold Ycr;rw[List.all_eq_true];exact⟨fun h i hi=>h i (List.mem_range.2 hi),fun h i hi=>h i (List.mem_range.1 hi)⟩
theorem Ydi (n:Int):-32≤Ygi n∧Ygi n≤31:=by unfold Ygi;omega
theorem Yep {n:Int}:n=Ygi n↔(-32≤n∧n≤31):=by unfold Ygi;omega
theorem Ykl {c:Cel}{n:Nat}:∀i,(∀j,j<i→(c.ev j).length≤n)→(Ymi c i).length≤(8+22*n)*i
 |0,_=>Nat.le_refl _
 |i+1,h=>by
  have h1:=Ykl i fun j hj=>h j (by omega);have h2:=Yh3 (Yaj c.kind) (c.dc i) (c.ev i);have h3:=h i (by omega);show (Ymi c i++Yi6 (Yaj c.kind) (c.dc i) (c.ev i)).length≤_;rw[List.length_append,Nat.mul_add,Nat.mul_one];omega
end Go.Proofs.YtndbeacoaimdgaaDoor
namespace Go.Proofs.YtndbeacoaimdgaaDoor
open Go.RowKit Go.Lib
theorem Yf9 (k:Int)(w:World):Calls Tryd.prog 18 #[.int .i64 k] w fun e w'=>e=.returned (.bool (Yaj k))∧w=w':=by
 cases h3:(k==3) with
 |true=>
  go_enter Tryd.func18,Tryd.ntmps18
  go_wp2
  go_ret
  exact⟨Yad (by simp[Yaj,h3]),rfl⟩
 |false=>
  cases h4:(k==4) with
  |true=>
   go_enter Tryd.func18,Tryd.ntmps18
   go_wp2
   go_ret
   exact⟨Yad (by simp[Yaj,h3,h4]),rfl⟩
  |false=>
   go_enter Tryd.func18,Tryd.ntmps18
   go_wp2
   go_ret
   exact⟨Yad (by simp[Yaj,h3,h4]),rfl⟩
end Go.Proofs.YtndbeacoaimdgaaDoor
namespace Go.Proofs.YtndbeacoaimdgaaDoor
open Go.RowKit Go.Lib Go.ChangeShapes Go.WideShapes Go.ChangeAt
theorem Yew:(Rows.laid_overspill_tcoef_codes:DataW Unit)=tabData .u16 (Ym1.map fun z:Nat=>(z:Int))∧(Rows.laid_overspill_tcoef_lengths:DataW Unit)=tabData .u8 (Yqj.map fun z:Nat=>(z:Int))∧(Rows.laid_overspill_tcoef_ahead:DataW Unit)=tabData .u8 (Yjr.map fun z:Nat=>(z:Int)):=⟨by kernel_rfl,by kernel_rfl,by kernel_rfl⟩
theorem Yno (l:List Nat)(i:Nat)(h:i<(l.map fun z:Nat=>(z:Int)).length):(l.map fun z:Nat=>(z:Int))[i]=((l[i]?.getD 0:Nat):Int):=by
 have h2:i<l.length:=by simpa using h
 rw[List.getElem_map,List.getElem?_eq_getElem h2]
 rfl
theorem Yf5 {P:Program}{W:World}{laid:List (String×DataW Unit)}{ps:List MemPlace}{name:String}{k:IntKind}{zs:List Int}{g:Nat}{t e:TypeId}{n:Nat}(hv:DataW.LaidVars P W laid ps)(hm:(name,(tabData k zs:DataW Unit))∈laid)
  (hg:P.globalNamed name=some g)(ht:(P.globals[g]?).map (·.type)=some t)(hu:P.underlying t=some (.array n e))(he:P.underlying e=some (.int k))(hce:P.cellsOf e=1)(hct:P.cellsOf t=n)(i:Nat)(hi:i<zs.length):
  W.cell? ⟨g,i,none⟩=some (.int k zs[i]):=by
 obtain⟨g',t',cs,fuel,p,hg',ht',hc,hd⟩:=Yhu hv hm;obtain rfl:=Option.some.inj (hg.symm.trans hg');obtain rfl:=Option.some.inj (ht.symm.trans ht');have h1:=cells_of_tab hu he hce hct hd;have hcell:=World.var?_cell hg hc i;rw[hcell,←Array.getElem?_toList,h1,List.getElem?_map,List.getElem?_eq_getElem hi]
 rfl
theorem Ymf {laid : List (String × DataW Unit)} {W : World} (hL : laidMetH Tryd.prog laid W) (hm : (("overspill/tcoef.codes", Rows.laid_overspill_tcoef_codes) ∈ laid ∧ ("overspill/tcoef.lengths", Rows.laid_overspill_tcoef_lengths) ∈ laid ∧ ("overspill/tcoef.ahead", Rows.laid_overspill_tcoef_ahead) ∈ laid) ∧ (laid.all fun x => x.2.handleName?.isNone) = true) : Yeq W := by
 rw[MakeChecks.laidMetH_plain _ _ _ hm.2] at hL;obtain⟨ps,hv,_,_⟩:=hL;obtain⟨h1,h2,h3⟩:=hm.1;rw[Yew.1] at h1;rw[Yew.2.1] at h2;rw[Yew.2.2] at h3;have hlc:(Ym1.map fun z:Nat=>(z:Int)).length=103:=rfl;have hll:(Yqj.map fun z:Nat=>(z:Int)).length=103:=rfl;have hla:(Yjr.map fun z:Nat=>(z:Int)).length=11:=rfl;refine⟨fun i hi=>?_,fun i hi=>?_⟩
 ·have g1:=Yf5 hv h1 (g:=1) (t:=133) (by kernel_rfl) (by kernel_rfl) Tryd.underlying133 Tryd.underlying132 (by kernel_rfl) (by kernel_rfl) i (by rw[hlc];exact hi);have g2:=Yf5 hv h2 (g:=2) (t:=134) (by kernel_rfl) (by kernel_rfl) Tryd.underlying134 Tryd.underlying5 (by kernel_rfl) (by kernel_rfl) i (by rw[hll];exact hi);rw[Yno] at g1 g2;exact⟨g1,g2⟩
 ·have g3:=Yf5 hv h3 (g:=3) (t:=138) (by kernel_rfl) (by kernel_rfl) Tryd.underlying138 Tryd.underlying5 (by kernel_rfl) (by kernel_rfl) i (by rw[hla];exact hi);rw[Yno] at g3;exact g3
theorem Ypo {laid:List (String×DataW Unit)}{W:World}(hL:laidMetH Tryd.prog laid W)
  (hm : (("overspill/steps.codes", Rows.laid_overspill_steps_codes) ∈ laid ∧
   (("overspill/tcoef.codes", Rows.laid_overspill_tcoef_codes) ∈ laid ∧ ("overspill/tcoef.lengths", Rows.laid_overspill_tcoef_lengths) ∈ laid ∧ ("overspill/tcoef.ahead", Rows.laid_overspill_tcoef_ahead) ∈ laid)) ∧ (laid.all fun x => x.2.handleName?.isNone) = true) : Yeq W ∧ Ybe W :=
 ⟨Ymf hL ⟨hm.1.2,hm.2⟩,Ymc hL ⟨hm.1.1,hm.2⟩⟩
end Go.Proofs.YtndbeacoaimdgaaDoor