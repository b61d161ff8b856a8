/- Texts that SheetoutPuts's proof stands on, part 28 of 47. No condition of its own. -/
import Derived.Test.YtgikochfffdpfaaGreatDoorSheetoutPutsMa
import Derived.Test.YtgikochfffdpfaaGreatDoorSheetoutPutsMe
import Derived.Test.YtgikochfffdpfaaGreatDoorSheetoutPutsMg
import Derived.Test.YtgikochfffdpfaaGreatDoorSheetoutPutsMi
import Derived.Test.YtgikochfffdpfaaGreatDoorSheetoutPutsMj
import Derived.Test.YtgikochfffdpfaaGreatDoorSheetoutPutsMu
import Derived.Test.YtgikochfffdpfaaGreatDoorSheetoutPutsMw
import Derived.Test.YtgikochfffdpfaaGreatDoorSheetoutPutsMy
import Derived.Test.YtgikochfffdpfaaGreatDoorSheetoutPutsMz
import Derived.Test.YtgikochfffdpfaaGreatDoorSheetoutPutsMba
import Derived.RegionTactic
import Derived.Deep.RegionWith
import Derived.WalkKit
import Derived.Test.YtgikochfffdpfaaGreatDoorRows
import Derived.StillTailTactics
namespace Go.Proofs.YtgikochfffdpfaaGreatDoor
open Go.RowKit Go.Lib
theorem Yx9:∀i,i<103→2≤Yo0 i:=by decide +kernel
theorem Yqe (y m r k:Nat) (hm:m=2^k) (h:r<m) (hy:m*y+r<4294967296):bits .or .i64 ((y:Int)*(m:Int)) (r:Int)=((m*y+r:Nat):Int):=by
 have hor:=Nat.two_pow_add_eq_or_of_lt (i:=k) (b:=r) (by rw [←hm];exact h) y
 rw [show (y:Int)*(m:Int)=((m*y:Nat):Int) by rw [Int.mul_comm];simp]
 show IntKind.i64.wrap ((BitVec.ofInt 64 ((m*y:Nat):Int) ||| BitVec.ofInt 64 ((r:Nat):Int)).toNat:Int)=_
 rw [BitVec.ofInt_natCast,BitVec.ofInt_natCast,BitVec.toNat_or,BitVec.toNat_ofNat,BitVec.toNat_ofNat,Nat.mod_eq_of_lt (by omega),Nat.mod_eq_of_lt (by omega)]
 rw [←hm] at hor
 rw [←hor,IntKind.wrap_i64]
 omega
set_option maxHeartbeats 1000000 in
theorem Ysw (last:Bool) (r:Nat) (level:Int) (hr:r<64) (hl:-128≤level∧level≤127) (w:World) (hp:Yhp w):Calls Tryz.prog 196 #[.agg #[.bool last,.int .i64 (r:Int),.int .i64 level]] w fun e w'=>
  e = .returned (.tuple #[.int .i64 (Ynb last r level:Nat),.int .i64 (Ylt last r level:Nat)])∧Below w.heap.size w w':=by
 have hpl:=fun x hx=> Yo6 last r level hr hl x hx
 have HP:=Lib.hid (fun (x:World) (hx:Below w.heap.size w x)=> (hp.below hx:Yhp x))
 obtain ⟨a,ha⟩:∃a:Nat,level.natAbs=a:=⟨_,rfl⟩
 rw [ha] at hpl
 cases hin:inT last r a with
 | true=>
  obtain ⟨p,hpp⟩:∃p,plT last r a=p:=⟨_,rfl⟩
  have hp102:p<102:=by rw [←hpp];exact Ynl hr hin
  have F1:=Lib.hid (show Ynb last r level=2*Yiv p+(if level<0 then 1 else 0) by unfold Ynb;rw [ha,hin,if_pos rfl,hpp])
  have F2:=Lib.hid (show Ylt last r level=Yo0 p+1 by unfold Ylt;rw [ha,hin,if_pos rfl,hpp])
  rw [hin,if_pos rfl,hpp] at hpl
  have hco:=fun x hx=> Ygh p (by omega) x hx
  have hdi:=fun x hx=> Yh2 p (by omega) x hx
  rw [if_neg (by omega)] at hdi
  rw [F1.out,F2.out]
  obtain ⟨b0,b1,b2,b3⟩:=Yeb p (by omega)
  have hdig:=fun (b:Bool) x=> Ymt b x
  obtain ⟨s,hs⟩:∃s:Bool,decide (level<0)=s:=⟨_,rfl⟩
  have ho:=Yqe (Yiv p) 2 s.toNat 1 rfl (by cases s <;> decide) (by cases s <;> simp <;> omega)
  have hsn:(if level<0 then 1 else 0:Nat)=s.toNat:=by rw [←hs];by_cases h:level<0 <;> simp [h]
  rw [hsn]
  generalize Yiv p=x at hco b3 ho ⊢
  generalize Yo0 p=y at hco hdi b0 b1 ⊢
  have O:=Lib.hid (show bits .or .i64 ((x:Int)*2) (s.toNat:Int)=_ from ho)
  have SN:=Lib.hid hsn
  have hb1:Below w.heap.size w (w.alloc (.cells #[.bool last,.int .i64 (r:Int),.int .i64 level] 130 (0,0))):=(Below.refl _ w).alloc (Nat.le_refl _) _
  have hp1:=HP.out _ hb1
  have hh:∀x,Below (w.heap.size+1) (w.alloc (.cells #[.bool last,.int .i64 (r:Int),.int .i64 level] 130 (0,0))) x→x.heap[w.heap.size]? = some (Yos last r level):=fun x hx=> (hx.block w.heap.size (by omega)).trans (heap_alloc_new w _)
  have HH:=Lib.hid hh
  have hz1:(w.alloc (.cells #[.bool last,.int .i64 (r:Int),.int .i64 level] 130 (0,0))).heap.size=w.heap.size+1:=by simp
  have HZ:=Lib.hid hz1
  clear F1 F2 hin ha hpp hp ho b2 hsn hh hz1
  go_enter Tryz.func196,Tryz.ntmps196
  go_wp2_with fail
  refine (hpl _ hp1).mono ?_
  rintro e w1 ⟨rfl,hb2⟩
  rw [HZ.out] at hb2
  have hb3:=hb1.trans (hb2.mono (by omega))
  go_wp2_with fail
  refine (hco _ (HP.out _ hb3)).mono ?_
  rintro e w2 ⟨rfl,hb4⟩
  have hz4:=hb3.size
  have hb5:=hb2.trans (hb4.mono (by have:=hb2.size;rw [HZ.out] at this;exact this))
  have hb6:=hb3.trans (hb4.mono hz4)
  obtain ⟨c0,c1,c2,_,_,_⟩:=Yfl (HH.out _ hb5)
  have hp6:=HP.out _ hb6
  clear hb2 hb3 hb4 hb5 hpl hco hp1 hb1
  go_wp2_with fail
  refine (hdig _ _).mono ?_
  rintro e w3 ⟨rfl,rfl⟩
  go_wp2_with fail
  refine (hdi _ hp6).mono ?_
  rintro e w4 ⟨rfl,hb7⟩
  go_wp2
  go_ret2
  exact ⟨Yma O.out rfl,hb6.trans (hb7.mono hb6.size)⟩
 | false=>
  have F1:=Lib.hid (show Ynb last r level=((6+last.toNat)*64+r)*256+(level%256).toNat by unfold Ynb;rw [ha,hin,if_neg (by decide)])
  have F2:=Lib.hid (show Ylt last r level=22 by unfold Ylt;rw [ha,hin,if_neg (by decide)])
  rw [hin,if_neg (by decide)] at hpl
  have hco:=fun x hx=> Ygh 102 (by omega) x hx
  have hdi:=fun x hx=> Yh2 102 (by omega) x hx
  rw [if_pos rfl] at hdi
  rw [show Yiv 102=3 by decide +kernel] at hco
  rw [F1.out,F2.out]
  have hdig:=fun x=> Ymt last x
  obtain ⟨s,hs⟩:∃s,(level%256).toNat=s:=⟨_,rfl⟩
  have hs256:s<256:=by omega
  have hand:bits .and .i64 level 255=(s:Int):=by rw [show (255:Int)=2^8-1 by decide,Yol _ 8 (by omega)];omega
  have o1:=Yqe 3 2 last.toNat 1 rfl (by cases last <;> decide) (by cases last <;> simp)
  obtain ⟨y,hy⟩:∃y,6+last.toNat=y:=⟨_,rfl⟩
  rw [show 2*3+last.toNat=y by omega] at o1
  have hy7:y≤7:=by rw [←hy];cases last <;> decide
  have o2:=Yqe y 64 r 6 rfl hr (by omega)
  have o3:=Yqe (64*y+r) 256 s 8 rfl hs256 (by omega)
  rw [hs,hy,show (y*64+r)*256+s=256*(64*y+r)+s by omega]
  obtain ⟨z,hz⟩:∃z,64*y+r=z:=⟨_,rfl⟩
  rw [hz] at o2 o3 ⊢
  have hz512:z<512:=by omega
  have O1:=Lib.hid (show bits .or .i64 6 (last.toNat:Int)=(y:Int) from o1)
  have O2:=Lib.hid (show bits .or .i64 ((y:Int)*64) (r:Int)=(z:Int) from o2)
  have O3:=Lib.hid (show bits .or .i64 ((z:Int)*256) (s:Int)=_ from o3)
  have AND:=Lib.hid hand
  have hb1:Below w.heap.size w (w.alloc (.cells #[.bool last,.int .i64 (r:Int),.int .i64 level] 130 (0,0))):=(Below.refl _ w).alloc (Nat.le_refl _) _
  have hp1:=HP.out _ hb1
  have hh:∀x,Below (w.heap.size+1) (w.alloc (.cells #[.bool last,.int .i64 (r:Int),.int .i64 level] 130 (0,0))) x→x.heap[w.heap.size]? = some (Yos last r level):=fun x hx=> (hx.block w.heap.size (by omega)).trans (heap_alloc_new w _)
  have HH:=Lib.hid hh
  have hz1:(w.alloc (.cells #[.bool last,.int .i64 (r:Int),.int .i64 level] 130 (0,0))).heap.size=w.heap.size+1:=by simp
  have HZ:=Lib.hid hz1
  clear F1 F2 hin ha hp hh hz1 hs hand o1 o2 o3 hy hz
  go_enter Tryz.func196,Tryz.ntmps196
  go_wp2_with fail
  refine (hpl _ hp1).mono ?_
  rintro e w1 ⟨rfl,hb2⟩
  rw [HZ.out] at hb2
  have hb3:=hb1.trans (hb2.mono (by omega))
  go_wp2_with fail
  refine (hco _ (HP.out _ hb3)).mono ?_
  rintro e w2 ⟨rfl,hb4⟩
  have hz4:=hb3.size
  have hb5:=hb2.trans (hb4.mono (by have:=hb2.size;rw [HZ.out] at this;exact this))
  have hb6:=hb3.trans (hb4.mono hz4)
  obtain ⟨c0,c1,c2,_,_,_⟩:=Yfl (HH.out _ hb5)
  have hp6:=HP.out _ hb6
  clear hb2 hb3 hb4 hb5 hpl hco hp1 hb1
  go_wp2_with fail
  refine (hdig _).mono ?_
  rintro e w3 ⟨rfl,rfl⟩
  have p1:=O1.out
  have p2:=O2.out
  have p3:=AND.out
  go_wp2_with fail
  have hp6d:Yhp w2.drew:=hp6
  have hb6d:Below w.heap.size w w2.drew:=hb6.drew
  have c2d:w2.drew.cell? ⟨w.heap.size,2,none⟩=some (.int .i64 level):=c2
  have hlt:w.heap.size<w2.drew.heap.size:=World.block_lt_of_cell? _ ⟨w.heap.size,2,none⟩ c2d
  have CELL:=Lib.hid (fun (x:World) (hx:Below w2.drew.heap.size w2.drew x)=> ((hx.cell (p:=⟨w.heap.size,2,none⟩) hlt).trans c2d:x.cell? ⟨w.heap.size,2,none⟩=some (.int .i64 level)))
  have sw:IntKind.i64.wrap ((z:Int)*256)=(z:Int)*256:=IntWalk.i64_in _ (by omega)
  go_region_with (go_at_call 205;refine (hdi _ (by assumption)).mono ?_;rintro e w4 ⟨rfl,hb7⟩;have c4:=CELL.out _ hb7)
  all_goals
   go_wp2
   go_ret2
   exact ⟨Yma O3.out rfl,hb6d.trans (hb7.mono hb6d.size)⟩
theorem Yl7 (last:Bool) (r:Nat) (level:Int) (hr:r<64):3≤Ylt last r level∧Ylt last r level≤22∧Ynb last r level<2^Ylt last r level:=by
 unfold Ylt Ynb
 cases hin:inT last r level.natAbs with
 | true=>
  simp only [if_true]
  obtain ⟨b0,b1,b2,_⟩:=Yeb (plT last r level.natAbs) (Nat.lt_trans (Ynl hr hin) (by decide))
  have b4:=Yx9 _ (Nat.lt_trans (Ynl hr hin) (show 102<103 by decide))
  refine ⟨by omega,by omega,?_⟩
  rw [Nat.pow_succ]
  split <;> omega
 | false=>
  simp only [Bool.false_eq_true,if_false]
  refine ⟨by decide,by decide,?_⟩
  have h1:last.toNat≤1:=by cases last <;> decide
  have h2:(level%256).toNat<256:=by omega
  omega
set_option maxHeartbeats 1000000 in
theorem Ytv (last:Bool) (run level:Int) (w:World) (hp:Yhp w):Calls Tryz.prog 184 #[.agg #[.bool last,.int .i64 run,.int .i64 level]] w fun e w'=>
  e = .returned (.tuple #[.string (Ybe last run level),.bool (!(Ybe last run level).data.toList.isEmpty)])∧Below w.heap.size w w':=by
 have hri:=fun x=> Yk5 last run level x
 have HP:=Lib.hid (fun (x:World) (hx:Below w.heap.size w x)=> (hp.below hx:Yhp x))
 have hb1:Below w.heap.size w (w.alloc (.cells #[.bool last,.int .i64 run,.int .i64 level] 130 (0,0))):=(Below.refl _ w).alloc (Nat.le_refl _) _
 have hh:∀x,Below (w.heap.size+1) (w.alloc (.cells #[.bool last,.int .i64 run,.int .i64 level] 130 (0,0))) x→x.heap[w.heap.size]? = some (Yos last run level):=fun x hx=> (hx.block w.heap.size (by omega)).trans (heap_alloc_new w _)
 have HH:=Lib.hid hh
 have hz1:(w.alloc (.cells #[.bool last,.int .i64 run,.int .i64 level] 130 (0,0))).heap.size=w.heap.size+1:=by simp
 have HZ:=Lib.hid hz1
 cases hr:Yci run level with
 | false=>
  have F:=Lib.hid (show Ybe last run level=⟨#[]⟩ by unfold Ybe;rw [hr,if_neg (by decide)])
  rw [F.out]
  rw [hr] at hri
  clear hr hp hh hz1
  go_enter Tryz.func184,Tryz.ntmps184
  go_wp2_with fail
  refine (hri _).mono ?_
  rintro e w1 ⟨rfl,hb2⟩
  rw [HZ.out] at hb2
  go_wp2
  go_ret2
  exact ⟨rfl,hb1.trans (hb2.mono (by omega))⟩
 | true=>
  obtain ⟨r0,r1,l0,l1,l2⟩:=Ycj.1 hr
  obtain ⟨r,rfl⟩:∃r:Nat,run=r:=⟨run.toNat,by omega⟩
  have F:=Lib.hid (show Ybe last r level=⟨(Yak (Ynb last r level) (Ylt last r level)).toArray⟩ by unfold Ybe;rw [hr,if_pos rfl];rfl)
  have hto:=fun x hx=> Ysw last r level (by omega) ⟨by omega,l1⟩ x hx
  obtain ⟨f1,f2,f3⟩:=Yl7 last r level (by omega)
  have G:=Lib.hid (show (!(Ybe last r level).data.toList.isEmpty)=true by
   rw [F.out]
   show (!(Yak (Ynb last r level) (Ylt last r level)).isEmpty)=true
   cases hl:Yak (Ynb last r level) (Ylt last r level) with
   | nil=>
    have e:=Yag (Ynb last r level) (Ylt last r level)
    rw [hl] at e
    simp at e
    omega
   | cons a l=> rfl)
  rw [G.out,F.out]
  rw [hr] at hri
  generalize Ynb last r level=x at hto f3 ⊢
  generalize Ylt last r level=y at hto f1 f2 f3 ⊢
  have hx22:x<4194304:=Nat.lt_of_lt_of_le f3 (Nat.pow_le_pow_right (by decide) f2)
  have hrow:=fun w=> Yhk (x:Int) (y:Int) w (by omega) (by
   unfold Yca
   rw [decide_eq_true_iff]
   refine ⟨by omega,by omega,by omega,?_⟩
   rw [Int.toNat_natCast]
   exact_mod_cast f3)
  simp only [Int.toNat_natCast] at hrow
  clear hr hp hh hz1 F G f3
  go_enter Tryz.func184,Tryz.ntmps184
  go_wp2_with fail
  refine (hri _).mono ?_
  rintro e w1 ⟨rfl,hb2⟩
  rw [HZ.out] at hb2
  have hb3:=hb1.trans (hb2.mono (by omega))
  obtain ⟨c0,c1,c2,_,_,_⟩:=Yfl (HH.out _ hb2)
  go_wp2_with fail
  refine (hto _ (HP.out _ hb3)).mono ?_
  rintro e w2 ⟨rfl,hb4⟩
  have hb5:=hb3.trans (hb4.mono hb3.size)
  clear c0 c1 c2 hb2 hb1
  go_wp2_with fail
  refine (hrow _).mono ?_
  rintro e w3 ⟨rfl,hb6⟩
  go_wp2
  go_ret2
  exact ⟨rfl,hb5.trans (hb6.mono hb5.size)⟩
end Go.Proofs.YtgikochfffdpfaaGreatDoor
namespace Go.Proofs.YtgikochfffdpfaaGreatDoor
open Go.RowKit
def Yby (i:Bool):Nat:=i.toNat
def Ymb (x:Ev):ByteArray:=Ybe x.1 x.2.1 x.2.2
def Yke (l:List Ev):List UInt8:=l.flatMap fun x=> (Ymb x).data.toList
def Ys0 (i:Bool) (d:Int):Bool:=if i then decide (1≤d)&&decide (d≤254) else d==0
def dcB (i:Bool) (d:Int):List UInt8:=if i then Yak (if d=128 then 255 else d.toNat) 8 else []
def Yh4 (i:Bool) (d:Int) (l:List Ev):Bool:=Ys0 i d && !Yib (Yby i) l l.length
def Yez (i:Bool) (d:Int) (l:List Ev):List UInt8:=dcB i d++Yke l
theorem Yx1 (i:Bool) (d:Int):Yat (dcB i d)=true:=by
 unfold dcB
 split
 ·exact Yb5 _ _
 ·rfl
theorem Yx0 (i:Bool) (d:Int):(dcB i d).length=8*Yby i:=by
 unfold dcB Yby
 cases i
 ·rfl
 ·exact Yag _ _
theorem Yw0 (x:Ev):Yat (Ymb x).data.toList=true:=by
 unfold Ymb Ybe
 split
 ·exact Yb5 _ _
 ·rfl
theorem Yqk (x:Ev):(Ymb x).data.toList.length≤22:=by
 unfold Ymb Ybe
 split
 next h=>
  obtain ⟨r0,r1,_⟩:=Ycj.1 h
  have:=Yl7 x.1 x.2.1.toNat x.2.2 (by omega)
  show (Yak _ _).length≤22
  rw [Yag]
  exact this.2.1
 ·exact Nat.zero_le _
theorem Yr8 (l:List Ev) (x:Ev):Yke (l ++ [x])=Yke l++(Ymb x).data.toList:=by simp [Yke]
theorem Yu7 (l:List Ev):Yat (Yke l)=true:=by
 induction l with
 | nil=> rfl
 | cons x l ih=> rw [Yke,List.flatMap_cons,Yam,Yw0,show Yat (List.flatMap (fun x=> (Ymb x).data.toList) l)=true from ih];rfl
theorem Yu6 (l:List Ev):(Yke l).length≤22*l.length:=by
 induction l with
 | nil=> exact Nat.le_refl _
 | cons x l ih=>
  have h1:=Yqk x
  have h2:(List.flatMap (fun x=> (Ymb x).data.toList) l).length≤22*l.length:=ih
  rw [Yke,List.flatMap_cons,List.length_append,List.length_cons]
  omega
theorem Yqj (i:Bool) (d:Int) (l:List Ev):Yat (Yez i d l)=true:=by
 unfold Yez
 rw [Yam,Yx1,Yu7]
 rfl
theorem Yik (i:Bool) (d:Int) (l:List Ev):(Yez i d l).length≤8+22*l.length:=by
 have h1:=Yx0 i d
 have h2:=Yu6 l
 have h3:Yby i≤1:=by cases i <;> decide
 unfold Yez
 rw [List.length_append]
 omega
theorem Yrd {d:Int}:Ys0 false d=(d==0):=rfl
theorem Ytm {d:Int}:Ys0 true d=(decide (1≤d)&&decide (d≤254)):=rfl
theorem Yfk {a:Nat} {l:List Ev} (h:Yib a l l.length=false):l.length≤64:=by
 have key:∀j,j≤l.length→j≤(lvS a (l.take j)).1:=by
  intro j
  induction j with
  | zero=> intro _;exact Nat.zero_le _
  | succ j ih=>
   intro hj
   have h1:=ih (by omega)
   have h2:=Yl4 a l (show j<l.length by omega)
   rw [h2]
   simp only
   omega
 by_cases h64:l.length≤64
 ·exact h64
 ·exfalso
  have h1:=Ys9 h (show 64<l.length by omega)
  have h2:=key 64 (by omega)
  unfold Ymz at h1
  simp only [Bool.and_eq_true,decide_eq_true_eq] at h1
  omega
theorem Yq0 {a:Nat} {l:List Ev} (h:Yib a l l.length=false) {j:Nat} (hj:j<l.length):Yci l[j].2.1 l[j].2.2=true:=by
 have h1:=Ys9 h hj
 unfold Ymz at h1
 simp only [Bool.and_eq_true] at h1
 exact h1.1.1
theorem Ydk {i:Bool} {d:Int} {l:List Ev} (h:Yh4 i d l=true):Ys0 i d=true∧Yib (Yby i) l l.length=false:=by
 unfold Yh4 at h
 rw [Bool.and_eq_true,Bool.not_eq_true'] at h
 exact h
theorem Yxm {i:Bool} {l:List Ev} (h:Yib (Yby i) l l.length=false):(lvG l ((Yby i:Nat):Int)).2=0:=by
 unfold lvG
 rw [if_pos (by cases i;exact .inl rfl;exact .inr rfl),Int.toNat_natCast,if_neg (by rw [h];decide)]
theorem Yt8 {i:Bool} {l:List Ev} (h:Yib (Yby i) l l.length=true):(lvG l ((Yby i:Nat):Int)).2=7:=by
 unfold lvG
 rw [if_pos (by cases i;exact .inl rfl;exact .inr rfl),Int.toNat_natCast,if_pos h]
theorem Ykl (i:Bool) (w:World):Calls Tryz.prog 183 #[.bool i] w fun e w'=> e = .returned (.int .i64 (Yby i:Nat))∧w=w':=by
 cases i
 all_goals
  go_enter Tryz.func183,Tryz.ntmps183
  go_wp2
  go_ret
  exact ⟨rfl,rfl⟩
end Go.Proofs.YtgikochfffdpfaaGreatDoor
namespace Go.Proofs.YtgikochfffdpfaaGreatDoor
def Yaj (k:Int):Bool:=k==3 || k==4
def Yzd (k:Int):Bool:=k==1 || k==4
def Yta (inter:Bool):List UInt8:=if inter then [48] else []
def Yh9 (inter:Bool):List UInt8:=Yta inter++(Ybp inter 5 0).data.toList
def Ybq (inter:Bool) (n:Nat):List UInt8:=(List.replicate n (Yh9 inter)).flatten
theorem Yjx (inter:Bool) (n:Nat):Ybq inter (n+1)=Yh9 inter++Ybq inter n:=rfl
def Yfw (c:Cel) (i:Nat):Nat:=(decide (0<(c.ev i).length)).toNat
theorem You (c:Cel) (i:Nat):Yfw c i≤1:=by unfold Yfw;cases decide (0<(c.ev i).length) <;> decide
def Yc7 (c:Cel):Nat→Nat
 | 0=> 0
 | i+1=> 2*Yc7 c i+Yfw c i
def Yg0 (c:Cel):Nat:=2*Yfw c 4+Yfw c 5
theorem Yp0 (c:Cel):Yc7 c 4=8*Yfw c 0+4*Yfw c 1+2*Yfw c 2+Yfw c 3:=by
 simp only [Yc7]
 omega
theorem Yls (c:Cel):Yc7 c 6=4*Yc7 c 4+Yg0 c:=by
 simp only [Yc7,Yg0]
 omega
theorem Yxi (c:Cel):Yc7 c 4<16∧Yg0 c<4∧Yc7 c 6<64:=by
 have h:=fun i=> You c i
 have h0:=h 0;have h1:=h 1;have h2:=h 2;have h3:=h 3;have h4:=h 4;have h5:=h 5
 rw [Yls,Yp0]
 unfold Yg0
 omega
def Yxb (k x y mx my:Int):List UInt8:=if Yaj k then [] else (Yau (Ya5 (mx-Ya5 x))).data.toList++(Yau (Ya5 (my-Ya5 y))).data.toList
def Ydw (c:Cel):Nat→List UInt8
 | 0=> []
 | i+1=> Ydw c i++Yez (Yaj c.kind) (c.dc i) (c.ev i)
def Ybx (inter:Bool) (x y:Int) (c:Cel):List UInt8:=
 Ybq inter c.stuff.toNat++(if c.skip then [49] else Yta inter++(Ybp inter c.kind (Yg0 c:Nat)).data.toList++(Ydg (Yaj c.kind) (Yc7 c 4:Nat)).data.toList++(Yax c.step).data.toList++Yxb c.kind x y c.mx c.my++Ydw c 6)
def Yfz (c:Cel):Bool:=(c.kind==0&&c.step==0&&(c.mx==0&&c.my==0))&&((List.range 6).all (fun i=> c.dc i==0)&&(List.range 6).all (fun i=> decide ((c.ev i).length=0)))
def Yey (inter:Bool) (k:Int):Bool:=(k==3 || k==4) || (inter&&(k==0 || k==1))
def Yfg (k s:Int):Bool:=if Yzd k then !(Yax s).data.toList.isEmpty else s==0
def Ykg (k mx my:Int):Bool:=if Yaj k then mx==0&&my==0 else mx==Ya5 mx&&my==Ya5 my
def Ydx (c:Cel):Bool:=(List.range 6).all fun i=> Yh4 (Yaj c.kind) (c.dc i) (c.ev i)
def Ya7 (inter:Bool) (c:Cel):Bool:=
 (decide (0≤c.stuff)&&decide (c.stuff≤64))&&(if c.skip then inter&&Yfz c else (Yey inter c.kind&&Yfg c.kind c.step)&&(Ykg c.kind c.mx c.my&&Ydx c))
theorem Yh8 {s:Int}:(Yax s).data.toList.isEmpty=false↔(s = -1∨s = -2∨s=1∨s=2):=by
 unfold Yax
 by_cases h1:s = -1
 ·simp [h1]
 by_cases h2:s = -2
 ·simp [h2]
 by_cases h3:s=1
 ·simp [h3]
 by_cases h4:s=2
 ·simp [h4]
 simp [h1,h2,h3,h4]
theorem Ye2 {c:Cel}:Ydx c=true↔∀i,i<6→Yh4 (Yaj c.kind) (c.dc i) (c.ev i)=true:=by
 unfold Ydx
 rw [List.all_eq_true]
 exact ⟨fun h i hi=> h i (List.mem_range.2 hi),fun h i hi=> h i (List.mem_range.1 hi)⟩
theorem Yc9 (n:Int):-32≤Ya5 n∧Ya5 n≤31:=by unfold Ya5;omega
theorem Yc6 {n:Int}:n=Ya5 n↔(-32≤n∧n≤31):=by unfold Ya5;omega
theorem Ydr (inter:Bool) (k c:Int):Yat (Ybp inter k c).data.toList=true∧(Ybp inter k c).data.toList.length≤9:=by
 have hq:∀l:List ByteArray,(∀x∈l,Yat x.data.toList=true∧x.data.toList.length≤9)→Yat (l[c.toNat]?.getD ⟨#[]⟩).data.toList=true∧(l[c.toNat]?.getD ⟨#[]⟩).data.toList.length≤9:=by
  intro l hl
  cases hx:l[c.toNat]? with
  | none=> exact ⟨rfl,Nat.zero_le _⟩
  | some x=> exact hl x (List.mem_of_getElem? hx)
 unfold Ybp
 split
 ·refine hq _ ?_
  cases inter with
  | true=>
   show∀x∈Yg3 k,_
   unfold Yg3
   repeat' split
   all_goals decide +kernel
  | false=>
   show∀x∈Yg4 k,_
   unfold Yg4
   repeat' split
   all_goals decide +kernel
 ·exact ⟨rfl,Nat.zero_le _⟩
theorem Yhf (intra:Bool) (k:Int):Yat (Ydg intra k).data.toList=true∧(Ydg intra k).data.toList.length≤6:=by
 have hl:∀x∈Yoh,Yat x.data.toList=true∧x.data.toList.length≤6:=by decide +kernel
 unfold Ydg
 split
 ·cases hx:Yoh[Yif intra k.toNat]? with
  | none=> exact ⟨rfl,Nat.zero_le _⟩
  | some x=> exact hl x (List.mem_of_getElem? hx)
 ·exact ⟨rfl,Nat.zero_le _⟩
theorem Yes (s:Int):Yat (Yax s).data.toList=true∧(Yax s).data.toList.length≤2:=by
 unfold Yax
 repeat' split
 all_goals exact ⟨rfl,by decide⟩
theorem Ydh (d:Int):Yat (Yau d).data.toList=true∧(Yau d).data.toList.length≤13:=by
 by_cases h:-32≤d∧d≤31
 ·rw [Yix h]
  have:=Yiy h
  exact ⟨Yb5 _ _,by show (Yak _ _).length≤13;rw [Yag];omega⟩
 ·rw [Yec (by omega)]
  exact ⟨rfl,Nat.zero_le _⟩
theorem Yqv (k x y mx my:Int):Yat (Yxb k x y mx my)=true∧(Yxb k x y mx my).length≤26:=by
 unfold Yxb
 split
 ·exact ⟨rfl,Nat.zero_le _⟩
 ·have h1:=Ydh (Ya5 (mx-Ya5 x))
  have h2:=Ydh (Ya5 (my-Ya5 y))
  exact ⟨by rw [Yam,h1.1,h2.1];rfl,by rw [List.length_append];omega⟩
theorem Ygx (inter:Bool):Yat (Yta inter)=true∧(Yta inter).length≤1:=by cases inter <;> decide
theorem Yld (inter:Bool):Yat (Yh9 inter)=true∧(Yh9 inter).length≤10:=by
 have h1:=Ygx inter
 have h2:=Ydr inter 5 0
 unfold Yh9
 exact ⟨by rw [Yam,h1.1,h2.1];rfl,by rw [List.length_append];omega⟩
theorem Yef (inter:Bool):∀n,Yat (Ybq inter n)=true∧(Ybq inter n).length≤10*n
 | 0=> ⟨rfl,Nat.le_refl _⟩
 | n+1=> by
  have h1:=Yld inter
  have h2:=Yef inter n
  rw [Yjx]
  exact ⟨by rw [Yam,h1.1,h2.1];rfl,by rw [List.length_append];omega⟩
theorem Ypy (c:Cel):∀i,Yat (Ydw c i)=true
 | 0=> rfl
 | i+1=> by
  show Yat (Ydw c i++Yez (Yaj c.kind) (c.dc i) (c.ev i))=true
  rw [Yam,Ypy c i,Yqj]
  rfl
theorem Yih {c:Cel} {n:Nat}:∀i,(∀j,j<i→(c.ev j).length≤n)→(Ydw c i).length≤(8+22*n)*i
 | 0,_=> Nat.le_refl _
 | i+1,h=> by
  have h1:=Yih i fun j hj=> h j (by omega)
  have h2:=Yik (Yaj c.kind) (c.dc i) (c.ev i)
  have h3:=h i (by omega)
  show (Ydw c i++Yez (Yaj c.kind) (c.dc i) (c.ev i)).length≤_
  rw [List.length_append,Nat.mul_add,Nat.mul_one]
  omega
theorem Yq8 (inter:Bool) (x y:Int) (c:Cel):Yat (Ybx inter x y c)=true:=by
 unfold Ybx
 rw [Yam,(Yef inter _).1,Bool.true_and]
 split
 ·rfl
 ·simp only [Yam,(Ygx inter).1,(Ydr _ _ _).1,(Yhf _ _).1,(Yes _).1,(Yqv _ _ _ _ _).1,Ypy,Bool.and_self]
theorem Yq7 {inter:Bool} {x y:Int} {c:Cel} (hs:c.stuff.toNat≤64) (h:∀i,i<6→(c.ev i).length≤100):(Ybx inter x y c).length≤20000:=by
 have h1:=(Yef inter c.stuff.toNat).2
 have h2:=Yih 6 h
 have h3:=(Ygx inter).2
 have h4:=(Ydr inter c.kind (Yg0 c:Nat)).2
 have h5:=(Yhf (Yaj c.kind) (Yc7 c 4:Nat)).2
 have h6:=(Yes c.step).2
 have h7:=(Yqv c.kind x y c.mx c.my).2
 unfold Ybx
 rw [List.length_append]
 split
 ·simp only [List.length_cons,List.length_nil];omega
 ·simp only [List.length_append];omega
end Go.Proofs.YtgikochfffdpfaaGreatDoor
namespace Go.Proofs.YtgikochfffdpfaaGreatDoor
open Go.RowKit Go.Lib
theorem Ygl (k:Int) (w:World):Calls Tryz.prog 37 #[.int .i64 k] w fun e w'=> e = .returned (.bool (Yaj k))∧w=w':=by
 cases h3:(k==3) with
 | true=>
  go_enter Tryz.func37,Tryz.ntmps37
  go_wp2
  go_ret
  exact ⟨Yad (by simp [Yaj,h3]),rfl⟩
 | false=>
  cases h4:(k==4) with
  | true=>
   go_enter Tryz.func37,Tryz.ntmps37
   go_wp2
   go_ret
   exact ⟨Yad (by simp [Yaj,h3,h4]),rfl⟩
  | false=>
   go_enter Tryz.func37,Tryz.ntmps37
   go_wp2
   go_ret
   exact ⟨Yad (by simp [Yaj,h3,h4]),rfl⟩
def Yyq:List ByteArray:=[⟨#[49,48,32,49,49,49,49,32,48,49,48,49,48,49,32,48,48,49,48,49,49,49,32,48,48,48,49,49,49,49,49,32,48,48,48,49,48,48,49,48,49,32,48,48,48,49,48,48,49,48,48,32,48,48,48,48,49,48,48,48,48,49,32,48,48,48,48,49,48,48,48,48,48,32,48,48,48,48,48,48,48,48,49,49,49,32,48,48,48,48,48,48,48,48,49,49,48,32,48,48,48,48,48,49,48,48,48,48,48]⟩,⟨#[49,49,48,32,48,49,48,49,48,48,32,48,48,48,49,49,49,49,48,32,48,48,48,48,48,48,49,49,49,49,32,48,48,48,48,48,49,48,48,48,48,49,32,48,48,48,48,48,49,48,49,48,48,48,48]⟩,⟨#[49,49,49,48,32,48,48,48,49,49,49,48,49,32,48,48,48,48,48,48,49,49,49,48,32,48,48,48,48,48,49,48,49,48,48,48,49]⟩,⟨#[48,49,49,48,49,32,48,48,48,49,48,48,48,49,49,32,48,48,48,48,48,48,49,49,48,49]⟩,⟨#[48,49,49,48,48,32,48,48,48,49,48,48,48,49,48,32,48,48,48,48,48,49,48,49,48,48,49,48]⟩,⟨#[48,49,48,49,49,32,48,48,48,48,48,48,49,49,48,48,32,48,48,48,48,48,49,48,49,48,48,49,49]⟩,⟨#[48,49,48,48,49,49,32,48,48,48,48,48,48,49,48,49,49,32,48,48,48,48,48,49,48,49,48,49,48,48]⟩,⟨#[48,49,48,48,49,48,32,48,48,48,48,48,48,49,48,49,48]⟩,⟨#[48,49,48,48,48,49,32,48,48,48,48,48,48,49,48,48,49]⟩,⟨#[48,49,48,48,48,48,32,48,48,48,48,48,48,49,48,48,48]⟩,⟨#[48,48,49,48,49,49,48,32,48,48,48,48,48,49,48,49,48,49,48,49]⟩,⟨#[48,48,49,48,49,48,49]⟩,⟨#[48,48,49,48,49,48,48]⟩,⟨#[48,48,48,49,49,49,48,48]⟩,⟨#[48,48,48,49,49,48,49,49]⟩,⟨#[48,48,48,49,48,48,48,48,49]⟩,⟨#[48,48,48,49,48,48,48,48,48]⟩,⟨#[48,48,48,48,49,49,49,49,49]⟩,⟨#[48,48,48,48,49,49,49,49,48]⟩,⟨#[48,48,48,48,49,49,49,48,49]⟩,⟨#[48,48,48,48,49,49,49,48,48]⟩,⟨#[48,48,48,48,49,49,48,49,49]⟩,⟨#[48,48,48,48,49,49,48,49,48]⟩,⟨#[48,48,48,48,48,49,48,48,48,49,48]⟩,⟨#[48,48,48,48,48,49,48,48,48,49,49]⟩,⟨#[48,48,48,48,48,49,48,49,48,49,49,48]⟩,⟨#[48,48,48,48,48,49,48,49,48,49,49,49]⟩]
def Yyp:List ByteArray:=[⟨#[48,49,49,49,32,48,48,48,48,49,49,48,48,49,32,48,48,48,48,48,48,48,48,49,48,49]⟩,⟨#[48,48,49,49,49,49,32,48,48,48,48,48,48,48,48,49,48,48]⟩,⟨#[48,48,49,49,49,48]⟩,⟨#[48,48,49,49,48,49]⟩,⟨#[48,48,49,49,48,48]⟩,⟨#[48,48,49,48,48,49,49]⟩,⟨#[48,48,49,48,48,49,48]⟩,⟨#[48,48,49,48,48,48,49]⟩,⟨#[48,48,49,48,48,48,48]⟩,⟨#[48,48,48,49,49,48,49,48]⟩,⟨#[48,48,48,49,49,48,48,49]⟩,⟨#[48,48,48,49,49,48,48,48]⟩,⟨#[48,48,48,49,48,49,49,49]⟩,⟨#[48,48,48,49,48,49,49,48]⟩,⟨#[48,48,48,49,48,49,48,49]⟩,⟨#[48,48,48,49,48,49,48,48]⟩,⟨#[48,48,48,49,48,48,49,49]⟩,⟨#[48,48,48,48,49,49,48,48,48]⟩,⟨#[48,48,48,48,49,48,49,49,49]⟩,⟨#[48,48,48,48,49,48,49,49,48]⟩,⟨#[48,48,48,48,49,48,49,48,49]⟩,⟨#[48,48,48,48,49,48,49,48,48]⟩,⟨#[48,48,48,48,49,48,48,49,49]⟩,⟨#[48,48,48,48,49,48,48,49,48]⟩,⟨#[48,48,48,48,49,48,48,48,49]⟩,⟨#[48,48,48,48,48,48,48,49,49,49]⟩,⟨#[48,48,48,48,48,48,48,49,49,48]⟩,⟨#[48,48,48,48,48,48,48,49,48,49]⟩,⟨#[48,48,48,48,48,48,48,49,48,48]⟩,⟨#[48,48,48,48,48,49,48,48,49,48,48]⟩,⟨#[48,48,48,48,48,49,48,48,49,48,49]⟩,⟨#[48,48,48,48,48,49,48,48,49,49,48]⟩,⟨#[48,48,48,48,48,49,48,48,49,49,49]⟩,⟨#[48,48,48,48,48,49,48,49,49,48,48,48]⟩,⟨#[48,48,48,48,48,49,48,49,49,48,48,49]⟩,⟨#[48,48,48,48,48,49,48,49,49,48,49,48]⟩,⟨#[48,48,48,48,48,49,48,49,49,48,49,49]⟩,⟨#[48,48,48,48,48,49,48,49,49,49,48,48]⟩,⟨#[48,48,48,48,48,49,48,49,49,49,48,49]⟩,⟨#[48,48,48,48,48,49,48,49,49,49,49,48]⟩,⟨#[48,48,48,48,48,49,48,49,49,49,49,49]⟩]
theorem Yhm:Yyq.length=27:=rfl
theorem Yg2:Yyp.length=41:=rfl
def Yjn (last:Bool) (run:Nat):List Nat:=(List.range (Ygo last run)).map fun i=> Yj4 last+Yqs last run+i
def Yjq (last:Bool) (run:Nat):List (List UInt8):=(Yjn last run).map fun p=> Yy2 (Yyx p)
theorem Yvk:∀r,(h:r<27)→Yn0 (Yyq[r]'(by rw [Yhm];exact h)).data.toList=Yjq false r∧(Yyq[r]'(by rw [Yhm];exact h)).size≤200:=by decide +kernel
theorem Ytu:∀r,(h:r<41)→Yn0 (Yyp[r]'(by rw [Yg2];exact h)).data.toList=Yjq true r∧(Yyp[r]'(by rw [Yg2];exact h)).size≤200:=by decide +kernel
theorem Yk7 {last:Bool} {r:Nat} (h:(if last then 41 else 27)≤r):Yjq last r = []:=by
 have h0:Ygo last r=0:=by
  unfold Ygo
  cases last
  ·simp only [Bool.false_eq_true,if_false] at h ⊢
   rw [if_neg (by omega),if_neg (by omega)]
  ·simp only [if_true] at h ⊢
   rw [if_neg (by omega),if_neg (by omega),if_neg (by omega)]
 unfold Yjq Yjn
 rw [h0]
 rfl
set_option maxRecDepth 100000 in
set_option maxHeartbeats 1000000 in
theorem Yfr (w:World):Calls Tryz.prog 165 #[] w fun e w'=> e = .returned (.slice (some ⟨w.heap.size,0,none⟩) 27 27)∧Ysx w' (some ⟨w.heap.size,0,none⟩) Yyq∧Below w.heap.size w w':=by
 go_enter Tryz.func165,Tryz.ntmps165
 go_wp2
 go_ret
 exact ⟨rfl,Yeu (T:=9) (l:=Yyq) (heap_alloc_new w _),(Below.refl _ w).alloc (Nat.le_refl _) _⟩
set_option maxRecDepth 100000 in
set_option maxHeartbeats 1000000 in
theorem Ymv (w:World):Calls Tryz.prog 166 #[] w fun e w'=> e = .returned (.slice (some ⟨w.heap.size,0,none⟩) 41 41)∧Ysx w' (some ⟨w.heap.size,0,none⟩) Yyp∧Below w.heap.size w w':=by
 go_enter Tryz.func166,Tryz.ntmps166
 go_wp2
 go_ret
 exact ⟨rfl,Yeu (T:=9) (l:=Yyp) (heap_alloc_new w _),(Below.refl _ w).alloc (Nat.le_refl _) _⟩
def Yy5 (last:Bool) (run:Nat) (w:World) (e:Ending) (w':World):Prop:=
 ∃(l:List ByteArray) (q:Option Addr) (cap:Nat),e = .returned (.slice q l.length cap)∧Yqh l=Yjq last run∧Ysx w' q l∧(∀a,q=some a→w.heap.size≤a.block)∧Below w.heap.size w w'
set_option maxRecDepth 100000 in
set_option maxHeartbeats 1000000 in
theorem Yvb (last:Bool) (run:Nat) (hr:run<64) (w:World):Calls Tryz.prog 146 #[.bool last,.int .i64 (run:Int)] w (Yy5 last run w):=by
 cases last with
 | false=>
  by_cases h:27≤run
  ·have F:=Lib.hid (Yk7 (last:=false) (r:=run) h)
   have t0:decide (27≤(run:Int))=true:=by simp;omega
   have t1:decide (27≤run)=true:=by simpa using h
   go_enter Tryz.func146,Tryz.ntmps146
   go_wp2_with fail
   refine (Yfr _).mono ?_
   rintro e w1 ⟨rfl,hst,hb⟩
   go_wp2
   go_ret
   exact ⟨[],none,0,rfl,by rw [F.out];rfl,.inl rfl,fun _ h=> (by cases h),hb⟩
  ·obtain ⟨f1,f2⟩:=Yvk run (by omega)
   have t0:decide (27≤(run:Int))=false:=by simp;omega
   have t1:decide (27≤run)=false:=by simpa using h
   obtain ⟨s,hs⟩:∃s,Yyq[run]'(by rw [Yhm];omega)=s:=⟨_,rfl⟩
   rw [hs] at f1 f2
   have F:=Lib.hid f1
   have HS:=Lib.hid hs
   clear f1 hs
   go_enter Tryz.func146,Tryz.ntmps146
   go_wp2_with fail
   refine (Yfr _).mono ?_
   rintro e w1 ⟨rfl,hst,hb⟩
   obtain ⟨b,o,e,_,hc⟩:=hst.at (by rw [Yhm];omega)
   cases e
   have c0:w1.cell? ⟨w.heap.size,0+run,none⟩=some (.string s):=(hc run (by rw [Yhm];omega)).trans (congrArg (fun x=> some (Value.string x)) HS.out)
   rw [Nat.zero_add] at c0
   have hz:=hb.size
   clear hc
   go_wp2_with fail
   refine (Ylh s f2 _).mono ?_
   rintro e w2 ⟨l,q,cap,rfl,h1,h2,h3,h4,hb2⟩
   have H1:=Lib.hid h1
   have H4:=Lib.hid h4
   clear h1 h4
   go_wp2
   go_ret
   exact ⟨l,q,cap,rfl,H1.out.trans F.out,h2,fun a h=> Nat.le_trans hz (H4.out a h),hb.trans (hb2.mono hz)⟩
 | true=>
  by_cases h:41≤run
  ·have F:=Lib.hid (Yk7 (last:=true) (r:=run) h)
   have t0:decide (41≤(run:Int))=true:=by simp;omega
   have t1:decide (41≤run)=true:=by simpa using h
   go_enter Tryz.func146,Tryz.ntmps146
   go_wp2_with fail
   refine (Yfr _).mono ?_
   rintro e w0 ⟨rfl,_,hb0⟩
   have hz0:=hb0.size
   go_wp2_with fail
   refine (Ymv _).mono ?_
   rintro e w1 ⟨rfl,hst,hb⟩
   go_wp2
   go_ret
   exact ⟨[],none,0,rfl,by rw [F.out];rfl,.inl rfl,fun _ h=> (by cases h),hb0.trans (hb.mono hz0)⟩
  ·obtain ⟨f1,f2⟩:=Ytu run (by omega)
   have t0:decide (41≤(run:Int))=false:=by simp;omega
   have t1:decide (41≤run)=false:=by simpa using h
   obtain ⟨s,hs⟩:∃s,Yyp[run]'(by rw [Yg2];omega)=s:=⟨_,rfl⟩
   rw [hs] at f1 f2
   have F:=Lib.hid f1
   have HS:=Lib.hid hs
   clear f1 hs
   go_enter Tryz.func146,Tryz.ntmps146
   go_wp2_with fail
   refine (Yfr _).mono ?_
   rintro e w0 ⟨rfl,_,hb0⟩
   have hz0:=hb0.size
   go_wp2_with fail
   refine (Ymv _).mono ?_
   rintro e w1 ⟨rfl,hst,hb⟩
   obtain ⟨b,o,e,_,hc⟩:=hst.at (by rw [Yg2];omega)
   cases e
   have c0:w1.cell? ⟨w0.heap.size,0+run,none⟩=some (.string s):=(hc run (by rw [Yg2];omega)).trans (congrArg (fun x=> some (Value.string x)) HS.out)
   rw [Nat.zero_add] at c0
   have hb1:=hb0.trans (hb.mono hz0)
   have hz:=hb1.size
   clear hc
   go_wp2_with fail
   refine (Ylh s f2 _).mono ?_
   rintro e w2 ⟨l,q,cap,rfl,h1,h2,h3,h4,hb2⟩
   have H1:=Lib.hid h1
   have H4:=Lib.hid h4
   clear h1 h4
   go_wp2
   go_ret
   exact ⟨l,q,cap,rfl,H1.out.trans F.out,h2,fun a h=> Nat.le_trans hz (H4.out a h),hb1.trans (hb2.mono hz)⟩
end Go.Proofs.YtgikochfffdpfaaGreatDoor
namespace Go.Proofs.YtgikochfffdpfaaGreatDoor
open Go.RowKit Go.Lib Go.ChangeShapes Go.WideShapes Go.ChangeAt
theorem Yhy:(Rows.laid_overspill_tcoef_codes:DataW Unit)=tabData .u16 (Ytk.map fun z:Nat=> (z:Int))∧(Rows.laid_overspill_tcoef_lengths:DataW Unit)=tabData .u8 (Yx8.map fun z:Nat=> (z:Int))∧(Rows.laid_overspill_tcoef_ahead:DataW Unit)=tabData .u8 (Yoj.map fun z:Nat=> (z:Int)):=⟨by kernel_rfl,by kernel_rfl,by kernel_rfl⟩
theorem Yud (l:List Nat) (i:Nat) (h:i<(l.map fun z:Nat=> (z:Int)).length):(l.map fun z:Nat=> (z:Int))[i]=((l[i]?.getD 0:Nat):Int):=by
 have h2:i<l.length:=by simpa using h
 rw [List.getElem_map,List.getElem?_eq_getElem h2]
 rfl
theorem Yjc {P:Program} {W:World} {laid:List (String×DataW Unit)} {ps:List MemPlace} {name:String} {k:IntKind} {zs:List Int} {g:Nat} {t e:TypeId} {n:Nat} (hv:DataW.LaidVars P W laid ps) (hm:(name,(tabData k zs:DataW Unit))∈laid)
  (hg:P.globalNamed name=some g) (ht:(P.globals[g]?).map (·.type)=some t) (hu:P.underlying t=some (.array n e)) (he:P.underlying e=some (.int k)) (hce:P.cellsOf e=1) (hct:P.cellsOf t=n) (i:Nat) (hi:i<zs.length):
  W.cell? ⟨g,i,none⟩=some (.int k zs[i]):=by
 obtain ⟨g',t',cs,fuel,p,hg',ht',hc,hd⟩:=Yg6 hv hm
 obtain rfl:=Option.some.inj (hg.symm.trans hg')
 obtain rfl:=Option.some.inj (ht.symm.trans ht')
 have h1:=cells_of_tab hu he hce hct hd
 have hcell:=World.var?_cell hg hc i
 rw [hcell,←Array.getElem?_toList,h1,List.getElem?_map,List.getElem?_eq_getElem hi]
 rfl
theorem Yst {laid : List (String × DataW Unit)} {W : World} (hL : laidMetH Tryz.prog laid W) (hm : (("overspill/tcoef.codes", Rows.laid_overspill_tcoef_codes) ∈ laid ∧ ("overspill/tcoef.lengths", Rows.laid_overspill_tcoef_lengths) ∈ laid ∧ ("overspill/tcoef.ahead", Rows.laid_overspill_tcoef_ahead) ∈ laid) ∧ (laid.all fun x => x.2.handleName?.isNone) = true) : Yhp W := by
 rw [MakeChecks.laidMetH_plain _ _ _ hm.2] at hL
 obtain ⟨ps,hv,_,_⟩:=hL
 obtain ⟨h1,h2,h3⟩:=hm.1
 rw [Yhy.1] at h1
 rw [Yhy.2.1] at h2
 rw [Yhy.2.2] at h3
 have hlc:(Ytk.map fun z:Nat=> (z:Int)).length=103:=rfl
 have hll:(Yx8.map fun z:Nat=> (z:Int)).length=103:=rfl
 have hla:(Yoj.map fun z:Nat=> (z:Int)).length=11:=rfl
 refine ⟨fun i hi=> ?_,fun i hi=> ?_⟩
 ·have g1:=Yjc hv h1 (g:=5) (t:=260) (by kernel_rfl) (by kernel_rfl) Tryz.underlying260 Tryz.underlying259 (by kernel_rfl) (by kernel_rfl) i (by rw [hlc];exact hi)
  have g2:=Yjc hv h2 (g:=6) (t:=261) (by kernel_rfl) (by kernel_rfl) Tryz.underlying261 Tryz.underlying5 (by kernel_rfl) (by kernel_rfl) i (by rw [hll];exact hi)
  rw [Yud] at g1 g2
  exact ⟨g1,g2⟩
 ·have g3:=Yjc hv h3 (g:=7) (t:=276) (by kernel_rfl) (by kernel_rfl) Tryz.underlying276 Tryz.underlying5 (by kernel_rfl) (by kernel_rfl) i (by rw [hla];exact hi)
  rw [Yud] at g3
  exact g3
theorem Yv9 {laid:List (String×DataW Unit)} {W:World} (hL:laidMetH Tryz.prog laid W)
  (hm : (("overspill/cbpy.rows", Rows.laid_overspill_cbpy_rows) ∈ laid ∧ (("overspill/mvd.codes", Rows.laid_overspill_mvd_codes) ∈ laid ∧ ("overspill/mvd.lengths", Rows.laid_overspill_mvd_lengths) ∈ laid) ∧ ("overspill/steps.codes", Rows.laid_overspill_steps_codes) ∈ laid ∧
   (("overspill/tcoef.codes", Rows.laid_overspill_tcoef_codes) ∈ laid ∧ ("overspill/tcoef.lengths", Rows.laid_overspill_tcoef_lengths) ∈ laid ∧ ("overspill/tcoef.ahead", Rows.laid_overspill_tcoef_ahead) ∈ laid)) ∧ (laid.all fun x => x.2.handleName?.isNone) = true) : Ybn W.heap.size W :=
 Ybn.here (Yup hL ⟨hm.1.1,hm.2⟩) (Ywo hL ⟨hm.1.2.1,hm.2⟩) (Ysr hL ⟨hm.1.2.2.1,hm.2⟩) (Yst hL ⟨hm.1.2.2.2,hm.2⟩)
end Go.Proofs.YtgikochfffdpfaaGreatDoor