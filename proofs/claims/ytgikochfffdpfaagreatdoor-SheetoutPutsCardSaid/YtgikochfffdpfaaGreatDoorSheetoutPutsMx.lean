/- Texts that SheetoutPuts's proof stands on, part 24 of 47. No condition of its own. -/
import Derived.Test.YtgikochfffdpfaaGreatDoorSheetoutPutsMa
import Derived.Test.YtgikochfffdpfaaGreatDoorSheetoutPutsMc
import Derived.Test.YtgikochfffdpfaaGreatDoorSheetoutPutsMd
import Derived.Test.YtgikochfffdpfaaGreatDoorSheetoutPutsMg
import Derived.Test.YtgikochfffdpfaaGreatDoorSheetoutPutsMu
import Derived.WalkKit
import Derived.OwnWalk
import Derived.BigQuiet
import Derived.Lib.Bytealg
import Derived.WalkMore
import Derived.IntWalk
import Derived.Deep.QuietTactic
namespace Go.Proofs.YtgikochfffdpfaaGreatDoor
open Go.ChangeShapes Go.WideShapes Go.ChangeAt Go.RowKit
def Yy2 (x:ByteArray×Int):List UInt8:=x.1.data.toList
def Ysx (w:World) (p:Option Addr) (l:List ByteArray):Prop:=
 l = []∨∃b o,p=some ⟨b,o,none⟩∧b<w.heap.size∧∀i,(h:i<l.length)→w.cell? ⟨b,o+i,none⟩=some (.string l[i])
theorem Ysx.at {w:World} {p:Option Addr} {l:List ByteArray} (h:Ysx w p l) (h0:0<l.length):
  ∃b o,p=some ⟨b,o,none⟩∧b<w.heap.size∧∀i,(h:i<l.length)→w.cell? ⟨b,o+i,none⟩=some (.string l[i]):=by
 rcases h with rfl | h
 ·cases h0
 ·exact h
def Ybd (l:List ByteArray):List Value:=l.map .string
theorem Yet (l:List ByteArray) (x:ByteArray):Ybd (l ++ [x])=Ybd l ++ [.string x]:=by simp [Ybd]
theorem Yul {w:World} {base e:Nat} {v:Value} {l:List ByteArray} (h:w.ownsRow base e 1 v l.length (Ybd l)):
  ∃(q:Option Addr) (cap:Nat),v = .slice q l.length cap∧Ysx w q l:=by
 have h0:=h
 rcases h.2 with ⟨rfl,h1⟩ | ⟨g,cap,cur,rfl,_,hg,_⟩
 ·exact ⟨none,0,by rw [h1],.inl (List.eq_nil_of_length_eq_zero h1)⟩
 ·refine ⟨_,cap,rfl,.inr ⟨g,0,rfl,(Array.getElem?_eq_some_iff.1 hg).1,fun i hi=> ?_⟩⟩
  have:=World.ownsRow.cells (g:=g) h0 rfl i (.string l[i]) (by simp [Ybd,hi])
  rwa [Addr.add_mid] at this
theorem Yho {P:Program} {w:World} {ops:Array Oper} {rest:List Oper} {o:Oper} {a:Act} {Q:Exit→Act→World→Prop} {sl x:Operand} {t base e c:Nat} {i:TypeInfo} {z v:Value} {n:Nat} {xs:List Value} {K:Nat} {y0:ByteArray}
  (hgd:o.guard=none) (ho:o.op = .call {callee:=.builtin .append,args:=#[sl,x],argTypes:=#[t,t]})
  (ht:P.underlying t=some (.slice e)) (hi:P.info? e=some i) (hz:i.zero=some z) (hzs:z.cells.size=1) (hsize:i.size=1) (hby:i.bytes=16)
  (hs:a.eval sl=v) (hown:w.ownsRow base e 1 v n xs) (hx:a.eval x = .slice (some ⟨K,0,none⟩) 1 c) (c0:w.cell? ⟨K,0,none⟩=some (.string y0)) (hn:n≤1048576) (hbase:base≤w.heap.size)
  (h:∀v' w',w'.ownsRow base e 1 v' (n+1) (xs ++ [.string y0])→w.grownBy w' v.ownBlock→wpList P ops Q rest (a.put o.dst v') w'):wpList P ops Q (o::rest) a w:=
 wpList_append_own w hgd sl x t ho base e i z 1 16 ht hi hz hsize hby hzs (by decide) v n xs hs hown ⟨K,0,none⟩ 1 c [.string y0] hx rfl
  (fun j u hj=> by
   match j,hj with
   | 0,hj=> cases hj;exact c0)
  (by intro u hu;rw [List.mem_singleton] at hu;subst hu;rfl) (by unfold maxLen;omega) (by omega) hbase
  fun v' w' h1 h2 _=> h v' w' h1 h2
theorem Yp4:(Tryz.prog.info? 9).map (fun i=> (i.zero,i.size,i.bytes))=some (some (.string ⟨#[]⟩),1,16):=by kernel_rfl
theorem Yeu {w:World} {b:Nat} {l:List ByteArray} {T:TypeId} (h:w.heap[b]? = some (.cells (l.map Value.string).toArray T (0,0))):Ysx w (some ⟨b,0,none⟩) l:=by
 refine .inr ⟨b,0,rfl,(Array.getElem?_eq_some_iff.1 h).1,fun i hi=> ?_⟩
 rw [Nat.zero_add]
 exact Yab h (by simp [hi])
end Go.Proofs.YtgikochfffdpfaaGreatDoor
namespace Go.Proofs.YtgikochfffdpfaaGreatDoor
open Go.RowKit Go.Lib
def Yyf (inter:Bool):List ByteArray:=
 if inter then [⟨#[49]⟩,⟨#[48,48,49,49]⟩,⟨#[48,48,49,48]⟩,⟨#[48,48,48,49,48,49]⟩,⟨#[48,49,49]⟩,⟨#[48,48,48,48,49,49,49]⟩,⟨#[48,48,48,48,49,49,48]⟩,⟨#[48,48,48,48,48,48,49,48,49]⟩,⟨#[48,49,48]⟩,⟨#[48,48,48,48,49,48,49]⟩,⟨#[48,48,48,48,49,48,48]⟩,⟨#[48,48,48,48,48,49,48,49]⟩,⟨#[48,48,48,49,49]⟩,⟨#[48,48,48,48,48,49,48,48]⟩,⟨#[48,48,48,48,48,48,49,49]⟩,⟨#[48,48,48,48,48,49,49]⟩,⟨#[48,48,48,49,48,48]⟩,⟨#[48,48,48,48,48,48,49,48,48]⟩,⟨#[48,48,48,48,48,48,48,49,49]⟩,⟨#[48,48,48,48,48,48,48,49,48]⟩,⟨#[48,48,48,48,48,48,48,48,49]⟩]
 else [⟨#[]⟩,⟨#[]⟩,⟨#[]⟩,⟨#[]⟩,⟨#[]⟩,⟨#[]⟩,⟨#[]⟩,⟨#[]⟩,⟨#[]⟩,⟨#[]⟩,⟨#[]⟩,⟨#[]⟩,⟨#[49]⟩,⟨#[48,48,49]⟩,⟨#[48,49,48]⟩,⟨#[48,49,49]⟩,⟨#[48,48,48,49]⟩,⟨#[48,48,48,48,48,49]⟩,⟨#[48,48,48,48,49,48]⟩,⟨#[48,48,48,48,49,49]⟩,⟨#[48,48,48,48,48,48,48,48,49]⟩]
theorem Yhg (inter:Bool):(Yyf inter).length=21:=by cases inter <;> rfl
theorem Ywv (inter:Bool) (k c:Nat) (hk:k<6) (hc:c<4) (h:4*k+c<21):Ybp inter (k:Int) (c:Int)=(Yyf inter)[4*k+c]'(by rw [Yhg];exact h):=by
 have key:∀k,k<6→∀c,c<4→4*k+c<21→(Yyf inter)[4*k+c]? = some (Ybp inter ((k:Nat):Int) ((c:Nat):Int)):=by
  cases inter <;> decide +kernel
 have h1:=key k hk c hc h
 rw [List.getElem?_eq_getElem (by rw [Yhg];exact h)] at h1
 exact (Option.some.inj h1).symm
theorem Ylc {w:World} {b:Nat} {l:List ByteArray} {T:TypeId} (h:w.heap[b]? = some (.cells (l.map Value.string).toArray T (0,0))):Ysx w (some ⟨b,0,none⟩) l:=by
 refine .inr ⟨b,0,rfl,(Array.getElem?_eq_some_iff.1 h).1,fun i hi=> ?_⟩
 rw [Nat.zero_add]
 exact Yab h (by simp [hi])
set_option maxHeartbeats 1000000 in
theorem Ysd (inter:Bool) (w:World):Calls Tryz.prog 95 #[.bool inter] w fun e w'=> e = .returned (.slice (some ⟨w.heap.size,0,none⟩) 21 21)∧Ysx w' (some ⟨w.heap.size,0,none⟩) (Yyf inter)∧Below w.heap.size w w':=by
 cases inter with
 | true=>
  go_enter Tryz.func95,Tryz.ntmps95
  go_wp2
  go_ret
  exact ⟨rfl,Ylc (T:=9) (l:=Yyf true) (heap_alloc_new w _),(Below.refl _ w).alloc (Nat.le_refl _) _⟩
 | false=>
  go_enter Tryz.func95,Tryz.ntmps95
  go_wp2
  go_ret
  exact ⟨rfl,Ylc (T:=9) (l:=Yyf false) (heap_alloc_new w _),(Below.refl _ w).alloc (Nat.le_refl _) _⟩
theorem Yfe {inter:Bool} {k c:Int} (h:k<0∨5<k∨c<0∨3<c∨(k=5∧0<c)):Ybp inter k c=⟨#[]⟩:=by
 by_cases hc:c<0∨4≤c
 ·exact Yjp hc
 ·unfold Ybp
  rw [if_pos (by omega)]
  rcases (by omega:c=0∨c=1∨c=2∨c=3) with rfl | rfl | rfl | rfl
  all_goals
   rcases (by omega:(k<0∨5<k)∨k=5) with hk | rfl
   ·have h0:∀i:Int,0≤i→i≤5→¬ k=i:=fun i h1 h2 e=> by omega
    cases inter <;> simp [Yr9,Yg3,Yg4,h0 0,h0 1,h0 2,h0 3,h0 4,h0 5]
   ·first
     | (exfalso;omega)
     | (cases inter <;> rfl)
set_option maxRecDepth 100000 in
set_option maxHeartbeats 2000000 in
theorem Ynt (inter:Bool) (k c:Int) (w:World):Calls Tryz.prog 65 #[.bool inter,.int .i64 k,.int .i64 c] w fun e w'=> e = .returned (.string (Ybp inter k c))∧Below w.heap.size w w':=by
 by_cases g0:k<0
 ·have F:=Lib.hid (Yfe (inter:=inter) (k:=k) (c:=c) (by have h:=g0;exact .inl h))
  have t0:decide (k<0)=true:=by simpa using g0
  clear g0
  rw [F.out]
  go_enter Tryz.func65,Tryz.ntmps65
  go_wp2
  go_ret
  exact ⟨rfl,Below.refl _ _⟩
 by_cases g1:5<k
 ·have F:=Lib.hid (Yfe (inter:=inter) (k:=k) (c:=c) (by have h:=g1;exact .inr (.inl h)))
  have t0:decide (k<0)=false:=by simpa using g0
  have t1:decide (5<k)=true:=by simpa using g1
  clear g0 g1
  rw [F.out]
  go_enter Tryz.func65,Tryz.ntmps65
  go_wp2
  go_ret
  exact ⟨rfl,Below.refl _ _⟩
 by_cases g2:c<0
 ·have F:=Lib.hid (Yfe (inter:=inter) (k:=k) (c:=c) (by have h:=g2;exact .inr (.inr (.inl h))))
  have t0:decide (k<0)=false:=by simpa using g0
  have t1:decide (5<k)=false:=by simpa using g1
  have t2:decide (c<0)=true:=by simpa using g2
  clear g0 g1 g2
  rw [F.out]
  go_enter Tryz.func65,Tryz.ntmps65
  go_wp2
  go_ret
  exact ⟨rfl,Below.refl _ _⟩
 by_cases g3:3<c
 ·have F:=Lib.hid (Yfe (inter:=inter) (k:=k) (c:=c) (by have h:=g3;exact .inr (.inr (.inr (.inl h)))))
  have t0:decide (k<0)=false:=by simpa using g0
  have t1:decide (5<k)=false:=by simpa using g1
  have t2:decide (c<0)=false:=by simpa using g2
  have t3:decide (3<c)=true:=by simpa using g3
  clear g0 g1 g2 g3
  rw [F.out]
  go_enter Tryz.func65,Tryz.ntmps65
  go_wp2
  go_ret
  exact ⟨rfl,Below.refl _ _⟩
 have t0:decide (k<0)=false:=by simpa using g0
 have t1:decide (5<k)=false:=by simpa using g1
 have t2:decide (c<0)=false:=by simpa using g2
 have t3:decide (3<c)=false:=by simpa using g3
 by_cases g4:k=5∧0<c
 ·have F:=Lib.hid (Yfe (inter:=inter) (k:=k) (c:=c) (.inr (.inr (.inr (.inr g4)))))
  have t4:(k==5)=true:=by rw [beq_iff_eq];exact g4.1
  have t5:decide (0<c)=true:=by simpa using g4.2
  clear g0 g1 g2 g3 g4
  rw [F.out]
  go_enter Tryz.func65,Tryz.ntmps65
  go_wp2
  go_ret
  exact ⟨rfl,Below.refl _ _⟩
 obtain ⟨a,rfl⟩:∃a:Nat,k=a:=⟨k.toNat,by omega⟩
 obtain ⟨d,rfl⟩:∃d:Nat,c=d:=⟨c.toNat,by omega⟩
 have hi:4*a+d<21:=by omega
 have hrow:Ybp inter (a:Int) (d:Int)=(Yyf inter)[4*a+d]'(by rw [Yhg];exact hi):=Ywv inter a d (by omega) (by omega) hi
 have t45:((a:Int)==5)=false∨(((a:Int)==5)=true∧decide (0<d)=false):=by
  by_cases e:(a:Int)=5
  ·exact .inr ⟨by rw [beq_iff_eq];exact e,by simp;omega⟩
  ·exact .inl (by rw [beq_eq_false_iff_ne];exact e)
 have H:=Lib.hid hrow
 have h0:4*a≤20:=by omega
 clear g0 g1 g2 g3 g4 hrow
 rcases t45 with t4 | ⟨t4,t5⟩
 all_goals
  go_enter Tryz.func65,Tryz.ntmps65
  go_wp2_with fail
  refine (Ysd inter _).mono ?_
  rintro e w1 ⟨rfl,hst,hb⟩
  obtain ⟨b,o,e,_,hc⟩:=hst.at (by rw [Yhg];omega)
  cases e
  have c0:=hc (4*a+d) (by rw [Yhg];exact hi)
  rw [Nat.zero_add] at c0
  rw [←H.out] at c0
  clear hc
  go_wp2
  go_ret
  exact ⟨rfl,hb⟩
end Go.Proofs.YtgikochfffdpfaaGreatDoor
namespace Go.Proofs.YtgikochfffdpfaaGreatDoor
open Go.RowKit
theorem Yln {a b:ByteArray}:a=b↔a.data.toList=b.data.toList:=by
 constructor
 ·rintro rfl;rfl
 ·intro h
  obtain ⟨⟨l⟩⟩:=a
  obtain ⟨⟨m⟩⟩:=b
  cases h;rfl
end Go.Proofs.YtgikochfffdpfaaGreatDoor