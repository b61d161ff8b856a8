/- Texts that SheetoutBack's proof stands on, part 33 of 52. No condition of its own. -/
import Derived.Test.YtgikochfffdpfaaGreatDoorSheetoutBackMj
import Derived.Test.YtgikochfffdpfaaGreatDoorSheetoutBackMq
import Derived.OwnWalk
import Derived.Laws.AppendOwn
import Derived.Laws.AppendOwnNone
import Derived.Deep.MidRow
namespace Go.Proofs.YtgikochfffdpfaaGreatDoor
open Go.RowKit Go.Lib
theorem Y0a {α:Type} {c:Nat}:∀(xs:List (List α)),(∀x∈xs,x.length=c)→∀(i:Nat) (h:i<xs.length) (j:Nat),j<c→xs.flatten[i*c+j]? = xs[i][j]?
 | [],_,i,h,_,_=> absurd h (Nat.not_lt_zero i)
 | x::xs,hx,0,_,j,hj=> by
  rw [List.flatten_cons,Nat.zero_mul,Nat.zero_add,List.getElem?_append_left (by rw [hx x (List.mem_cons_self ..)];exact hj)]
  rfl
 | x::xs,hx,i+1,h,j,hj=> by
  have hl:=hx x (List.mem_cons_self ..)
  rw [List.flatten_cons,List.getElem?_append_right (by rw [hl,Nat.add_mul];omega),hl,show (i+1)*c+j-c=i*c+j by rw [Nat.add_mul];omega]
  exact Y0a xs (fun y hy=> hx y (List.mem_cons_of_mem _ hy)) i (by simpa using h) j hj
def Qed {α:Type} (c:Nat) (V:α→List Value→Prop) (l:List α) (xs:List (List Value)):Prop:=
 xs.length=l.length∧(∀x∈xs,x.length=c)∧∀i,(h:i<l.length)→∃x,xs[i]? = some x∧V l[i] x
theorem Qed.nil {α:Type} (c:Nat) (V:α→List Value→Prop):Qed c V [] []:=⟨rfl,(fun x h=> by cases h),fun i h=> absurd h (Nat.not_lt_zero i)⟩
theorem Qed.app {α:Type} {c:Nat} {V:α→List Value→Prop} {l m:List α} {xs ys:List (List Value)} (h:Qed c V l xs) (k:Qed c V m ys):Qed c V (l++m) (xs++ys):=by
 obtain ⟨h1,h2,h3⟩:=h
 obtain ⟨k1,k2,k3⟩:=k
 refine ⟨by rw [List.length_append,List.length_append,h1,k1],fun x hx=> ?_,fun i hi=> ?_⟩
 ·rcases List.mem_append.1 hx with hx | hx
  ·exact h2 x hx
  ·exact k2 x hx
 ·by_cases hl:i<l.length
  ·obtain ⟨x,e,hv⟩:=h3 i hl
   exact ⟨x,by rw [List.getElem?_append_left (by omega)];exact e,by rw [List.getElem_append_left hl];exact hv⟩
  ·rw [List.length_append] at hi
   obtain ⟨x,e,hv⟩:=k3 (i-l.length) (by omega)
   exact ⟨x,by rw [List.getElem?_append_right (by omega),h1];exact e,by rw [List.getElem_append_right (by omega)];exact hv⟩
def Yfp {α:Type} (c:Nat) (e:TypeId) (V:α→List Value→Prop) (w:World) (base:Nat) (v:Value) (l:List α):Prop:=
 ∃xs,Qed c V l xs∧w.ownsRow base e c v l.length xs.flatten
theorem Yfp.nil {α:Type} (c:Nat) (e:TypeId) (V:α→List Value→Prop) (w:World) (base:Nat):Yfp c e V w base (.slice none 0 0) ([]:List α):=⟨[],Qed.nil c V,World.ownsRow_nil _ _ _ _⟩
theorem Yfp.kept {α:Type} {c:Nat} {e:TypeId} {V:α→List Value→Prop} {w w':World} {base:Nat} {v:Value} {l:List α} {row:Option Nat} (h:Yfp c e V w base v l) (hg:w.grownBy w' row) (hne:v.ownBlock=none∨v.ownBlock≠row):Yfp c e V w' base v l:=by
 obtain ⟨xs,h1,h2⟩:=h
 exact ⟨xs,h1,h2.kept hg hne⟩
theorem Yfp.many {α:Type} {c:Nat} {e:TypeId} {V:α→List Value→Prop} {V':World→α→List Value→Prop} {w:World} {base:Nat} {v:Value} {l:List α} (h:Yfp c e V w base v l) (hV:∀a vs,V a vs→V' w a vs):
  ∃(q:Option Addr) (cap:Nat),v = .slice q l.length cap∧Yel c V' w q l:=by
 obtain ⟨xs,⟨h1,h2,h3⟩,h0⟩:=h
 have h0':=h0
 rcases h0.2 with ⟨rfl,hn⟩ | ⟨g,cap,cur,rfl,_,hg,_⟩
 ·exact ⟨none,0,by rw [hn],.inl (List.eq_nil_of_length_eq_zero hn)⟩
 ·refine ⟨_,cap,rfl,.inr ⟨g,0,rfl,(Array.getElem?_eq_some_iff.1 hg).1,fun i hi=> ?_⟩⟩
  obtain ⟨x,e1,hv⟩:=h3 i hi
  refine ⟨x,hV _ _ hv,fun j u hj=> ?_⟩
  have hx:x.length=c:=h2 x (List.mem_of_getElem? e1)
  have hjc:j<c:=by rw [←hx];exact (List.getElem?_eq_some_iff.1 hj).1
  have hf:=Y0a xs h2 i (by omega) j hjc
  have e2:xs[i]'(by omega)=x:=by
   have:=List.getElem?_eq_getElem (l:=xs) (i:=i) (by omega)
   rw [this] at e1
   injection e1
  rw [e2,hj] at hf
  have:=World.ownsRow.cells (g:=g) h0' rfl (i*c+j) u hf
  rw [Addr.add_mid] at this
  rw [Nat.zero_add] at this ⊢
  exact this
theorem Yxk.shape {w:World} {c:Cel} {vs:List Value} (h:Yxk w c vs):vs.length=18∧∀u∈vs,u.oneCell'=true:=by
 obtain ⟨p,cap,rfl,-,-⟩:=h
 refine ⟨rfl,fun u hu=> ?_⟩
 simp only [Yba,List.mem_cons,List.not_mem_nil,or_false] at hu
 rcases hu with rfl | rfl | rfl | rfl | rfl | rfl | rfl | rfl | rfl | rfl | rfl | rfl | rfl | rfl | rfl | rfl | rfl | rfl <;> rfl
theorem Yc5 {ops:Array Oper} {rest:List Oper} {op:Oper} {a:Act} {w:World} {Q:Exit→Act→World→Prop} (hgd:op.guard=none) (x:Operand) (ho:op.op = .load 56 x)
  (b o:Nat) (hx:a.eval x = .pointer (some ⟨b,o,none⟩)) (vs:List Value) (hc:w.rangeAt b o vs) (hl:vs.length=18) (h:wpList Tryz.prog ops Q rest (a.put op.dst (.agg vs.toArray)) w):wpList Tryz.prog ops Q (op::rest) a w:=
 wpList_load_mid hgd _ x ho b o hx vs _ hc Tryz.underlying56 rfl (by rw [hl];kernel_rfl) h
theorem Yek {ops:Array Oper} {rest:List Oper} {op:Oper} {a:Act} {w:World} {Q:Exit→Act→World→Prop} (hgd:op.guard=none) (x:Operand) (ho:op.op = .load 59 x)
  (b o:Nat) (hx:a.eval x = .pointer (some ⟨b,o,none⟩)) (vs:List Value) (hc:w.rangeAt b o vs) (hl:vs.length=4) (h:wpList Tryz.prog ops Q rest (a.put op.dst (.agg vs.toArray)) w):wpList Tryz.prog ops Q (op::rest) a w:=
 wpList_load_mid hgd _ x ho b o hx vs _ hc Tryz.underlying59 rfl (by rw [hl];kernel_rfl) h
theorem Ypl {ops:Array Oper} {rest:List Oper} {op:Oper} {a:Act} {w:World} {Q:Exit→Act→World→Prop} (hw:Region.wanted op (yielded ops a.tmps)=true) (x:Operand) (ho:op.op = .load 51 x)
  (b o:Nat) (hx:a.eval x = .pointer (some ⟨b,o,none⟩)) (u v:Int) (hc:w.rangeAt b o [.int .i64 u,.int .i64 v]) (h:wpList Tryz.prog ops Q rest (a.put op.dst (.agg (Y1j u v))) w):wpList Tryz.prog ops Q (op::rest) a w:=by
 unfold wpList
 rw [if_pos hw]
 exact .inl (wp_load_mid _ x ho b o hx [.int .i64 u,.int .i64 v] _ hc Tryz.underlying51 rfl (by kernel_rfl) h)
theorem Yif {P:Program} {T:TypeId} {Z:Array Value} (h:(P.info? T).map (fun i=> i.zero)=some (some (.agg Z))) (w:World):(zeroValue T).run P w = .ok (.agg Z) w:=by
 cases hq:P.info? T with
 | none=> rw [hq] at h;cases h
 | some i=>
  rw [hq] at h
  have h:i.zero=some (.agg Z):=by simpa using h
  simp [zeroValue,typeInfo,hq,h]
theorem Yfe:∃Y:Array Value,Y.size=18∧∀w,(zeroValue 56).run Tryz.prog w = .ok (.agg Y) w:=⟨(Yba Yii nilS).toArray,rfl,Yif (by kernel_rfl)⟩
theorem Ykr:∃Y:Array Value,Y.size=4∧∀w,(zeroValue 59).run Tryz.prog w = .ok (.agg Y) w:=⟨#[.bool false,.int .i64 0,.int .i64 0,.slice none 0 0],rfl,Yif (by kernel_rfl)⟩
theorem Ygd {w:World} {c:Cel} {vs:List Value} (h:Yxk w c vs):vs.toArray.all (·.oneCell')=true:=by
 rw [Array.all_eq_true_iff_forall_mem]
 exact fun u hu=> h.shape.2 u (by simpa using hu)
end Go.Proofs.YtgikochfffdpfaaGreatDoor