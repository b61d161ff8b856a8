/- Texts that SheetoutBack's proof stands on, part 39 of 52. No condition of its own. -/
import Derived.Test.YtgikochfffdpfaaGreatDoorSheetoutBackMd
import Derived.Test.YtgikochfffdpfaaGreatDoorSheetoutBackMf
import Derived.Test.YtgikochfffdpfaaGreatDoorSheetoutBackMg
import Derived.Test.YtgikochfffdpfaaGreatDoorSheetoutBackMu
import Derived.Test.YtgikochfffdpfaaGreatDoorSheetoutBackMbb
import Derived.Test.YtgikochfffdpfaaGreatDoorSheetoutBackMbl
import Derived.WalkKit
import Derived.OwnWalk
import Derived.Maps.StringElems
import Derived.DeepKeys4
import Derived.BigQuiet
import Derived.Deep.QuietTactic
import Derived.IntWalk
import Derived.RegionTactic
import Derived.Laws.ResultCell
import Derived.Laws.Rows
import Derived.Deep.RegionWith
namespace Go.Proofs.YtgikochfffdpfaaGreatDoor
open Go.RowKit Go.Lib Go.Sort
theorem Ym9 {p:UInt8→Bool}:∀{l:List UInt8},l.dropWhile p = []↔l.all p=true
 | []=> by simp
 | c::l=> by
  cases h:p c with
  | true=> simp only [List.dropWhile_cons,h,if_true,List.all_cons,Bool.true_and];exact Ym9
  | false=> simp [h]
theorem Yw6 (l:List UInt8):Lib.trimS l [48,49] = []↔Yaw l=true:=by
 have e:∀c:UInt8,([48,49]:List UInt8).contains c=(c==48 || c==49):=fun c=> by rw [Bool.eq_iff_iff];simp
 unfold Lib.trimS Lib.trimLeftS Lib.trimRightS Yaw
 simp only [e]
 rw [Ym9,List.all_reverse]
 constructor
 ·intro h
  by_cases hr:l.reverse.dropWhile (fun c=> c==48 || c==49) = []
  ·rw [Ym9,List.all_reverse] at hr
   exact hr
  ·exfalso
   have h1:=List.all_eq_true.1 h _ (List.head_mem hr)
   have h2:=List.head_dropWhile_not (fun c:UInt8=> c==48 || c==49) hr
   rw [h1] at h2
   cases h2
 ·intro h
  rw [Ym9.2 (by rw [List.all_reverse];exact h)]
  rfl
theorem Y1i (s:ByteArray) (hs:s.size≤9223372036854775807) (w:World):
  Calls Tryz.prog 228 #[.string s,.string ⟨#[48,49]⟩] w fun e w'=> e = .returned (.string ⟨(Lib.trimS s.data.toList [48,49]).toArray⟩)∧Below w.heap.size w w':=
 Any.strings_Trim_laid Tryz.lTrim (by kernel_rfl) s ⟨#[48,49]⟩ w hs (by decide) (ascii_of_all (by decide))
theorem Yny (a b:ByteArray) (w:World):
  Calls Tryz.prog 215 #[.string a,.string b] w fun e w'=> e = .returned (.int .i64 (Lib.compareBytes a.data.toList b.data.toList))∧w'=w:=
 Any.strings_Compare Tryz.lCompare a b w
theorem Ylc (s p:ByteArray) (w:World):
  Calls Tryz.prog 157 #[.string s,.string p] w fun e w'=> e = .returned (.bool (p.data.toList.isPrefixOf s.data.toList))∧w'=w:=
 Any.strings_HasPrefix Tryz.lHasPrefix s p w
def Qem (x y:ByteArray×Int):Int:=Lib.compareBytes (Ya0 x) (Ya0 y)
theorem Y9u:SWO (ltOf Qem):=Y1e Ya0
set_option maxHeartbeats 1000000 in
theorem Yur (x y:ByteArray×Int) (W:World):Calls Tryz.prog 214 #[.agg #[.string x.1,.int .i64 x.2],.agg #[.string y.1,.int .i64 y.2]] W fun e w'=> e = .returned (.int .i64 (Qem x y))∧∃q os',w'=grow (W.drewN q) os':=by
 have hcon:=fun W'=> Yny x.1 y.1 W'
 unfold Qem Ya0
 generalize Lib.compareBytes x.1.data.toList y.1.data.toList=r at hcon ⊢
 go_enter Tryz.func214,Tryz.ntmps214
 go_wp2_with (go_at_call 215;refine (hcon _).mono ?_;rintro e w' ⟨rfl,rfl⟩)
 go_ret
 exact ⟨rfl,0,_,by rw [alloc_eq_grow,alloc_eq_grow,grow_grow];rfl⟩
theorem Qar:∀w,(isAgg 249).run Tryz.prog w = .ok true w:=fun _=> by kernel_rfl
theorem Ywo:∀w,(Go.sizeOf 249).run Tryz.prog w = .ok 2 w:=fun _=> by kernel_rfl
theorem Yoc:(Tryz.prog.info? 249).map (fun i=> (i.zero,i.size,i.bytes))=some (some (.agg #[.string ⟨#[]⟩,.int .i64 0]),2,24):=by kernel_rfl
theorem Y59 (b off n c:Nat) (news:List Value) (w:World) (hl:news.length=n*2) (hn:n≤1048576)
  (hc:∀j u,news[j]? = some u→w.cell? ⟨b,off+j,none⟩=some u) (h1:∀u∈news,u.oneCell'=true):
  Calls Tryz.prog 211 #[.slice (some ⟨b,off,none⟩) n c] w fun e w'=>∃v',e = .returned v'∧w'.ownsRow w.heap.size 249 2 v' n news∧v'≠.slice none 0 0∧Below w.heap.size w w':=by
 obtain ⟨i0,hi,iz0,iz1,iz2⟩:=info_parts Yoc
 exact AnyE.slices_Clone Tryz.lClone i0 _ 2 24 hi iz0 iz1 iz2 rfl (by decide) Ywo b off n c news w hl (by unfold maxLen;omega) (by omega) hc h1
abbrev Sym:=Fin 6×Fin 4
def sA (s:Sym):Int:=(s.1.val:Int)
def sB (s:Sym):Int:=(s.2.val:Int)
theorem Qhr {s t:Sym} (h1:sA s=sA t) (h2:sB s=sB t):s=t:=by
 unfold sA at h1
 unfold sB at h2
 exact Prod.ext (Fin.ext (by omega)) (Fin.ext (by omega))
def Yhe (x:ByteArray×Sym):List Value:=[.string x.1,.int .i64 (sA x.2),.int .i64 (sB x.2)]
def Yar (x:ByteArray×Sym):List UInt8:=x.1.data.toList
def Yus (x y:ByteArray×Sym):Int:=Lib.compareBytes (Yar x) (Yar y)
theorem Y4n:SWO (ltOf Yus):=Y1e Yar
set_option maxHeartbeats 1000000 in
theorem Ysj (x y:ByteArray×Sym) (W:World):Calls Tryz.prog 225 #[.agg #[.string x.1,.int .i64 (sA x.2),.int .i64 (sB x.2)],.agg #[.string y.1,.int .i64 (sA y.2),.int .i64 (sB y.2)]] W fun e w'=> e = .returned (.int .i64 (Yus x y))∧∃q os',w'=grow (W.drewN q) os':=by
 have hcon:=fun W'=> Yny x.1 y.1 W'
 unfold Yus Yar
 generalize Lib.compareBytes x.1.data.toList y.1.data.toList=r at hcon ⊢
 go_enter Tryz.func225,Tryz.ntmps225
 go_wp2_with (go_at_call 215;refine (hcon _).mono ?_;rintro e w' ⟨rfl,rfl⟩)
 go_ret
 exact ⟨rfl,0,_,by rw [alloc_eq_grow,alloc_eq_grow,grow_grow];rfl⟩
theorem Y5c:∀w,(isAgg 237).run Tryz.prog w = .ok true w:=fun _=> by kernel_rfl
theorem Yrn:∀w,(Go.sizeOf 237).run Tryz.prog w = .ok 3 w:=fun _=> by kernel_rfl
theorem Ysp (x:ByteArray×Sym):∀v∈Yhe x,v.oneCell'=true:=by
 intro v hv
 simp only [Yhe,List.mem_cons,List.not_mem_nil,or_false] at hv
 rcases hv with rfl | rfl | rfl <;> rfl
theorem Ylm:(Tryz.prog.info? 237).map (fun i=> (i.zero,i.size,i.bytes))=some (some (.agg #[.string ⟨#[]⟩,.int .i64 0,.int .i64 0]),3,32):=by kernel_rfl
theorem Y2i (b off n c:Nat) (news:List Value) (w:World) (hl:news.length=n*3) (hn:n≤1048576)
  (hc:∀j u,news[j]? = some u→w.cell? ⟨b,off+j,none⟩=some u) (h1:∀u∈news,u.oneCell'=true):
  Calls Tryz.prog 223 #[.slice (some ⟨b,off,none⟩) n c] w fun e w'=>∃v',e = .returned v'∧w'.ownsRow w.heap.size 237 3 v' n news∧v'≠.slice none 0 0∧Below w.heap.size w w':=by
 obtain ⟨i0,hi,iz0,iz1,iz2⟩:=info_parts Ylm
 exact AnyE.slices_Clone Tryz.lCloneY i0 _ 3 32 hi iz0 iz1 iz2 rfl (by decide) Yrn b off n c news w hl (by unfold maxLen;omega) (by omega) hc h1
theorem Y25 (i:Nat) (hi:i<100) (w:World):
  Calls Tryz.prog 208 #[.int .i64 i] w fun e w'=> e = .returned (.string ⟨(Lib.decDigits i).toArray⟩)∧w'=w:=
 Any.strconv_Itoa_small Tryz.lItoa i hi w
end Go.Proofs.YtgikochfffdpfaaGreatDoor
namespace Go.Proofs.YtgikochfffdpfaaGreatDoor
open Go.ChangeShapes Go.WideShapes Go.ChangeAt Go.RowKit
def Cds (w:World) (p:Option Addr) (l:List (ByteArray×Int)):Prop:=
 l = []∨∃b o,p=some ⟨b,o,none⟩∧b<w.heap.size∧∀i,(h:i<l.length)→w.cell? ⟨b,o+i*2,none⟩=some (.string l[i].1)∧w.cell? ⟨b,o+i*2+1,none⟩=some (.int .i64 l[i].2)
theorem Cds.below {w w':World} {p:Option Addr} {l:List (ByteArray×Int)} (h:Cds w p l) (hb:Below w.heap.size w w'):Cds w' p l:=by
 rcases h with h | ⟨b,o,h1,h2,h3⟩
 ·exact .inl h
 ·refine .inr ⟨b,o,h1,Nat.lt_of_lt_of_le h2 hb.size,fun i hi=> ?_⟩
  rw [hb.cell (p:=⟨b,o+i*2,none⟩) h2,hb.cell (p:=⟨b,o+i*2+1,none⟩) h2]
  exact h3 i hi
theorem Cds.at {w:World} {p:Option Addr} {l:List (ByteArray×Int)} (h:Cds w p l) (h0:0<l.length):
  ∃b o,p=some ⟨b,o,none⟩∧b<w.heap.size∧∀i,(h:i<l.length)→w.cell? ⟨b,o+i*2,none⟩=some (.string l[i].1)∧w.cell? ⟨b,o+i*2+1,none⟩=some (.int .i64 l[i].2):=by
 rcases h with rfl | h
 ·cases h0
 ·exact h
theorem Cds.take {w:World} {p:Option Addr} {l:List (ByteArray×Int)} (h:Cds w p l) (k:Nat):Cds w p (l.take k):=by
 rcases h with rfl | ⟨b,o,h1,h2,h3⟩
 ·exact .inl (by simp)
 ·refine .inr ⟨b,o,h1,h2,fun i hi=> ?_⟩
  rw [List.getElem_take]
  exact h3 i (by rw [List.length_take] at hi;omega)
theorem Cds.drop {w:World} {b o:Nat} {l:List (ByteArray×Int)} (h:Cds w (some ⟨b,o,none⟩) l) (k:Nat):Cds w (some ⟨b,o+k*2,none⟩) (l.drop k):=by
 rcases h with rfl | ⟨b',o',h1,h2,h3⟩
 ·exact .inl (by simp)
 ·cases h1
  refine .inr ⟨b,o+k*2,rfl,h2,fun i hi=> ?_⟩
  have:=h3 (k+i) (by rw [List.length_drop] at hi;omega)
  rw [List.getElem_drop,show o+k*2+i*2=o+(k+i)*2 by omega]
  exact this
def Ya3 (l:List (ByteArray×Int)):List Value:=l.flatMap Yu5
theorem Ypz (l:List (ByteArray×Int)) (x:ByteArray×Int):Ya3 (l ++ [x])=Ya3 l ++ [.string x.1,.int .i64 x.2]:=by simp [Ya3,Yu5]
theorem Yhc (l:List (ByteArray×Int)):(Ya3 l).length=l.length*2:=by
 induction l with
 | nil=> rfl
 | cons x l ih=>
  have e:Ya3 (x::l)=Yu5 x++Ya3 l:=by simp [Ya3]
  rw [e,List.length_append,ih,List.length_cons,Yu5,List.length_cons,List.length_cons,List.length_nil];omega
theorem Ye6 (l:List (ByteArray×Int)) (j:Nat) (h:j<l.length):(Ya3 l)[j*2]? = some (.string l[j].1)∧(Ya3 l)[j*2+1]? = some (.int .i64 l[j].2):=by
 induction l generalizing j with
 | nil=> exact absurd h (Nat.not_lt_zero j)
 | cons q l ih=>
  have e:Ya3 (q::l) = .string q.1 :: .int .i64 q.2::Ya3 l:=by simp [Ya3,Yu5]
  rw [e]
  cases j with
  | zero=> exact ⟨rfl,rfl⟩
  | succ j=>
   rw [show (j+1)*2=j*2+1+1 by omega,show j*2+1+1+1=(j*2+1)+1+1 by omega,List.getElem?_cons_succ,List.getElem?_cons_succ,List.getElem?_cons_succ,List.getElem?_cons_succ]
   exact ih j (by simpa using h)
theorem Ysl (l:List (ByteArray×Int)):∀u∈Ya3 l,u.oneCell'=true:=by
 intro u hu
 obtain ⟨x,_,hx⟩:=List.mem_flatMap.1 hu
 exact Y6v x u hx
theorem Yq3 {w:World} {base e:Nat} {v:Value} {l:List (ByteArray×Int)} (h:w.ownsRow base e 2 v l.length (Ya3 l)):
  ∃(q:Option Addr) (cap:Nat),v = .slice q l.length cap∧Cds w q l:=by
 have h0:=h
 rcases h.2 with ⟨rfl,h1⟩ | ⟨g,cap,cur,rfl,_,hg,_⟩
 ·exact ⟨none,0,by rw [h1],.inl (List.eq_nil_of_length_eq_zero h1)⟩
 ·refine ⟨_,cap,rfl,.inr ⟨g,0,rfl,(Array.getElem?_eq_some_iff.1 hg).1,fun i hi=> ⟨?_,?_⟩⟩⟩
  ·have:=World.ownsRow.cells (g:=g) h0 rfl (i*2) _ (Ye6 l i hi).1
   rwa [Addr.add_mid] at this
  ·have:=World.ownsRow.cells (g:=g) h0 rfl (i*2+1) _ (Ye6 l i hi).2
   rwa [Addr.add_mid] at this
theorem Yqd {P:Program} {w:World} {ops:Array Oper} {rest:List Oper} {o:Oper} {a:Act} {Q:Exit→Act→World→Prop} {sl x:Operand} {t base e c:Nat} {i:TypeInfo} {z v:Value} {n:Nat} {xs:List Value} {K:Nat} {y0:ByteArray} {y1:Int}
  (hgd:o.guard=none) (ho:o.op = .call {callee:=.builtin .append,args:=#[sl,x],argTypes:=#[t,t]})
  (ht:P.underlying t=some (.slice e)) (hi:P.info? e=some i) (hz:i.zero=some z) (hzs:z.cells.size=2) (hsize:i.size=2) (hby:i.bytes=24)
  (hs:a.eval sl=v) (hown:w.ownsRow base e 2 v n xs) (hx:a.eval x = .slice (some ⟨K,0,none⟩) 1 c) (c0:w.cell? ⟨K,0,none⟩=some (.string y0)) (c1:w.cell? ⟨K,1,none⟩=some (.int .i64 y1)) (hn:n≤1048576) (hbase:base≤w.heap.size)
  (h:∀v' w',w'.ownsRow base e 2 v' (n+1) (xs ++ [.string y0,.int .i64 y1])→w.grownBy w' v.ownBlock→wpList P ops Q rest (a.put o.dst v') w'):wpList P ops Q (o::rest) a w:=
 wpList_append_own w hgd sl x t ho base e i z 2 24 ht hi hz hsize hby hzs (by decide) v n xs hs hown ⟨K,0,none⟩ 1 c [.string y0,.int .i64 y1] hx rfl
  (fun j u hj=> by
   match j,hj with
   | 0,hj=> cases hj;exact c0
   | 1,hj=> cases hj;exact c1)
  (by intro u hu;simp only [List.mem_cons,List.not_mem_nil,or_false] at hu;rcases hu with rfl | rfl <;> rfl) (by unfold maxLen;omega) (by omega) hbase
  fun v' w' h1 h2 _=> h v' w' h1 h2
section
variable {H:Type} {enc:TypeId×Value→H} {P:Program}
end
def Ymo (w:World) (p:Option Addr) (l:List (ByteArray×Sym)):Prop:=
 l = []∨∃b o,p=some ⟨b,o,none⟩∧b<w.heap.size∧∀i,(h:i<l.length)→w.cell? ⟨b,o+i*3,none⟩=some (.string l[i].1)∧w.cell? ⟨b,o+i*3+1,none⟩=some (.int .i64 (sA l[i].2))∧w.cell? ⟨b,o+i*3+2,none⟩=some (.int .i64 (sB l[i].2))
theorem Ymo.below {w w':World} {p:Option Addr} {l:List (ByteArray×Sym)} (h:Ymo w p l) (hb:Below w.heap.size w w'):Ymo w' p l:=by
 rcases h with h | ⟨b,o,h1,h2,h3⟩
 ·exact .inl h
 ·refine .inr ⟨b,o,h1,Nat.lt_of_lt_of_le h2 hb.size,fun i hi=> ?_⟩
  rw [hb.cell (p:=⟨b,o+i*3,none⟩) h2,hb.cell (p:=⟨b,o+i*3+1,none⟩) h2,hb.cell (p:=⟨b,o+i*3+2,none⟩) h2]
  exact h3 i hi
theorem Ymo.at {w:World} {p:Option Addr} {l:List (ByteArray×Sym)} (h:Ymo w p l) (h0:0<l.length):
  ∃b o,p=some ⟨b,o,none⟩∧b<w.heap.size∧∀i,(h:i<l.length)→w.cell? ⟨b,o+i*3,none⟩=some (.string l[i].1)∧w.cell? ⟨b,o+i*3+1,none⟩=some (.int .i64 (sA l[i].2))∧w.cell? ⟨b,o+i*3+2,none⟩=some (.int .i64 (sB l[i].2)):=by
 rcases h with rfl | h
 ·cases h0
 ·exact h
theorem Ymo.take {w:World} {p:Option Addr} {l:List (ByteArray×Sym)} (h:Ymo w p l) (k:Nat):Ymo w p (l.take k):=by
 rcases h with rfl | ⟨b,o,h1,h2,h3⟩
 ·exact .inl (by simp)
 ·refine .inr ⟨b,o,h1,h2,fun i hi=> ?_⟩
  rw [List.getElem_take]
  exact h3 i (by rw [List.length_take] at hi;omega)
theorem Ymo.drop {w:World} {b o:Nat} {l:List (ByteArray×Sym)} (h:Ymo w (some ⟨b,o,none⟩) l) (k:Nat):Ymo w (some ⟨b,o+k*3,none⟩) (l.drop k):=by
 rcases h with rfl | ⟨b',o',h1,h2,h3⟩
 ·exact .inl (by simp)
 ·cases h1
  refine .inr ⟨b,o+k*3,rfl,h2,fun i hi=> ?_⟩
  have:=h3 (k+i) (by rw [List.length_drop] at hi;omega)
  rw [List.getElem_drop,show o+k*3+i*3=o+(k+i)*3 by omega]
  exact this
def Yax (l:List (ByteArray×Sym)):List Value:=l.flatMap Yhe
theorem Ynx (l:List (ByteArray×Sym)) (x:ByteArray×Sym):Yax (l ++ [x])=Yax l ++ [.string x.1,.int .i64 (sA x.2),.int .i64 (sB x.2)]:=by simp [Yax,Yhe]
theorem Yf9 (l:List (ByteArray×Sym)):(Yax l).length=l.length*3:=by
 induction l with
 | nil=> rfl
 | cons x l ih=>
  have e:Yax (x::l)=Yhe x++Yax l:=by simp [Yax]
  rw [e,List.length_append,ih,List.length_cons,Yhe,List.length_cons,List.length_cons,List.length_cons,List.length_nil];omega
theorem Ydc (l:List (ByteArray×Sym)) (j:Nat) (h:j<l.length):(Yax l)[j*3]? = some (.string l[j].1)∧(Yax l)[j*3+1]? = some (.int .i64 (sA l[j].2))∧(Yax l)[j*3+2]? = some (.int .i64 (sB l[j].2)):=by
 induction l generalizing j with
 | nil=> exact absurd h (Nat.not_lt_zero j)
 | cons q l ih=>
  have e:Yax (q::l) = .string q.1 :: .int .i64 (sA q.2) :: .int .i64 (sB q.2)::Yax l:=by simp [Yax,Yhe]
  rw [e]
  cases j with
  | zero=> exact ⟨rfl,rfl,rfl⟩
  | succ j=>
   have:=ih j (by simpa using h)
   rw [show (j+1)*3=j*3+1+1+1 by omega,show j*3+1+1+1+1=(j*3+1)+1+1+1 by omega,show j*3+1+1+1+2=(j*3+2)+1+1+1 by omega]
   simp only [List.getElem?_cons_succ]
   exact this
theorem Ypy (l:List (ByteArray×Sym)):∀u∈Yax l,u.oneCell'=true:=by
 intro u hu
 obtain ⟨x,_,hx⟩:=List.mem_flatMap.1 hu
 exact Ysp x u hx
theorem You {w:World} {base e:Nat} {v:Value} {l:List (ByteArray×Sym)} (h:w.ownsRow base e 3 v l.length (Yax l)):
  ∃(q:Option Addr) (cap:Nat),v = .slice q l.length cap∧Ymo w q l:=by
 have h0:=h
 rcases h.2 with ⟨rfl,h1⟩ | ⟨g,cap,cur,rfl,_,hg,_⟩
 ·exact ⟨none,0,by rw [h1],.inl (List.eq_nil_of_length_eq_zero h1)⟩
 ·refine ⟨_,cap,rfl,.inr ⟨g,0,rfl,(Array.getElem?_eq_some_iff.1 hg).1,fun i hi=> ⟨?_,?_,?_⟩⟩⟩
  ·have:=World.ownsRow.cells (g:=g) h0 rfl (i*3) _ (Ydc l i hi).1
   rwa [Addr.add_mid] at this
  ·have:=World.ownsRow.cells (g:=g) h0 rfl (i*3+1) _ (Ydc l i hi).2.1
   rwa [Addr.add_mid] at this
  ·have:=World.ownsRow.cells (g:=g) h0 rfl (i*3+2) _ (Ydc l i hi).2.2
   rwa [Addr.add_mid] at this
end Go.Proofs.YtgikochfffdpfaaGreatDoor
namespace Go.Proofs.YtgikochfffdpfaaGreatDoor
open Go.RowKit Go.Maps
theorem Qcj:laidOutB Tryz.prog=true:=by kernel_rfl
theorem Qgs:WideMaps.KeyLaw Tryz.prog 235:=deep_law_laid Qcj (m:=2) (by omega) (of_decide_eq_true (by kernel_rfl)) (by kernel_rfl) (by kernel_rfl)
theorem Ywz:Keyed Tryz.prog 235:=Keyed.of_law Qgs
def Qd5 (s:Sym):Value:=.agg #[.int .i64 (sA s),.int .i64 (sB s)]
def Yi5 (s:Sym):Lit:=.string (keyBytes [.int .i64 (sA s),.int .i64 (sB s)])
theorem Yze:∀s:Sym,keyOf Tryz.prog 235 (Qd5 s)=some (Yi5 s):=by
 have h:∀a b:Nat,a<6→b<4→keyOf Tryz.prog 235 (.agg #[.int .i64 (a:Int),.int .i64 (b:Int)])=some (.string (keyBytes [.int .i64 (a:Int),.int .i64 (b:Int)])):=by
  intro a b ha hb
  rcases (by omega:a=0∨a=1∨a=2∨a=3∨a=4∨a=5) with rfl | rfl | rfl | rfl | rfl | rfl <;> rcases (by omega:b=0∨b=1∨b=2∨b=3) with rfl | rfl | rfl | rfl <;> kernel_rfl
 exact fun s=> h s.1.val s.2.val s.1.isLt s.2.isLt
theorem Qgr {s t:Sym} (h:Yi5 s=Yi5 t):s=t:=by
 have hs:=Yze s
 rw [h] at hs
 have e:=Ywz.inj hs (Yze t)
 unfold Qd5 at e
 simp only [Value.agg.injEq,Array.mk.injEq,List.cons.injEq,Value.int.injEq,true_and,and_true] at e
 exact Qhr e.1 e.2
abbrev Ysy (x:ByteArray×Sym):Lit:=Yi5 x.2
theorem Ysz (s:Sym):WideAt.IsKeyLit (Yi5 s):=trivial
def Yt0 (x:ByteArray×Sym):DataW Unit:=.lit (.string x.1.data.toList)
def Yga (D:DataW Unit) (l:List (ByteArray×Sym)):DataW Unit:=l.foldl (fun D x=> D.put (Ysy x) (Yt0 x)) D
def Yhu (l:List (ByteArray×Sym)):DataW Unit:=Yga (.map []) l
theorem Yx4 (l:List (ByteArray×Sym)) (j:Nat) (h:j<l.length):Yhu (l.take (j+1))=(Yhu (l.take j)).put (Ysy l[j]) (Yt0 l[j]):=by
 unfold Yhu Yga
 rw [List.take_succ_eq_append_getElem h,List.foldl_append]
 rfl
theorem Y7j {s t:Sym} (h:s≠t):Yi5 s≠Yi5 t:=fun e=> h (Qgr e)
theorem Yll:∀{l:List (ByteArray×Sym)} {D:DataW Unit} {acc:List Sym},Tidy D→(∀s,has D (Yi5 s)=true↔s∈acc)→size D=acc.length→acc.Nodup→
  size (Yga D l)≤acc.length+l.length∧(size (Yga D l)=acc.length+l.length↔(acc++l.map (·.2)).Nodup)
 | [],D,acc,_,_,h,hn=> ⟨by show size D≤_;omega,by rw [List.map_nil,List.append_nil];exact ⟨fun _=> hn,fun _=> h⟩⟩
 | x::l,D,acc,ht,hh,hs,hn=> by
  have ht2:=ht.put (k:=Ysy x) (Ysz _) (Yt0 x)
  by_cases hx:x.2∈acc
  ·have hh2:∀s,has (D.put (Ysy x) (Yt0 x)) (Yi5 s)=true↔s∈acc:=by
    intro s
    by_cases e:s=x.2
    ·subst e
     exact ⟨fun _=> hx,fun _=> has_put_same ht.isMap (Ysz _) _⟩
    ·rw [has_put_other (Y7j e)]
     exact hh s
   have hs2:size (D.put (Ysy x) (Yt0 x))=acc.length:=by
    rw [size_put ht,if_pos ((hh x.2).2 hx)]
    exact hs
   obtain ⟨i1,_⟩:=Yll (l:=l) ht2 hh2 hs2 hn
   rw [List.length_cons]
   refine ⟨Nat.le_trans i1 (by omega),⟨fun e=> ?_,fun hd=> ?_⟩⟩
   ·exfalso
    have e':size (Yga (D.put (Ysy x) (Yt0 x)) l)=acc.length+(l.length+1):=e
    omega
   ·exfalso
    exact (List.nodup_append.1 hd).2.2 x.2 hx x.2 (by simp) rfl
  ·have hh2:∀s,has (D.put (Ysy x) (Yt0 x)) (Yi5 s)=true↔s∈acc ++ [x.2]:=by
    intro s
    rw [List.mem_append,List.mem_singleton]
    by_cases e:s=x.2
    ·subst e
     exact ⟨fun _=> .inr rfl,fun _=> has_put_same ht.isMap (Ysz _) _⟩
    ·rw [has_put_other (Y7j e),hh s]
     exact ⟨.inl,fun h=> h.resolve_right e⟩
   have hs2:size (D.put (Ysy x) (Yt0 x))=(acc ++ [x.2]).length:=by
    rw [size_put ht,if_neg (fun h=> hx ((hh x.2).1 h)),List.length_append,List.length_singleton,hs]
   have hn2:(acc ++ [x.2]).Nodup:=List.nodup_append.2 ⟨hn,by simp,fun a ha b hb e=> hx (by rw [List.mem_singleton] at hb;rw [←hb,←e];exact ha)⟩
   obtain ⟨i1,i2⟩:=Yll (l:=l) ht2 hh2 hs2 hn2
   rw [List.length_append,List.length_singleton] at i1 i2
   rw [List.length_cons,List.map_cons]
   rw [List.append_assoc] at i2
   refine ⟨Nat.le_trans i1 (by omega),?_⟩
   rw [show acc.length+(l.length+1)=acc.length+1+l.length by omega]
   exact i2
theorem Yx3 (l:List (ByteArray×Sym)):size (Yhu l)≤l.length∧(size (Yhu l)=l.length↔(l.map (·.2)).Nodup):=by
 have:=Yll (l:=l) (D:=(.map []:DataW Unit)) (acc:=[]) tidy_empty (fun s=> by simp [Maps.has]) rfl List.nodup_nil
 simp only [List.length_nil,Nat.zero_add,List.nil_append] at this
 exact this
def Yk8 (p:Option Addr) (l:List (ByteArray×Sym)) (at_:Nat) (c:UInt8) (w:World) (e:Ending) (w':World):Prop:=
 ∃q cap,e = .returned (.slice q (if c=48 then l.takeWhile (Ybe Yar at_) else l.dropWhile (Ybe Yar at_)).length cap)∧w=w'∧Ymo w q (if c=48 then l.takeWhile (Ybe Yar at_) else l.dropWhile (Ybe Yar at_))∧
  (if c=48 then l.takeWhile (Ybe Yar at_) else l.dropWhile (Ybe Yar at_)).length≤cap∧cap≤maxLen∧∀a,q=some a→∃a',p=some a'∧a'.block=a.block
theorem Y4w {α:Type} (p:α→Bool) (l:List α) (k:Nat) (h1:∀i,(h:i<l.length)→i<k→p l[i]=true) (h2:∀h:k<l.length,p l[k]=false) (hk:k≤l.length):l.takeWhile p=l.take k∧l.dropWhile p=l.drop k:=by
 induction l generalizing k with
 | nil=> simp
 | cons x l ih=>
  cases k with
  | zero=>
   have:=h2 (by simp)
   simp only [List.getElem_cons_zero] at this
   simp [this]
  | succ k=>
   have h0:=h1 0 (by simp) (by omega)
   simp only [List.getElem_cons_zero] at h0
   have:=ih k (fun i hi hik=> by have:=h1 (i+1) (by simpa using hi) (by omega);simpa using this) (fun hk=> by have:=h2 (by simpa using hk);simpa using this) (by simpa using hk)
   simp [h0,this.1,this.2]
theorem Y3h (x:ByteArray×Sym) (at_:Nat) (h:at_<x.1.size):Ybe Yar at_ x=(x.1[at_]==48):=by
 unfold Ybe Yar
 have e:x.1.data.toList[at_]? = some x.1[at_]:=List.getElem?_eq_getElem (show at_<x.1.data.toList.length from h)
 rw [e]
 rfl
theorem Yit {l:List (ByteArray×Sym)} {at_ k:Nat} {c:UInt8} {w:World} {p q:Option Addr} {n cap:Nat} (h1:∀i,(h:i<l.length)→i<k→Ybe Yar at_ l[i]=true) (h2:∀h:k<l.length,Ybe Yar at_ l[k]=false) (hk:k≤l.length)
  (hn:n=if c=48 then k else l.length-k) (hq:Ymo w q (if c=48 then l.take k else l.drop k)) (hcap:n≤cap) (hm:cap≤maxLen) (hsm:∀a,q=some a→∃a',p=some a'∧a'.block=a.block):Yk8 p l at_ c w (.returned (.slice q n cap)) w:=by
 obtain ⟨e1,e2⟩:=Y4w (Ybe Yar at_) l k h1 h2 hk
 unfold Yk8
 rw [e1,e2]
 by_cases hc:c=48
 ·simp only [hc,if_true] at hn hq ⊢
  have hl:(l.take k).length=k:=by rw [List.length_take];omega
  exact ⟨q,cap,by rw [hl,hn],trivial,hq,by omega,hm,hsm⟩
 ·simp only [hc,if_false] at hn hq ⊢
  have hl:(l.drop k).length=l.length-k:=List.length_drop
  exact ⟨q,cap,by rw [hl,hn],trivial,hq,by omega,hm,hsm⟩
theorem Y30 {p:Option Addr}:∀a,p=some a→∃a',p=some a'∧a'.block=a.block:=fun a h=> ⟨a,h,rfl⟩
theorem Y9c {p:Option Addr} {n:Nat}:∀a,Option.map (fun x=> Addr.add x n) p=some a→∃a',p=some a'∧a'.block=a.block:=by
 intro a h
 cases p with
 | none=> cases h
 | some b=> cases h;exact ⟨b,rfl,by show b.block=(b.add n).block;unfold Addr.add;split <;> rfl⟩
set_option maxRecDepth 100000 in
set_option maxHeartbeats 4000000 in
theorem Y4x (l:List (ByteArray×Sym)) (p:Option Addr) (cap at_:Nat) (c:UInt8) (w:World) (hc:Ymo w p l) (hlc:l.length≤cap) (hcap:cap≤maxLen) (hrow:∀x∈l,at_<x.1.size∧x.1.size≤24):
  Calls Tryz.prog 227 #[.slice p l.length cap,.int .i64 (at_:Int),.int .u8 (c.toNat:Int)] w (Yk8 p l at_ c w):=by
 unfold maxLen at hcap
 have HR:=Lib.hid hrow
 clear hrow
 have cc:(c=48∧((c.toNat:Int)==48)=true)∨(c≠48∧((c.toNat:Int)==48)=false):=by
  by_cases h:c=48
  ·exact .inl ⟨h,by rw [h];rfl⟩
  ·refine .inr ⟨h,?_⟩
   rw [beq_eq_false_iff_ne]
   intro e
   exact h (UInt8.toNat_inj.1 (by show c.toNat=48;omega))
 go_enter Tryz.func227,Tryz.ntmps227
 go_wp2
 go_loop [7] (fun i=>∃k:Nat,k≤l.length∧i = .int .i64 k∧Hid (∀i,(h:i<l.length)→i<k→Ybe Yar at_ l[i]=true)) (fun i=> l.length-(intOf i).toNat)
 case atStart=> exact ⟨0,Nat.zero_le _,rfl,Lib.hid (fun i _ h=> absurd h (Nat.not_lt_zero i))⟩
 case round=>
  obtain ⟨k,hk,rfl,hin⟩:=hrel
  by_cases hlt:k<l.length
  ·obtain ⟨b,o,rfl,_,hcells⟩:=hc.at (by omega)
   have c0:=(hcells k hlt).1
   have hx:=HR.out l[k] (List.getElem_mem hlt)
   obtain ⟨x,hxe⟩:∃x,l[k]=x:=⟨_,rfl⟩
   rw [hxe] at c0 hx
   obtain ⟨hx1,hx2⟩:=hx
   have NO:=Lib.hid (show Ybe Yar at_ l[k]=(x.1[at_]==48) by rw [hxe];exact Y3h x at_ hx1)
   have HC:=Lib.hid hc
   clear hcells hxe hc
   by_cases h48:x.1[at_].toNat=48
   ·have g0:((x.1[at_].toNat:Int)==48)=true:=by rw [h48];rfl
    have NX:Hid (∀i,(h:i<l.length)→i<k+1→Ybe Yar at_ l[i]=true):=Lib.hid (fun i hi h=> by
     by_cases e:i=k
     ·subst e
      rw [NO.out,UInt8.toNat_inj.1 (show x.1[at_].toNat=(48:UInt8).toNat from h48)]
      rfl
     ·exact hin.out i hi (by omega))
    clear h48 cc
    go_wp2
    go_round
    case rel=> exact ⟨k+1,by omega,by go_num,NX⟩
    case measure=> simp [intOf];omega
   ·have g0:((x.1[at_].toNat:Int)==48)=false:=by rw [beq_eq_false_iff_ne];omega
    have N2:Hid (∀h:k<l.length,Ybe Yar at_ l[k]=false):=Lib.hid (fun _=> by
     rw [NO.out,beq_eq_false_iff_ne]
     intro e
     exact h48 (by rw [e];rfl))
    clear h48
    rcases cc with ⟨hcc,g1⟩ | ⟨hcc,g1⟩
    ·have C:=Lib.hid hcc
     clear hcc
     go_wp2
     go_ret
     exact Yit hin.out N2.out hk (by rw [if_pos C.out]) (by rw [if_pos C.out];exact HC.out.take k) (by omega) (by unfold maxLen;omega) (fun a h=> ⟨a,h,rfl⟩)
    ·have C:=Lib.hid hcc
     clear hcc
     go_wp2
     go_ret
     exact Yit hin.out N2.out hk (by rw [if_neg C.out]) (by rw [if_neg C.out];exact HC.out.drop k) (by omega) (by unfold maxLen;omega) (fun a h=> ⟨_,rfl,by cases h;rfl⟩)
  ·obtain rfl:k=l.length:=by omega
   have N2:Hid (∀h:l.length<l.length,Ybe Yar at_ l[l.length]=false):=Lib.hid (fun h=> absurd h (Nat.lt_irrefl _))
   have HC:=Lib.hid hc
   clear hc
   rcases cc with ⟨hcc,g1⟩ | ⟨hcc,g1⟩
   ·have C:=Lib.hid hcc
    clear hcc
    go_wp2
    go_ret
    exact Yit hin.out N2.out hk (by rw [if_pos C.out]) (by rw [if_pos C.out];exact HC.out.take _) (by omega) (by unfold maxLen;omega) (fun a h=> ⟨a,h,rfl⟩)
   ·have C:=Lib.hid hcc
    clear hcc
    go_wp2
    all_goals
     go_ret
     exact Yit hin.out N2.out hk (by rw [if_neg C.out,Nat.sub_self]) (by rw [if_neg C.out,List.drop_length];exact .inl rfl) (by omega) (by unfold maxLen;omega) (by first | exact Y30 | exact Y9c)
def Qdu (m:Option Nat) (q:Option Addr) (n cap:Nat) (L:Int):List Value:=[.map m,.slice q n cap,.int .i64 L]
def Ygm (m:Option Nat) (q:Option Addr) (n cap:Nat) (L:Int):Obj:=.cells (Qdu m q n cap L).toArray 266 (0,0)
def Qe0 (w:World) (lo hi tb:Nat) (ds:List (ByteArray×Sym)) (L:Int):Prop:=
 ∃(m:Option Nat) (q:Option Addr) (cap:Nat),w.heap[tb]? = some (Ygm m q ds.length cap L)∧ds.length≤cap∧cap≤maxLen∧Ymo w q ds∧∀a,q=some a→lo≤a.block∧a.block<hi
set_option maxHeartbeats 1000000 in
theorem Yts (s:ByteArray) (hs:s.size≤maxLen) (w:World):
  Calls Tryz.prog 212 #[.string s] w fun e w'=> e = .returned (.bool (Ycc s.data.toList))∧Below w.heap.size w w':=by
 unfold maxLen at hs
 have hsl:s.data.toList.length=s.size:=rfl
 by_cases x0:s.data.toList = []
 ·have F:=Lib.hid (show Ycc s.data.toList=false by rw [x0];rfl)
  have e0:s.toList.isEmpty=true:=by rw [Lib.toList_data,x0];rfl
  have e1:s.toList = []:=by rw [Lib.toList_data,x0]
  clear x0 hsl
  go_enter Tryz.func212,Tryz.ntmps212
  go_wp2
  go_ret
  exact ⟨Yah F.out.symm,Below.refl _ _⟩
 have e0:s.toList.isEmpty=false:=by rw [Lib.toList_data];simpa using x0
 by_cases x1:24<s.size
 ·have F:=Lib.hid (show Ycc s.data.toList=false by
   cases h:Ycc s.data.toList with
   | false=> rfl
   | true=> have:=(Ybw h).2.1;omega)
  have e1:decide ((s.size:Int)≤24)=false:=by simp;omega
  clear x0 hsl x1
  go_enter Tryz.func212,Tryz.ntmps212
  go_wp2
  go_ret
  exact ⟨Yah F.out.symm,Below.refl _ _⟩
 have e1:decide ((s.size:Int)≤24)=true:=by simp;omega
 have hk:Ycc s.data.toList=Yaw s.data.toList:=by
  cases h:Yaw s.data.toList with
  | true=> exact Yoq x0 (by omega) h
  | false=>
   cases h2:Ycc s.data.toList with
   | false=> rfl
   | true=> rw [(Ybw h2).2.2] at h;cases h
 have hk2:(Lib.trimS s.data.toList [48,49]).isEmpty=Ycc s.data.toList:=by
  rw [hk,Bool.eq_iff_iff,List.isEmpty_iff,Yw6]
 obtain ⟨r,hr⟩:∃r,(⟨(Lib.trimS s.data.toList [48,49]).toArray⟩:ByteArray)=r:=⟨_,rfl⟩
 have hr2:r.toList.isEmpty=Ycc s.data.toList:=by rw [←hk2,←hr,Lib.toList_data]
 have RR:=Lib.hid hr
 have R2:=Lib.hid hr2
 clear x0 hsl x1 hk hk2 hr hr2
 go_enter Tryz.func212,Tryz.ntmps212
 go_wp2_with fail
 refine (Y1i s hs _).mono ?_
 rintro e w1 ⟨rfl,hb⟩
 rw [RR.out]
 go_wp2
 go_ret
 exact ⟨Yah R2.out,hb⟩
set_option maxRecDepth 100000 in
set_option maxHeartbeats 4000000 in
theorem Yvv (l:List (ByteArray×Sym)) (p:Option Addr) (cap:Nat) (w:World) (r:Bool) (hr:r=true↔∃i,∃h:i+1<l.length,(Yar l[i]).isPrefixOf (Yar l[i+1])=true) (hc:Ymo w p l) (hm:l.length≤1048576):
  Calls Tryz.prog 226 #[.slice p l.length cap] w fun e w'=> e = .returned (.bool r)∧Below w.heap.size w w':=by
 have R:=Lib.hid hr
 clear hr
 obtain ⟨B,hB⟩:∃B,w.heap.size=B:=⟨_,rfl⟩
 have hE:∀x,Below B w x→∀i,(h:i<l.length)→∃b o,p=some ⟨b,o,none⟩∧∀j,(h:j<l.length)→x.cell? ⟨b,o+j*3,none⟩=some (.string l[j].1):=by
  intro x hx i hi
  obtain ⟨b,o,rfl,hblt,hcells⟩:=hc.at (by omega)
  exact ⟨b,o,rfl,fun j hj=> (World.cell?_of_block (a:=⟨b,o+j*3,none⟩) (hx.block b (by omega))).trans (hcells j hj).1⟩
 have EE:=Lib.hid hE
 have hb0:Below B w w:=Below.refl _ _
 have HB:=Lib.hid hB
 rw [hB]
 clear hE hc hB
 go_enter Tryz.func226,Tryz.ntmps226
 go_wp2
 go_loopw [3] (fun i wr=>∃k:Nat,(k<l.length∨k=0)∧i = .int .i64 ((k:Int)+1)∧Below B w wr∧Hid (∀i,(h:i+1<l.length)→i<k→(Yar l[i]).isPrefixOf (Yar l[i+1])=false)) (fun i _=> l.length+1-(intOf i).toNat)
 case atStart=> exact ⟨0,.inr rfl,rfl,hb0,Lib.hid (fun i _ h=> absurd h (Nat.not_lt_zero i))⟩
 case round=>
  clear hb0
  obtain ⟨k,hk,rfl,hb,hin⟩:=hrel
  by_cases hlt:k+1<l.length
  ·obtain ⟨b,o,rfl,hcells⟩:=EE.out wr hb (k+1) hlt
   have c1:=hcells (k+1) hlt
   have c0:=hcells k (by omega)
   obtain ⟨x,hx⟩:∃x,l[k+1]=x:=⟨_,rfl⟩
   obtain ⟨y,hy⟩:∃y,l[k]=y:=⟨_,rfl⟩
   rw [hx] at c1
   rw [hy] at c0
   have HX:=Lib.hid hx
   have HY:=Lib.hid hy
   have t0:decide ((k:Int)+1<l.length)=true:=by simp;omega
   have hbg:∀w,Calls Tryz.prog 157 #[.string x.1,.string y.1] w fun e w'=> e = .returned (.bool (y.1.data.toList.isPrefixOf x.1.data.toList))∧w'=w:=fun w=> Ylc x.1 y.1 w
   clear hcells hk hx hy
   cases hpre:y.1.data.toList.isPrefixOf x.1.data.toList with
   | true=>
    rw [hpre] at hbg
    have F:=Lib.hid (R.out.2 ⟨k,hlt,by rw [HX.out,HY.out];exact hpre⟩)
    have BG:=Lib.hid hbg
    clear hpre hbg
    go_wp2_with fail
    go_quiet ((go_at_call 157;exact Calls.quiet_of_same (BG.out _)))
    go_wp2
    go_ret
    exact ⟨Yah F.out.symm,Yeb hb _⟩
   | false=>
    rw [hpre] at hbg
    have F:Hid (∀i,(h:i+1<l.length)→i<k+1→(Yar l[i]).isPrefixOf (Yar l[i+1])=false):=Lib.hid (fun i hi h=> by
     by_cases e:i=k
     ·subst e
      rw [HX.out,HY.out]
      exact hpre
     ·exact hin.out i hi (by omega))
    have BG:=Lib.hid hbg
    clear hpre hbg
    go_wp2_with fail
    go_quiet ((go_at_call 157;exact Calls.quiet_of_same (BG.out _)))
    go_wp2
    go_roundw
    case rel=> exact ⟨k+1,.inl hlt,by go_num,Yeb hb _,F⟩
    case measure=> simp [intOf];omega
  ·have F:=Lib.hid (show r=false by
    cases hrr:r with
    | false=> rfl
    | true=>
     obtain ⟨i,hi,hp⟩:=R.out.1 hrr
     rw [hin.out i hi (by omega)] at hp
     cases hp)
   have t0:decide ((k:Int)+1<l.length)=false:=by simp;omega
   clear hlt hk
   go_wp2
   go_ret
   exact ⟨Yah F.out.symm,hb⟩
def Ykw (a b:Int):Obj:=.cells [.int .i64 a,.int .i64 b].toArray 235 (0,0)
theorem Yzk {x:World} {B:Nat} {a b c d:Int} (h:x.heap[B]? = some (Ykw a b)):((x.setCell ⟨B,0,none⟩ (.int .i64 c)).setCell ⟨B,1,none⟩ (.int .i64 d)).heap[B]? = some (Ykw c d):=
 Yat (o:=1) (.int .i64 d) (Yat (o:=0) (.int .i64 c) h)
theorem Ykx {x:World} {B:Nat} {a b:Int} (h:x.heap[B]? = some (Ykw a b)):x.cell? ⟨B,0,none⟩=some (.int .i64 a)∧x.cell? ⟨B,1,none⟩=some (.int .i64 b)∧x.frozen? ⟨B,0,none⟩=false∧x.frozen? ⟨B,1,none⟩=false:=
 ⟨Yaa h rfl,Yaa h rfl,Yag (o:=0) h,Yag (o:=1) h⟩
theorem Ypi {w x:World} {B:Nat} {row:Option Nat} {c d:Int} (h:w.grownBy x row) (hB:w.heap.size≤B):w.grownBy ((x.setCell ⟨B,0,none⟩ (.int .i64 c)).setCell ⟨B,1,none⟩ (.int .i64 d)) row:=by
 have g1:=Yam x ⟨B,0,none⟩ (.int .i64 c)
 have g2:=Yam (x.setCell ⟨B,0,none⟩ (.int .i64 c)) ⟨B,1,none⟩ (.int .i64 d)
 have g:=Yad g1 g2
 refine ⟨g.os.trans h.os,g.tape.trans h.tape,g.output.trans h.output,Nat.le_trans h.size g.size,fun k hk hn=> ?_⟩
 exact (g.block k (Nat.lt_of_lt_of_le hk h.size) (by intro e;injection e with e;have e:k=B:=e;omega)).trans (h.block k hk hn)
theorem Y92 {x:World} {B rb p:Nat} {s:ByteArray} {c d:Int} (h:Ybb x rb s p) (hne:rb≠B):Ybb ((x.setCell ⟨B,0,none⟩ (.int .i64 c)).setCell ⟨B,1,none⟩ (.int .i64 d)) rb s p:=
 (h.grown (Yam x ⟨B,0,none⟩ (.int .i64 c)) hne).grown (Yam _ ⟨B,1,none⟩ (.int .i64 d)) hne
def Qhk:Sym:=(⟨0,by decide⟩,⟨0,by decide⟩)
def Yua (ds:List (ByteArray×Sym)) (s:ByteArray) (rb p:Nat) (w:World) (e:Ending) (w':World):Prop:=
 ∃v:Sym,e = .returned (.tuple #[Qd5 v,.int .i64 (tk (ds.map Yar) ((Yac s.data.toList).drop p) 25 1).1])∧
  ((tk (ds.map Yar) ((Yac s.data.toList).drop p) 25 1).1=0→∃x∈ds,Yar x=((Yac s.data.toList).drop p).take (tk (ds.map Yar) ((Yac s.data.toList).drop p) 25 1).2∧x.2=v)∧
  ((tk (ds.map Yar) ((Yac s.data.toList).drop p) 25 1).1≠0→v=Qhk)∧Ybb w' rb s (p+(tk (ds.map Yar) ((Yac s.data.toList).drop p) 25 1).2)∧w.grownBy w' (some rb)
theorem Yrw {ds:List (ByteArray×Sym)} {s:ByteArray} {rb p:Nat} {w w':World} {f:Int} (h:tk (ds.map Yar) ((Yac s.data.toList).drop p) 25 1=(f,0)) (hf:f≠0) (hr:Ybb w' rb s p) (hg:w.grownBy w' (some rb)):
  Yua ds s rb p w (.returned (.tuple #[.agg #[.int .i64 0,.int .i64 0],.int .i64 f])) w':=by
 unfold Yua
 rw [h]
 exact ⟨Qhk,rfl,fun e=> absurd e hf,fun _=> rfl,hr,hg⟩
theorem Y4t {ds:List (ByteArray×Sym)} {s:ByteArray} {rb p n:Nat} {w w':World} {v:Sym} (h:tk (ds.map Yar) ((Yac s.data.toList).drop p) 25 1=(0,n)) (hx:∃x∈ds,Yar x=((Yac s.data.toList).drop p).take n∧x.2=v) (hr:Ybb w' rb s (p+n)) (hg:w.grownBy w' (some rb)):
  Yua ds s rb p w (.returned (.tuple #[.agg #[.int .i64 (sA v),.int .i64 (sB v)],.int .i64 0])) w':=by
 unfold Yua
 rw [h]
 exact ⟨v,rfl,fun _=> hx,fun e=> absurd rfl e,hr,hg⟩
set_option maxRecDepth 100000 in
set_option maxHeartbeats 8000000 in
theorem Yzj (w:World) (lo hi tb rb:Nat) (ds:List (ByteArray×Sym)) (L:Int) (s:ByteArray) (p:Nat) (ht:Qe0 w lo hi tb ds L) (hr:Ybb w rb s p) (hN:rb<lo∨hi≤rb)
  (hs:ds.Pairwise fun x y=> leL (Yar x) (Yar y)=true) (hf:Yhf (ds.map Yar)) (ho:∀x∈ds,Ycc (Yar x)=true):
  Calls Tryz.prog 210 #[.pointer (some ⟨tb,0,none⟩),.pointer (some ⟨rb,0,none⟩)] w (Yua ds s rb p w):=by
 obtain ⟨m,q,cap,h1,h2,h3,hc,hq⟩:=ht
 have htb:=(Array.getElem?_eq_some_iff.1 h1).1
 have c1:w.cell? ⟨tb,1,none⟩=some (.slice q ds.length cap):=Yaa h1 rfl
 obtain ⟨bs,hbs⟩:∃bs,(Yac s.data.toList).drop p=bs:=⟨_,rfl⟩
 have hbl:bs.length=8*s.size-p:=by rw [←hbs,List.length_drop,Yas];rfl
 have hpl:=hr.2.1
 have hrlt:=hr.lt
 obtain ⟨B,hB⟩:∃B,w.heap.size=B:=⟨_,rfl⟩
 obtain ⟨w0,hw0⟩:∃w0,(w.alloc (Ykw 0 0)).alloc (Ykw 0 0)=w0:=⟨_,rfl⟩
 have hww:Below B w w0:=by rw [←hw0,←hB];exact ((Below.refl _ w).alloc (Nat.le_refl _) _).alloc (by simp) _
 have hz0:w0.heap.size=B+2:=by rw [←hw0,←hB];simp
 have hbl0:∀x,Below (B+2) w0 x→x.heap[B]? = some (Ykw 0 0)∧x.heap[B+1]? = some (Ykw 0 0):=fun x hx=> by
  refine ⟨(hx.block B (by omega)).trans ?_,(hx.block (B+1) (by omega)).trans ?_⟩
  ·rw [←hw0,←hB];exact heap_alloc2_old w _ _
  ·rw [←hw0,←hB];exact heap_alloc2_new w _ _
 have hgw:∀x,Below (B+2) w0 x→w.grownBy x (some rb):=fun x hx=> by
  have h:=hww.trans (hx.mono (by omega))
  rw [←hB] at h
  exact ⟨h.os,h.tape,h.output,h.size,fun k hk _=> h.block k hk⟩
 have BL0:=Lib.hid hbl0
 have GW:=Lib.hid hgw
 have hc0:Ymo w0 q ds:=hc.below (by rw [hB];exact hww)
 have hr0:Ybb w0 rb s p:=hr.below (by rw [hB];exact hww)
 have c10:((w.alloc (.cells #[.int .i64 0,.int .i64 0] 235 (0,0))).alloc (.cells #[.int .i64 0,.int .i64 0] 235 (0,0))).cell? ⟨tb,1,none⟩=some (.slice q ds.length cap):=(World.cell?_of_block (a:=⟨tb,1,none⟩) ((show (w.alloc (.cells #[.int .i64 0,.int .i64 0] 235 (0,0))).alloc (.cells #[.int .i64 0,.int .i64 0] 235 (0,0))=w0 from hw0)▸hww.block tb (by omega))).trans c1
 have hb0:Below (B+2) w0 w0:=Below.refl _ _
 have hrB:rb<B:=by omega
 have HB:=Lib.hid hB
 have HW0:=Lib.hid (show (w.alloc (.cells #[.int .i64 0,.int .i64 0] 235 (0,0))).alloc (.cells #[.int .i64 0,.int .i64 0] 235 (0,0))=w0 from hw0)
 have HZ0:=Lib.hid hz0
 have SO:=Lib.hid hs
 have FR:=Lib.hid hf
 have OK:=Lib.hid ho
 have HBS:=Lib.hid hbs
 have BL:=Lib.hid hbl
 have HQ:=Lib.hid hq
 have hd0:Ye0 Yar ds (bs.take 0)=ds:=by rw [List.take_zero];exact Yw2 Yar ds
 have D0:=Lib.hid hd0
 have hrow0:∀x∈ds,0<x.1.size∧x.1.size≤24:=fun x hx=> by
  have h:=Ybw (ho x hx)
  have h1:(Yar x).length=x.1.size:=rfl
  have h2:=List.length_pos_iff.2 h.1
  omega
 have R0:=Lib.hid hrow0
 have C0:=Lib.hid hc0
 clear h1 hB hw0 hww hz0 hbl0 hgw hr hc0 c1 htb hrlt hs hf ho hbs hbl hq hd0 hc hrow0
 go_enter Tryz.func210,Tryz.ntmps210
 go_wp2_with fail
 clear c10
 rw [HW0.out,HB.out]
 go_loopw [7,8] (fun u v wr=>∃(n:Nat) (a:Option Addr) (l:List (ByteArray×Sym)) (cap:Nat),v = .int .i64 ((n:Int)+1)∧u = .slice a l.length cap∧l.length≤cap∧cap≤maxLen∧Hid (l=Ye0 Yar ds (bs.take n))∧Ymo wr a l∧Hid (∀x,a=some x→lo≤x.block∧x.block<hi)∧n≤23∧n≤bs.length∧
  Hid (tk (ds.map Yar) bs 25 1=tk (ds.map Yar) bs (25-n) (n+1))∧Hid (∀x∈l,n<x.1.size∧x.1.size≤24)∧Below (B+2) w0 wr∧Ybb wr rb s p) (fun _ v _=> 25-(intOf v).toNat)
 case atStart=> exact ⟨0,q,ds,cap,rfl,rfl,h2,h3,Lib.hid D0.out.symm,C0.out,Lib.hid HQ.out,by omega,Nat.zero_le _,Lib.hid rfl,Lib.hid R0.out,hb0,hr0⟩
 case round=>
  clear hb0 hr0 h2 h3
  obtain ⟨n,a,l,cap,rfl,rfl,hl1,hl2,hl,hc,ha,hn,hnb,htk,hrow,hb,hr⟩:=hrel
  unfold maxLen at hl2
  have hunf:tk (ds.map Yar) bs (25-n) (n+1)=if bs.length<n+1 then (2,0) else if bs.take (n+1)∈ds.map Yar then (0,n+1) else if (ds.map Yar).any (fun r=> (bs.take (n+1)).isPrefixOf r)=true then tk (ds.map Yar) bs (24-n) (n+1+1) else (3,0):=by
   rw [show 25-n=(24-n)+1 by omega,tk]
  have U:=Lib.hid (htk.out.trans hunf)
  clear hunf htk
  go_wp2_with fail
  refine (Ybk _ _ _ _ ((n:Int)+1) hr).mono ?_
  rintro e w1 ⟨rfl,hb1⟩
  have hr1:=hr.below hb1
  have hc1:=hc.below hb1
  have hb2:Below (B+2) w0 w1:=hb.trans (hb1.mono (by rw [←HZ0.out];exact hb.size))
  have hg1:=GW.out w1 hb2
  obtain ⟨hx0,hx1⟩:=BL0.out w1 hb2
  obtain ⟨n0,n1,_,_⟩:=Ykx hx1
  obtain ⟨r0,r1,f0,f1⟩:=Ykx hx0
  have hHBl:w.heap.size≤B:=Nat.le_of_eq HB.out
  clear hr hc hb hb1
  by_cases hsh:bs.length<n+1
  ·have hask:ask s.data.toList p ((n:Int)+1)=(0,2):=Ybj (by omega) (by rw [BL.out] at hsh;have:s.data.toList.length=s.size:=rfl;omega)
   have F:=Lib.hid (U.out.trans (if_pos hsh))
   rw [hask]
   clear hsh
   go_wp2
   exact bodyPost_ret (Yan rfl _ _ B 235 _ (0,0) _ rfl (Yzk hx0) Tryz.underlying235 rfl (by kernel_rfl)) rfl (Yrw (by rw [HBS.out];exact F.out) (by decide) (Y92 hr1 (by omega)) (Ypi hg1 hHBl))
  ·have hfit:p+(n+1)≤8*s.size:=by rw [BL.out] at hsh;omega
   have hask:ask s.data.toList p ((n:Int)+1)=(((Ya5 s.data.toList p (n+1):Nat):Int),0):=by
    have:=Ycz (l:=s.data.toList) (p:=p) (n:=(n:Int)+1) (by omega) (by have:s.data.toList.length=s.size:=rfl;omega)
    rw [this,show ((n:Int)+1).toNat=n+1 by omega]
   have U2:=Lib.hid (U.out.trans (if_neg hsh))
   obtain ⟨hnl,hdig⟩:=Yib s.data.toList p n hfit
   have hdig2:∃c:UInt8,(c=48∨c=49)∧bs[n]? = some c∧Ya5 s.data.toList p (n+1)%2+48=c.toNat:=by
    have e:bs[n]? = some ((Yac s.data.toList).drop p)[n]:=by rw [←HBS.out];exact List.getElem?_eq_getElem hnl
    rcases hdig with ⟨h1,h2⟩ | ⟨h1,h2⟩
    ·exact ⟨48,.inl rfl,by rw [e,h1],by rw [h2];rfl⟩
    ·exact ⟨49,.inr rfl,by rw [e,h1],by rw [h2];rfl⟩
   obtain ⟨c,hc49,hbc,htell⟩:=hdig2
   have htl:Ya5 s.data.toList p (n+1)≤4294967296:=by
    have h1:=Ycg s.data.toList p (n+1)
    have h2:2^(n+1)≤2^32:=Nat.pow_le_pow_right (by omega) (by omega)
    omega
   rw [hask]
   clear hsh U hask hdig hnl
   obtain ⟨t,hte⟩:∃t,Ya5 s.data.toList p (n+1)=t:=⟨_,rfl⟩
   rw [hte] at htell htl ⊢
   have C49:=Lib.hid hc49
   have BC:=Lib.hid hbc
   have TE:=Lib.hid htell
   have hbit:(48+bits .and .i64 ((t:Nat):Int) 1)%256=(c.toNat:Int):=by
    have h1:bits .and .i64 ((t:Nat):Int) 1=(t:Int)%2:=Ygq (t:Int) 1 (by omega)
    rw [h1]
    omega
   have BT:=Lib.hid hbit
   clear hc49 hbc htell hte hbit
   go_wp2_with fail
   rw [BT.out]
   refine (Y4x l a cap n c w1 hc1 hl1 (by unfold maxLen;omega) hrow.out).mono ?_
   rintro e w2 ⟨a2,cap2,rfl,rfl,hc2,hl3,hl4,ha2⟩
   have hnx:(if c=48 then l.takeWhile (Ybe Yar n) else l.dropWhile (Ybe Yar n))=Ye0 Yar ds (bs.take (n+1)):=by
    have hts:(bs.take n).length=n:=by rw [List.length_take];omega
    have hx:=Yru Yar (l:=ds) (q:=bs.take n) SO.out (fun x hx=> (Ybw (OK.out x hx)).2.2) (by rw [hts,←hl.out];exact fun x hx=> (hrow.out x hx).1)
    rw [hts,←hl.out] at hx
    have hsn:bs.take (n+1)=bs.take n ++ [c]:=by
     rw [List.take_add_one,BC.out];rfl
    rw [hsn]
    rcases C49.out with e | e
    ·rw [e,if_pos rfl];exact hx.1
    ·rw [e,if_neg (by decide)];exact hx.2
   rw [hnx] at hc2 hl3 ⊢
   obtain ⟨l2,hl2e⟩:∃l2,Ye0 Yar ds (bs.take (n+1))=l2:=⟨_,rfl⟩
   rw [hl2e] at hc2 hl3 ⊢
   have HL2:=Lib.hid hl2e
   have HA2:Hid (∀x,a2=some x→lo≤x.block∧x.block<hi):=Lib.hid (fun x hx=> by
    obtain ⟨y,hy,hb⟩:=ha2 x hx
    rw [←hb]
    exact ha.out y hy)
   unfold maxLen at hl4
   clear hnx hl2e ha2 hc1 hl1 hl2 ha hl hrow
   by_cases h0:l2 = []
   ·have F:Hid (tk (ds.map Yar) bs 25 1=(3,0)):=Lib.hid (by
     have hno:(ds.map Yar).any (fun r=> (bs.take (n+1)).isPrefixOf r)=false:=by
      rw [List.any_eq_false]
      intro r hr hp
      obtain ⟨x,hx,rfl⟩:=List.mem_map.1 hr
      have:x∈Ye0 Yar ds (bs.take (n+1)):=List.mem_filter.2 ⟨hx,hp⟩
      rw [HL2.out,h0] at this
      cases this
     rw [U2.out,if_neg,if_neg (by rw [hno];decide)]
     intro hm
     rw [List.any_eq_false] at hno
     exact hno _ hm (Ydn _))
    subst h0
    go_wp2
    exact bodyPost_ret (Yan rfl _ _ B 235 _ (0,0) _ rfl (Yzk hx0) Tryz.underlying235 rfl (by kernel_rfl)) rfl (Yrw (by rw [HBS.out];exact F.out) (by decide) (Y92 hr1 (by omega)) (Ypi hg1 hHBl))
   ·obtain ⟨y,l3,rfl⟩:∃y l3,l2=y::l3:=by
     cases l2 with
     | nil=> exact absurd rfl h0
     | cons y l3=> exact ⟨y,l3,rfl⟩
    obtain ⟨cb,o,rfl,hcb,hcells⟩:=hc2.at (by simp)
    have c0:=(hcells 0 (by simp)).1
    have c1:=(hcells 0 (by simp)).2.1
    have c2:=(hcells 0 (by simp)).2.2
    simp only [List.getElem_cons_zero,Nat.zero_mul,Nat.add_zero] at c0 c1 c2
    have hne:(((l3.length:Nat):Int)+1==0)=false:=by rw [beq_eq_false_iff_ne];omega
    have hyin:y∈Ye0 Yar ds (bs.take (n+1)):=by rw [HL2.out];exact List.mem_cons_self
    obtain ⟨hyd,hyp⟩:=List.mem_filter.1 hyin
    have hylen:n+1≤y.1.size∧y.1.size≤24:=by
     have h1:=Yby hyp
     rw [List.length_take] at h1
     have h2:=(Ybw (OK.out y hyd)).2.1
     have h3:(Yar y).length=y.1.size:=rfl
     have h4:n+1≤bs.length:=by rw [BL.out];omega
     omega
    have YD:=Lib.hid hyd
    have YP:=Lib.hid hyp
    have HC:=Lib.hid hcells
    have C2:=Lib.hid hc2
    clear hyin hyd hyp hcells hc2 h0
    obtain ⟨y0,y1⟩:=hylen
    by_cases hyn:y.1.size=n+1
    ·have g0:((y.1.size:Int)==(n:Int)+1)=true:=by rw [beq_iff_eq];omega
     have F:Hid (tk (ds.map Yar) bs 25 1=(0,n+1)∧∃x∈ds,Yar x=bs.take (n+1)∧x.2=y.2):=Lib.hid (by
      have h1:bs.take (n+1)=Yar y:=by
       have h2:=Ybz.1 YP.out
       have h3:(Yar y).length=n+1:=hyn
       rw [List.length_take,Nat.min_eq_left (by rw [BL.out];omega),List.take_of_length_le (by omega)] at h2
       exact h2.symm
      refine ⟨?_,y,YD.out,h1.symm,rfl⟩
      rw [U2.out,if_pos (by rw [h1];exact List.mem_map_of_mem YD.out)])
     have hcr:cb≠rb:=by have:=HA2.out _ rfl;simp at this;omega
     have hld:∀x,w1.grownBy x (some rb)→x.cell? ⟨cb,o+1,none⟩=some (.int .i64 (sA y.2))∧x.cell? ⟨cb,o+2,none⟩=some (.int .i64 (sB y.2))∧x.heap[B]? = some (Ykw 0 0):=fun x hx=>
      ⟨(World.cell?_of_block (a:=⟨cb,o+1,none⟩) (hx.block cb hcb (by intro e;injection e with e;exact hcr e))).trans c1,(World.cell?_of_block (a:=⟨cb,o+2,none⟩) (hx.block cb hcb (by intro e;injection e with e;exact hcr e))).trans c2,
       (hx.block B (Array.getElem?_eq_some_iff.1 hx0).1 (by intro e;injection e with e;omega)).trans hx0⟩
     have LD:=Lib.hid hld
     have hr1d:Ybb w1.drew rb s p:=hr1
     have hps:p≤1125899906842624:=by have:=hr1.2;omega
     have hsd:p+(n+1)≤8*s.size:=hfit
     clear hyn hld
     go_wp2_with fail
     have sw:IntKind.i64.wrap ((p:Int)+((n:Int)+1))=(p:Int)+((n:Int)+1):=IntWalk.i64_in _ (by omega)
     go_region_with (first | (go_at_call 25;refine (Yb7 _ _ _ _ (by assumption)).mono ?_;rintro e w3 ⟨rfl,rfl⟩) | (go_at_call 21;refine (Ybs _ _ _ _ _ (by assumption) (by omega) (by omega)).mono ?_;rintro e w3 ⟨rfl,hr3,hg3⟩;obtain ⟨c3,c4,hx3⟩:=LD.out w3 (Yad (Yb3 w1 _) hg3);obtain ⟨r30,r31,f30,f31⟩:=Ykx hx3))
     all_goals
      rw [show ((p:Int)+((n:Int)+1)).toNat=p+(n+1) by omega] at hr3
      have hg4:=Yad hg1 (Yad (Yb3 w1 _) hg3)
      go_wp2
      exact bodyPost_ret (Yan rfl _ _ B 235 _ (0,0) _ rfl (Yzk hx3) Tryz.underlying235 rfl (by kernel_rfl)) rfl (Y4t (by rw [HBS.out];exact F.out.1) (by rw [HBS.out];exact F.out.2) (Y92 hr3 (by omega)) (Ypi hg4 hHBl))
    ·have g0:((y.1.size:Int)==(n:Int)+1)=false:=by rw [beq_eq_false_iff_ne];omega
     have hnin:∀x,x∈Ye0 Yar ds (bs.take (n+1))→(Yar x).length≠n+1:=by
      intro x hx hlen
      obtain ⟨hxd,hxp⟩:=List.mem_filter.1 hx
      have h2:=Ybz.1 hxp
      rw [List.length_take,Nat.min_eq_left (by rw [BL.out];omega),List.take_of_length_le (by omega)] at h2
      have h3:=Yjf FR.out (x:=Yar x) (y:=Yar y) (List.mem_map_of_mem hxd) (List.mem_map_of_mem YD.out) (by rw [h2];exact YP.out)
      have h4:(Yar y).length=y.1.size:=rfl
      rw [h3] at hlen
      omega
     have F:Hid (tk (ds.map Yar) bs 25 1=tk (ds.map Yar) bs (25-(n+1)) (n+1+1)):=Lib.hid (by
      rw [U2.out,if_neg,if_pos (List.any_eq_true.2 ⟨Yar y,List.mem_map_of_mem YD.out,YP.out⟩),show 25-(n+1)=24-n by omega]
      intro hm
      have h3:=Yjf FR.out hm (List.mem_map_of_mem YD.out) YP.out
      have h4:=congrArg List.length h3
      rw [List.length_take,Nat.min_eq_left (by rw [BL.out];omega)] at h4
      exact hyn h4.symm)
     have RW:Hid (∀x∈y::l3,n+1<x.1.size∧x.1.size≤24):=Lib.hid (fun x hx=> by
      rw [←HL2.out] at hx
      obtain ⟨hxd,hxp⟩:=List.mem_filter.1 hx
      have h1:=Yby hxp
      rw [List.length_take,Nat.min_eq_left (by rw [BL.out];omega)] at h1
      have h2:=(Ybw (OK.out x hxd)).2.1
      have h3:(Yar x).length=x.1.size:=rfl
      have h4:=hnin x hx
      omega)
     have hbn:n+1≤bs.length:=by rw [BL.out];omega
     clear hnin c1 c2 hx0 hx1 n0 n1 r0 r1 f0 f1
     go_wp2
     go_roundw
     case rel=> exact ⟨n+1,_,y::l3,cap2,by go_num,rfl,hl3,by unfold maxLen;omega,Lib.hid HL2.out.symm,C2.out,HA2,by omega,hbn,F,RW,hb2,hr1⟩
     case measure=> simp [intOf];omega
abbrev Qcg (x:ByteArray×Int):Lit:=.int .i64 x.2
theorem Yyp (s:Int):WideAt.IsKeyLit (.int .i64 s):=trivial
def Qd4 (x:ByteArray×Int):DataW Unit:=.lit (.string x.1.data.toList)
def Yht (D:DataW Unit) (l:List (ByteArray×Int)):DataW Unit:=l.foldl (fun D x=> D.put (Qcg x) (Qd4 x)) D
def Ymr (l:List (ByteArray×Int)):DataW Unit:=Yht (.map []) l
theorem Y2p (l:List (ByteArray×Int)) (j:Nat) (h:j<l.length):Ymr (l.take (j+1))=(Ymr (l.take j)).put (Qcg l[j]) (Qd4 l[j]):=by
 unfold Ymr Yht
 rw [List.take_succ_eq_append_getElem h,List.foldl_append]
 rfl
theorem Qes {s t:Int} (h:s≠t):(Lit.int .i64 s)≠.int .i64 t:=by
 intro e
 injection e with _ e
 exact h e
theorem Yn9:∀{l:List (ByteArray×Int)} {D:DataW Unit} {acc:List Int},Tidy D→(∀s,has D (.int .i64 s)=true↔s∈acc)→size D=acc.length→acc.Nodup→
  size (Yht D l)≤acc.length+l.length∧(size (Yht D l)=acc.length+l.length↔(acc++l.map (·.2)).Nodup)
 | [],D,acc,_,_,h,hn=> ⟨by show size D≤_;omega,by rw [List.map_nil,List.append_nil];exact ⟨fun _=> hn,fun _=> h⟩⟩
 | x::l,D,acc,ht,hh,hs,hn=> by
  have ht2:=ht.put (k:=Qcg x) (Yyp _) (Qd4 x)
  by_cases hx:x.2∈acc
  ·have hh2:∀s,has (D.put (Qcg x) (Qd4 x)) (.int .i64 s)=true↔s∈acc:=by
    intro s
    by_cases e:s=x.2
    ·subst e
     exact ⟨fun _=> hx,fun _=> has_put_same ht.isMap (Yyp _) _⟩
    ·rw [has_put_other (Qes e)]
     exact hh s
   have hs2:size (D.put (Qcg x) (Qd4 x))=acc.length:=by
    rw [size_put ht,if_pos ((hh x.2).2 hx)]
    exact hs
   obtain ⟨i1,_⟩:=Yn9 (l:=l) ht2 hh2 hs2 hn
   rw [List.length_cons]
   refine ⟨Nat.le_trans i1 (by omega),⟨fun e=> ?_,fun hd=> ?_⟩⟩
   ·exfalso
    have e':size (Yht (D.put (Qcg x) (Qd4 x)) l)=acc.length+(l.length+1):=e
    omega
   ·exfalso
    exact (List.nodup_append.1 hd).2.2 x.2 hx x.2 (by simp) rfl
  ·have hh2:∀s,has (D.put (Qcg x) (Qd4 x)) (.int .i64 s)=true↔s∈acc ++ [x.2]:=by
    intro s
    rw [List.mem_append,List.mem_singleton]
    by_cases e:s=x.2
    ·subst e
     exact ⟨fun _=> .inr rfl,fun _=> has_put_same ht.isMap (Yyp _) _⟩
    ·rw [has_put_other (Qes e),hh s]
     exact ⟨.inl,fun h=> h.resolve_right e⟩
   have hs2:size (D.put (Qcg x) (Qd4 x))=(acc ++ [x.2]).length:=by
    rw [size_put ht,if_neg (fun h=> hx ((hh x.2).1 h)),List.length_append,List.length_singleton,hs]
   have hn2:(acc ++ [x.2]).Nodup:=List.nodup_append.2 ⟨hn,by simp,fun a ha b hb e=> hx (by rw [List.mem_singleton] at hb;rw [←hb,←e];exact ha)⟩
   obtain ⟨i1,i2⟩:=Yn9 (l:=l) ht2 hh2 hs2 hn2
   rw [List.length_append,List.length_singleton] at i1 i2
   rw [List.length_cons,List.map_cons]
   rw [List.append_assoc] at i2
   refine ⟨Nat.le_trans i1 (by omega),?_⟩
   rw [show acc.length+(l.length+1)=acc.length+1+l.length by omega]
   exact i2
theorem Y2o (l:List (ByteArray×Int)):size (Ymr l)≤l.length∧(size (Ymr l)=l.length↔(l.map (·.2)).Nodup):=by
 have:=Yn9 (l:=l) (D:=(.map []:DataW Unit)) (acc:=[]) tidy_empty (fun s=> by simp [Maps.has]) rfl List.nodup_nil
 simp only [List.length_nil,Nat.zero_add,List.nil_append] at this
 exact this
def Yt9 (w:World) (m:Option Nat) (ds:List (ByteArray×Int)):Prop:=
 (m=none∧ds = [])∨∃bm n l,m=some bm∧w.ownsMap Tryz.prog 3 (plainElem Tryz.prog 9) bm n (Ymr l)∧(l.map (·.2)).Nodup∧l.Perm ds
theorem Yt9.below {w w':World} {m:Option Nat} {ds:List (ByteArray×Int)} (h:Yt9 w m ds) (hb:Below w.heap.size w w'):Yt9 w' m ds:=by
 rcases h with h | ⟨bm,n,l,rfl,ho,hn,hp⟩
 ·exact .inl h
 ·refine .inr ⟨bm,n,l,rfl,?_,hn,hp⟩
  exact ho.kept (row:=none) ⟨hb.os,hb.tape,hb.output,hb.size,fun k hk _=> hb.block k hk⟩ (by simp)
theorem Qf1:Keyed Tryz.prog 3:=int_keyed Tryz.underlying3
def Yni (p:Option Addr) (l:List (ByteArray×Int)) (at_:Nat) (c:UInt8) (w:World) (e:Ending) (w':World):Prop:=
 ∃q cap,e = .returned (.slice q (if c=48 then l.takeWhile (Ybe Ya0 at_) else l.dropWhile (Ybe Ya0 at_)).length cap)∧w=w'∧Cds w q (if c=48 then l.takeWhile (Ybe Ya0 at_) else l.dropWhile (Ybe Ya0 at_))∧
  (if c=48 then l.takeWhile (Ybe Ya0 at_) else l.dropWhile (Ybe Ya0 at_)).length≤cap∧cap≤maxLen∧∀a,q=some a→∃a',p=some a'∧a'.block=a.block
theorem Y98 {α:Type} (p:α→Bool) (l:List α) (k:Nat) (h1:∀i,(h:i<l.length)→i<k→p l[i]=true) (h2:∀h:k<l.length,p l[k]=false) (hk:k≤l.length):l.takeWhile p=l.take k∧l.dropWhile p=l.drop k:=by
 induction l generalizing k with
 | nil=> simp
 | cons x l ih=>
  cases k with
  | zero=>
   have:=h2 (by simp)
   simp only [List.getElem_cons_zero] at this
   simp [this]
  | succ k=>
   have h0:=h1 0 (by simp) (by omega)
   simp only [List.getElem_cons_zero] at h0
   have:=ih k (fun i hi hik=> by have:=h1 (i+1) (by simpa using hi) (by omega);simpa using this) (fun hk=> by have:=h2 (by simpa using hk);simpa using this) (by simpa using hk)
   simp [h0,this.1,this.2]
theorem Y72 (x:ByteArray×Int) (at_:Nat) (h:at_<x.1.size):Ybe Ya0 at_ x=(x.1[at_]==48):=by
 unfold Ybe Ya0
 have e:x.1.data.toList[at_]? = some x.1[at_]:=List.getElem?_eq_getElem (show at_<x.1.data.toList.length from h)
 rw [e]
 rfl
theorem Ykz {l:List (ByteArray×Int)} {at_ k:Nat} {c:UInt8} {w:World} {p q:Option Addr} {n cap:Nat} (h1:∀i,(h:i<l.length)→i<k→Ybe Ya0 at_ l[i]=true) (h2:∀h:k<l.length,Ybe Ya0 at_ l[k]=false) (hk:k≤l.length)
  (hn:n=if c=48 then k else l.length-k) (hq:Cds w q (if c=48 then l.take k else l.drop k)) (hcap:n≤cap) (hm:cap≤maxLen) (hsm:∀a,q=some a→∃a',p=some a'∧a'.block=a.block):Yni p l at_ c w (.returned (.slice q n cap)) w:=by
 obtain ⟨e1,e2⟩:=Y98 (Ybe Ya0 at_) l k h1 h2 hk
 unfold Yni
 rw [e1,e2]
 by_cases hc:c=48
 ·simp only [hc,if_true] at hn hq ⊢
  have hl:(l.take k).length=k:=by rw [List.length_take];omega
  exact ⟨q,cap,by rw [hl,hn],trivial,hq,by omega,hm,hsm⟩
 ·simp only [hc,if_false] at hn hq ⊢
  have hl:(l.drop k).length=l.length-k:=List.length_drop
  exact ⟨q,cap,by rw [hl,hn],trivial,hq,by omega,hm,hsm⟩
theorem Y9e {p:Option Addr}:∀a,p=some a→∃a',p=some a'∧a'.block=a.block:=fun a h=> ⟨a,h,rfl⟩
theorem Qdh {p:Option Addr} {n:Nat}:∀a,Option.map (fun x=> Addr.add x n) p=some a→∃a',p=some a'∧a'.block=a.block:=by
 intro a h
 cases p with
 | none=> cases h
 | some b=> cases h;exact ⟨b,rfl,by show b.block=(b.add n).block;unfold Addr.add;split <;> rfl⟩
set_option maxRecDepth 100000 in
set_option maxHeartbeats 4000000 in
theorem Y99 (l:List (ByteArray×Int)) (p:Option Addr) (cap at_:Nat) (c:UInt8) (w:World) (hc:Cds w p l) (hlc:l.length≤cap) (hcap:cap≤maxLen) (hrow:∀x∈l,at_<x.1.size∧x.1.size≤24):
  Calls Tryz.prog 217 #[.slice p l.length cap,.int .i64 (at_:Int),.int .u8 (c.toNat:Int)] w (Yni p l at_ c w):=by
 unfold maxLen at hcap
 have HR:=Lib.hid hrow
 clear hrow
 have cc:(c=48∧((c.toNat:Int)==48)=true)∨(c≠48∧((c.toNat:Int)==48)=false):=by
  by_cases h:c=48
  ·exact .inl ⟨h,by rw [h];rfl⟩
  ·refine .inr ⟨h,?_⟩
   rw [beq_eq_false_iff_ne]
   intro e
   exact h (UInt8.toNat_inj.1 (by show c.toNat=48;omega))
 go_enter Tryz.func217,Tryz.ntmps217
 go_wp2
 go_loop [7] (fun i=>∃k:Nat,k≤l.length∧i = .int .i64 k∧Hid (∀i,(h:i<l.length)→i<k→Ybe Ya0 at_ l[i]=true)) (fun i=> l.length-(intOf i).toNat)
 case atStart=> exact ⟨0,Nat.zero_le _,rfl,Lib.hid (fun i _ h=> absurd h (Nat.not_lt_zero i))⟩
 case round=>
  obtain ⟨k,hk,rfl,hin⟩:=hrel
  by_cases hlt:k<l.length
  ·obtain ⟨b,o,rfl,_,hcells⟩:=hc.at (by omega)
   have c0:=(hcells k hlt).1
   have hx:=HR.out l[k] (List.getElem_mem hlt)
   obtain ⟨x,hxe⟩:∃x,l[k]=x:=⟨_,rfl⟩
   rw [hxe] at c0 hx
   obtain ⟨hx1,hx2⟩:=hx
   have NO:=Lib.hid (show Ybe Ya0 at_ l[k]=(x.1[at_]==48) by rw [hxe];exact Y72 x at_ hx1)
   have HC:=Lib.hid hc
   clear hcells hxe hc
   by_cases h48:x.1[at_].toNat=48
   ·have g0:((x.1[at_].toNat:Int)==48)=true:=by rw [h48];rfl
    have NX:Hid (∀i,(h:i<l.length)→i<k+1→Ybe Ya0 at_ l[i]=true):=Lib.hid (fun i hi h=> by
     by_cases e:i=k
     ·subst e
      rw [NO.out,UInt8.toNat_inj.1 (show x.1[at_].toNat=(48:UInt8).toNat from h48)]
      rfl
     ·exact hin.out i hi (by omega))
    clear h48 cc
    go_wp2
    go_round
    case rel=> exact ⟨k+1,by omega,by go_num,NX⟩
    case measure=> simp [intOf];omega
   ·have g0:((x.1[at_].toNat:Int)==48)=false:=by rw [beq_eq_false_iff_ne];omega
    have N2:Hid (∀h:k<l.length,Ybe Ya0 at_ l[k]=false):=Lib.hid (fun _=> by
     rw [NO.out,beq_eq_false_iff_ne]
     intro e
     exact h48 (by rw [e];rfl))
    clear h48
    rcases cc with ⟨hcc,g1⟩ | ⟨hcc,g1⟩
    ·have C:=Lib.hid hcc
     clear hcc
     go_wp2
     go_ret
     exact Ykz hin.out N2.out hk (by rw [if_pos C.out]) (by rw [if_pos C.out];exact HC.out.take k) (by omega) (by unfold maxLen;omega) (fun a h=> ⟨a,h,rfl⟩)
    ·have C:=Lib.hid hcc
     clear hcc
     go_wp2
     go_ret
     exact Ykz hin.out N2.out hk (by rw [if_neg C.out]) (by rw [if_neg C.out];exact HC.out.drop k) (by omega) (by unfold maxLen;omega) (fun a h=> ⟨_,rfl,by cases h;rfl⟩)
  ·obtain rfl:k=l.length:=by omega
   have N2:Hid (∀h:l.length<l.length,Ybe Ya0 at_ l[l.length]=false):=Lib.hid (fun h=> absurd h (Nat.lt_irrefl _))
   have HC:=Lib.hid hc
   clear hc
   rcases cc with ⟨hcc,g1⟩ | ⟨hcc,g1⟩
   ·have C:=Lib.hid hcc
    clear hcc
    go_wp2
    go_ret
    exact Ykz hin.out N2.out hk (by rw [if_pos C.out]) (by rw [if_pos C.out];exact HC.out.take _) (by omega) (by unfold maxLen;omega) (fun a h=> ⟨a,h,rfl⟩)
   ·have C:=Lib.hid hcc
    clear hcc
    go_wp2
    all_goals
     go_ret
     exact Ykz hin.out N2.out hk (by rw [if_neg C.out,Nat.sub_self]) (by rw [if_neg C.out,List.drop_length];exact .inl rfl) (by omega) (by unfold maxLen;omega) (by first | exact Y9e | exact Qdh)
def Qgt (m:Option Nat) (q:Option Addr) (n cap:Nat) (L:Int):List Value:=[.map m,.slice q n cap,.int .i64 L]
def Yl2 (m:Option Nat) (q:Option Addr) (n cap:Nat) (L:Int):Obj:=.cells (Qgt m q n cap L).toArray 251 (0,0)
def Qez (w:World) (lo N tb:Nat) (ds:List (ByteArray×Int)) (L:Int):Prop:=
 ∃(m:Option Nat) (q:Option Addr) (cap:Nat),w.heap[tb]? = some (Yl2 m q ds.length cap L)∧ds.length≤cap∧cap≤maxLen∧Cds w q ds∧Yt9 w m ds∧∀a,q=some a→lo≤a.block∧a.block<N
set_option maxHeartbeats 1000000 in
theorem Yw1 (s:ByteArray) (hs:s.size≤maxLen) (w:World):
  Calls Tryz.prog 212 #[.string s] w fun e w'=> e = .returned (.bool (Ycc s.data.toList))∧Below w.heap.size w w':=by
 unfold maxLen at hs
 have hsl:s.data.toList.length=s.size:=rfl
 by_cases x0:s.data.toList = []
 ·have F:=Lib.hid (show Ycc s.data.toList=false by rw [x0];rfl)
  have e0:s.toList.isEmpty=true:=by rw [Lib.toList_data,x0];rfl
  have e1:s.toList = []:=by rw [Lib.toList_data,x0]
  clear x0 hsl
  go_enter Tryz.func212,Tryz.ntmps212
  go_wp2
  go_ret
  exact ⟨Yah F.out.symm,Below.refl _ _⟩
 have e0:s.toList.isEmpty=false:=by rw [Lib.toList_data];simpa using x0
 by_cases x1:24<s.size
 ·have F:=Lib.hid (show Ycc s.data.toList=false by
   cases h:Ycc s.data.toList with
   | false=> rfl
   | true=> have:=(Ybw h).2.1;omega)
  have e1:decide ((s.size:Int)≤24)=false:=by simp;omega
  clear x0 hsl x1
  go_enter Tryz.func212,Tryz.ntmps212
  go_wp2
  go_ret
  exact ⟨Yah F.out.symm,Below.refl _ _⟩
 have e1:decide ((s.size:Int)≤24)=true:=by simp;omega
 have hk:Ycc s.data.toList=Yaw s.data.toList:=by
  cases h:Yaw s.data.toList with
  | true=> exact Yoq x0 (by omega) h
  | false=>
   cases h2:Ycc s.data.toList with
   | false=> rfl
   | true=> rw [(Ybw h2).2.2] at h;cases h
 have hk2:(Lib.trimS s.data.toList [48,49]).isEmpty=Ycc s.data.toList:=by
  rw [hk,Bool.eq_iff_iff,List.isEmpty_iff,Yw6]
 obtain ⟨r,hr⟩:∃r,(⟨(Lib.trimS s.data.toList [48,49]).toArray⟩:ByteArray)=r:=⟨_,rfl⟩
 have hr2:r.toList.isEmpty=Ycc s.data.toList:=by rw [←hk2,←hr,Lib.toList_data]
 have RR:=Lib.hid hr
 have R2:=Lib.hid hr2
 clear x0 hsl x1 hk hk2 hr hr2
 go_enter Tryz.func212,Tryz.ntmps212
 go_wp2_with fail
 refine (Y1i s hs _).mono ?_
 rintro e w1 ⟨rfl,hb⟩
 rw [RR.out]
 go_wp2
 go_ret
 exact ⟨Yah R2.out,hb⟩
set_option maxRecDepth 100000 in
set_option maxHeartbeats 4000000 in
theorem Yyt (l:List (ByteArray×Int)) (p:Option Addr) (cap:Nat) (w:World) (r:Bool) (hr:r=true↔∃i,∃h:i+1<l.length,(Ya0 l[i]).isPrefixOf (Ya0 l[i+1])=true) (hc:Cds w p l) (hm:l.length≤1048576):
  Calls Tryz.prog 216 #[.slice p l.length cap] w fun e w'=> e = .returned (.bool r)∧Below w.heap.size w w':=by
 have R:=Lib.hid hr
 clear hr
 obtain ⟨B,hB⟩:∃B,w.heap.size=B:=⟨_,rfl⟩
 have hE:∀x,Below B w x→∀i,(h:i<l.length)→∃b o,p=some ⟨b,o,none⟩∧∀j,(h:j<l.length)→x.cell? ⟨b,o+j*2,none⟩=some (.string l[j].1):=by
  intro x hx i hi
  obtain ⟨b,o,rfl,hblt,hcells⟩:=hc.at (by omega)
  exact ⟨b,o,rfl,fun j hj=> (World.cell?_of_block (a:=⟨b,o+j*2,none⟩) (hx.block b (by omega))).trans (hcells j hj).1⟩
 have EE:=Lib.hid hE
 have hb0:Below B w w:=Below.refl _ _
 have HB:=Lib.hid hB
 rw [hB]
 clear hE hc hB
 go_enter Tryz.func216,Tryz.ntmps216
 go_wp2
 go_loopw [3] (fun i wr=>∃k:Nat,(k<l.length∨k=0)∧i = .int .i64 ((k:Int)+1)∧Below B w wr∧Hid (∀i,(h:i+1<l.length)→i<k→(Ya0 l[i]).isPrefixOf (Ya0 l[i+1])=false)) (fun i _=> l.length+1-(intOf i).toNat)
 case atStart=> exact ⟨0,.inr rfl,rfl,hb0,Lib.hid (fun i _ h=> absurd h (Nat.not_lt_zero i))⟩
 case round=>
  clear hb0
  obtain ⟨k,hk,rfl,hb,hin⟩:=hrel
  by_cases hlt:k+1<l.length
  ·obtain ⟨b,o,rfl,hcells⟩:=EE.out wr hb (k+1) hlt
   have c1:=hcells (k+1) hlt
   have c0:=hcells k (by omega)
   obtain ⟨x,hx⟩:∃x,l[k+1]=x:=⟨_,rfl⟩
   obtain ⟨y,hy⟩:∃y,l[k]=y:=⟨_,rfl⟩
   rw [hx] at c1
   rw [hy] at c0
   have HX:=Lib.hid hx
   have HY:=Lib.hid hy
   have t0:decide ((k:Int)+1<l.length)=true:=by simp;omega
   have hbg:∀w,Calls Tryz.prog 157 #[.string x.1,.string y.1] w fun e w'=> e = .returned (.bool (y.1.data.toList.isPrefixOf x.1.data.toList))∧w'=w:=fun w=> Ylc x.1 y.1 w
   clear hcells hk hx hy
   cases hpre:y.1.data.toList.isPrefixOf x.1.data.toList with
   | true=>
    rw [hpre] at hbg
    have F:=Lib.hid (R.out.2 ⟨k,hlt,by rw [HX.out,HY.out];exact hpre⟩)
    have BG:=Lib.hid hbg
    clear hpre hbg
    go_wp2_with fail
    go_quiet ((go_at_call 157;exact Calls.quiet_of_same (BG.out _)))
    go_wp2
    go_ret
    exact ⟨Yah F.out.symm,Yeb hb _⟩
   | false=>
    rw [hpre] at hbg
    have F:Hid (∀i,(h:i+1<l.length)→i<k+1→(Ya0 l[i]).isPrefixOf (Ya0 l[i+1])=false):=Lib.hid (fun i hi h=> by
     by_cases e:i=k
     ·subst e
      rw [HX.out,HY.out]
      exact hpre
     ·exact hin.out i hi (by omega))
    have BG:=Lib.hid hbg
    clear hpre hbg
    go_wp2_with fail
    go_quiet ((go_at_call 157;exact Calls.quiet_of_same (BG.out _)))
    go_wp2
    go_roundw
    case rel=> exact ⟨k+1,.inl hlt,by go_num,Yeb hb _,F⟩
    case measure=> simp [intOf];omega
  ·have F:=Lib.hid (show r=false by
    cases hrr:r with
    | false=> rfl
    | true=>
     obtain ⟨i,hi,hp⟩:=R.out.1 hrr
     rw [hin.out i hi (by omega)] at hp
     cases hp)
   have t0:decide ((k:Int)+1<l.length)=false:=by simp;omega
   clear hlt hk
   go_wp2
   go_ret
   exact ⟨Yah F.out.symm,hb⟩
def Y5b (ds:List (ByteArray×Int)) (s:ByteArray) (rb p:Nat) (w:World) (e:Ending) (w':World):Prop:=
 ∃v:Int,e = .returned (.tuple #[.int .i64 v,.int .i64 (tk (ds.map Ya0) ((Yac s.data.toList).drop p) 25 1).1])∧
  ((tk (ds.map Ya0) ((Yac s.data.toList).drop p) 25 1).1=0→∃x∈ds,Ya0 x=((Yac s.data.toList).drop p).take (tk (ds.map Ya0) ((Yac s.data.toList).drop p) 25 1).2∧x.2=v)∧
  ((tk (ds.map Ya0) ((Yac s.data.toList).drop p) 25 1).1≠0→v=0)∧Ybb w' rb s (p+(tk (ds.map Ya0) ((Yac s.data.toList).drop p) 25 1).2)∧w.grownBy w' (some rb)
theorem Yw7 {ds:List (ByteArray×Int)} {s:ByteArray} {rb p:Nat} {w w':World} {f:Int} (h:tk (ds.map Ya0) ((Yac s.data.toList).drop p) 25 1=(f,0)) (hf:f≠0) (hr:Ybb w' rb s p) (hg:w.grownBy w' (some rb)):
  Y5b ds s rb p w (.returned (.tuple #[.int .i64 0,.int .i64 f])) w':=by
 unfold Y5b
 rw [h]
 exact ⟨0,rfl,fun e=> absurd e hf,fun _=> rfl,hr,hg⟩
theorem Y91 {ds:List (ByteArray×Int)} {s:ByteArray} {rb p n:Nat} {w w':World} {v:Int} (h:tk (ds.map Ya0) ((Yac s.data.toList).drop p) 25 1=(0,n)) (hx:∃x∈ds,Ya0 x=((Yac s.data.toList).drop p).take n∧x.2=v) (hr:Ybb w' rb s (p+n)) (hg:w.grownBy w' (some rb)):
  Y5b ds s rb p w (.returned (.tuple #[.int .i64 v,.int .i64 0])) w':=by
 unfold Y5b
 rw [h]
 exact ⟨v,rfl,fun _=> hx,fun e=> absurd rfl e,hr,hg⟩
set_option maxRecDepth 100000 in
set_option maxHeartbeats 8000000 in
theorem Y90 (w:World) (lo N tb rb:Nat) (ds:List (ByteArray×Int)) (L:Int) (s:ByteArray) (p:Nat) (ht:Qez w lo N tb ds L) (hr:Ybb w rb s p) (hN:rb<lo∨N≤rb)
  (hs:ds.Pairwise fun x y=> leL (Ya0 x) (Ya0 y)=true) (hf:Yhf (ds.map Ya0)) (ho:∀x∈ds,Ycc (Ya0 x)=true):
  Calls Tryz.prog 200 #[.pointer (some ⟨tb,0,none⟩),.pointer (some ⟨rb,0,none⟩)] w (Y5b ds s rb p w):=by
 obtain ⟨m,q,cap,h1,h2,h3,hc,_,hq⟩:=ht
 have c1:w.cell? ⟨tb,1,none⟩=some (.slice q ds.length cap):=Yaa h1 rfl
 obtain ⟨bs,hbs⟩:∃bs,(Yac s.data.toList).drop p=bs:=⟨_,rfl⟩
 have hbl:bs.length=8*s.size-p:=by rw [←hbs,List.length_drop,Yas];rfl
 have hpl:=hr.2.1
 obtain ⟨B,hB⟩:∃B,w.heap.size=B:=⟨_,rfl⟩
 have hb0:Below B w w:=Below.refl _ _
 have HB:=Lib.hid hB
 have SO:=Lib.hid hs
 have FR:=Lib.hid hf
 have OK:=Lib.hid ho
 have HBS:=Lib.hid hbs
 have BL:=Lib.hid hbl
 have HQ:=Lib.hid hq
 have hd0:Ye0 Ya0 ds (bs.take 0)=ds:=by rw [List.take_zero];exact Yw2 Ya0 ds
 have D0:=Lib.hid hd0
 have hrow0:∀x∈ds,0<x.1.size∧x.1.size≤24:=fun x hx=> by
  have h:=Ybw (ho x hx)
  have h1:(Ya0 x).length=x.1.size:=rfl
  have h2:=List.length_pos_iff.2 h.1
  omega
 have R0:=Lib.hid hrow0
 have C0:=Lib.hid hc
 clear h1 hB hs hf ho hbs hbl hq hd0 hc hrow0
 go_enter Tryz.func200,Tryz.ntmps200
 go_wp2
 go_loopw [7,8] (fun u v wr=>∃(n:Nat) (a:Option Addr) (l:List (ByteArray×Int)) (cap:Nat),v = .int .i64 ((n:Int)+1)∧u = .slice a l.length cap∧l.length≤cap∧cap≤maxLen∧Hid (l=Ye0 Ya0 ds (bs.take n))∧Cds wr a l∧Hid (∀x,a=some x→lo≤x.block∧x.block<N)∧n≤23∧n≤bs.length∧
  Hid (tk (ds.map Ya0) bs 25 1=tk (ds.map Ya0) bs (25-n) (n+1))∧Hid (∀x∈l,n<x.1.size∧x.1.size≤24)∧Below B w wr∧Ybb wr rb s p) (fun _ v _=> 25-(intOf v).toNat)
 case atStart=> exact ⟨0,q,ds,cap,rfl,rfl,h2,h3,Lib.hid D0.out.symm,C0.out,Lib.hid HQ.out,by omega,Nat.zero_le _,Lib.hid rfl,Lib.hid R0.out,hb0,hr⟩
 case round=>
  clear hb0 hr h2 h3 c1
  obtain ⟨n,a,l,cap,rfl,rfl,hl1,hl2,hl,hc,ha,hn,hnb,htk,hrow,hb,hr⟩:=hrel
  unfold maxLen at hl2
  have hunf:tk (ds.map Ya0) bs (25-n) (n+1)=if bs.length<n+1 then (2,0) else if bs.take (n+1)∈ds.map Ya0 then (0,n+1) else if (ds.map Ya0).any (fun r=> (bs.take (n+1)).isPrefixOf r)=true then tk (ds.map Ya0) bs (24-n) (n+1+1) else (3,0):=by
   rw [show 25-n=(24-n)+1 by omega,tk]
  have U:=Lib.hid (htk.out.trans hunf)
  clear hunf htk
  go_wp2_with fail
  refine (Ybk _ _ _ _ ((n:Int)+1) hr).mono ?_
  rintro e w1 ⟨rfl,hb1⟩
  have hr1:=hr.below hb1
  have hc1:=hc.below hb1
  have hb2:Below B w w1:=hb.trans (hb1.mono (by rw [←HB.out];exact hb.size))
  have hg1:w.grownBy w1 (some rb):=by
   rw [←HB.out] at hb2
   exact ⟨hb2.os,hb2.tape,hb2.output,hb2.size,fun k hk _=> hb2.block k hk⟩
  clear hr hc hb hb1
  by_cases hsh:bs.length<n+1
  ·have hask:ask s.data.toList p ((n:Int)+1)=(0,2):=Ybj (by omega) (by rw [BL.out] at hsh;have:s.data.toList.length=s.size:=rfl;omega)
   have F:=Lib.hid (U.out.trans (if_pos hsh))
   rw [hask]
   clear hsh
   go_wp2
   go_ret2
   exact Yw7 (by rw [HBS.out];exact F.out) (by decide) hr1 hg1
  ·have hfit:p+(n+1)≤8*s.size:=by rw [BL.out] at hsh;omega
   have hask:ask s.data.toList p ((n:Int)+1)=(((Ya5 s.data.toList p (n+1):Nat):Int),0):=by
    have:=Ycz (l:=s.data.toList) (p:=p) (n:=(n:Int)+1) (by omega) (by have:s.data.toList.length=s.size:=rfl;omega)
    rw [this,show ((n:Int)+1).toNat=n+1 by omega]
   have U2:=Lib.hid (U.out.trans (if_neg hsh))
   obtain ⟨hnl,hdig⟩:=Yib s.data.toList p n hfit
   have hdig2:∃c:UInt8,(c=48∨c=49)∧bs[n]? = some c∧Ya5 s.data.toList p (n+1)%2+48=c.toNat:=by
    have e:bs[n]? = some ((Yac s.data.toList).drop p)[n]:=by rw [←HBS.out];exact List.getElem?_eq_getElem hnl
    rcases hdig with ⟨h1,h2⟩ | ⟨h1,h2⟩
    ·exact ⟨48,.inl rfl,by rw [e,h1],by rw [h2];rfl⟩
    ·exact ⟨49,.inr rfl,by rw [e,h1],by rw [h2];rfl⟩
   obtain ⟨c,hc49,hbc,htell⟩:=hdig2
   have htl:Ya5 s.data.toList p (n+1)≤4294967296:=by
    have h1:=Ycg s.data.toList p (n+1)
    have h2:2^(n+1)≤2^32:=Nat.pow_le_pow_right (by omega) (by omega)
    omega
   rw [hask]
   clear hsh U hask hdig hnl
   obtain ⟨t,hte⟩:∃t,Ya5 s.data.toList p (n+1)=t:=⟨_,rfl⟩
   rw [hte] at htell htl ⊢
   have C49:=Lib.hid hc49
   have BC:=Lib.hid hbc
   have TE:=Lib.hid htell
   have hbit:(48+bits .and .i64 ((t:Nat):Int) 1)%256=(c.toNat:Int):=by
    have h1:bits .and .i64 ((t:Nat):Int) 1=(t:Int)%2:=Ygq (t:Int) 1 (by omega)
    rw [h1]
    omega
   have BT:=Lib.hid hbit
   clear hc49 hbc htell hte hbit
   go_wp2_with fail
   rw [BT.out]
   refine (Y99 l a cap n c w1 hc1 hl1 (by unfold maxLen;omega) hrow.out).mono ?_
   rintro e w2 ⟨a2,cap2,rfl,rfl,hc2,hl3,hl4,ha2⟩
   have hnx:(if c=48 then l.takeWhile (Ybe Ya0 n) else l.dropWhile (Ybe Ya0 n))=Ye0 Ya0 ds (bs.take (n+1)):=by
    have hts:(bs.take n).length=n:=by rw [List.length_take];omega
    have hx:=Yru Ya0 (l:=ds) (q:=bs.take n) SO.out (fun x hx=> (Ybw (OK.out x hx)).2.2) (by rw [hts,←hl.out];exact fun x hx=> (hrow.out x hx).1)
    rw [hts,←hl.out] at hx
    have hsn:bs.take (n+1)=bs.take n ++ [c]:=by
     rw [List.take_add_one,BC.out];rfl
    rw [hsn]
    rcases C49.out with e | e
    ·rw [e,if_pos rfl];exact hx.1
    ·rw [e,if_neg (by decide)];exact hx.2
   rw [hnx] at hc2 hl3 ⊢
   obtain ⟨l2,hl2e⟩:∃l2,Ye0 Ya0 ds (bs.take (n+1))=l2:=⟨_,rfl⟩
   rw [hl2e] at hc2 hl3 ⊢
   have HL2:=Lib.hid hl2e
   have HA2:Hid (∀x,a2=some x→lo≤x.block∧x.block<N):=Lib.hid (fun x hx=> by
    obtain ⟨y,hy,hb⟩:=ha2 x hx
    rw [←hb]
    exact ha.out y hy)
   unfold maxLen at hl4
   clear hnx hl2e ha2 hc1 hl1 hl2 ha hl hrow
   by_cases h0:l2 = []
   ·have F:Hid (tk (ds.map Ya0) bs 25 1=(3,0)):=Lib.hid (by
     have hno:(ds.map Ya0).any (fun r=> (bs.take (n+1)).isPrefixOf r)=false:=by
      rw [List.any_eq_false]
      intro r hr hp
      obtain ⟨x,hx,rfl⟩:=List.mem_map.1 hr
      have:x∈Ye0 Ya0 ds (bs.take (n+1)):=List.mem_filter.2 ⟨hx,hp⟩
      rw [HL2.out,h0] at this
      cases this
     rw [U2.out,if_neg,if_neg (by rw [hno];decide)]
     intro hm
     rw [List.any_eq_false] at hno
     exact hno _ hm (Ydn _))
    subst h0
    go_wp2
    go_ret2
    exact Yw7 (by rw [HBS.out];exact F.out) (by decide) hr1 hg1
   ·obtain ⟨y,l3,rfl⟩:∃y l3,l2=y::l3:=by
     cases l2 with
     | nil=> exact absurd rfl h0
     | cons y l3=> exact ⟨y,l3,rfl⟩
    obtain ⟨cb,o,rfl,hcb,hcells⟩:=hc2.at (by simp)
    have c0:=(hcells 0 (by simp)).1
    have c1:=(hcells 0 (by simp)).2
    simp only [List.getElem_cons_zero,Nat.zero_mul,Nat.add_zero] at c0 c1
    have hne:(((l3.length:Nat):Int)+1==0)=false:=by rw [beq_eq_false_iff_ne];omega
    have hyin:y∈Ye0 Ya0 ds (bs.take (n+1)):=by rw [HL2.out];exact List.mem_cons_self
    obtain ⟨hyd,hyp⟩:=List.mem_filter.1 hyin
    have hylen:n+1≤y.1.size∧y.1.size≤24:=by
     have h1:=Yby hyp
     rw [List.length_take] at h1
     have h2:=(Ybw (OK.out y hyd)).2.1
     have h3:(Ya0 y).length=y.1.size:=rfl
     have h4:n+1≤bs.length:=by rw [BL.out];omega
     omega
    have YD:=Lib.hid hyd
    have YP:=Lib.hid hyp
    have HC:=Lib.hid hcells
    have C2:=Lib.hid hc2
    clear hyin hyd hyp hcells hc2 h0
    obtain ⟨y0,y1⟩:=hylen
    by_cases hyn:y.1.size=n+1
    ·have g0:((y.1.size:Int)==(n:Int)+1)=true:=by rw [beq_iff_eq];omega
     have F:Hid (tk (ds.map Ya0) bs 25 1=(0,n+1)∧∃x∈ds,Ya0 x=bs.take (n+1)∧x.2=y.2):=Lib.hid (by
      have h1:bs.take (n+1)=Ya0 y:=by
       have h2:=Ybz.1 YP.out
       have h3:(Ya0 y).length=n+1:=hyn
       rw [List.length_take,Nat.min_eq_left (by rw [BL.out];omega),List.take_of_length_le (by omega)] at h2
       exact h2.symm
      refine ⟨?_,y,YD.out,h1.symm,rfl⟩
      rw [U2.out,if_pos (by rw [h1];exact List.mem_map_of_mem YD.out)])
     have hcr:cb≠rb:=by have:=HA2.out _ rfl;simp at this;omega
     have hld:∀x,w1.grownBy x (some rb)→x.cell? ⟨cb,o+1,none⟩=some (.int .i64 y.2):=fun x hx=> (World.cell?_of_block (a:=⟨cb,o+1,none⟩) (hx.block cb hcb (by intro e;injection e with e;exact hcr e))).trans c1
     have LD:=Lib.hid hld
     have hr1d:Ybb w1.drew rb s p:=hr1
     have hps:p≤1125899906842624:=by have:=hr1.2;omega
     have hsd:p+(n+1)≤8*s.size:=hfit
     clear hyn hld
     go_wp2_with fail
     have sw:IntKind.i64.wrap ((p:Int)+((n:Int)+1))=(p:Int)+((n:Int)+1):=IntWalk.i64_in _ (by omega)
     go_region_with (first | (go_at_call 25;refine (Yb7 _ _ _ _ (by assumption)).mono ?_;rintro e w3 ⟨rfl,rfl⟩) | (go_at_call 21;refine (Ybs _ _ _ _ _ (by assumption) (by omega) (by omega)).mono ?_;rintro e w3 ⟨rfl,hr3,hg3⟩;have c3:=LD.out w3 (Yad (Yb3 w1 _) hg3)))
     all_goals
      rw [show ((p:Int)+((n:Int)+1)).toNat=p+(n+1) by omega] at hr3
      have hg4:=Yad hg1 (Yad (Yb3 w1 _) hg3)
      go_wp2
      go_ret2
      exact Y91 (by rw [HBS.out];exact F.out.1) (by rw [HBS.out];exact F.out.2) hr3 hg4
    ·have g0:((y.1.size:Int)==(n:Int)+1)=false:=by rw [beq_eq_false_iff_ne];omega
     have hnin:∀x,x∈Ye0 Ya0 ds (bs.take (n+1))→(Ya0 x).length≠n+1:=by
      intro x hx hlen
      obtain ⟨hxd,hxp⟩:=List.mem_filter.1 hx
      have h2:=Ybz.1 hxp
      rw [List.length_take,Nat.min_eq_left (by rw [BL.out];omega),List.take_of_length_le (by omega)] at h2
      have h3:=Yjf FR.out (x:=Ya0 x) (y:=Ya0 y) (List.mem_map_of_mem hxd) (List.mem_map_of_mem YD.out) (by rw [h2];exact YP.out)
      have h4:(Ya0 y).length=y.1.size:=rfl
      rw [h3] at hlen
      omega
     have F:Hid (tk (ds.map Ya0) bs 25 1=tk (ds.map Ya0) bs (25-(n+1)) (n+1+1)):=Lib.hid (by
      rw [U2.out,if_neg,if_pos (List.any_eq_true.2 ⟨Ya0 y,List.mem_map_of_mem YD.out,YP.out⟩),show 25-(n+1)=24-n by omega]
      intro hm
      have h3:=Yjf FR.out hm (List.mem_map_of_mem YD.out) YP.out
      have h4:=congrArg List.length h3
      rw [List.length_take,Nat.min_eq_left (by rw [BL.out];omega)] at h4
      exact hyn h4.symm)
     have RW:Hid (∀x∈y::l3,n+1<x.1.size∧x.1.size≤24):=Lib.hid (fun x hx=> by
      rw [←HL2.out] at hx
      obtain ⟨hxd,hxp⟩:=List.mem_filter.1 hx
      have h1:=Yby hxp
      rw [List.length_take,Nat.min_eq_left (by rw [BL.out];omega)] at h1
      have h2:=(Ybw (OK.out x hxd)).2.1
      have h3:(Ya0 x).length=x.1.size:=rfl
      have h4:=hnin x hx
      omega)
     have hbn:n+1≤bs.length:=by rw [BL.out];omega
     clear hnin c1
     go_wp2
     go_roundw
     case rel=> exact ⟨n+1,_,y::l3,cap2,by go_num,rfl,hl3,by unfold maxLen;omega,Lib.hid HL2.out.symm,C2.out,HA2,by omega,hbn,F,RW,hb2,hr1⟩
     case measure=> simp [intOf];omega
end Go.Proofs.YtgikochfffdpfaaGreatDoor