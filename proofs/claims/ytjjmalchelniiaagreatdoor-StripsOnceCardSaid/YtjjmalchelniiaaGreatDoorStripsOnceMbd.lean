/- Part 30 of StripsOnce. No condition. -/
import Derived.Test.YtjjmalchelniiaaGreatDoorStripsOnceMe
import Derived.Test.YtjjmalchelniiaaGreatDoorStripsOnceMf
import Derived.Test.YtjjmalchelniiaaGreatDoorStripsOnceMg
import Derived.Test.YtjjmalchelniiaaGreatDoorStripsOnceMu
import Derived.Test.YtjjmalchelniiaaGreatDoorStripsOnceMbb
import Derived.Test.YtjjmalchelniiaaGreatDoorStripsOnceMbc
import Derived.WalkKit
import Derived.OwnWalk
import Derived.Deep.Slices
import Derived.Deep.MidRow
import Derived.Maps.StringElems
import Derived.DeepKeys4
import Derived.BigQuiet
import Derived.Deep.QuietTactic
import Derived.IntWalk
import Derived.RegionTactic
import Derived.Laws.ResultCell
import Derived.Laws.Rows
import Derived.Deep.RegionWith
namespace Go.Proofs.YtjjmalchelniiaaGreatDoor
open Go.RowKit Go.Lib Go.Sort
theorem Ync {p:UInt8→Bool}:∀{l:List UInt8},l.dropWhile p=[]↔l.all p=true
 |[]=>by simp
 |c::l=>by
  cases h:p c with
  |true=>simp only[List.dropWhile_cons,h,if_true,List.all_cons,Bool.true_and];exact Ync
  |false=>simp[h]
theorem Yx4 (l:List UInt8):Lib.trimS l [48,49]=[]↔Yax l=true:=by
 have e:∀c:UInt8,([48,49]:List UInt8).contains c=(c==48 || c==49):=fun c=>by rw[Bool.eq_iff_iff];simp
 unfold Lib.trimS Lib.trimLeftS Lib.trimRightS Yax;simp only[e];rw[Ync,List.all_reverse];constructor
 ·intro h;by_cases hr:l.reverse.dropWhile (fun c=>c==48 || c==49)=[]
  ·rw[Ync,List.all_reverse] at hr;exact hr
  ·exfalso;have h1:=List.all_eq_true.1 h _ (List.head_mem hr);have h2:=List.head_dropWhile_not (fun c:UInt8=>c==48 || c==49) hr;rw[h1] at h2;cases h2
 ·intro h;rw[Ync.2 (by rw[List.all_reverse];exact h)]
  rfl
theorem Y2v (s:ByteArray)(hs:s.size≤9223372036854775807)(w:World):
  Calls Tryz.prog 264 #[.string s,.string ⟨#[48,49]⟩] w fun e w'=>e=.returned (.string ⟨(Lib.trimS s.data.toList [48,49]).toArray⟩)∧Below w.heap.size w w':=
 Any.strings_Trim_laid Tryz.lTrim (by kernel_rfl) s ⟨#[48,49]⟩ w hs (by decide) (ascii_of_all (by decide))
theorem Yn7 (a b:ByteArray)(w:World):
  Calls Tryz.prog 252 #[.string a,.string b] w fun e w'=>e=.returned (.int .i64 (Lib.compareBytes a.data.toList b.data.toList))∧w'=w:=
 Any.strings_Compare Tryz.lCompare a b w
theorem Yle (s p:ByteArray)(w:World):
  Calls Tryz.prog 197 #[.string s,.string p] w fun e w'=>e=.returned (.bool (p.data.toList.isPrefixOf s.data.toList))∧w'=w:=
 Any.strings_HasPrefix Tryz.lHasPrefix s p w
def Qgk (x y:ByteArray×Int):Int:=Lib.compareBytes (Ya1 x) (Ya1 y)
theorem Qbi:SWO (ltOf Qgk):=Y2r Ya1
set_option maxHeartbeats 1000000 in
theorem Yvp (x y:ByteArray×Int)(W:World):Calls Tryz.prog 251 #[.agg #[.string x.1,.int .i64 x.2],.agg #[.string y.1,.int .i64 y.2]] W fun e w'=>e=.returned (.int .i64 (Qgk x y))∧∃q os',w'=grow (W.drewN q) os':=by
 have hcon:=fun W'=>Yn7 x.1 y.1 W';unfold Qgk Ya1;generalize Lib.compareBytes x.1.data.toList y.1.data.toList=r at hcon ⊢
 go_enter Tryz.func251,Tryz.ntmps251
 go_wp2_with (go_at_call 252;refine(hcon _).mono ?_;rintro e w' ⟨rfl,rfl⟩)
 go_ret
 exact⟨rfl,0,_,by rw[alloc_eq_grow,alloc_eq_grow,grow_grow];rfl⟩
theorem Qcb:∀w,(isAgg 286).run Tryz.prog w=.ok true w:=fun _=>by kernel_rfl
theorem Yxk:∀w,(Go.sizeOf 286).run Tryz.prog w=.ok 2 w:=fun _=>by kernel_rfl
theorem Yom:(Tryz.prog.info? 286).map (fun i=>(i.zero,i.size,i.bytes))=some (some (.agg #[.string ⟨#[]⟩,.int .i64 0]),2,24):=by kernel_rfl
theorem Y7t (b off n c:Nat)(news:List Value)(w:World)(hl:news.length=n*2)(hn:n≤1048576)
  (hc:∀j u,news[j]? =some u→w.cell? ⟨b,off+j,none⟩=some u)(h1:∀u∈news,u.oneCell'=true):
  Calls Tryz.prog 248 #[.slice (some ⟨b,off,none⟩) n c] w fun e w'=>∃v',e=.returned v'∧w'.ownsRow w.heap.size 286 2 v' n news∧v'≠.slice none 0 0∧Below w.heap.size w w':=by
 obtain⟨i0,hi,iz0,iz1,iz2⟩:=info_parts Yom;exact AnyE.slices_Clone Tryz.lClone i0 _ 2 24 hi iz0 iz1 iz2 rfl (by decide) Yxk b off n c news w hl (by unfold maxLen;omega) (by omega) hc h1
abbrev Sym:=Fin 6×Fin 4
def sA (s:Sym):Int:=(s.1.val:Int)
def sB (s:Sym):Int:=(s.2.val:Int)
theorem Qjt {s t:Sym}(h1:sA s=sA t)(h2:sB s=sB t):s=t:=by
 unfold sA at h1;unfold sB at h2;exact Prod.ext (Fin.ext (by omega)) (Fin.ext (by omega))
def Yhg (x:ByteArray×Sym):List Value:=[.string x.1,.int .i64 (sA x.2),.int .i64 (sB x.2)]
def Yat (x:ByteArray×Sym):List UInt8:=x.1.data.toList
def Yvq (x y:ByteArray×Sym):Int:=Lib.compareBytes (Yat x) (Yat y)
theorem Y55:SWO (ltOf Yvq):=Y2r Yat
set_option maxHeartbeats 1000000 in
theorem Yta (x y:ByteArray×Sym)(W:World):Calls Tryz.prog 261 #[.agg #[.string x.1,.int .i64 (sA x.2),.int .i64 (sB x.2)],.agg #[.string y.1,.int .i64 (sA y.2),.int .i64 (sB y.2)]] W fun e w'=>e=.returned (.int .i64 (Yvq x y))∧∃q os',w'=grow (W.drewN q) os':=by
 have hcon:=fun W'=>Yn7 x.1 y.1 W';unfold Yvq Yat;generalize Lib.compareBytes x.1.data.toList y.1.data.toList=r at hcon ⊢
 go_enter Tryz.func261,Tryz.ntmps261
 go_wp2_with (go_at_call 252;refine(hcon _).mono ?_;rintro e w' ⟨rfl,rfl⟩)
 go_ret
 exact⟨rfl,0,_,by rw[alloc_eq_grow,alloc_eq_grow,grow_grow];rfl⟩
theorem Y6x:∀w,(isAgg 274).run Tryz.prog w=.ok true w:=fun _=>by kernel_rfl
theorem Yr8:∀w,(Go.sizeOf 274).run Tryz.prog w=.ok 3 w:=fun _=>by kernel_rfl
theorem Ytf (x:ByteArray×Sym):∀v∈Yhg x,v.oneCell'=true:=by
 intro v hv;simp only[Yhg,List.mem_cons,List.not_mem_nil,or_false] at hv;rcases hv with rfl|rfl|rfl <;> rfl
theorem Ylm:(Tryz.prog.info? 274).map (fun i=>(i.zero,i.size,i.bytes))=some (some (.agg #[.string ⟨#[]⟩,.int .i64 0,.int .i64 0]),3,32):=by kernel_rfl
theorem Y3u (b off n c:Nat)(news:List Value)(w:World)(hl:news.length=n*3)(hn:n≤1048576)
  (hc:∀j u,news[j]? =some u→w.cell? ⟨b,off+j,none⟩=some u)(h1:∀u∈news,u.oneCell'=true):
  Calls Tryz.prog 259 #[.slice (some ⟨b,off,none⟩) n c] w fun e w'=>∃v',e=.returned v'∧w'.ownsRow w.heap.size 274 3 v' n news∧v'≠.slice none 0 0∧Below w.heap.size w w':=by
 obtain⟨i0,hi,iz0,iz1,iz2⟩:=info_parts Ylm;exact AnyE.slices_Clone Tryz.lCloneY i0 _ 3 32 hi iz0 iz1 iz2 rfl (by decide) Yr8 b off n c news w hl (by unfold maxLen;omega) (by omega) hc h1
theorem Y4i (i:Nat)(hi:i<100)(w:World):
  Calls Tryz.prog 245 #[.int .i64 i] w fun e w'=>e=.returned (.string ⟨(Lib.decDigits i).toArray⟩)∧w'=w:=
 Any.strconv_Itoa_small Tryz.lItoa i hi w
end Go.Proofs.YtjjmalchelniiaaGreatDoor
namespace Go.Proofs.YtjjmalchelniiaaGreatDoor
open Go.ChangeShapes Go.WideShapes Go.ChangeAt Go.RowKit
def Cds (w:World)(p:Option Addr)(l:List (ByteArray×Int)):Prop:=
 l=[]∨∃b o,p=some ⟨b,o,none⟩∧b<w.heap.size∧∀i,(h:i<l.length)→w.cell? ⟨b,o+i*2,none⟩=some (.string l[i].1)∧w.cell? ⟨b,o+i*2+1,none⟩=some (.int .i64 l[i].2)
theorem Cds.below {w w':World}{p:Option Addr}{l:List (ByteArray×Int)}(h:Cds w p l)(hb:Below w.heap.size w w'):Cds w' p l:=by
 rcases h with h|⟨b,o,h1,h2,h3⟩
 ·exact .inl h
 ·refine .inr ⟨b,o,h1,Nat.lt_of_lt_of_le h2 hb.size,fun i hi=>?_⟩;rw[hb.cell (p:=⟨b,o+i*2,none⟩) h2,hb.cell (p:=⟨b,o+i*2+1,none⟩) h2];exact h3 i hi
theorem Cds.at {w:World}{p:Option Addr}{l:List (ByteArray×Int)}(h:Cds w p l)(h0:0<l.length):
  ∃b o,p=some ⟨b,o,none⟩∧b<w.heap.size∧∀i,(h:i<l.length)→w.cell? ⟨b,o+i*2,none⟩=some (.string l[i].1)∧w.cell? ⟨b,o+i*2+1,none⟩=some (.int .i64 l[i].2):=by
 rcases h with rfl|h
 ·cases h0
 ·exact h
theorem Cds.take {w:World}{p:Option Addr}{l:List (ByteArray×Int)}(h:Cds w p l)(k:Nat):Cds w p (l.take k):=by
 rcases h with rfl|⟨b,o,h1,h2,h3⟩
 ·exact .inl (by simp)
 ·refine .inr ⟨b,o,h1,h2,fun i hi=>?_⟩;rw[List.getElem_take];exact h3 i (by rw[List.length_take] at hi;omega)
theorem Cds.drop {w:World}{b o:Nat}{l:List (ByteArray×Int)}(h:Cds w (some ⟨b,o,none⟩) l)(k:Nat):Cds w (some ⟨b,o+k*2,none⟩) (l.drop k):=by
 rcases h with rfl|⟨b',o',h1,h2,h3⟩
 ·exact .inl (by simp)
 ·cases h1;refine .inr ⟨b,o+k*2,rfl,h2,fun i hi=>?_⟩;have:=h3 (k+i) (by rw[List.length_drop] at hi;omega);rw[List.getElem_drop,show o+k*2+i*2=o+(k+i)*2 by omega];exact this
def Ya4 (l:List (ByteArray×Int)):List Value:=l.flatMap Yv3
theorem Yqh (l:List (ByteArray×Int))(x:ByteArray×Int):Ya4 (l++[x])=Ya4 l++[.string x.1,.int .i64 x.2]:=by simp[Ya4,Yv3]
theorem Yhe (l:List (ByteArray×Int)):(Ya4 l).length=l.length*2:=by
 induction l with
 |nil=>rfl
 |cons x l ih=>
  have e:Ya4 (x::l)=Yv3 x++Ya4 l:=by simp[Ya4]
  rw[e,List.length_append,ih,List.length_cons,Yv3,List.length_cons,List.length_cons,List.length_nil];omega
theorem Yfc (l:List (ByteArray×Int))(j:Nat)(h:j<l.length):(Ya4 l)[j*2]? =some (.string l[j].1)∧(Ya4 l)[j*2+1]? =some (.int .i64 l[j].2):=by
 induction l generalizing j with
 |nil=>exact absurd h (Nat.not_lt_zero j)
 |cons q l ih=>
  have e:Ya4 (q::l)=.string q.1 :: .int .i64 q.2::Ya4 l:=by simp[Ya4,Yv3]
  rw[e];cases j with
  |zero=>exact⟨rfl,rfl⟩
  |succ j=>
   rw[show (j+1)*2=j*2+1+1 by omega,show j*2+1+1+1=(j*2+1)+1+1 by omega,List.getElem?_cons_succ,List.getElem?_cons_succ,List.getElem?_cons_succ,List.getElem?_cons_succ];exact ih j (by simpa using h)
theorem Ytc (l:List (ByteArray×Int)):∀u∈Ya4 l,u.oneCell'=true:=by
 intro u hu;obtain⟨x,_,hx⟩:=List.mem_flatMap.1 hu;exact Y8j x u hx
theorem Yrp {w:World}{base e:Nat}{v:Value}{l:List (ByteArray×Int)}(h:w.ownsRow base e 2 v l.length (Ya4 l)):
  ∃(q:Option Addr) (cap:Nat),v=.slice q l.length cap∧Cds w q l:=by
 have h0:=h;rcases h.2 with ⟨rfl,h1⟩|⟨g,cap,cur,rfl,_,hg,_⟩
 ·exact⟨none,0,by rw[h1],.inl (List.eq_nil_of_length_eq_zero h1)⟩
 ·refine⟨_,cap,rfl,.inr ⟨g,0,rfl,(Array.getElem?_eq_some_iff.1 hg).1,fun i hi=>⟨?_,?_⟩⟩⟩
  ·have:=World.ownsRow.cells (g:=g) h0 rfl (i*2) _ (Yfc l i hi).1;rwa [Addr.add_mid] at this
  ·have:=World.ownsRow.cells (g:=g) h0 rfl (i*2+1) _ (Yfc l i hi).2;rwa [Addr.add_mid] at this
theorem Yqx {P:Program}{w:World}{ops:Array Oper}{rest:List Oper}{o:Oper}{a:Act}{Q:Exit→Act→World→Prop}{sl x:Operand}{t base e c:Nat}{i:TypeInfo}{z v:Value}{n:Nat}{xs:List Value}{K:Nat}{y0:ByteArray}{y1:Int}
  (hgd:o.guard=none)(ho:o.op=.call {callee:=.builtin .append,args:=#[sl,x],argTypes:=#[t,t]})
  (ht:P.underlying t=some (.slice e))(hi:P.info? e=some i)(hz:i.zero=some z)(hzs:z.cells.size=2)(hsize:i.size=2)(hby:i.bytes=24)
  (hs:a.eval sl=v)(hown:w.ownsRow base e 2 v n xs)(hx:a.eval x=.slice (some ⟨K,0,none⟩) 1 c)(c0:w.cell? ⟨K,0,none⟩=some (.string y0))(c1:w.cell? ⟨K,1,none⟩=some (.int .i64 y1))(hn:n≤1048576)(hbase:base≤w.heap.size)
  (h:∀v' w',w'.ownsRow base e 2 v' (n+1) (xs++[.string y0,.int .i64 y1])→w.grownBy w' v.ownBlock→wpList P ops Q rest (a.put o.dst v') w'):wpList P ops Q (o::rest) a w:=
 wpList_append_own w hgd sl x t ho base e i z 2 24 ht hi hz hsize hby hzs (by decide) v n xs hs hown ⟨K,0,none⟩ 1 c [.string y0,.int .i64 y1] hx rfl
  (fun j u hj=>by
   match j,hj with
   |0,hj=>cases hj;exact c0
   |1,hj=>cases hj;exact c1)
  (by intro u hu;simp only[List.mem_cons,List.not_mem_nil,or_false] at hu;rcases hu with rfl|rfl <;> rfl) (by unfold maxLen;omega) (by omega) hbase
  fun v' w' h1 h2 _=>h v' w' h1 h2
section
variable {H:Type}{enc:TypeId×Value→H}{P:Program}
end
def Yms (w:World)(p:Option Addr)(l:List (ByteArray×Sym)):Prop:=
 l=[]∨∃b o,p=some ⟨b,o,none⟩∧b<w.heap.size∧∀i,(h:i<l.length)→w.cell? ⟨b,o+i*3,none⟩=some (.string l[i].1)∧w.cell? ⟨b,o+i*3+1,none⟩=some (.int .i64 (sA l[i].2))∧w.cell? ⟨b,o+i*3+2,none⟩=some (.int .i64 (sB l[i].2))
theorem Yms.below {w w':World}{p:Option Addr}{l:List (ByteArray×Sym)}(h:Yms w p l)(hb:Below w.heap.size w w'):Yms w' p l:=by
 rcases h with h|⟨b,o,h1,h2,h3⟩
 ·exact .inl h
 ·refine .inr ⟨b,o,h1,Nat.lt_of_lt_of_le h2 hb.size,fun i hi=>?_⟩;rw[hb.cell (p:=⟨b,o+i*3,none⟩) h2,hb.cell (p:=⟨b,o+i*3+1,none⟩) h2,hb.cell (p:=⟨b,o+i*3+2,none⟩) h2];exact h3 i hi
theorem Yms.at {w:World}{p:Option Addr}{l:List (ByteArray×Sym)}(h:Yms w p l)(h0:0<l.length):
  ∃b o,p=some ⟨b,o,none⟩∧b<w.heap.size∧∀i,(h:i<l.length)→w.cell? ⟨b,o+i*3,none⟩=some (.string l[i].1)∧w.cell? ⟨b,o+i*3+1,none⟩=some (.int .i64 (sA l[i].2))∧w.cell? ⟨b,o+i*3+2,none⟩=some (.int .i64 (sB l[i].2)):=by
 rcases h with rfl|h
 ·cases h0
 ·exact h
theorem Yms.take {w:World}{p:Option Addr}{l:List (ByteArray×Sym)}(h:Yms w p l)(k:Nat):Yms w p (l.take k):=by
 rcases h with rfl|⟨b,o,h1,h2,h3⟩
 ·exact .inl (by simp)
 ·refine .inr ⟨b,o,h1,h2,fun i hi=>?_⟩;rw[List.getElem_take];exact h3 i (by rw[List.length_take] at hi;omega)
theorem Yms.drop {w:World}{b o:Nat}{l:List (ByteArray×Sym)}(h:Yms w (some ⟨b,o,none⟩) l)(k:Nat):Yms w (some ⟨b,o+k*3,none⟩) (l.drop k):=by
 rcases h with rfl|⟨b',o',h1,h2,h3⟩
 ·exact .inl (by simp)
 ·cases h1;refine .inr ⟨b,o+k*3,rfl,h2,fun i hi=>?_⟩;have:=h3 (k+i) (by rw[List.length_drop] at hi;omega);rw[List.getElem_drop,show o+k*3+i*3=o+(k+i)*3 by omega];exact this
def Yay (l:List (ByteArray×Sym)):List Value:=l.flatMap Yhg
theorem Yn6 (l:List (ByteArray×Sym))(x:ByteArray×Sym):Yay (l++[x])=Yay l++[.string x.1,.int .i64 (sA x.2),.int .i64 (sB x.2)]:=by simp[Yay,Yhg]
theorem Yga (l:List (ByteArray×Sym)):(Yay l).length=l.length*3:=by
 induction l with
 |nil=>rfl
 |cons x l ih=>
  have e:Yay (x::l)=Yhg x++Yay l:=by simp[Yay]
  rw[e,List.length_append,ih,List.length_cons,Yhg,List.length_cons,List.length_cons,List.length_cons,List.length_nil];omega
theorem Ydm (l:List (ByteArray×Sym))(j:Nat)(h:j<l.length):(Yay l)[j*3]? =some (.string l[j].1)∧(Yay l)[j*3+1]? =some (.int .i64 (sA l[j].2))∧(Yay l)[j*3+2]? =some (.int .i64 (sB l[j].2)):=by
 induction l generalizing j with
 |nil=>exact absurd h (Nat.not_lt_zero j)
 |cons q l ih=>
  have e:Yay (q::l)=.string q.1 :: .int .i64 (sA q.2) :: .int .i64 (sB q.2)::Yay l:=by simp[Yay,Yhg]
  rw[e];cases j with
  |zero=>exact⟨rfl,rfl,rfl⟩
  |succ j=>
   have:=ih j (by simpa using h);rw[show (j+1)*3=j*3+1+1+1 by omega,show j*3+1+1+1+1=(j*3+1)+1+1+1 by omega,show j*3+1+1+1+2=(j*3+2)+1+1+1 by omega];simp only[List.getElem?_cons_succ];exact this
theorem Yqg (l:List (ByteArray×Sym)):∀u∈Yay l,u.oneCell'=true:=by
 intro u hu;obtain⟨x,_,hx⟩:=List.mem_flatMap.1 hu;exact Ytf x u hx
theorem Yo5 {w:World}{base e:Nat}{v:Value}{l:List (ByteArray×Sym)}(h:w.ownsRow base e 3 v l.length (Yay l)):
  ∃(q:Option Addr) (cap:Nat),v=.slice q l.length cap∧Yms w q l:=by
 have h0:=h;rcases h.2 with ⟨rfl,h1⟩|⟨g,cap,cur,rfl,_,hg,_⟩
 ·exact⟨none,0,by rw[h1],.inl (List.eq_nil_of_length_eq_zero h1)⟩
 ·refine⟨_,cap,rfl,.inr ⟨g,0,rfl,(Array.getElem?_eq_some_iff.1 hg).1,fun i hi=>⟨?_,?_,?_⟩⟩⟩
  ·have:=World.ownsRow.cells (g:=g) h0 rfl (i*3) _ (Ydm l i hi).1;rwa [Addr.add_mid] at this
  ·have:=World.ownsRow.cells (g:=g) h0 rfl (i*3+1) _ (Ydm l i hi).2.1;rwa [Addr.add_mid] at this
  ·have:=World.ownsRow.cells (g:=g) h0 rfl (i*3+2) _ (Ydm l i hi).2.2;rwa [Addr.add_mid] at this
end Go.Proofs.YtjjmalchelniiaaGreatDoor
namespace Go.Proofs.YtjjmalchelniiaaGreatDoor
open Go.RowKit Go.Maps
theorem Qd6:laidOutB Tryz.prog=true:=by kernel_rfl
theorem Qip:WideMaps.KeyLaw Tryz.prog 272:=deep_law_laid Qd6 (m:=2) (by omega) (of_decide_eq_true (by kernel_rfl)) (by kernel_rfl) (by kernel_rfl)
theorem Yxv:Keyed Tryz.prog 272:=Keyed.of_law Qip
def Qf0 (s:Sym):Value:=.agg #[.int .i64 (sA s),.int .i64 (sB s)]
def Yja (s:Sym):Lit:=.string (keyBytes [.int .i64 (sA s),.int .i64 (sB s)])
theorem Y0o:∀s:Sym,keyOf Tryz.prog 272 (Qf0 s)=some (Yja s):=by
 have h:∀a b:Nat,a<6→b<4→keyOf Tryz.prog 272 (.agg #[.int .i64 (a:Int),.int .i64 (b:Int)])=some (.string (keyBytes [.int .i64 (a:Int),.int .i64 (b:Int)])):=by
  intro a b ha hb;rcases (by omega:a=0∨a=1∨a=2∨a=3∨a=4∨a=5) with rfl|rfl|rfl|rfl|rfl|rfl <;> rcases (by omega:b=0∨b=1∨b=2∨b=3) with rfl|rfl|rfl|rfl <;> kernel_rfl
 exact fun s=>h s.1.val s.2.val s.1.isLt s.2.isLt
theorem Qio {s t:Sym}(h:Yja s=Yja t):s=t:=by
 have hs:=Y0o s;rw[h] at hs;have e:=Yxv.inj hs (Y0o t);unfold Qf0 at e;simp only[Value.agg.injEq,Array.mk.injEq,List.cons.injEq,Value.int.injEq,true_and,and_true] at e;exact Qjt e.1 e.2
abbrev Yto (x:ByteArray×Sym):Lit:=Yja x.2
theorem Ytp (s:Sym):WideAt.IsKeyLit (Yja s):=trivial
def Yuw (x:ByteArray×Sym):DataW Unit:=.lit (.string x.1.data.toList)
def Ygb (D:DataW Unit)(l:List (ByteArray×Sym)):DataW Unit:=l.foldl (fun D x=>D.put (Yto x) (Yuw x)) D
def Yhu (l:List (ByteArray×Sym)):DataW Unit:=Ygb (.map []) l
theorem Yy9 (l:List (ByteArray×Sym))(j:Nat)(h:j<l.length):Yhu (l.take (j+1))=(Yhu (l.take j)).put (Yto l[j]) (Yuw l[j]):=by
 unfold Yhu Ygb;rw[List.take_succ_eq_append_getElem h,List.foldl_append]
 rfl
theorem Y81 {s t:Sym}(h:s≠t):Yja s≠Yja t:=fun e=>h (Qio e)
theorem Yll:∀{l:List (ByteArray×Sym)} {D:DataW Unit} {acc:List Sym},Tidy D→(∀s,has D (Yja s)=true↔s∈acc)→size D=acc.length→acc.Nodup→
  size (Ygb D l)≤acc.length+l.length∧(size (Ygb D l)=acc.length+l.length↔(acc++l.map (·.2)).Nodup)
 |[],D,acc,_,_,h,hn=>⟨by show size D≤_;omega,by rw[List.map_nil,List.append_nil];exact⟨fun _=>hn,fun _=>h⟩⟩
 |x::l,D,acc,ht,hh,hs,hn=>by
  have ht2:=ht.put (k:=Yto x) (Ytp _) (Yuw x);by_cases hx:x.2∈acc
  ·have hh2:∀s,has (D.put (Yto x) (Yuw x)) (Yja s)=true↔s∈acc:=by
    intro s;by_cases e:s=x.2
    ·subst e;exact⟨fun _=>hx,fun _=>has_put_same ht.isMap (Ytp _) _⟩
    ·rw[has_put_other (Y81 e)];exact hh s
   have hs2:size (D.put (Yto x) (Yuw x))=acc.length:=by
    rw[size_put ht,if_pos ((hh x.2).2 hx)];exact hs
   obtain⟨i1,_⟩:=Yll (l:=l) ht2 hh2 hs2 hn;rw[List.length_cons];refine⟨Nat.le_trans i1 (by omega),⟨fun e=>?_,fun hd=>?_⟩⟩
   ·exfalso;have e':size (Ygb (D.put (Yto x) (Yuw x)) l)=acc.length+(l.length+1):=e;omega
   ·exfalso;exact(List.nodup_append.1 hd).2.2 x.2 hx x.2 (by simp) rfl
  ·have hh2:∀s,has (D.put (Yto x) (Yuw x)) (Yja s)=true↔s∈acc++[x.2]:=by
    intro s;rw[List.mem_append,List.mem_singleton];by_cases e:s=x.2
    ·subst e;exact⟨fun _=>.inr rfl,fun _=>has_put_same ht.isMap (Ytp _) _⟩
    ·rw[has_put_other (Y81 e),hh s];exact⟨.inl,fun h=>h.resolve_right e⟩
   have hs2:size (D.put (Yto x) (Yuw x))=(acc++[x.2]).length:=by
    rw[size_put ht,if_neg (fun h=>hx ((hh x.2).1 h)),List.length_append,List.length_singleton,hs]
   have hn2:(acc++[x.2]).Nodup:=List.nodup_append.2 ⟨hn,by simp,fun a ha b hb e=>hx (by rw[List.mem_singleton] at hb;rw[←hb,←e];exact ha)⟩;obtain⟨i1,i2⟩:=Yll (l:=l) ht2 hh2 hs2 hn2;rw[List.length_append,List.length_singleton] at i1 i2;rw[List.length_cons,List.map_cons];rw[List.append_assoc] at i2;refine⟨Nat.le_trans i1 (by omega),?_⟩;rw[show acc.length+(l.length+1)=acc.length+1+l.length by omega]
   exact i2
theorem Yy8 (l:List (ByteArray×Sym)):size (Yhu l)≤l.length∧(size (Yhu l)=l.length↔(l.map (·.2)).Nodup):=by
 have:=Yll (l:=l) (D:=(.map []:DataW Unit)) (acc:=[]) tidy_empty (fun s=>by simp[Maps.has]) rfl List.nodup_nil;simp only[List.length_nil,Nat.zero_add,List.nil_append] at this;exact this
def Yla (p:Option Addr)(l:List (ByteArray×Sym))(at_:Nat)(c:UInt8)(w:World)(e:Ending)(w':World):Prop:=
 ∃q cap,e=.returned (.slice q (if c=48 then l.takeWhile (Ybg Yat at_) else l.dropWhile (Ybg Yat at_)).length cap)∧w=w'∧Yms w q (if c=48 then l.takeWhile (Ybg Yat at_) else l.dropWhile (Ybg Yat at_))∧
  (if c=48 then l.takeWhile (Ybg Yat at_) else l.dropWhile (Ybg Yat at_)).length≤cap∧cap≤maxLen∧∀a,q=some a→∃a',p=some a'∧a'.block=a.block
theorem Y6f {α:Type}(p:α→Bool)(l:List α)(k:Nat)(h1:∀i,(h:i<l.length)→i<k→p l[i]=true)(h2:∀h:k<l.length,p l[k]=false)(hk:k≤l.length):l.takeWhile p=l.take k∧l.dropWhile p=l.drop k:=by
 induction l generalizing k with
 |nil=>simp
 |cons x l ih=>
  cases k with
  |zero=>
   have:=h2 (by simp);simp only[List.getElem_cons_zero] at this;simp[this]
  |succ k=>
   have h0:=h1 0 (by simp) (by omega);simp only[List.getElem_cons_zero] at h0;have:=ih k (fun i hi hik=>by have:=h1 (i+1) (by simpa using hi) (by omega);simpa using this) (fun hk=>by have:=h2 (by simpa using hk);simpa using this) (by simpa using hk);simp[h0,this.1,this.2]
theorem Y4u (x:ByteArray×Sym)(at_:Nat)(h:at_<x.1.size):Ybg Yat at_ x=(x.1[at_]==48):=by
 unfold Ybg Yat;have e:x.1.data.toList[at_]? =some x.1[at_]:=List.getElem?_eq_getElem (show at_<x.1.data.toList.length from h);rw[e]
 rfl
theorem Yiw {l:List (ByteArray×Sym)}{at_ k:Nat}{c:UInt8}{w:World}{p q:Option Addr}{n cap:Nat}(h1:∀i,(h:i<l.length)→i<k→Ybg Yat at_ l[i]=true)(h2:∀h:k<l.length,Ybg Yat at_ l[k]=false)(hk:k≤l.length)
  (hn:n=if c=48 then k else l.length-k)(hq:Yms w q (if c=48 then l.take k else l.drop k))(hcap:n≤cap)(hm:cap≤maxLen)(hsm:∀a,q=some a→∃a',p=some a'∧a'.block=a.block):Yla p l at_ c w (.returned (.slice q n cap)) w:=by
 obtain⟨e1,e2⟩:=Y6f (Ybg Yat at_) l k h1 h2 hk;unfold Yla;rw[e1,e2];by_cases hc:c=48
 ·simp only[hc,if_true] at hn hq ⊢;have hl:(l.take k).length=k:=by rw[List.length_take];omega
  exact⟨q,cap,by rw[hl,hn],trivial,hq,by omega,hm,hsm⟩
 ·simp only[hc,if_false] at hn hq ⊢;have hl:(l.drop k).length=l.length-k:=List.length_drop;exact⟨q,cap,by rw[hl,hn],trivial,hq,by omega,hm,hsm⟩
theorem Y5i {p:Option Addr}:∀a,p=some a→∃a',p=some a'∧a'.block=a.block:=fun a h=>⟨a,h,rfl⟩
theorem Qat {p:Option Addr}{n:Nat}:∀a,Option.map (fun x=>Addr.add x n) p=some a→∃a',p=some a'∧a'.block=a.block:=by
 intro a h;cases p with
 |none=>cases h
 |some b=>cases h;exact⟨b,rfl,by show b.block=(b.add n).block;unfold Addr.add;split <;> rfl⟩
set_option maxRecDepth 100000 in
set_option maxHeartbeats 4000000 in
theorem Y6g (l:List (ByteArray×Sym))(p:Option Addr)(cap at_:Nat)(c:UInt8)(w:World)(hc:Yms w p l)(hlc:l.length≤cap)(hcap:cap≤maxLen)(hrow:∀x∈l,at_<x.1.size∧x.1.size≤24):
  Calls Tryz.prog 263 #[.slice p l.length cap,.int .i64 (at_:Int),.int .u8 (c.toNat:Int)] w (Yla p l at_ c w):=by
 unfold maxLen at hcap;have HR:=Lib.hid hrow;clear hrow;have cc:(c=48∧((c.toNat:Int)==48)=true)∨(c≠48∧((c.toNat:Int)==48)=false):=by
  by_cases h:c=48
  ·exact .inl ⟨h,by rw[h];rfl⟩
  ·refine .inr ⟨h,?_⟩;rw[beq_eq_false_iff_ne];intro e;exact h (UInt8.toNat_inj.1 (by show c.toNat=48;omega))
 go_enter Tryz.func263,Tryz.ntmps263
 go_wp2
 go_loop [7] (fun i=>∃k:Nat,k≤l.length∧i=.int .i64 k∧Hid (∀i,(h:i<l.length)→i<k→Ybg Yat at_ l[i]=true)) (fun i=>l.length-(intOf i).toNat)
 case atStart=>exact⟨0,Nat.zero_le _,rfl,Lib.hid (fun i _ h=>absurd h (Nat.not_lt_zero i))⟩
 case round=>
  obtain⟨k,hk,rfl,hin⟩:=hrel;by_cases hlt:k<l.length
  ·obtain⟨b,o,rfl,_,hcells⟩:=hc.at (by omega);have c0:=(hcells k hlt).1;have hx:=HR.out l[k] (List.getElem_mem hlt);obtain⟨x,hxe⟩:∃x,l[k]=x:=⟨_,rfl⟩;rw[hxe] at c0 hx;obtain⟨hx1,hx2⟩:=hx;have NO:=Lib.hid (show Ybg Yat at_ l[k]=(x.1[at_]==48) by rw[hxe];exact Y4u x at_ hx1);have HC:=Lib.hid hc;clear hcells hxe hc;by_cases h48:x.1[at_].toNat=48
   ·have g0:((x.1[at_].toNat:Int)==48)=true:=by rw[h48];rfl
    have NX:Hid (∀i,(h:i<l.length)→i<k+1→Ybg Yat at_ l[i]=true):=Lib.hid (fun i hi h=>by
     by_cases e:i=k
     ·subst e;rw[NO.out,UInt8.toNat_inj.1 (show x.1[at_].toNat=(48:UInt8).toNat from h48)]
      rfl
     ·exact hin.out i hi (by omega))
    clear h48 cc
    go_wp2
    go_round
    case rel=>exact⟨k+1,by omega,by go_num,NX⟩
    case measure=>simp[intOf];omega
   ·have g0:((x.1[at_].toNat:Int)==48)=false:=by rw[beq_eq_false_iff_ne];omega
    have N2:Hid (∀h:k<l.length,Ybg Yat at_ l[k]=false):=Lib.hid (fun _=>by
     rw[NO.out,beq_eq_false_iff_ne];intro e;exact h48 (by rw[e];rfl))
    clear h48;rcases cc with ⟨hcc,g1⟩|⟨hcc,g1⟩
    ·have C:=Lib.hid hcc;clear hcc
     go_wp2
     go_ret
     exact Yiw hin.out N2.out hk (by rw[if_pos C.out]) (by rw[if_pos C.out];exact HC.out.take k) (by omega) (by unfold maxLen;omega) (fun a h=>⟨a,h,rfl⟩)
    ·have C:=Lib.hid hcc;clear hcc
     go_wp2
     go_ret
     exact Yiw hin.out N2.out hk (by rw[if_neg C.out]) (by rw[if_neg C.out];exact HC.out.drop k) (by omega) (by unfold maxLen;omega) (fun a h=>⟨_,rfl,by cases h;rfl⟩)
  ·obtain rfl:k=l.length:=by omega
   have N2:Hid (∀h:l.length<l.length,Ybg Yat at_ l[l.length]=false):=Lib.hid (fun h=>absurd h (Nat.lt_irrefl _));have HC:=Lib.hid hc;clear hc;rcases cc with ⟨hcc,g1⟩|⟨hcc,g1⟩
   ·have C:=Lib.hid hcc;clear hcc
    go_wp2
    go_ret
    exact Yiw hin.out N2.out hk (by rw[if_pos C.out]) (by rw[if_pos C.out];exact HC.out.take _) (by omega) (by unfold maxLen;omega) (fun a h=>⟨a,h,rfl⟩)
   ·have C:=Lib.hid hcc;clear hcc
    go_wp2
    all_goals
     go_ret
     exact Yiw hin.out N2.out hk (by rw[if_neg C.out,Nat.sub_self]) (by rw[if_neg C.out,List.drop_length];exact .inl rfl) (by omega) (by unfold maxLen;omega) (by first|exact Y5i|exact Qat)
def Qfp (m:Option Nat)(q:Option Addr)(n cap:Nat)(L:Int):List Value:=[.map m,.slice q n cap,.int .i64 L]
def Ygo (m:Option Nat)(q:Option Addr)(n cap:Nat)(L:Int):Obj:=.cells (Qfp m q n cap L).toArray 301 (0,0)
def Qgx (w:World)(lo hi tb:Nat)(ds:List (ByteArray×Sym))(L:Int):Prop:=
 ∃(m:Option Nat) (q:Option Addr) (cap:Nat),w.heap[tb]? =some (Ygo m q ds.length cap L)∧ds.length≤cap∧cap≤maxLen∧Yms w q ds∧∀a,q=some a→lo≤a.block∧a.block<hi
set_option maxHeartbeats 1000000 in
theorem Yuo (s:ByteArray)(hs:s.size≤maxLen)(w:World):
  Calls Tryz.prog 249 #[.string s] w fun e w'=>e=.returned (.bool (Yck s.data.toList))∧Below w.heap.size w w':=by
 unfold maxLen at hs;have hsl:s.data.toList.length=s.size:=rfl;by_cases x0:s.data.toList=[]
 ·have F:=Lib.hid (show Yck s.data.toList=false by rw[x0];rfl);have e0:s.toList.isEmpty=true:=by rw[Lib.toList_data,x0];rfl
  have e1:s.toList=[]:=by rw[Lib.toList_data,x0]
  clear x0 hsl
  go_enter Tryz.func249,Tryz.ntmps249
  go_wp2
  go_ret
  exact⟨Yan F.out.symm,Below.refl _ _⟩
 have e0:s.toList.isEmpty=false:=by rw[Lib.toList_data];simpa using x0
 by_cases x1:24<s.size
 ·have F:=Lib.hid (show Yck s.data.toList=false by
   cases h:Yck s.data.toList with
   |false=>rfl
   |true=>have:=(Yb1 h).2.1;omega)
  have e1:decide ((s.size:Int)≤24)=false:=by simp;omega
  clear x0 hsl x1
  go_enter Tryz.func249,Tryz.ntmps249
  go_wp2
  go_ret
  exact⟨Yan F.out.symm,Below.refl _ _⟩
 have e1:decide ((s.size:Int)≤24)=true:=by simp;omega
 have hk:Yck s.data.toList=Yax s.data.toList:=by
  cases h:Yax s.data.toList with
  |true=>exact Yo2 x0 (by omega) h
  |false=>
   cases h2:Yck s.data.toList with
   |false=>rfl
   |true=>rw[(Yb1 h2).2.2] at h;cases h
 have hk2:(Lib.trimS s.data.toList [48,49]).isEmpty=Yck s.data.toList:=by
  rw[hk,Bool.eq_iff_iff,List.isEmpty_iff,Yx4]
 obtain⟨r,hr⟩:∃r,(⟨(Lib.trimS s.data.toList [48,49]).toArray⟩:ByteArray)=r:=⟨_,rfl⟩;have hr2:r.toList.isEmpty=Yck s.data.toList:=by rw[←hk2,←hr,Lib.toList_data]
 have RR:=Lib.hid hr;have R2:=Lib.hid hr2;clear x0 hsl x1 hk hk2 hr hr2
 go_enter Tryz.func249,Tryz.ntmps249
 go_wp2_with fail
 refine(Y2v s hs _).mono ?_;rintro e w1 ⟨rfl,hb⟩;rw[RR.out]
 go_wp2
 go_ret
 exact⟨Yan R2.out,hb⟩
set_option maxRecDepth 100000 in
set_option maxHeartbeats 4000000 in
theorem Ywt (l:List (ByteArray×Sym))(p:Option Addr)(cap:Nat)(w:World)(r:Bool)(hr:r=true↔∃i,∃h:i+1<l.length,(Yat l[i]).isPrefixOf (Yat l[i+1])=true)(hc:Yms w p l)(hm:l.length≤1048576):
  Calls Tryz.prog 262 #[.slice p l.length cap] w fun e w'=>e=.returned (.bool r)∧Below w.heap.size w w':=by
 have R:=Lib.hid hr;clear hr;obtain⟨B,hB⟩:∃B,w.heap.size=B:=⟨_,rfl⟩;have hE:∀x,Below B w x→∀i,(h:i<l.length)→∃b o,p=some ⟨b,o,none⟩∧∀j,(h:j<l.length)→x.cell? ⟨b,o+j*3,none⟩=some (.string l[j].1):=by
  intro x hx i hi;obtain⟨b,o,rfl,hblt,hcells⟩:=hc.at (by omega);exact⟨b,o,rfl,fun j hj=>(World.cell?_of_block (a:=⟨b,o+j*3,none⟩) (hx.block b (by omega))).trans (hcells j hj).1⟩
 have EE:=Lib.hid hE;have hb0:Below B w w:=Below.refl _ _;have HB:=Lib.hid hB;rw[hB];clear hE hc hB
 go_enter Tryz.func262,Tryz.ntmps262
 go_wp2
 go_loopw [3] (fun i wr=>∃k:Nat,(k<l.length∨k=0)∧i=.int .i64 ((k:Int)+1)∧Below B w wr∧Hid (∀i,(h:i+1<l.length)→i<k→(Yat l[i]).isPrefixOf (Yat l[i+1])=false)) (fun i _=>l.length+1-(intOf i).toNat)
 case atStart=>exact⟨0,.inr rfl,rfl,hb0,Lib.hid (fun i _ h=>absurd h (Nat.not_lt_zero i))⟩
 case round=>
  clear hb0;obtain⟨k,hk,rfl,hb,hin⟩:=hrel;by_cases hlt:k+1<l.length
  ·obtain⟨b,o,rfl,hcells⟩:=EE.out wr hb (k+1) hlt;have c1:=hcells (k+1) hlt;have c0:=hcells k (by omega);obtain⟨x,hx⟩:∃x,l[k+1]=x:=⟨_,rfl⟩;obtain⟨y,hy⟩:∃y,l[k]=y:=⟨_,rfl⟩;rw[hx] at c1;rw[hy] at c0;have HX:=Lib.hid hx;have HY:=Lib.hid hy;have t0:decide ((k:Int)+1<l.length)=true:=by simp;omega
   have hbg:∀w,Calls Tryz.prog 197 #[.string x.1,.string y.1] w fun e w'=>e=.returned (.bool (y.1.data.toList.isPrefixOf x.1.data.toList))∧w'=w:=fun w=>Yle x.1 y.1 w;clear hcells hk hx hy;cases hpre:y.1.data.toList.isPrefixOf x.1.data.toList with
   |true=>
    rw[hpre] at hbg;have F:=Lib.hid (R.out.2 ⟨k,hlt,by rw[HX.out,HY.out];exact hpre⟩);have BG:=Lib.hid hbg;clear hpre hbg
    go_wp2_with fail
    go_quiet ((go_at_call 197;exact Calls.quiet_of_same (BG.out _)))
    go_wp2
    go_ret
    exact⟨Yan F.out.symm,Yem hb _⟩
   |false=>
    rw[hpre] at hbg;have F:Hid (∀i,(h:i+1<l.length)→i<k+1→(Yat l[i]).isPrefixOf (Yat l[i+1])=false):=Lib.hid (fun i hi h=>by
     by_cases e:i=k
     ·subst e;rw[HX.out,HY.out];exact hpre
     ·exact hin.out i hi (by omega))
    have BG:=Lib.hid hbg;clear hpre hbg
    go_wp2_with fail
    go_quiet ((go_at_call 197;exact Calls.quiet_of_same (BG.out _)))
    go_wp2
    go_roundw
    case rel=>exact⟨k+1,.inl hlt,by go_num,Yem hb _,F⟩
    case measure=>simp[intOf];omega
  ·have F:=Lib.hid (show r=false by
    cases hrr:r with
    |false=>rfl
    |true=>
     obtain⟨i,hi,hp⟩:=R.out.1 hrr;rw[hin.out i hi (by omega)] at hp;cases hp)
   have t0:decide ((k:Int)+1<l.length)=false:=by simp;omega
   clear hlt hk
   go_wp2
   go_ret
   exact⟨Yan F.out.symm,hb⟩
def Yky (a b:Int):Obj:=.cells [.int .i64 a,.int .i64 b].toArray 272 (0,0)
theorem Y0v {x:World}{B:Nat}{a b c d:Int}(h:x.heap[B]? =some (Yky a b)):((x.setCell ⟨B,0,none⟩ (.int .i64 c)).setCell ⟨B,1,none⟩ (.int .i64 d)).heap[B]? =some (Yky c d):=
 Yau (o:=1) (.int .i64 d) (Yau (o:=0) (.int .i64 c) h)
theorem Ykz {x:World}{B:Nat}{a b:Int}(h:x.heap[B]? =some (Yky a b)):x.cell? ⟨B,0,none⟩=some (.int .i64 a)∧x.cell? ⟨B,1,none⟩=some (.int .i64 b)∧x.frozen? ⟨B,0,none⟩=false∧x.frozen? ⟨B,1,none⟩=false:=
 ⟨Yab h rfl,Yab h rfl,Yai (o:=0) h,Yai (o:=1) h⟩
theorem Yp2 {w x:World}{B:Nat}{row:Option Nat}{c d:Int}(h:w.grownBy x row)(hB:w.heap.size≤B):w.grownBy ((x.setCell ⟨B,0,none⟩ (.int .i64 c)).setCell ⟨B,1,none⟩ (.int .i64 d)) row:=by
 have g1:=Yap x ⟨B,0,none⟩ (.int .i64 c);have g2:=Yap (x.setCell ⟨B,0,none⟩ (.int .i64 c)) ⟨B,1,none⟩ (.int .i64 d);have g:=Yac g1 g2;refine⟨g.os.trans h.os,g.tape.trans h.tape,g.output.trans h.output,Nat.le_trans h.size g.size,fun k hk hn=>?_⟩;exact(g.block k (Nat.lt_of_lt_of_le hk h.size) (by intro e;injection e with e;have e:k=B:=e;omega)).trans (h.block k hk hn)
theorem Qbr {x:World}{B rb p:Nat}{s:ByteArray}{c d:Int}(h:Yba x rb s p)(hne:rb≠B):Yba ((x.setCell ⟨B,0,none⟩ (.int .i64 c)).setCell ⟨B,1,none⟩ (.int .i64 d)) rb s p:=
 (h.grown (Yap x ⟨B,0,none⟩ (.int .i64 c)) hne).grown (Yap _ ⟨B,1,none⟩ (.int .i64 d)) hne
def Qjk:Sym:=(⟨0,by decide⟩,⟨0,by decide⟩)
def Yu9 (ds:List (ByteArray×Sym))(s:ByteArray)(rb p:Nat)(w:World)(e:Ending)(w':World):Prop:=
 ∃v:Sym,e=.returned (.tuple #[Qf0 v,.int .i64 (tk (ds.map Yat) ((Yad s.data.toList).drop p) 25 1).1])∧
  ((tk (ds.map Yat) ((Yad s.data.toList).drop p) 25 1).1=0→∃x∈ds,Yat x=((Yad s.data.toList).drop p).take (tk (ds.map Yat) ((Yad s.data.toList).drop p) 25 1).2∧x.2=v)∧
  ((tk (ds.map Yat) ((Yad s.data.toList).drop p) 25 1).1≠0→v=Qjk)∧Yba w' rb s (p+(tk (ds.map Yat) ((Yad s.data.toList).drop p) 25 1).2)∧w.grownBy w' (some rb)
theorem Ysj {ds:List (ByteArray×Sym)}{s:ByteArray}{rb p:Nat}{w w':World}{f:Int}(h:tk (ds.map Yat) ((Yad s.data.toList).drop p) 25 1=(f,0))(hf:f≠0)(hr:Yba w' rb s p)(hg:w.grownBy w' (some rb)):
  Yu9 ds s rb p w (.returned (.tuple #[.agg #[.int .i64 0,.int .i64 0],.int .i64 f])) w':=by
 unfold Yu9;rw[h];exact⟨Qjk,rfl,fun e=>absurd e hf,fun _=>rfl,hr,hg⟩
theorem Y6c {ds:List (ByteArray×Sym)}{s:ByteArray}{rb p n:Nat}{w w':World}{v:Sym}(h:tk (ds.map Yat) ((Yad s.data.toList).drop p) 25 1=(0,n))(hx:∃x∈ds,Yat x=((Yad s.data.toList).drop p).take n∧x.2=v)(hr:Yba w' rb s (p+n))(hg:w.grownBy w' (some rb)):
  Yu9 ds s rb p w (.returned (.tuple #[.agg #[.int .i64 (sA v),.int .i64 (sB v)],.int .i64 0])) w':=by
 unfold Yu9;rw[h];exact⟨v,rfl,fun _=>hx,fun e=>absurd rfl e,hr,hg⟩
set_option maxRecDepth 100000 in
set_option maxHeartbeats 8000000 in
theorem Y0u (w:World)(lo hi tb rb:Nat)(ds:List (ByteArray×Sym))(L:Int)(s:ByteArray)(p:Nat)(ht:Qgx w lo hi tb ds L)(hr:Yba w rb s p)(hN:rb<lo∨hi≤rb)
  (hs:ds.Pairwise fun x y=>leL (Yat x) (Yat y)=true)(hf:Yhh (ds.map Yat))(ho:∀x∈ds,Yck (Yat x)=true):
  Calls Tryz.prog 247 #[.pointer (some ⟨tb,0,none⟩),.pointer (some ⟨rb,0,none⟩)] w (Yu9 ds s rb p w):=by
 obtain⟨m,q,cap,h1,h2,h3,hc,hq⟩:=ht;have htb:=(Array.getElem?_eq_some_iff.1 h1).1;have c1:w.cell? ⟨tb,1,none⟩=some (.slice q ds.length cap):=Yab h1 rfl;obtain⟨bs,hbs⟩:∃bs,(Yad s.data.toList).drop p=bs:=⟨_,rfl⟩;have hbl:bs.length=8*s.size-p:=by rw[←hbs,List.length_drop,Yag];rfl
 have hpl:=hr.2.1;have hrlt:=hr.lt;obtain⟨B,hB⟩:∃B,w.heap.size=B:=⟨_,rfl⟩;obtain⟨w0,hw0⟩:∃w0,(w.alloc (Yky 0 0)).alloc (Yky 0 0)=w0:=⟨_,rfl⟩;have hww:Below B w w0:=by rw[←hw0,←hB];exact((Below.refl _ w).alloc (Nat.le_refl _) _).alloc (by simp) _
 have hz0:w0.heap.size=B+2:=by rw[←hw0,←hB];simp
 have hbl0:∀x,Below (B+2) w0 x→x.heap[B]? =some (Yky 0 0)∧x.heap[B+1]? =some (Yky 0 0):=fun x hx=>by
  refine⟨(hx.block B (by omega)).trans ?_,(hx.block (B+1) (by omega)).trans ?_⟩
  ·rw[←hw0,←hB];exact heap_alloc2_old w _ _
  ·rw[←hw0,←hB];exact heap_alloc2_new w _ _
 have hgw:∀x,Below (B+2) w0 x→w.grownBy x (some rb):=fun x hx=>by
  have h:=hww.trans (hx.mono (by omega));rw[←hB] at h;exact⟨h.os,h.tape,h.output,h.size,fun k hk _=>h.block k hk⟩
 have BL0:=Lib.hid hbl0;have GW:=Lib.hid hgw;have hc0:Yms w0 q ds:=hc.below (by rw[hB];exact hww);have hr0:Yba w0 rb s p:=hr.below (by rw[hB];exact hww)
 have c10:((w.alloc (.cells #[.int .i64 0,.int .i64 0] 272 (0,0))).alloc (.cells #[.int .i64 0,.int .i64 0] 272 (0,0))).cell? ⟨tb,1,none⟩=some (.slice q ds.length cap):=(World.cell?_of_block (a:=⟨tb,1,none⟩) ((show (w.alloc (.cells #[.int .i64 0,.int .i64 0] 272 (0,0))).alloc (.cells #[.int .i64 0,.int .i64 0] 272 (0,0))=w0 from hw0)▸hww.block tb (by omega))).trans c1
 have hb0:Below (B+2) w0 w0:=Below.refl _ _;have hrB:rb<B:=by omega
 have HB:=Lib.hid hB;have HW0:=Lib.hid (show (w.alloc (.cells #[.int .i64 0,.int .i64 0] 272 (0,0))).alloc (.cells #[.int .i64 0,.int .i64 0] 272 (0,0))=w0 from hw0);have HZ0:=Lib.hid hz0;have SO:=Lib.hid hs;have FR:=Lib.hid hf;have OK:=Lib.hid ho;have HBS:=Lib.hid hbs;have BL:=Lib.hid hbl;have HQ:=Lib.hid hq;have hd0:Ye5 Yat ds (bs.take 0)=ds:=by rw[List.take_zero];exact Yx0 Yat ds
 have D0:=Lib.hid hd0;have hrow0:∀x∈ds,0<x.1.size∧x.1.size≤24:=fun x hx=>by
  have h:=Yb1 (ho x hx);have h1:(Yat x).length=x.1.size:=rfl;have h2:=List.length_pos_iff.2 h.1;omega
 have R0:=Lib.hid hrow0;have C0:=Lib.hid hc0;clear h1 hB hw0 hww hz0 hbl0 hgw hr hc0 c1 htb hrlt hs hf ho hbs hbl hq hd0 hc hrow0
 go_enter Tryz.func247,Tryz.ntmps247
 go_wp2_with fail
 clear c10;rw[HW0.out,HB.out]
 go_loopw [7,8] (fun u v wr=>∃(n:Nat) (a:Option Addr) (l:List (ByteArray×Sym)) (cap:Nat),v=.int .i64 ((n:Int)+1)∧u=.slice a l.length cap∧l.length≤cap∧cap≤maxLen∧Hid (l=Ye5 Yat ds (bs.take n))∧Yms wr a l∧Hid (∀x,a=some x→lo≤x.block∧x.block<hi)∧n≤23∧n≤bs.length∧
  Hid (tk (ds.map Yat) bs 25 1=tk (ds.map Yat) bs (25-n) (n+1))∧Hid (∀x∈l,n<x.1.size∧x.1.size≤24)∧Below (B+2) w0 wr∧Yba wr rb s p) (fun _ v _=>25-(intOf v).toNat)
 case atStart=>exact⟨0,q,ds,cap,rfl,rfl,h2,h3,Lib.hid D0.out.symm,C0.out,Lib.hid HQ.out,by omega,Nat.zero_le _,Lib.hid rfl,Lib.hid R0.out,hb0,hr0⟩
 case round=>
  clear hb0 hr0 h2 h3;obtain⟨n,a,l,cap,rfl,rfl,hl1,hl2,hl,hc,ha,hn,hnb,htk,hrow,hb,hr⟩:=hrel;unfold maxLen at hl2;have hunf:tk (ds.map Yat) bs (25-n) (n+1)=if bs.length<n+1 then (2,0) else if bs.take (n+1)∈ds.map Yat then (0,n+1) else if (ds.map Yat).any (fun r=>(bs.take (n+1)).isPrefixOf r)=true then tk (ds.map Yat) bs (24-n) (n+1+1) else (3,0):=by
   rw[show 25-n=(24-n)+1 by omega,tk]
  have U:=Lib.hid (htk.out.trans hunf);clear hunf htk
  go_wp2_with fail
  refine(Ybr _ _ _ _ ((n:Int)+1) hr).mono ?_;rintro e w1 ⟨rfl,hb1⟩;have hr1:=hr.below hb1;have hc1:=hc.below hb1;have hb2:Below (B+2) w0 w1:=hb.trans (hb1.mono (by rw[←HZ0.out];exact hb.size));have hg1:=GW.out w1 hb2;obtain⟨hx0,hx1⟩:=BL0.out w1 hb2;obtain⟨n0,n1,_,_⟩:=Ykz hx1;obtain⟨r0,r1,f0,f1⟩:=Ykz hx0;have hHBl:w.heap.size≤B:=Nat.le_of_eq HB.out;clear hr hc hb hb1;by_cases hsh:bs.length<n+1
  ·have hask:ask s.data.toList p ((n:Int)+1)=(0,2):=Ybo (by omega) (by rw[BL.out] at hsh;have:s.data.toList.length=s.size:=rfl;omega);have F:=Lib.hid (U.out.trans (if_pos hsh));rw[hask];clear hsh
   go_wp2
   exact bodyPost_ret (Yam rfl _ _ B 272 _ (0,0) _ rfl (Y0v hx0) Tryz.underlying272 rfl (by kernel_rfl)) rfl (Ysj (by rw[HBS.out];exact F.out) (by decide) (Qbr hr1 (by omega)) (Yp2 hg1 hHBl))
  ·have hfit:p+(n+1)≤8*s.size:=by rw[BL.out] at hsh;omega
   have hask:ask s.data.toList p ((n:Int)+1)=(((Ya3 s.data.toList p (n+1):Nat):Int),0):=by
    have:=Yc8 (l:=s.data.toList) (p:=p) (n:=(n:Int)+1) (by omega) (by have:s.data.toList.length=s.size:=rfl;omega);rw[this,show ((n:Int)+1).toNat=n+1 by omega]
   have U2:=Lib.hid (U.out.trans (if_neg hsh));obtain⟨hnl,hdig⟩:=Yib s.data.toList p n hfit;have hdig2:∃c:UInt8,(c=48∨c=49)∧bs[n]? =some c∧Ya3 s.data.toList p (n+1)%2+48=c.toNat:=by
    have e:bs[n]? =some ((Yad s.data.toList).drop p)[n]:=by rw[←HBS.out];exact List.getElem?_eq_getElem hnl
    rcases hdig with ⟨h1,h2⟩|⟨h1,h2⟩
    ·exact⟨48,.inl rfl,by rw[e,h1],by rw[h2];rfl⟩
    ·exact⟨49,.inr rfl,by rw[e,h1],by rw[h2];rfl⟩
   obtain⟨c,hc49,hbc,htell⟩:=hdig2;have htl:Ya3 s.data.toList p (n+1)≤4294967296:=by
    have h1:=Ycg s.data.toList p (n+1);have h2:2^(n+1)≤2^32:=Nat.pow_le_pow_right (by omega) (by omega);omega
   rw[hask];clear hsh U hask hdig hnl;obtain⟨t,hte⟩:∃t,Ya3 s.data.toList p (n+1)=t:=⟨_,rfl⟩;rw[hte] at htell htl ⊢;have C49:=Lib.hid hc49;have BC:=Lib.hid hbc;have TE:=Lib.hid htell;have hbit:(48+bits .and .i64 ((t:Nat):Int) 1)%256=(c.toNat:Int):=by
    have h1:bits .and .i64 ((t:Nat):Int) 1=(t:Int)%2:=Ygt (t:Int) 1 (by omega);rw[h1];omega
   have BT:=Lib.hid hbit;clear hc49 hbc htell hte hbit
   go_wp2_with fail
   rw[BT.out];refine(Y6g l a cap n c w1 hc1 hl1 (by unfold maxLen;omega) hrow.out).mono ?_;rintro e w2 ⟨a2,cap2,rfl,rfl,hc2,hl3,hl4,ha2⟩;have hnx:(if c=48 then l.takeWhile (Ybg Yat n) else l.dropWhile (Ybg Yat n))=Ye5 Yat ds (bs.take (n+1)):=by
    have hts:(bs.take n).length=n:=by rw[List.length_take];omega
    have hx:=Ysh Yat (l:=ds) (q:=bs.take n) SO.out (fun x hx=>(Yb1 (OK.out x hx)).2.2) (by rw[hts,←hl.out];exact fun x hx=>(hrow.out x hx).1);rw[hts,←hl.out] at hx;have hsn:bs.take (n+1)=bs.take n++[c]:=by
     rw[List.take_add_one,BC.out];rfl
    rw[hsn];rcases C49.out with e|e
    ·rw[e,if_pos rfl];exact hx.1
    ·rw[e,if_neg (by decide)];exact hx.2
   rw[hnx] at hc2 hl3 ⊢;obtain⟨l2,hl2e⟩:∃l2,Ye5 Yat ds (bs.take (n+1))=l2:=⟨_,rfl⟩;rw[hl2e] at hc2 hl3 ⊢;have HL2:=Lib.hid hl2e;have HA2:Hid (∀x,a2=some x→lo≤x.block∧x.block<hi):=Lib.hid (fun x hx=>by
    obtain⟨y,hy,hb⟩:=ha2 x hx;rw[←hb];exact ha.out y hy)
   unfold maxLen at hl4;clear hnx hl2e ha2 hc1 hl1 hl2 ha hl hrow;by_cases h0:l2=[]
   ·have F:Hid (tk (ds.map Yat) bs 25 1=(3,0)):=Lib.hid (by
     have hno:(ds.map Yat).any (fun r=>(bs.take (n+1)).isPrefixOf r)=false:=by
      rw[List.any_eq_false];intro r hr hp;obtain⟨x,hx,rfl⟩:=List.mem_map.1 hr;have:x∈Ye5 Yat ds (bs.take (n+1)):=List.mem_filter.2 ⟨hx,hp⟩;rw[HL2.out,h0] at this;cases this
     rw[U2.out,if_neg,if_neg (by rw[hno];decide)];intro hm;rw[List.any_eq_false] at hno;exact hno _ hm (Ydv _))
    subst h0
    go_wp2
    exact bodyPost_ret (Yam rfl _ _ B 272 _ (0,0) _ rfl (Y0v hx0) Tryz.underlying272 rfl (by kernel_rfl)) rfl (Ysj (by rw[HBS.out];exact F.out) (by decide) (Qbr hr1 (by omega)) (Yp2 hg1 hHBl))
   ·obtain⟨y,l3,rfl⟩:∃y l3,l2=y::l3:=by
     cases l2 with
     |nil=>exact absurd rfl h0
     |cons y l3=>exact⟨y,l3,rfl⟩
    obtain⟨cb,o,rfl,hcb,hcells⟩:=hc2.at (by simp);have c0:=(hcells 0 (by simp)).1;have c1:=(hcells 0 (by simp)).2.1;have c2:=(hcells 0 (by simp)).2.2;simp only[List.getElem_cons_zero,Nat.zero_mul,Nat.add_zero] at c0 c1 c2;have hne:(((l3.length:Nat):Int)+1==0)=false:=by rw[beq_eq_false_iff_ne];omega
    have hyin:y∈Ye5 Yat ds (bs.take (n+1)):=by rw[HL2.out];exact List.mem_cons_self
    obtain⟨hyd,hyp⟩:=List.mem_filter.1 hyin;have hylen:n+1≤y.1.size∧y.1.size≤24:=by
     have h1:=Yb4 hyp;rw[List.length_take] at h1;have h2:=(Yb1 (OK.out y hyd)).2.1;have h3:(Yat y).length=y.1.size:=rfl;have h4:n+1≤bs.length:=by rw[BL.out];omega
     omega
    have YD:=Lib.hid hyd;have YP:=Lib.hid hyp;have HC:=Lib.hid hcells;have C2:=Lib.hid hc2;clear hyin hyd hyp hcells hc2 h0;obtain⟨y0,y1⟩:=hylen;by_cases hyn:y.1.size=n+1
    ·have g0:((y.1.size:Int)==(n:Int)+1)=true:=by rw[beq_iff_eq];omega
     have F:Hid (tk (ds.map Yat) bs 25 1=(0,n+1)∧∃x∈ds,Yat x=bs.take (n+1)∧x.2=y.2):=Lib.hid (by
      have h1:bs.take (n+1)=Yat y:=by
       have h2:=Yb5.1 YP.out;have h3:(Yat y).length=n+1:=hyn;rw[List.length_take,Nat.min_eq_left (by rw[BL.out];omega),List.take_of_length_le (by omega)] at h2;exact h2.symm
      refine⟨?_,y,YD.out,h1.symm,rfl⟩;rw[U2.out,if_pos (by rw[h1];exact List.mem_map_of_mem YD.out)])
     have hcr:cb≠rb:=by have:=HA2.out _ rfl;simp at this;omega
     have hld:∀x,w1.grownBy x (some rb)→x.cell? ⟨cb,o+1,none⟩=some (.int .i64 (sA y.2))∧x.cell? ⟨cb,o+2,none⟩=some (.int .i64 (sB y.2))∧x.heap[B]? =some (Yky 0 0):=fun x hx=>
      ⟨(World.cell?_of_block (a:=⟨cb,o+1,none⟩) (hx.block cb hcb (by intro e;injection e with e;exact hcr e))).trans c1,(World.cell?_of_block (a:=⟨cb,o+2,none⟩) (hx.block cb hcb (by intro e;injection e with e;exact hcr e))).trans c2,
       (hx.block B (Array.getElem?_eq_some_iff.1 hx0).1 (by intro e;injection e with e;omega)).trans hx0⟩
     have LD:=Lib.hid hld;have hr1d:Yba w1.drew rb s p:=hr1;have hps:p≤1125899906842624:=by have:=hr1.2;omega
     have hsd:p+(n+1)≤8*s.size:=hfit;clear hyn hld
     go_wp2_with fail
     have sw:IntKind.i64.wrap ((p:Int)+((n:Int)+1))=(p:Int)+((n:Int)+1):=IntWalk.i64_in _ (by omega)
     go_region_with (first|(go_at_call 28;refine(Yb7 _ _ _ _ (by assumption)).mono ?_;rintro e w3 ⟨rfl,rfl⟩)|(go_at_call 91;refine(Yb2 _ _ _ _ _ (by assumption) (by omega) (by omega)).mono ?_;rintro e w3 ⟨rfl,hr3,hg3⟩;obtain⟨c3,c4,hx3⟩:=LD.out w3 (Yac (Yb9 w1 _) hg3);obtain⟨r30,r31,f30,f31⟩:=Ykz hx3))
     all_goals
      rw[show ((p:Int)+((n:Int)+1)).toNat=p+(n+1) by omega] at hr3;have hg4:=Yac hg1 (Yac (Yb9 w1 _) hg3)
      go_wp2
      exact bodyPost_ret (Yam rfl _ _ B 272 _ (0,0) _ rfl (Y0v hx3) Tryz.underlying272 rfl (by kernel_rfl)) rfl (Y6c (by rw[HBS.out];exact F.out.1) (by rw[HBS.out];exact F.out.2) (Qbr hr3 (by omega)) (Yp2 hg4 hHBl))
    ·have g0:((y.1.size:Int)==(n:Int)+1)=false:=by rw[beq_eq_false_iff_ne];omega
     have hnin:∀x,x∈Ye5 Yat ds (bs.take (n+1))→(Yat x).length≠n+1:=by
      intro x hx hlen;obtain⟨hxd,hxp⟩:=List.mem_filter.1 hx;have h2:=Yb5.1 hxp;rw[List.length_take,Nat.min_eq_left (by rw[BL.out];omega),List.take_of_length_le (by omega)] at h2;have h3:=Yjl FR.out (x:=Yat x) (y:=Yat y) (List.mem_map_of_mem hxd) (List.mem_map_of_mem YD.out) (by rw[h2];exact YP.out);have h4:(Yat y).length=y.1.size:=rfl;rw[h3] at hlen;omega
     have F:Hid (tk (ds.map Yat) bs 25 1=tk (ds.map Yat) bs (25-(n+1)) (n+1+1)):=Lib.hid (by
      rw[U2.out,if_neg,if_pos (List.any_eq_true.2 ⟨Yat y,List.mem_map_of_mem YD.out,YP.out⟩),show 25-(n+1)=24-n by omega];intro hm;have h3:=Yjl FR.out hm (List.mem_map_of_mem YD.out) YP.out;have h4:=congrArg List.length h3;rw[List.length_take,Nat.min_eq_left (by rw[BL.out];omega)] at h4;exact hyn h4.symm)
     have RW:Hid (∀x∈y::l3,n+1<x.1.size∧x.1.size≤24):=Lib.hid (fun x hx=>by
      rw[←HL2.out] at hx;obtain⟨hxd,hxp⟩:=List.mem_filter.1 hx;have h1:=Yb4 hxp;rw[List.length_take,Nat.min_eq_left (by rw[BL.out];omega)] at h1;have h2:=(Yb1 (OK.out x hxd)).2.1;have h3:(Yat x).length=x.1.size:=rfl;have h4:=hnin x hx;omega)
     have hbn:n+1≤bs.length:=by rw[BL.out];omega
     clear hnin c1 c2 hx0 hx1 n0 n1 r0 r1 f0 f1
     go_wp2
     go_roundw
     case rel=>exact⟨n+1,_,y::l3,cap2,by go_num,rfl,hl3,by unfold maxLen;omega,Lib.hid HL2.out.symm,C2.out,HA2,by omega,hbn,F,RW,hb2,hr1⟩
     case measure=>simp[intOf];omega
abbrev Qd3 (x:ByteArray×Int):Lit:=.int .i64 x.2
theorem Yzu (s:Int):WideAt.IsKeyLit (.int .i64 s):=trivial
def Qfz (x:ByteArray×Int):DataW Unit:=.lit (.string x.1.data.toList)
def Yht (D:DataW Unit)(l:List (ByteArray×Int)):DataW Unit:=l.foldl (fun D x=>D.put (Qd3 x) (Qfz x)) D
def Ymx (l:List (ByteArray×Int)):DataW Unit:=Yht (.map []) l
theorem Y31 (l:List (ByteArray×Int))(j:Nat)(h:j<l.length):Ymx (l.take (j+1))=(Ymx (l.take j)).put (Qd3 l[j]) (Qfz l[j]):=by
 unfold Ymx Yht;rw[List.take_succ_eq_append_getElem h,List.foldl_append]
 rfl
theorem Qgo {s t:Int}(h:s≠t):(Lit.int .i64 s)≠.int .i64 t:=by
 intro e;injection e with _ e;exact h e
theorem Yoj:∀{l:List (ByteArray×Int)} {D:DataW Unit} {acc:List Int},Tidy D→(∀s,has D (.int .i64 s)=true↔s∈acc)→size D=acc.length→acc.Nodup→
  size (Yht D l)≤acc.length+l.length∧(size (Yht D l)=acc.length+l.length↔(acc++l.map (·.2)).Nodup)
 |[],D,acc,_,_,h,hn=>⟨by show size D≤_;omega,by rw[List.map_nil,List.append_nil];exact⟨fun _=>hn,fun _=>h⟩⟩
 |x::l,D,acc,ht,hh,hs,hn=>by
  have ht2:=ht.put (k:=Qd3 x) (Yzu _) (Qfz x);by_cases hx:x.2∈acc
  ·have hh2:∀s,has (D.put (Qd3 x) (Qfz x)) (.int .i64 s)=true↔s∈acc:=by
    intro s;by_cases e:s=x.2
    ·subst e;exact⟨fun _=>hx,fun _=>has_put_same ht.isMap (Yzu _) _⟩
    ·rw[has_put_other (Qgo e)];exact hh s
   have hs2:size (D.put (Qd3 x) (Qfz x))=acc.length:=by
    rw[size_put ht,if_pos ((hh x.2).2 hx)];exact hs
   obtain⟨i1,_⟩:=Yoj (l:=l) ht2 hh2 hs2 hn;rw[List.length_cons];refine⟨Nat.le_trans i1 (by omega),⟨fun e=>?_,fun hd=>?_⟩⟩
   ·exfalso;have e':size (Yht (D.put (Qd3 x) (Qfz x)) l)=acc.length+(l.length+1):=e;omega
   ·exfalso;exact(List.nodup_append.1 hd).2.2 x.2 hx x.2 (by simp) rfl
  ·have hh2:∀s,has (D.put (Qd3 x) (Qfz x)) (.int .i64 s)=true↔s∈acc++[x.2]:=by
    intro s;rw[List.mem_append,List.mem_singleton];by_cases e:s=x.2
    ·subst e;exact⟨fun _=>.inr rfl,fun _=>has_put_same ht.isMap (Yzu _) _⟩
    ·rw[has_put_other (Qgo e),hh s];exact⟨.inl,fun h=>h.resolve_right e⟩
   have hs2:size (D.put (Qd3 x) (Qfz x))=(acc++[x.2]).length:=by
    rw[size_put ht,if_neg (fun h=>hx ((hh x.2).1 h)),List.length_append,List.length_singleton,hs]
   have hn2:(acc++[x.2]).Nodup:=List.nodup_append.2 ⟨hn,by simp,fun a ha b hb e=>hx (by rw[List.mem_singleton] at hb;rw[←hb,←e];exact ha)⟩;obtain⟨i1,i2⟩:=Yoj (l:=l) ht2 hh2 hs2 hn2;rw[List.length_append,List.length_singleton] at i1 i2;rw[List.length_cons,List.map_cons];rw[List.append_assoc] at i2;refine⟨Nat.le_trans i1 (by omega),?_⟩;rw[show acc.length+(l.length+1)=acc.length+1+l.length by omega]
   exact i2
theorem Y30 (l:List (ByteArray×Int)):size (Ymx l)≤l.length∧(size (Ymx l)=l.length↔(l.map (·.2)).Nodup):=by
 have:=Yoj (l:=l) (D:=(.map []:DataW Unit)) (acc:=[]) tidy_empty (fun s=>by simp[Maps.has]) rfl List.nodup_nil;simp only[List.length_nil,Nat.zero_add,List.nil_append] at this;exact this
def Yu8 (w:World)(m:Option Nat)(ds:List (ByteArray×Int)):Prop:=
 (m=none∧ds=[])∨∃bm n l,m=some bm∧w.ownsMap Tryz.prog 3 (plainElem Tryz.prog 9) bm n (Ymx l)∧(l.map (·.2)).Nodup∧l.Perm ds
theorem Yu8.below {w w':World}{m:Option Nat}{ds:List (ByteArray×Int)}(h:Yu8 w m ds)(hb:Below w.heap.size w w'):Yu8 w' m ds:=by
 rcases h with h|⟨bm,n,l,rfl,ho,hn,hp⟩
 ·exact .inl h
 ·refine .inr ⟨bm,n,l,rfl,?_,hn,hp⟩;exact ho.kept (row:=none) ⟨hb.os,hb.tape,hb.output,hb.size,fun k hk _=>hb.block k hk⟩ (by simp)
theorem Qhy:Keyed Tryz.prog 3:=int_keyed Tryz.underlying3
def Ynr (p:Option Addr)(l:List (ByteArray×Int))(at_:Nat)(c:UInt8)(w:World)(e:Ending)(w':World):Prop:=
 ∃q cap,e=.returned (.slice q (if c=48 then l.takeWhile (Ybg Ya1 at_) else l.dropWhile (Ybg Ya1 at_)).length cap)∧w=w'∧Cds w q (if c=48 then l.takeWhile (Ybg Ya1 at_) else l.dropWhile (Ybg Ya1 at_))∧
  (if c=48 then l.takeWhile (Ybg Ya1 at_) else l.dropWhile (Ybg Ya1 at_)).length≤cap∧cap≤maxLen∧∀a,q=some a→∃a',p=some a'∧a'.block=a.block
theorem Qbw {α:Type}(p:α→Bool)(l:List α)(k:Nat)(h1:∀i,(h:i<l.length)→i<k→p l[i]=true)(h2:∀h:k<l.length,p l[k]=false)(hk:k≤l.length):l.takeWhile p=l.take k∧l.dropWhile p=l.drop k:=by
 induction l generalizing k with
 |nil=>simp
 |cons x l ih=>
  cases k with
  |zero=>
   have:=h2 (by simp);simp only[List.getElem_cons_zero] at this;simp[this]
  |succ k=>
   have h0:=h1 0 (by simp) (by omega);simp only[List.getElem_cons_zero] at h0;have:=ih k (fun i hi hik=>by have:=h1 (i+1) (by simpa using hi) (by omega);simpa using this) (fun hk=>by have:=h2 (by simpa using hk);simpa using this) (by simpa using hk);simp[h0,this.1,this.2]
theorem Y9j (x:ByteArray×Int)(at_:Nat)(h:at_<x.1.size):Ybg Ya1 at_ x=(x.1[at_]==48):=by
 unfold Ybg Ya1;have e:x.1.data.toList[at_]? =some x.1[at_]:=List.getElem?_eq_getElem (show at_<x.1.data.toList.length from h);rw[e]
 rfl
theorem Yk1 {l:List (ByteArray×Int)}{at_ k:Nat}{c:UInt8}{w:World}{p q:Option Addr}{n cap:Nat}(h1:∀i,(h:i<l.length)→i<k→Ybg Ya1 at_ l[i]=true)(h2:∀h:k<l.length,Ybg Ya1 at_ l[k]=false)(hk:k≤l.length)
  (hn:n=if c=48 then k else l.length-k)(hq:Cds w q (if c=48 then l.take k else l.drop k))(hcap:n≤cap)(hm:cap≤maxLen)(hsm:∀a,q=some a→∃a',p=some a'∧a'.block=a.block):Ynr p l at_ c w (.returned (.slice q n cap)) w:=by
 obtain⟨e1,e2⟩:=Qbw (Ybg Ya1 at_) l k h1 h2 hk;unfold Ynr;rw[e1,e2];by_cases hc:c=48
 ·simp only[hc,if_true] at hn hq ⊢;have hl:(l.take k).length=k:=by rw[List.length_take];omega
  exact⟨q,cap,by rw[hl,hn],trivial,hq,by omega,hm,hsm⟩
 ·simp only[hc,if_false] at hn hq ⊢;have hl:(l.drop k).length=l.length-k:=List.length_drop;exact⟨q,cap,by rw[hl,hn],trivial,hq,by omega,hm,hsm⟩
theorem Qau {p:Option Addr}:∀a,p=some a→∃a',p=some a'∧a'.block=a.block:=fun a h=>⟨a,h,rfl⟩
theorem Qfb {p:Option Addr}{n:Nat}:∀a,Option.map (fun x=>Addr.add x n) p=some a→∃a',p=some a'∧a'.block=a.block:=by
 intro a h;cases p with
 |none=>cases h
 |some b=>cases h;exact⟨b,rfl,by show b.block=(b.add n).block;unfold Addr.add;split <;> rfl⟩
set_option maxRecDepth 100000 in
set_option maxHeartbeats 4000000 in
theorem Qbx (l:List (ByteArray×Int))(p:Option Addr)(cap at_:Nat)(c:UInt8)(w:World)(hc:Cds w p l)(hlc:l.length≤cap)(hcap:cap≤maxLen)(hrow:∀x∈l,at_<x.1.size∧x.1.size≤24):
  Calls Tryz.prog 254 #[.slice p l.length cap,.int .i64 (at_:Int),.int .u8 (c.toNat:Int)] w (Ynr p l at_ c w):=by
 unfold maxLen at hcap;have HR:=Lib.hid hrow;clear hrow;have cc:(c=48∧((c.toNat:Int)==48)=true)∨(c≠48∧((c.toNat:Int)==48)=false):=by
  by_cases h:c=48
  ·exact .inl ⟨h,by rw[h];rfl⟩
  ·refine .inr ⟨h,?_⟩;rw[beq_eq_false_iff_ne];intro e;exact h (UInt8.toNat_inj.1 (by show c.toNat=48;omega))
 go_enter Tryz.func254,Tryz.ntmps254
 go_wp2
 go_loop [7] (fun i=>∃k:Nat,k≤l.length∧i=.int .i64 k∧Hid (∀i,(h:i<l.length)→i<k→Ybg Ya1 at_ l[i]=true)) (fun i=>l.length-(intOf i).toNat)
 case atStart=>exact⟨0,Nat.zero_le _,rfl,Lib.hid (fun i _ h=>absurd h (Nat.not_lt_zero i))⟩
 case round=>
  obtain⟨k,hk,rfl,hin⟩:=hrel;by_cases hlt:k<l.length
  ·obtain⟨b,o,rfl,_,hcells⟩:=hc.at (by omega);have c0:=(hcells k hlt).1;have hx:=HR.out l[k] (List.getElem_mem hlt);obtain⟨x,hxe⟩:∃x,l[k]=x:=⟨_,rfl⟩;rw[hxe] at c0 hx;obtain⟨hx1,hx2⟩:=hx;have NO:=Lib.hid (show Ybg Ya1 at_ l[k]=(x.1[at_]==48) by rw[hxe];exact Y9j x at_ hx1);have HC:=Lib.hid hc;clear hcells hxe hc;by_cases h48:x.1[at_].toNat=48
   ·have g0:((x.1[at_].toNat:Int)==48)=true:=by rw[h48];rfl
    have NX:Hid (∀i,(h:i<l.length)→i<k+1→Ybg Ya1 at_ l[i]=true):=Lib.hid (fun i hi h=>by
     by_cases e:i=k
     ·subst e;rw[NO.out,UInt8.toNat_inj.1 (show x.1[at_].toNat=(48:UInt8).toNat from h48)]
      rfl
     ·exact hin.out i hi (by omega))
    clear h48 cc
    go_wp2
    go_round
    case rel=>exact⟨k+1,by omega,by go_num,NX⟩
    case measure=>simp[intOf];omega
   ·have g0:((x.1[at_].toNat:Int)==48)=false:=by rw[beq_eq_false_iff_ne];omega
    have N2:Hid (∀h:k<l.length,Ybg Ya1 at_ l[k]=false):=Lib.hid (fun _=>by
     rw[NO.out,beq_eq_false_iff_ne];intro e;exact h48 (by rw[e];rfl))
    clear h48;rcases cc with ⟨hcc,g1⟩|⟨hcc,g1⟩
    ·have C:=Lib.hid hcc;clear hcc
     go_wp2
     go_ret
     exact Yk1 hin.out N2.out hk (by rw[if_pos C.out]) (by rw[if_pos C.out];exact HC.out.take k) (by omega) (by unfold maxLen;omega) (fun a h=>⟨a,h,rfl⟩)
    ·have C:=Lib.hid hcc;clear hcc
     go_wp2
     go_ret
     exact Yk1 hin.out N2.out hk (by rw[if_neg C.out]) (by rw[if_neg C.out];exact HC.out.drop k) (by omega) (by unfold maxLen;omega) (fun a h=>⟨_,rfl,by cases h;rfl⟩)
  ·obtain rfl:k=l.length:=by omega
   have N2:Hid (∀h:l.length<l.length,Ybg Ya1 at_ l[l.length]=false):=Lib.hid (fun h=>absurd h (Nat.lt_irrefl _));have HC:=Lib.hid hc;clear hc;rcases cc with ⟨hcc,g1⟩|⟨hcc,g1⟩
   ·have C:=Lib.hid hcc;clear hcc
    go_wp2
    go_ret
    exact Yk1 hin.out N2.out hk (by rw[if_pos C.out]) (by rw[if_pos C.out];exact HC.out.take _) (by omega) (by unfold maxLen;omega) (fun a h=>⟨a,h,rfl⟩)
   ·have C:=Lib.hid hcc;clear hcc
    go_wp2
    all_goals
     go_ret
     exact Yk1 hin.out N2.out hk (by rw[if_neg C.out,Nat.sub_self]) (by rw[if_neg C.out,List.drop_length];exact .inl rfl) (by omega) (by unfold maxLen;omega) (by first|exact Qau|exact Qfb)
def Qiq (m:Option Nat)(q:Option Addr)(n cap:Nat)(L:Int):List Value:=[.map m,.slice q n cap,.int .i64 L]
def Yl3 (m:Option Nat)(q:Option Addr)(n cap:Nat)(L:Int):Obj:=.cells (Qiq m q n cap L).toArray 288 (0,0)
def Qgw (w:World)(lo N tb:Nat)(ds:List (ByteArray×Int))(L:Int):Prop:=
 ∃(m:Option Nat) (q:Option Addr) (cap:Nat),w.heap[tb]? =some (Yl3 m q ds.length cap L)∧ds.length≤cap∧cap≤maxLen∧Cds w q ds∧Yu8 w m ds∧∀a,q=some a→lo≤a.block∧a.block<N
set_option maxHeartbeats 1000000 in
theorem Yxx (s:ByteArray)(hs:s.size≤maxLen)(w:World):
  Calls Tryz.prog 249 #[.string s] w fun e w'=>e=.returned (.bool (Yck s.data.toList))∧Below w.heap.size w w':=by
 unfold maxLen at hs;have hsl:s.data.toList.length=s.size:=rfl;by_cases x0:s.data.toList=[]
 ·have F:=Lib.hid (show Yck s.data.toList=false by rw[x0];rfl);have e0:s.toList.isEmpty=true:=by rw[Lib.toList_data,x0];rfl
  have e1:s.toList=[]:=by rw[Lib.toList_data,x0]
  clear x0 hsl
  go_enter Tryz.func249,Tryz.ntmps249
  go_wp2
  go_ret
  exact⟨Yan F.out.symm,Below.refl _ _⟩
 have e0:s.toList.isEmpty=false:=by rw[Lib.toList_data];simpa using x0
 by_cases x1:24<s.size
 ·have F:=Lib.hid (show Yck s.data.toList=false by
   cases h:Yck s.data.toList with
   |false=>rfl
   |true=>have:=(Yb1 h).2.1;omega)
  have e1:decide ((s.size:Int)≤24)=false:=by simp;omega
  clear x0 hsl x1
  go_enter Tryz.func249,Tryz.ntmps249
  go_wp2
  go_ret
  exact⟨Yan F.out.symm,Below.refl _ _⟩
 have e1:decide ((s.size:Int)≤24)=true:=by simp;omega
 have hk:Yck s.data.toList=Yax s.data.toList:=by
  cases h:Yax s.data.toList with
  |true=>exact Yo2 x0 (by omega) h
  |false=>
   cases h2:Yck s.data.toList with
   |false=>rfl
   |true=>rw[(Yb1 h2).2.2] at h;cases h
 have hk2:(Lib.trimS s.data.toList [48,49]).isEmpty=Yck s.data.toList:=by
  rw[hk,Bool.eq_iff_iff,List.isEmpty_iff,Yx4]
 obtain⟨r,hr⟩:∃r,(⟨(Lib.trimS s.data.toList [48,49]).toArray⟩:ByteArray)=r:=⟨_,rfl⟩;have hr2:r.toList.isEmpty=Yck s.data.toList:=by rw[←hk2,←hr,Lib.toList_data]
 have RR:=Lib.hid hr;have R2:=Lib.hid hr2;clear x0 hsl x1 hk hk2 hr hr2
 go_enter Tryz.func249,Tryz.ntmps249
 go_wp2_with fail
 refine(Y2v s hs _).mono ?_;rintro e w1 ⟨rfl,hb⟩;rw[RR.out]
 go_wp2
 go_ret
 exact⟨Yan R2.out,hb⟩
set_option maxRecDepth 100000 in
set_option maxHeartbeats 4000000 in
theorem Yzy (l:List (ByteArray×Int))(p:Option Addr)(cap:Nat)(w:World)(r:Bool)(hr:r=true↔∃i,∃h:i+1<l.length,(Ya1 l[i]).isPrefixOf (Ya1 l[i+1])=true)(hc:Cds w p l)(hm:l.length≤1048576):
  Calls Tryz.prog 253 #[.slice p l.length cap] w fun e w'=>e=.returned (.bool r)∧Below w.heap.size w w':=by
 have R:=Lib.hid hr;clear hr;obtain⟨B,hB⟩:∃B,w.heap.size=B:=⟨_,rfl⟩;have hE:∀x,Below B w x→∀i,(h:i<l.length)→∃b o,p=some ⟨b,o,none⟩∧∀j,(h:j<l.length)→x.cell? ⟨b,o+j*2,none⟩=some (.string l[j].1):=by
  intro x hx i hi;obtain⟨b,o,rfl,hblt,hcells⟩:=hc.at (by omega);exact⟨b,o,rfl,fun j hj=>(World.cell?_of_block (a:=⟨b,o+j*2,none⟩) (hx.block b (by omega))).trans (hcells j hj).1⟩
 have EE:=Lib.hid hE;have hb0:Below B w w:=Below.refl _ _;have HB:=Lib.hid hB;rw[hB];clear hE hc hB
 go_enter Tryz.func253,Tryz.ntmps253
 go_wp2
 go_loopw [3] (fun i wr=>∃k:Nat,(k<l.length∨k=0)∧i=.int .i64 ((k:Int)+1)∧Below B w wr∧Hid (∀i,(h:i+1<l.length)→i<k→(Ya1 l[i]).isPrefixOf (Ya1 l[i+1])=false)) (fun i _=>l.length+1-(intOf i).toNat)
 case atStart=>exact⟨0,.inr rfl,rfl,hb0,Lib.hid (fun i _ h=>absurd h (Nat.not_lt_zero i))⟩
 case round=>
  clear hb0;obtain⟨k,hk,rfl,hb,hin⟩:=hrel;by_cases hlt:k+1<l.length
  ·obtain⟨b,o,rfl,hcells⟩:=EE.out wr hb (k+1) hlt;have c1:=hcells (k+1) hlt;have c0:=hcells k (by omega);obtain⟨x,hx⟩:∃x,l[k+1]=x:=⟨_,rfl⟩;obtain⟨y,hy⟩:∃y,l[k]=y:=⟨_,rfl⟩;rw[hx] at c1;rw[hy] at c0;have HX:=Lib.hid hx;have HY:=Lib.hid hy;have t0:decide ((k:Int)+1<l.length)=true:=by simp;omega
   have hbg:∀w,Calls Tryz.prog 197 #[.string x.1,.string y.1] w fun e w'=>e=.returned (.bool (y.1.data.toList.isPrefixOf x.1.data.toList))∧w'=w:=fun w=>Yle x.1 y.1 w;clear hcells hk hx hy;cases hpre:y.1.data.toList.isPrefixOf x.1.data.toList with
   |true=>
    rw[hpre] at hbg;have F:=Lib.hid (R.out.2 ⟨k,hlt,by rw[HX.out,HY.out];exact hpre⟩);have BG:=Lib.hid hbg;clear hpre hbg
    go_wp2_with fail
    go_quiet ((go_at_call 197;exact Calls.quiet_of_same (BG.out _)))
    go_wp2
    go_ret
    exact⟨Yan F.out.symm,Yem hb _⟩
   |false=>
    rw[hpre] at hbg;have F:Hid (∀i,(h:i+1<l.length)→i<k+1→(Ya1 l[i]).isPrefixOf (Ya1 l[i+1])=false):=Lib.hid (fun i hi h=>by
     by_cases e:i=k
     ·subst e;rw[HX.out,HY.out];exact hpre
     ·exact hin.out i hi (by omega))
    have BG:=Lib.hid hbg;clear hpre hbg
    go_wp2_with fail
    go_quiet ((go_at_call 197;exact Calls.quiet_of_same (BG.out _)))
    go_wp2
    go_roundw
    case rel=>exact⟨k+1,.inl hlt,by go_num,Yem hb _,F⟩
    case measure=>simp[intOf];omega
  ·have F:=Lib.hid (show r=false by
    cases hrr:r with
    |false=>rfl
    |true=>
     obtain⟨i,hi,hp⟩:=R.out.1 hrr;rw[hin.out i hi (by omega)] at hp;cases hp)
   have t0:decide ((k:Int)+1<l.length)=false:=by simp;omega
   clear hlt hk
   go_wp2
   go_ret
   exact⟨Yan F.out.symm,hb⟩
def Y6w (ds:List (ByteArray×Int))(s:ByteArray)(rb p:Nat)(w:World)(e:Ending)(w':World):Prop:=
 ∃v:Int,e=.returned (.tuple #[.int .i64 v,.int .i64 (tk (ds.map Ya1) ((Yad s.data.toList).drop p) 25 1).1])∧
  ((tk (ds.map Ya1) ((Yad s.data.toList).drop p) 25 1).1=0→∃x∈ds,Ya1 x=((Yad s.data.toList).drop p).take (tk (ds.map Ya1) ((Yad s.data.toList).drop p) 25 1).2∧x.2=v)∧
  ((tk (ds.map Ya1) ((Yad s.data.toList).drop p) 25 1).1≠0→v=0)∧Yba w' rb s (p+(tk (ds.map Ya1) ((Yad s.data.toList).drop p) 25 1).2)∧w.grownBy w' (some rb)
theorem Yx5 {ds:List (ByteArray×Int)}{s:ByteArray}{rb p:Nat}{w w':World}{f:Int}(h:tk (ds.map Ya1) ((Yad s.data.toList).drop p) 25 1=(f,0))(hf:f≠0)(hr:Yba w' rb s p)(hg:w.grownBy w' (some rb)):
  Y6w ds s rb p w (.returned (.tuple #[.int .i64 0,.int .i64 f])) w':=by
 unfold Y6w;rw[h];exact⟨0,rfl,fun e=>absurd e hf,fun _=>rfl,hr,hg⟩
theorem Qbq {ds:List (ByteArray×Int)}{s:ByteArray}{rb p n:Nat}{w w':World}{v:Int}(h:tk (ds.map Ya1) ((Yad s.data.toList).drop p) 25 1=(0,n))(hx:∃x∈ds,Ya1 x=((Yad s.data.toList).drop p).take n∧x.2=v)(hr:Yba w' rb s (p+n))(hg:w.grownBy w' (some rb)):
  Y6w ds s rb p w (.returned (.tuple #[.int .i64 v,.int .i64 0])) w':=by
 unfold Y6w;rw[h];exact⟨v,rfl,fun _=>hx,fun e=>absurd rfl e,hr,hg⟩
set_option maxRecDepth 100000 in
set_option maxHeartbeats 8000000 in
theorem Qbp (w:World)(lo N tb rb:Nat)(ds:List (ByteArray×Int))(L:Int)(s:ByteArray)(p:Nat)(ht:Qgw w lo N tb ds L)(hr:Yba w rb s p)(hN:rb<lo∨N≤rb)
  (hs:ds.Pairwise fun x y=>leL (Ya1 x) (Ya1 y)=true)(hf:Yhh (ds.map Ya1))(ho:∀x∈ds,Yck (Ya1 x)=true):
  Calls Tryz.prog 240 #[.pointer (some ⟨tb,0,none⟩),.pointer (some ⟨rb,0,none⟩)] w (Y6w ds s rb p w):=by
 obtain⟨m,q,cap,h1,h2,h3,hc,_,hq⟩:=ht;have c1:w.cell? ⟨tb,1,none⟩=some (.slice q ds.length cap):=Yab h1 rfl;obtain⟨bs,hbs⟩:∃bs,(Yad s.data.toList).drop p=bs:=⟨_,rfl⟩;have hbl:bs.length=8*s.size-p:=by rw[←hbs,List.length_drop,Yag];rfl
 have hpl:=hr.2.1;obtain⟨B,hB⟩:∃B,w.heap.size=B:=⟨_,rfl⟩;have hb0:Below B w w:=Below.refl _ _;have HB:=Lib.hid hB;have SO:=Lib.hid hs;have FR:=Lib.hid hf;have OK:=Lib.hid ho;have HBS:=Lib.hid hbs;have BL:=Lib.hid hbl;have HQ:=Lib.hid hq;have hd0:Ye5 Ya1 ds (bs.take 0)=ds:=by rw[List.take_zero];exact Yx0 Ya1 ds
 have D0:=Lib.hid hd0;have hrow0:∀x∈ds,0<x.1.size∧x.1.size≤24:=fun x hx=>by
  have h:=Yb1 (ho x hx);have h1:(Ya1 x).length=x.1.size:=rfl;have h2:=List.length_pos_iff.2 h.1;omega
 have R0:=Lib.hid hrow0;have C0:=Lib.hid hc;clear h1 hB hs hf ho hbs hbl hq hd0 hc hrow0
 go_enter Tryz.func240,Tryz.ntmps240
 go_wp2
 go_loopw [7,8] (fun u v wr=>∃(n:Nat) (a:Option Addr) (l:List (ByteArray×Int)) (cap:Nat),v=.int .i64 ((n:Int)+1)∧u=.slice a l.length cap∧l.length≤cap∧cap≤maxLen∧Hid (l=Ye5 Ya1 ds (bs.take n))∧Cds wr a l∧Hid (∀x,a=some x→lo≤x.block∧x.block<N)∧n≤23∧n≤bs.length∧
  Hid (tk (ds.map Ya1) bs 25 1=tk (ds.map Ya1) bs (25-n) (n+1))∧Hid (∀x∈l,n<x.1.size∧x.1.size≤24)∧Below B w wr∧Yba wr rb s p) (fun _ v _=>25-(intOf v).toNat)
 case atStart=>exact⟨0,q,ds,cap,rfl,rfl,h2,h3,Lib.hid D0.out.symm,C0.out,Lib.hid HQ.out,by omega,Nat.zero_le _,Lib.hid rfl,Lib.hid R0.out,hb0,hr⟩
 case round=>
  clear hb0 hr h2 h3 c1;obtain⟨n,a,l,cap,rfl,rfl,hl1,hl2,hl,hc,ha,hn,hnb,htk,hrow,hb,hr⟩:=hrel;unfold maxLen at hl2;have hunf:tk (ds.map Ya1) bs (25-n) (n+1)=if bs.length<n+1 then (2,0) else if bs.take (n+1)∈ds.map Ya1 then (0,n+1) else if (ds.map Ya1).any (fun r=>(bs.take (n+1)).isPrefixOf r)=true then tk (ds.map Ya1) bs (24-n) (n+1+1) else (3,0):=by
   rw[show 25-n=(24-n)+1 by omega,tk]
  have U:=Lib.hid (htk.out.trans hunf);clear hunf htk
  go_wp2_with fail
  refine(Ybr _ _ _ _ ((n:Int)+1) hr).mono ?_;rintro e w1 ⟨rfl,hb1⟩;have hr1:=hr.below hb1;have hc1:=hc.below hb1;have hb2:Below B w w1:=hb.trans (hb1.mono (by rw[←HB.out];exact hb.size));have hg1:w.grownBy w1 (some rb):=by
   rw[←HB.out] at hb2;exact⟨hb2.os,hb2.tape,hb2.output,hb2.size,fun k hk _=>hb2.block k hk⟩
  clear hr hc hb hb1;by_cases hsh:bs.length<n+1
  ·have hask:ask s.data.toList p ((n:Int)+1)=(0,2):=Ybo (by omega) (by rw[BL.out] at hsh;have:s.data.toList.length=s.size:=rfl;omega);have F:=Lib.hid (U.out.trans (if_pos hsh));rw[hask];clear hsh
   go_wp2
   go_ret2
   exact Yx5 (by rw[HBS.out];exact F.out) (by decide) hr1 hg1
  ·have hfit:p+(n+1)≤8*s.size:=by rw[BL.out] at hsh;omega
   have hask:ask s.data.toList p ((n:Int)+1)=(((Ya3 s.data.toList p (n+1):Nat):Int),0):=by
    have:=Yc8 (l:=s.data.toList) (p:=p) (n:=(n:Int)+1) (by omega) (by have:s.data.toList.length=s.size:=rfl;omega);rw[this,show ((n:Int)+1).toNat=n+1 by omega]
   have U2:=Lib.hid (U.out.trans (if_neg hsh));obtain⟨hnl,hdig⟩:=Yib s.data.toList p n hfit;have hdig2:∃c:UInt8,(c=48∨c=49)∧bs[n]? =some c∧Ya3 s.data.toList p (n+1)%2+48=c.toNat:=by
    have e:bs[n]? =some ((Yad s.data.toList).drop p)[n]:=by rw[←HBS.out];exact List.getElem?_eq_getElem hnl
    rcases hdig with ⟨h1,h2⟩|⟨h1,h2⟩
    ·exact⟨48,.inl rfl,by rw[e,h1],by rw[h2];rfl⟩
    ·exact⟨49,.inr rfl,by rw[e,h1],by rw[h2];rfl⟩
   obtain⟨c,hc49,hbc,htell⟩:=hdig2;have htl:Ya3 s.data.toList p (n+1)≤4294967296:=by
    have h1:=Ycg s.data.toList p (n+1);have h2:2^(n+1)≤2^32:=Nat.pow_le_pow_right (by omega) (by omega);omega
   rw[hask];clear hsh U hask hdig hnl;obtain⟨t,hte⟩:∃t,Ya3 s.data.toList p (n+1)=t:=⟨_,rfl⟩;rw[hte] at htell htl ⊢;have C49:=Lib.hid hc49;have BC:=Lib.hid hbc;have TE:=Lib.hid htell;have hbit:(48+bits .and .i64 ((t:Nat):Int) 1)%256=(c.toNat:Int):=by
    have h1:bits .and .i64 ((t:Nat):Int) 1=(t:Int)%2:=Ygt (t:Int) 1 (by omega);rw[h1];omega
   have BT:=Lib.hid hbit;clear hc49 hbc htell hte hbit
   go_wp2_with fail
   rw[BT.out];refine(Qbx l a cap n c w1 hc1 hl1 (by unfold maxLen;omega) hrow.out).mono ?_;rintro e w2 ⟨a2,cap2,rfl,rfl,hc2,hl3,hl4,ha2⟩;have hnx:(if c=48 then l.takeWhile (Ybg Ya1 n) else l.dropWhile (Ybg Ya1 n))=Ye5 Ya1 ds (bs.take (n+1)):=by
    have hts:(bs.take n).length=n:=by rw[List.length_take];omega
    have hx:=Ysh Ya1 (l:=ds) (q:=bs.take n) SO.out (fun x hx=>(Yb1 (OK.out x hx)).2.2) (by rw[hts,←hl.out];exact fun x hx=>(hrow.out x hx).1);rw[hts,←hl.out] at hx;have hsn:bs.take (n+1)=bs.take n++[c]:=by
     rw[List.take_add_one,BC.out];rfl
    rw[hsn];rcases C49.out with e|e
    ·rw[e,if_pos rfl];exact hx.1
    ·rw[e,if_neg (by decide)];exact hx.2
   rw[hnx] at hc2 hl3 ⊢;obtain⟨l2,hl2e⟩:∃l2,Ye5 Ya1 ds (bs.take (n+1))=l2:=⟨_,rfl⟩;rw[hl2e] at hc2 hl3 ⊢;have HL2:=Lib.hid hl2e;have HA2:Hid (∀x,a2=some x→lo≤x.block∧x.block<N):=Lib.hid (fun x hx=>by
    obtain⟨y,hy,hb⟩:=ha2 x hx;rw[←hb];exact ha.out y hy)
   unfold maxLen at hl4;clear hnx hl2e ha2 hc1 hl1 hl2 ha hl hrow;by_cases h0:l2=[]
   ·have F:Hid (tk (ds.map Ya1) bs 25 1=(3,0)):=Lib.hid (by
     have hno:(ds.map Ya1).any (fun r=>(bs.take (n+1)).isPrefixOf r)=false:=by
      rw[List.any_eq_false];intro r hr hp;obtain⟨x,hx,rfl⟩:=List.mem_map.1 hr;have:x∈Ye5 Ya1 ds (bs.take (n+1)):=List.mem_filter.2 ⟨hx,hp⟩;rw[HL2.out,h0] at this;cases this
     rw[U2.out,if_neg,if_neg (by rw[hno];decide)];intro hm;rw[List.any_eq_false] at hno;exact hno _ hm (Ydv _))
    subst h0
    go_wp2
    go_ret2
    exact Yx5 (by rw[HBS.out];exact F.out) (by decide) hr1 hg1
   ·obtain⟨y,l3,rfl⟩:∃y l3,l2=y::l3:=by
     cases l2 with
     |nil=>exact absurd rfl h0
     |cons y l3=>exact⟨y,l3,rfl⟩
    obtain⟨cb,o,rfl,hcb,hcells⟩:=hc2.at (by simp);have c0:=(hcells 0 (by simp)).1;have c1:=(hcells 0 (by simp)).2;simp only[List.getElem_cons_zero,Nat.zero_mul,Nat.add_zero] at c0 c1;have hne:(((l3.length:Nat):Int)+1==0)=false:=by rw[beq_eq_false_iff_ne];omega
    have hyin:y∈Ye5 Ya1 ds (bs.take (n+1)):=by rw[HL2.out];exact List.mem_cons_self
    obtain⟨hyd,hyp⟩:=List.mem_filter.1 hyin;have hylen:n+1≤y.1.size∧y.1.size≤24:=by
     have h1:=Yb4 hyp;rw[List.length_take] at h1;have h2:=(Yb1 (OK.out y hyd)).2.1;have h3:(Ya1 y).length=y.1.size:=rfl;have h4:n+1≤bs.length:=by rw[BL.out];omega
     omega
    have YD:=Lib.hid hyd;have YP:=Lib.hid hyp;have HC:=Lib.hid hcells;have C2:=Lib.hid hc2;clear hyin hyd hyp hcells hc2 h0;obtain⟨y0,y1⟩:=hylen;by_cases hyn:y.1.size=n+1
    ·have g0:((y.1.size:Int)==(n:Int)+1)=true:=by rw[beq_iff_eq];omega
     have F:Hid (tk (ds.map Ya1) bs 25 1=(0,n+1)∧∃x∈ds,Ya1 x=bs.take (n+1)∧x.2=y.2):=Lib.hid (by
      have h1:bs.take (n+1)=Ya1 y:=by
       have h2:=Yb5.1 YP.out;have h3:(Ya1 y).length=n+1:=hyn;rw[List.length_take,Nat.min_eq_left (by rw[BL.out];omega),List.take_of_length_le (by omega)] at h2;exact h2.symm
      refine⟨?_,y,YD.out,h1.symm,rfl⟩;rw[U2.out,if_pos (by rw[h1];exact List.mem_map_of_mem YD.out)])
     have hcr:cb≠rb:=by have:=HA2.out _ rfl;simp at this;omega
     have hld:∀x,w1.grownBy x (some rb)→x.cell? ⟨cb,o+1,none⟩=some (.int .i64 y.2):=fun x hx=>(World.cell?_of_block (a:=⟨cb,o+1,none⟩) (hx.block cb hcb (by intro e;injection e with e;exact hcr e))).trans c1;have LD:=Lib.hid hld;have hr1d:Yba w1.drew rb s p:=hr1;have hps:p≤1125899906842624:=by have:=hr1.2;omega
     have hsd:p+(n+1)≤8*s.size:=hfit;clear hyn hld
     go_wp2_with fail
     have sw:IntKind.i64.wrap ((p:Int)+((n:Int)+1))=(p:Int)+((n:Int)+1):=IntWalk.i64_in _ (by omega)
     go_region_with (first|(go_at_call 28;refine(Yb7 _ _ _ _ (by assumption)).mono ?_;rintro e w3 ⟨rfl,rfl⟩)|(go_at_call 91;refine(Yb2 _ _ _ _ _ (by assumption) (by omega) (by omega)).mono ?_;rintro e w3 ⟨rfl,hr3,hg3⟩;have c3:=LD.out w3 (Yac (Yb9 w1 _) hg3)))
     all_goals
      rw[show ((p:Int)+((n:Int)+1)).toNat=p+(n+1) by omega] at hr3;have hg4:=Yac hg1 (Yac (Yb9 w1 _) hg3)
      go_wp2
      go_ret2
      exact Qbq (by rw[HBS.out];exact F.out.1) (by rw[HBS.out];exact F.out.2) hr3 hg4
    ·have g0:((y.1.size:Int)==(n:Int)+1)=false:=by rw[beq_eq_false_iff_ne];omega
     have hnin:∀x,x∈Ye5 Ya1 ds (bs.take (n+1))→(Ya1 x).length≠n+1:=by
      intro x hx hlen;obtain⟨hxd,hxp⟩:=List.mem_filter.1 hx;have h2:=Yb5.1 hxp;rw[List.length_take,Nat.min_eq_left (by rw[BL.out];omega),List.take_of_length_le (by omega)] at h2;have h3:=Yjl FR.out (x:=Ya1 x) (y:=Ya1 y) (List.mem_map_of_mem hxd) (List.mem_map_of_mem YD.out) (by rw[h2];exact YP.out);have h4:(Ya1 y).length=y.1.size:=rfl;rw[h3] at hlen;omega
     have F:Hid (tk (ds.map Ya1) bs 25 1=tk (ds.map Ya1) bs (25-(n+1)) (n+1+1)):=Lib.hid (by
      rw[U2.out,if_neg,if_pos (List.any_eq_true.2 ⟨Ya1 y,List.mem_map_of_mem YD.out,YP.out⟩),show 25-(n+1)=24-n by omega];intro hm;have h3:=Yjl FR.out hm (List.mem_map_of_mem YD.out) YP.out;have h4:=congrArg List.length h3;rw[List.length_take,Nat.min_eq_left (by rw[BL.out];omega)] at h4;exact hyn h4.symm)
     have RW:Hid (∀x∈y::l3,n+1<x.1.size∧x.1.size≤24):=Lib.hid (fun x hx=>by
      rw[←HL2.out] at hx;obtain⟨hxd,hxp⟩:=List.mem_filter.1 hx;have h1:=Yb4 hxp;rw[List.length_take,Nat.min_eq_left (by rw[BL.out];omega)] at h1;have h2:=(Yb1 (OK.out x hxd)).2.1;have h3:(Ya1 x).length=x.1.size:=rfl;have h4:=hnin x hx;omega)
     have hbn:n+1≤bs.length:=by rw[BL.out];omega
     clear hnin c1
     go_wp2
     go_roundw
     case rel=>exact⟨n+1,_,y::l3,cap2,by go_num,rfl,hl3,by unfold maxLen;omega,Lib.hid HL2.out.symm,C2.out,HA2,by omega,hbn,F,RW,hb2,hr1⟩
     case measure=>simp[intOf];omega
end Go.Proofs.YtjjmalchelniiaaGreatDoor