/- Part 9 of StripsBack. No condition. -/
import Derived.Test.YtjjmalchelniiaaGreatDoorStripsBackMb
import Derived.Test.YtjjmalchelniiaaGreatDoorStripsBackMe
import Derived.Test.YtjjmalchelniiaaGreatDoorStripsBackMh
import Derived.WalkKit
import Derived.Lib.Hide
import Derived.Test.YtjjmalchelniiaaGreatDoorChecked
import Derived.OwnWalk
import Derived.Laws.AppendOwn
import Derived.ChangeMaps5
import Derived.WalkMore
import Derived.Below
import Derived.IntWalk
import Derived.Laws.ResultCell
import Derived.Laws.Rows
import Derived.Laws.OwnMore
import Derived.Deep.AppendLies
import Derived.Maps.AppendAt
import Derived.ChangeKeysEq
import Derived.RegionTactic
namespace Go.Proofs.YtjjmalchelniiaaGreatDoor
open Go.RowKit Go.Lib Go.ChangeShapes Go.WideShapes Go.ChangeAt
def Yjb (w:World)(p:Option Addr)(n:Nat)(f:Nat→Int):Prop:=n=0∨∃b o,p=some ⟨b,o,none⟩∧b<w.heap.size∧∀i,i<n→w.cell? ⟨b,o+i,none⟩=some (.int .i64 (f i))
theorem Yjb.below {w w':World}{p:Option Addr}{n:Nat}{f:Nat→Int}(h:Yjb w p n f)(hb:Below w.heap.size w w'):Yjb w' p n f:=by
 rcases h with h|⟨b,o,rfl,hl,h⟩
 ·exact .inl h
 ·exact .inr ⟨b,o,rfl,by have:=hb.size;omega,fun i hi=>(hb.cell (p:=⟨b,o+i,none⟩) hl).trans (h i hi)⟩
theorem Yjb.congr {w:World}{p:Option Addr}{n:Nat}{f g:Nat→Int}(h:Yjb w p n f)(hg:∀i,i<n→f i=g i):Yjb w p n g:=by
 rcases h with h|⟨b,o,rfl,hl,h⟩
 ·exact .inl h
 ·exact .inr ⟨b,o,rfl,hl,fun i hi=>by rw[←hg i hi];exact h i hi⟩
def Yc2 (w:World)(p:Option Addr)(l:List Int):Prop:=Yjb w p l.length fun i=>l.getD i 0
theorem Yc2.below {w w':World}{p:Option Addr}{l:List Int}(h:Yc2 w p l)(hb:Below w.heap.size w w'):Yc2 w' p l:=Yjb.below h hb
theorem Yc2.nil (w:World)(p:Option Addr):Yc2 w p []:=.inl rfl
theorem Y99 {w:World}{p:Option Addr}{n:Nat}{f:Nat→Int}(h:Yjb w p n f):∃l:List Int,l.length=n∧Yc2 w p l:=by
 refine⟨(List.range n).map f,by simp,?_⟩;unfold Yc2;rw[List.length_map,List.length_range];refine h.congr fun i hi=>?_;simp[List.getD,hi]
theorem Yc2.hold {w:World}{p:Option Addr}{l:List Int}(h:Yc2 w p l)(h0:0<l.length):∃b o,p=some ⟨b,o,none⟩∧b<w.heap.size∧∀x,Below w.heap.size w x→∀i,i<l.length→x.cell? ⟨b,o+i,none⟩=some (.int .i64 (l.getD i 0)):=by
 rcases h with h|⟨b,o,rfl,hl,h⟩
 ·omega
 ·exact⟨b,o,rfl,hl,fun x hx i hi=>(World.cell?_of_block (a:=⟨b,o+i,none⟩) (hx.block b hl)).trans (h i hi)⟩
section
variable {H:Type}{enc:TypeId×Value→H}{P:Program}
theorem Y98 {w:World}{base fuel:Nat}{sp:Nat→Bool}{held:Bool}{t e:TypeId}{v:Value}{x:DataW H×List MemPlace}
  (ht:P.underlying t=some (.slice e))(he:P.underlying e=some (.int .i64))(ce:P.cellsOf e=1)
  (hf:DataW.trod enc P w base sp held fuel t [v]=some x):∃p len cap f,v=.slice p len cap∧len≤maxLen∧Yjb w p len f:=by
 rcases Go.Deep.open_slice1 ht ce hf with ⟨h1,_⟩|⟨a,len,cap,m,n,V,D,Pl,h1,hb,hl,hm,hmm,_,hx⟩
 ·injection h1 with h1;exact⟨none,0,0,fun _=>0,h1,Nat.zero_le _,.inl rfl⟩
 ·injection h1 with h1;subst h1;have hlm:len≤m:=by rw[hmm];split <;> omega
  have each:∀i,i<len→∃y:Int,w.cell? (a.add i)=some (.int .i64 y):=by
   intro i hi;obtain⟨h1,h2⟩:=hx i (by omega);obtain⟨y,e0,_,_⟩:=DataW.trod_int he h2;injection e0 with e0;exact⟨y,by rw[h1,e0]⟩
  refine⟨some a,len,cap,fun i=>match w.cell? (a.add i) with|some (.int _ y)=>y|_=>0,rfl,by omega,?_⟩;by_cases h0:len=0
  ·exact .inl h0
  ·right
   obtain⟨y0,hy0⟩:=each 0 (by omega);have ea:a=⟨a.block,a.off,none⟩:=by
    have:a.add 0=a:=by cases a with|mk b o s=>cases s <;> simp[Addr.add]
    rw[this] at hy0;exact Yx4 hy0
   have hy1:w.cell? ⟨a.block,a.off+0,none⟩=some (.int .i64 y0):=by
    rw[ea] at hy0
    simpa [Addr.add] using hy0
   refine⟨a.block,a.off,by rw[←ea],World.block_lt_of_cell? w ⟨a.block,a.off+0,none⟩ hy1,fun i hi=>?_⟩;obtain⟨y,hy⟩:=each i hi;have eadd:a.add i=⟨a.block,a.off+i,none⟩:=by rw[ea];simp[Addr.add]
   simp only[hy];rw[←eadd];exact hy
end
def Qi6 (l:List Int):List Value:=l.map fun x=>.int .i64 x
theorem Ywy (l:List Int)(x:Int):Qi6 (l++[x])=Qi6 l++[.int .i64 x]:=by simp[Qi6]
theorem Yty {w:World}{base e:Nat}{v:Value}{l:List Int}{n:Nat}(hl:l.length=n)(h:w.ownsRow base e 1 v n (Qi6 l)):
  ∃(q:Option Addr) (cap:Nat),v=.slice q n cap∧Yc2 w q l:=by
 subst hl;have h0:=h;rcases h.2 with ⟨rfl,h1⟩|⟨g,cap,cur,rfl,_,hg,_⟩
 ·exact⟨none,0,by rw[h1],.inl h1⟩
 ·refine⟨_,cap,rfl,.inr ⟨g,0,rfl,(Array.getElem?_eq_some_iff.1 hg).1,fun i hi=>?_⟩⟩;have:=World.ownsRow.cells (g:=g) h0 rfl i (.int .i64 (l.getD i 0)) (by simp[Qi6,List.getD,hi]);rwa [Addr.add_mid] at this
theorem Ypb {P:Program}{w:World}{o:Oper}{a:Act}{K:Act→World→Prop}{Q:Exit→Act→World→Prop}{sl x:Operand}{t base e c:Nat}{i:TypeInfo}{z v:Value}{n:Nat}{xs:List Value}{B:Nat}{y0:Int}
  (ho:o.op=.call {callee:=.builtin .append,args:=#[sl,x],argTypes:=#[t,t]})
  (ht:P.underlying t=some (.slice e))(hi:P.info? e=some i)(hz:i.zero=some z)(hzs:z.cells.size=1)(hsize:i.size=1)(hby:i.bytes=8)
  (hs:a.eval sl=v)(hown:w.ownsRow base e 1 v n xs)(hx:a.eval x=.slice (some ⟨B,0,none⟩) 1 c)(c0:w.cell? ⟨B,0,none⟩=some (.int .i64 y0))(hn:n≤1048576)(hbase:base≤w.heap.size)
  (h:∀v' w',w'.ownsRow base e 1 v' (n+1) (xs++[.int .i64 y0])→w.grownBy w' v.ownBlock→K (a.put o.dst v') w'):o.wp P a w K Q:=
 wp_append_own w sl x t ho base e i z 1 8 ht hi hz hsize hby hzs (by decide) v n xs hs hown ⟨B,0,none⟩ 1 c [.int .i64 y0] hx rfl
  (fun j u hj=>by
   match j,hj with
   |0,hj=>cases hj;exact c0)
  (by intro u hu;rw[List.mem_singleton] at hu;subst hu;rfl) (by unfold maxLen;omega) (by omega) hbase
  fun v' w' h1 h2 _=>h v' w' h1 h2
theorem Qfb:(Tryz.prog.info? 3).map (fun i=>(i.zero,i.size,i.bytes))=some (some (.int .i64 0),1,8):=by kernel_rfl
def Yeg (run level:Int):Bool:=decide (0≤run)&&decide (run≤63)&&decide (-127≤level)&&decide (level≤127) && !(level==0)
theorem Yd5 {run level:Int}:Yeg run level=true↔0≤run∧run≤63∧-127≤level∧level≤127∧level≠0:=by
 unfold Yeg;simp[Bool.and_eq_true,and_assoc]
def Ycw (last:Bool)(run level:Int):Obj:=.cells [.bool last,.int .i64 run,.int .i64 level].toArray 153 (0,0)
theorem Yl3 (last:Bool)(run level:Int)(w:World):Calls Tryz.prog 223 #[.agg #[.bool last,.int .i64 run,.int .i64 level]] w fun e w'=>e=.returned (.bool (Yeg run level))∧Below w.heap.size w w':=by
 have hb:∀o,Below w.heap.size w (w.alloc o):=fun o=>(Below.refl _ w).alloc (Nat.le_refl _) o;have hT:Yeg run level=(decide (0≤run)&&decide (run≤63)&&decide (-127≤level)&&decide (level≤127) && !(level==0)):=rfl;have HT:=Lib.hid hT;clear hT;cases g0:decide (0≤run)
 ·go_enter Tryz.func223,Tryz.ntmps223
  go_wp2
  go_ret
  exact⟨Yag (by rw[HT.out,g0];rfl),hb _⟩
 cases g1:decide (run≤63)
 ·go_enter Tryz.func223,Tryz.ntmps223
  go_wp2
  go_ret
  exact⟨Yag (by rw[HT.out,g0,g1];rfl),hb _⟩
 cases g2:decide (-127≤level)
 ·go_enter Tryz.func223,Tryz.ntmps223
  go_wp2
  go_ret
  exact⟨Yag (by rw[HT.out,g0,g1,g2];rfl),hb _⟩
 cases g3:decide (level≤127)
 ·go_enter Tryz.func223,Tryz.ntmps223
  go_wp2
  go_ret
  exact⟨Yag (by rw[HT.out,g0,g1,g2,g3];rfl),hb _⟩
 cases g4:level==0
 all_goals
  have g5:=Lib.hid (show (level != 0) = !(level==0) from rfl)
  go_enter Tryz.func223,Tryz.ntmps223
  go_wp2
  go_ret
  exact⟨Yag (by rw[HT.out,g5.out,g0,g1,g2,g3,g4];rfl),hb _⟩
def Y42 (x:Bool×Nat×Int):Value:=.agg #[.bool x.1,.int .i64 (x.2.1:Int),.int .i64 x.2.2]
theorem Ybv {x:World}{B:Nat}{last:Bool}{r v:Int}(h:x.heap[B]? =some (Ycw last r v)):
  x.cell? ⟨B,0,none⟩=some (.bool last)∧x.cell? ⟨B,1,none⟩=some (.int .i64 r)∧x.cell? ⟨B,2,none⟩=some (.int .i64 v)∧x.frozen? ⟨B,0,none⟩=false∧x.frozen? ⟨B,1,none⟩=false∧x.frozen? ⟨B,2,none⟩=false:=
 ⟨Yab h rfl,Yab h rfl,Yab h rfl,Yaj (o:=0) h,Yaj (o:=1) h,Yaj (o:=2) h⟩
theorem Y9u {x:World}{B:Nat}{last:Bool}{r v:Int}(h:x.heap[B]? =some (Ycw last r v))(k:Int):(x.setCell ⟨B,1,none⟩ (.int .i64 k)).heap[B]? =some (Ycw last k v):=Yau (o:=1) (.int .i64 k) h
theorem Qe4 {x:World}{B:Nat}{last:Bool}{r v:Int}(h:x.heap[B]? =some (Ycw last r v))(k:Int):(x.setCell ⟨B,2,none⟩ (.int .i64 k)).heap[B]? =some (Ycw last r k):=Yau (o:=2) (.int .i64 k) h
theorem Qiy {x:World}{B:Nat}{last:Bool}{r v:Int}(h:x.heap[B]? =some (Ycw last r v))(k:Bool):(x.setCell ⟨B,0,none⟩ (.bool k)).heap[B]? =some (Ycw k r v):=Yau (o:=0) (.bool k) h
theorem Ylt {x:World}{B:Nat}{last:Bool}{r v:Int}(h:x.heap[B]? =some (Ycw last r v))(l':Bool)(r' v':Int):
  (((x.setCell ⟨B,0,none⟩ (.bool l')).setCell ⟨B,1,none⟩ (.int .i64 r')).setCell ⟨B,2,none⟩ (.int .i64 v')).heap[B]? =some (Ycw l' r' v'):=Qe4 (Y9u (Qiy h l') r') v'
theorem Yfo {P:Program}{w:World}{ops:Array Oper}{rest:List Oper}{o:Oper}{a:Act}{Q:Exit→Act→World→Prop}{sl x:Operand}{t base e c:Nat}{i:TypeInfo}{z v:Value}{n:Nat}{xs:List Value}{K:Nat}{y0:Bool}{y1 y2:Int}
  (hgd:o.guard=none)(ho:o.op=.call {callee:=.builtin .append,args:=#[sl,x],argTypes:=#[t,t]})
  (ht:P.underlying t=some (.slice e))(hi:P.info? e=some i)(hz:i.zero=some z)(hzs:z.cells.size=3)(hsize:i.size=3)(hby:i.bytes=24)
  (hs:a.eval sl=v)(hown:w.ownsRow base e 3 v n xs)(hx:a.eval x=.slice (some ⟨K,0,none⟩) 1 c)(c0:w.cell? ⟨K,0,none⟩=some (.bool y0))(c1:w.cell? ⟨K,1,none⟩=some (.int .i64 y1))(c2:w.cell? ⟨K,2,none⟩=some (.int .i64 y2))(hn:n≤1048576)(hbase:base≤w.heap.size)
  (h:∀v' w',w'.ownsRow base e 3 v' (n+1) (xs++[.bool y0,.int .i64 y1,.int .i64 y2])→w.grownBy w' v.ownBlock→(v'.ownBlock=v.ownBlock∨v'.ownBlock=some w.heap.size)→wpList P ops Q rest (a.put o.dst v') w'):wpList P ops Q (o::rest) a w:=
 wpList_append_own_at w hgd sl x t ho base e i z 3 24 ht hi hz hsize hby hzs (by decide) v n xs hs hown ⟨K,0,none⟩ 1 c [.bool y0,.int .i64 y1,.int .i64 y2] hx rfl
  (fun j u hj=>by
   match j,hj with
   |0,hj=>cases hj;exact c0
   |1,hj=>cases hj;exact c1
   |2,hj=>cases hj;exact c2)
  (by intro u hu;simp only[List.mem_cons,List.not_mem_nil,or_false] at hu;rcases hu with rfl|rfl|rfl <;> rfl) (by unfold maxLen;omega) (by omega) hbase
  fun v' w' h1 h2 _ h4=>h v' w' h1 h2 h4
theorem Qi5:(Tryz.prog.info? 153).map (fun i=>(i.zero,i.size,i.bytes))=some (some (.agg #[.bool false,.int .i64 0,.int .i64 0]),3,24):=by kernel_rfl
def Qhp (f:Nat→Int):List Value:=(List.range 64).map fun i=>.int .i64 (f i)
theorem Ykc (f:Nat→Int):(Qhp f).length=64:=by simp[Qhp]
theorem Ytb (f:Nat→Int){i:Nat}(h:i<64):(Qhp f)[i]? =some (.int .i64 (f i)):=by simp[Qhp,h]
theorem Qdw (f:Nat→Int):∀v∈Qhp f,v.oneCell'=true:=by
 intro v hv;obtain⟨i,_,rfl⟩:=List.mem_map.1 hv
 rfl
def Y29 (f:Nat→Int)(i:Nat)(v:Int):Nat→Int:=fun k=>if k=i then v else f k
theorem Qdx (f:Nat→Int){i:Nat}(v:Int):(Qhp f).set i (.int .i64 v)=Qhp (Y29 f i v):=by
 refine List.ext_getElem? fun k=>?_;rw[List.getElem?_set,Ykc];by_cases hk:k<64
 ·by_cases e:i=k
  ·subst e;rw[if_pos rfl,if_pos hk,Ytb _ hk];simp[Y29]
  ·rw[if_neg e,Ytb _ hk,Ytb _ hk];unfold Y29;rw[if_neg (fun h=>e h.symm)]
 ·by_cases e:i=k
  ·subst e;rw[if_pos rfl,if_neg hk,List.getElem?_eq_none (by rw[Ykc];omega)]
  ·rw[if_neg e,List.getElem?_eq_none (by rw[Ykc];omega),List.getElem?_eq_none (by rw[Ykc];omega)]
def Ymh (f:Nat→Int):Array Value:=(Qhp f).toArray
theorem Yfr (f:Nat→Int):(Ymh f).size=64:=Ykc f
theorem Qif (f:Nat→Int){i:Nat}(h:i<64):(Ymh f)[i]? =some (.int .i64 (f i)):=by
 unfold Ymh;rw[List.getElem?_toArray];exact Ytb f h
theorem Yne (f:Nat→Int):(Ymh f).all (·.oneCell')=true:=by
 rw[Array.all_eq_true_iff_forall_mem];intro v hv;exact Qdw f v (by simpa [Ymh] using hv)
def Qde (f:Nat→Int):Obj:=.cells (Ymh f) 180 (0,0)
theorem Qd0:(Tryz.prog.info? 180).map (·.size)=some 64:=by kernel_rfl
theorem Ykd (f:Nat→Int):(Tryz.prog.info? 180).map (·.size)=some (Ymh f).size:=by rw[Yfr];exact Qd0
theorem Y2l:∃i,Tryz.prog.info? 3=some i:=by
 cases h:Tryz.prog.info? 3 with
 |some i=>exact⟨i,rfl⟩
 |none=>
  have h2:(Tryz.prog.info? 3).isSome=true:=by kernel_rfl
  rw[h] at h2;cases h2
theorem Ywz:Tryz.prog.cellsOf 3=1:=by kernel_rfl
theorem Ygm:Tryz.prog.plainKey 3=true:=by kernel_rfl
theorem Ytc (w:World):(zeroValue 180).run Tryz.prog w=.ok (.agg (Ymh fun _=>0)) w:=by
 have h:(Tryz.prog.info? 180).map (fun i=>i.zero)=some (some (.agg (Ymh fun _=>0))):=by kernel_rfl
 generalize (Ymh fun _=>0)=Z at h ⊢;cases hq:Tryz.prog.info? 180 with
 |none=>simp[hq] at h
 |some i=>
  simp[hq] at h;simp[zeroValue,typeInfo,hq,h]
theorem Qdy {w:World}{B i:Nat}{f:Nat→Int}(h:w.heap[B]? =some (Qde f))(hi:i<64):w.cell? ⟨B,i,none⟩=some (.int .i64 (f i)):=by
 rw[cell_of_row w B i _ _ _ h];exact Qif f hi
theorem Qdz {w:World}{B i:Nat}{f:Nat→Int}(h:w.heap[B]? =some (Qde f)):w.frozen? ⟨B,i,none⟩=false:=frozen_of_row w B i _ _ h
theorem Qig {w:World}{B i:Nat}{f:Nat→Int}(v:Int)(h:w.heap[B]? =some (Qde f)):(w.setCell ⟨B,i,none⟩ (.int .i64 v)).heap[B]? =some (Qde (Y29 f i v)):=by
 rw[heap_setCell_same w B i _ _ _ h];unfold Qde;rw[show (Ymh f).setIfInBounds i (.int .i64 v)=Ymh (Y29 f i v) by unfold Ymh;rw[List.setIfInBounds_toArray,Qdx]]
theorem Yak {P:Program}{ops:Array Oper}{rest:List Oper}{op:Oper}{a:Act}{w:World}{Q:Exit→Act→World→Prop}(hgd:op.guard=none)(ty:TypeId)(x y:Operand)(ho:op.op=.store ty x y)
  (b:Nat)(Z old:Array Value)(hx:a.eval x=.pointer (some ⟨b,0,none⟩))(hy:a.eval y=.agg Z)(T:TypeId)(hg:w.heap[b]? =some (.cells old T (0,0)))(hi:(P.info? ty).map (·.size)=some Z.size)(hs:old.size=Z.size)(h1:Z.all (·.oneCell')=true)
  (h:∀w',w'.heap[b]? =some (.cells Z T (0,0))→w.grownBy w' (some b)→wpList P ops Q rest (a.put op.dst undef) w'):wpList P ops Q (op::rest) a w:=
 wpList_store_row hgd ty x y ho b Z hx hy T old hg hi hs h1 (h _ (setRow_heap w b old Z T (0,0) hg) ⟨rfl,rfl,rfl,by simp,fun k _ hk=>setRow_other w b k _ (by intro e;exact hk (by rw[e]))⟩)
theorem Ybb {P:Program}{ops:Array Oper}{rest:List Oper}{o:Oper}{a:Act}{w:World}{Q:Exit→Act→World→Prop}(hw:Region.wanted o (yielded ops a.tmps)=true)(ty:TypeId)(x:Operand)(ho:o.op=.load ty x)
  (g:Nat)(hx:a.eval x=.pointer (some ⟨g,0,none⟩))(t:TypeId)(cs:Array Value)(fr:Nat×Nat)(d:TypeDesc)(hg:w.heap[g]? =some (.cells cs t fr))
  (hu:P.underlying ty=some d)(hd:(match d with|.struct _|.array _ _=>true|_=>false)=true)(hi:(P.info? ty).map (·.size)=some cs.size)
  (h:wpList P ops Q rest (a.put o.dst (.agg cs)) w):wpList P ops Q (o::rest) a w:=by
 unfold wpList;rw[if_pos hw];exact .inl (wp_load_row ty x ho g hx t cs fr d hg hu hd hi h)
section
variable {H:Type}{enc:TypeId×Value→H}{P:Program}
end
end Go.Proofs.YtjjmalchelniiaaGreatDoor
namespace Go.Proofs.YtjjmalchelniiaaGreatDoor
open Go.RowKit
abbrev Ev:=Bool×Int×Int
def Qk9 (x:Ev):List Value:=[.bool x.1,.int .i64 x.2.1,.int .i64 x.2.2]
def Yhk (l:List Ev):List Value:=l.flatMap Qk9
theorem Yoa (l:List Ev)(x:Ev):Yhk (l++[x])=Yhk l++Qk9 x:=by simp[Yhk]
theorem Y8r (l:List Ev):∀(i:Nat) (h:i<l.length),(Yhk l)[3*i]? =some (.bool l[i].1)∧(Yhk l)[3*i+1]? =some (.int .i64 l[i].2.1)∧(Yhk l)[3*i+2]? =some (.int .i64 l[i].2.2):=by
 induction l with
 |nil=>intro i h;cases h
 |cons p l ih=>
  intro i h
  match i with
  |0=>exact⟨rfl,rfl,rfl⟩
  |i+1=>
   have:=ih i (by simpa using h);rw[Yhk,List.flatMap_cons,show 3*(i+1)=(Qk9 p).length+3*i by simp[Qk9];omega];rw[List.getElem?_append_right (by omega),Nat.add_sub_cancel_left,Nat.add_assoc,Nat.add_assoc,List.getElem?_append_right (by omega),List.getElem?_append_right (by omega),Nat.add_sub_cancel_left,Nat.add_sub_cancel_left];exact this
def evs (f:Nat→Int)(a:Nat):Nat→List Ev×Nat
 |0=>([],0)
 |k+1=>if k<a then evs f a k else if f k=0 then ((evs f a k).1,(evs f a k).2+1) else ((evs f a k).1++[(false,((evs f a k).2:Int),f k)],0)
def okl (v:Int):Bool:=decide (-127≤v)&&decide (v≤127)
def bad (f:Nat→Int)(a:Nat):Nat→Bool
 |0=>false
 |k+1=>bad f a k || (decide (a≤k) && !okl (f k))
def lvS (a:Nat)(l:List Ev):Nat×(Nat→Int):=l.foldl (fun s e=>(s.1+e.2.1.toNat+1,Y29 s.2 (s.1+e.2.1.toNat) e.2.2)) (a,fun _=>0)
theorem Y2q (a:Nat)(l:List Ev)(e:Ev):lvS a (l++[e])=((lvS a l).1+e.2.1.toNat+1,Y29 (lvS a l).2 ((lvS a l).1+e.2.1.toNat) e.2.2):=by
 unfold lvS;rw[List.foldl_append]
 rfl
theorem Yt3 (a:Nat)(l:List Ev){j:Nat}(h:j<l.length):lvS a (l.take (j+1))=((lvS a (l.take j)).1+l[j].2.1.toNat+1,Y29 (lvS a (l.take j)).2 ((lvS a (l.take j)).1+l[j].2.1.toNat) l[j].2.2):=by
 rw[List.take_succ_eq_append_getElem h,Y2q]
def Yve (a:Nat)(l:List Ev)(j:Nat)(e:Ev):Bool:=Yeg e.2.1 e.2.2&&(e.1==decide (j+1=l.length))&&decide ((lvS a (l.take j)).1+e.2.1.toNat<64)
def Yqh (a:Nat)(l:List Ev):Nat→Bool
 |0=>false
 |j+1=>Yqh a l j || (match l[j]? with|some e=>!Yve a l j e|none=>false)
theorem Yvr {a:Nat}{l:List Ev}{k:Nat}(h:Yqh a l k=true):∀d,Yqh a l (k+d)=true
 |0=>h
 |d+1=>by rw[←Nat.add_assoc,Yqh,Yvr h d];rfl
theorem Y78 {a:Nat}{l:List Ev}{j:Nat}(hj:j<l.length)(h:Yve a l j l[j]=false):Yqh a l l.length=true:=by
 have h1:Yqh a l (j+1)=true:=by
  rw[Yqh,List.getElem?_eq_getElem hj];simp[h]
 have:=Yvr h1 (l.length-(j+1));rwa [show j+1+(l.length-(j+1))=l.length by omega] at this
theorem Ytd {a:Nat}{l:List Ev}:∀k,k≤l.length→(∀j,(h:j<l.length)→j<k→Yve a l j l[j]=true)→Yqh a l k=false
 |0,_,_=>rfl
 |k+1,hk,h=>by
  rw[Yqh,Ytd k (by omega) fun j h1 h2=>h j h1 (by omega),List.getElem?_eq_getElem (by omega)];simp[h k (by omega) (by omega)]
theorem Ylm {a:Nat}{l:List Ev}(h:Yqh a l l.length=false){j:Nat}(hj:j<l.length):Yve a l j l[j]=true:=by
 cases h2:Yve a l j l[j] with
 |true=>rfl
 |false=>rw[Y78 hj h2] at h;cases h
def lvG (l:List Ev)(a:Int):(Nat→Int)×Int:=if a=0∨a=1 then (if Yqh a.toNat l l.length then (fun _=>0,7) else ((lvS a.toNat l).2,0)) else (fun _=>0,1)
end Go.Proofs.YtjjmalchelniiaaGreatDoor
namespace Go.Proofs.YtjjmalchelniiaaGreatDoor
open Go.RowKit Go.Lib Go.ChangeShapes Go.WideShapes Go.ChangeAt
def Yel (w:World)(p:Option Addr)(l:List Ev):Prop:=
 l=[]∨∃b o,p=some ⟨b,o,none⟩∧b<w.heap.size∧∀i,(h:i<l.length)→w.cell? ⟨b,o+i*3,none⟩=some (.bool l[i].1)∧w.cell? ⟨b,o+i*3+1,none⟩=some (.int .i64 l[i].2.1)∧w.cell? ⟨b,o+i*3+2,none⟩=some (.int .i64 l[i].2.2)
theorem Yel.below {w w':World}{p:Option Addr}{l:List Ev}(h:Yel w p l)(hb:Below w.heap.size w w'):Yel w' p l:=by
 rcases h with h|⟨b,o,h1,h2,h3⟩
 ·exact .inl h
 ·refine .inr ⟨b,o,h1,Nat.lt_of_lt_of_le h2 hb.size,fun i hi=>?_⟩;rw[hb.cell (p:=⟨b,o+i*3,none⟩) h2,hb.cell (p:=⟨b,o+i*3+1,none⟩) h2,hb.cell (p:=⟨b,o+i*3+2,none⟩) h2];exact h3 i hi
theorem Yel.at {w:World}{p:Option Addr}{l:List Ev}(h:Yel w p l)(h0:0<l.length):
  ∃b o,p=some ⟨b,o,none⟩∧b<w.heap.size∧∀i,(h:i<l.length)→w.cell? ⟨b,o+i*3,none⟩=some (.bool l[i].1)∧w.cell? ⟨b,o+i*3+1,none⟩=some (.int .i64 l[i].2.1)∧w.cell? ⟨b,o+i*3+2,none⟩=some (.int .i64 l[i].2.2):=by
 rcases h with rfl|h
 ·cases h0
 ·exact h
theorem Qf1 {w:World}{base e:Nat}{v:Value}{l:List Ev}(h:w.ownsRow base e 3 v l.length (Yhk l)):∃(q:Option Addr) (cap:Nat),v=.slice q l.length cap∧Yel w q l:=by
 have h0:=h;rcases h.2 with ⟨rfl,h1⟩|⟨g,cap,cur,rfl,_,hg,_⟩
 ·exact⟨none,0,by rw[h1],.inl (List.eq_nil_of_length_eq_zero h1)⟩
 ·refine⟨_,cap,rfl,.inr ⟨g,0,rfl,(Array.getElem?_eq_some_iff.1 hg).1,fun i hi=>?_⟩⟩;obtain⟨a0,a1,a2⟩:=Y8r l i hi;rw[Nat.zero_add,Nat.mul_comm i 3];exact⟨(h0.cellAt (3*i) (by omega)).trans a0,(h0.cellAt (3*i+1) (by omega)).trans a1,(h0.cellAt (3*i+2) (by omega)).trans a2⟩
def Yg1 (vs:List Value):Prop:=∃(b:Bool) (x y:Int),vs=[.bool b,.int .i64 x,.int .i64 y]∧(Lit.int .i64 x).wf=true∧(Lit.int .i64 y).wf=true
section
variable {H:Type}{enc:TypeId×Value→H}{P:Program}
theorem Y9v {w:World}{base:Nat}{sp:Nat→Bool}{held:Bool}{e tb ti:TypeId}{f0 f1 f2:Field}
  (he:P.underlying e=some (.struct #[f0,f1,f2]))(hb:P.underlying tb=some .bool)(hi:P.underlying ti=some (.int .i64))(e0:f0.type=tb)(e1:f1.type=ti)(e2:f2.type=ti)(o0:f0.offset=0)(o1:f1.offset=1)(o2:f2.offset=2)(cb:P.cellsOf tb=1)(ci:P.cellsOf ti=1):
  ∀k (vs:List Value) y,vs.length=3→DataW.trod enc P w base sp held k e vs=some y→Yg1 vs:=by
 intro k vs y hl h;obtain⟨xs,k,hk,hxy,_,hxl,hfs⟩:=DataW.trod_struct he h
 match xs,hxl,vs,hl with
 |[y0,y1,y2],_,[v0,v1,v2],_=>
  have g0:=hfs 0 f0 rfl;have g1:=hfs 1 f1 rfl;have g2:=hfs 2 f2 rfl;rw[e0,o0,cb] at g0;rw[e1,o1,ci] at g1;rw[e2,o2,ci] at g2;obtain⟨x0,q0,_⟩:=DataW.trod_bool hb (show DataW.trod _ P w base sp held k tb [v0]=some y0 from g0);obtain⟨x1,q1,_,w1⟩:=DataW.trod_int hi (show DataW.trod _ P w base sp held k ti [v1]=some y1 from g1)
  obtain⟨x2,q2,_,w2⟩:=DataW.trod_int hi (show DataW.trod _ P w base sp held k ti [v2]=some y2 from g2);injection q0 with q0;injection q1 with q1;injection q2 with q2;subst q0 q1 q2;exact⟨x0,x1,x2,rfl,w1,w2⟩
end
theorem Yix {W:World}{p:Option Addr}{len:Nat}(h:Y7w W Yg1 3 p len):∃l:List Ev,l.length=len∧Yel W p l∧∀i,(h:i<l.length)→(Lit.int .i64 l[i].2.1).wf=true∧(Lit.int .i64 l[i].2.2).wf=true:=by
 rcases h with rfl|⟨b,o,hp,hb,hc⟩
 ·exact⟨[],rfl,.inl rfl,fun i h=>by cases h⟩
 ·have each:∀i,∃e:Ev,i<len→(W.cell? ⟨b,o+i*3,none⟩=some (.bool e.1)∧W.cell? ⟨b,o+i*3+1,none⟩=some (.int .i64 e.2.1)∧W.cell? ⟨b,o+i*3+2,none⟩=some (.int .i64 e.2.2))∧(Lit.int .i64 e.2.1).wf=true∧(Lit.int .i64 e.2.2).wf=true:=by
   intro i;by_cases hi:i<len
   ·obtain⟨vs,_,⟨x,y,z,rfl,w1,w2⟩,hv⟩:=hc i hi;exact⟨(x,y,z),fun _=>⟨⟨hv 0 _ rfl,hv 1 _ rfl,hv 2 _ rfl⟩,w1,w2⟩⟩
   ·exact⟨(false,0,0),fun h=>absurd h hi⟩
  refine⟨(List.range len).map fun i=>Classical.choose (each i),by simp,.inr ⟨b,o,hp,hb,fun i hi=>?_⟩,fun i hi=>?_⟩
  ·have hi':i<len:=by simpa using hi
   simp only[List.getElem_map,List.getElem_range];exact(Classical.choose_spec (each i) hi').1
  ·have hi':i<len:=by simpa using hi
   simp only[List.getElem_map,List.getElem_range];exact(Classical.choose_spec (each i) hi').2
theorem Qb5 {l m:List Ev}(hl:l.length=m.length){i:Nat}(h:∀j,(h1:j<l.length)→(h2:j<m.length)→j<i→l[j]=m[j])(h3:l.length≤i):l=m:=
 List.ext_getElem hl fun j h1 h2=>h j h1 h2 (by omega)
section
variable {H:Type}{enc:TypeId×Value→H}{P:Program}
theorem Yei {w:World}{base fuel:Nat}{sp:Nat→Bool}{held:Bool}{t e:TypeId}{v:Value}{x:DataW H×List MemPlace}(c:Nat)(Q:List Value→Prop)
  (ht:P.underlying t=some (.slice e))(ce:P.cellsOf e=c)(hc:0<c)(hq:∀k vs y,vs.length=c→DataW.trod enc P w base sp held k e vs=some y→Q vs)
  (hf:DataW.trod enc P w base sp held fuel t [v]=some x):∃p len cap,v=.slice p len cap∧len≤maxLen∧Y7w w Q c p len:=by
 rcases Go.Deep.open_slice ht hf with ⟨h1,_⟩|⟨a',len',cap',m,n,D,Pl,h1,hb,hl,hm,hmm,_,hx⟩
 ·injection h1 with h1;exact⟨none,0,0,h1,Nat.zero_le _,.inl rfl⟩
 ·injection h1 with h1;refine⟨some a',len',cap',h1,by omega,?_⟩;have hlm:len'≤m:=by rw[hmm];split <;> omega
  have each:∀i,i<len'→∃vs:List Value,vs.length=c∧Q vs∧∀(j:Nat) v,vs[j]? =some v→w.cell? (a'.add (i*c+j))=some v:=by
   intro i hil;obtain⟨cs',h1,h2⟩:=hx i (by omega);rw[ce] at h1;obtain⟨_,hlen,hcell⟩:=World.cells?_some h1;refine⟨cs',hlen,hq _ _ _ hlen h2,fun j v hj=>?_⟩;have hjc:j<c:=by rw[←hlen];exact(List.getElem?_eq_some_iff.1 hj).1
   have:=hcell j hjc;rw[Go.Deep.add_add] at this;rw[this,hj]
  by_cases h0:len'=0
  ·exact .inl h0
  ·right
   obtain⟨vs,hl0,_,hv⟩:=each 0 (by omega);have ca:=hv 0 _ (List.getElem?_eq_getElem (by omega));rw[show 0*c+0=0 by omega] at ca;have ca:w.cell? a'=_:=ca;have ea:=Yx4 ca;refine⟨a'.block,a'.off,by rw[←ea],Yth ca,fun i hil=>?_⟩;obtain⟨vs,h1,h2,h3⟩:=each i hil;refine⟨vs,h1,h2,fun j v hj=>?_⟩;have:=h3 j v hj;rw[ea,Addr.add_mid,←Nat.add_assoc] at this;exact this
end
end Go.Proofs.YtjjmalchelniiaaGreatDoor
namespace Go.Proofs.YtjjmalchelniiaaGreatDoor
open Go.RowKit Go.Lib
structure Cel where
 stuff:Int
 skip:Bool
 kind:Int
 step:Int
 mx:Int
 my:Int
 dc:Nat→Int
 ev:Nat→List Ev
def Ymj:Cel:=⟨0,false,0,0,0,0,fun _=>0,fun _=>[]⟩
def six {α:Type}(a b c d e f:α):Nat→α
 |0=>a
 |1=>b
 |2=>c
 |3=>d
 |4=>e
 |_=>f
def Ybe (c:Cel)(sl:Nat→Value):List Value:=
 [.int .i64 c.stuff,.bool c.skip,.int .i64 c.kind,.int .i64 c.step,.int .i64 c.mx,.int .i64 c.my,
  .int .i64 (c.dc 0),.int .i64 (c.dc 1),.int .i64 (c.dc 2),.int .i64 (c.dc 3),.int .i64 (c.dc 4),.int .i64 (c.dc 5),sl 0,sl 1,sl 2,sl 3,sl 4,sl 5]
def nilS:Nat→Value:=fun _=>.slice none 0 0
theorem Y8l (c:Cel)(sl:Nat→Value):∀i,i<6→(Ybe c sl)[6+i]? =some (.int .i64 (c.dc i))
 |0,_=>rfl
 |1,_=>rfl
 |2,_=>rfl
 |3,_=>rfl
 |4,_=>rfl
 |5,_=>rfl
theorem Yzi (c:Cel)(sl:Nat→Value):∀i,i<6→(Ybe c sl)[12+i]? =some (sl i)
 |0,_=>rfl
 |1,_=>rfl
 |2,_=>rfl
 |3,_=>rfl
 |4,_=>rfl
 |5,_=>rfl
def Qkh (c d:Cel):Bool:=c.stuff==d.stuff&&c.skip==d.skip&&c.kind==d.kind&&c.step==d.step&&(c.mx==d.mx&&c.my==d.my)&&(List.range 6).all fun i=>c.dc i==d.dc i
def evB (c d:Cel):Bool:=(List.range 6).all fun i=>decide (c.ev i=d.ev i)
def Yqo (c d:Cel):Bool:=evB c d&&Qkh c d
theorem Qiw {c d:Cel}{i:Nat}(hi:i<6)(h:c.ev i≠d.ev i):evB c d=false:=by
 unfold evB;rw[List.all_eq_false];exact⟨i,List.mem_range.2 hi,by simpa using h⟩
theorem Y9t {c d:Cel}(h:∀i,i<6→c.ev i=d.ev i):evB c d=true:=by
 unfold evB;rw[List.all_eq_true];intro i hi
 simpa using h i (List.mem_range.1 hi)
def Yj7 (w:World)(c:Cel)(p:Nat→Option Addr)(n:Nat→Nat):Prop:=∀i,i<6→n i=(c.ev i).length∧n i≤1048576∧Yel w (p i) (c.ev i)
theorem Yj7.below {w x:World}{c:Cel}{p:Nat→Option Addr}{n:Nat→Nat}(h:Yj7 w c p n)(hb:Below w.heap.size w x):Yj7 x c p n:=
 fun i hi=>⟨(h i hi).1,(h i hi).2.1,(h i hi).2.2.below hb⟩
end Go.Proofs.YtjjmalchelniiaaGreatDoor
namespace Go.Proofs.YtjjmalchelniiaaGreatDoor
open Go.RowKit Go.Lib Go.ChangeShapes Go.WideShapes Go.ChangeAt
section
variable {H:Type}{enc:TypeId×Value→H}{P:Program}
theorem Y0r {w:World}{base fuel:Nat}{sp:Nat→Bool}{held:Bool}{t e:TypeId}{c0 c1:Value}{x:DataW H×List MemPlace}
  (ht:P.underlying t=some (.array 2 e))(he:P.underlying e=some (.int .i64))(hce:P.cellsOf e=1)(hf:DataW.trod enc P w base sp held fuel t [c0,c1]=some x):
  ∃a b:Int,c0=.int .i64 a∧c1=.int .i64 b∧(Lit.int .i64 a).wf=true∧(Lit.int .i64 b).wf=true:=by
 obtain⟨xs,m,_,_,_,hl,hel⟩:=DataW.trod_array ht hf;rw[hce] at hel
 match xs,hl with
 |[y0,y1],_=>
  obtain⟨x0,q0,_,w0⟩:=DataW.trod_int he (show DataW.trod _ P w base sp held m e [c0]=some y0 from hel 0 (by omega));obtain⟨x1,q1,_,w1⟩:=DataW.trod_int he (show DataW.trod _ P w base sp held m e [c1]=some y1 from hel 1 (by omega));injection q0 with q0;injection q1 with q1;exact⟨x0,x1,q0,q1,w0,w1⟩
theorem Ypa {w:World}{base fuel:Nat}{sp:Nat→Bool}{held:Bool}{t e:TypeId}{c0 c1 c2 c3 c4 c5:Value}{x:DataW H×List MemPlace}
  (ht:P.underlying t=some (.array 6 e))(hce:P.cellsOf e=1)(hf:DataW.trod enc P w base sp held fuel t [c0,c1,c2,c3,c4,c5]=some x):
  ∃(m:Nat) (y0 y1 y2 y3 y4 y5:DataW H×List MemPlace),DataW.trod enc P w base sp held m e [c0]=some y0∧DataW.trod enc P w base sp held m e [c1]=some y1∧DataW.trod enc P w base sp held m e [c2]=some y2∧DataW.trod enc P w base sp held m e [c3]=some y3∧DataW.trod enc P w base sp held m e [c4]=some y4∧DataW.trod enc P w base sp held m e [c5]=some y5:=by
 obtain⟨xs,m,_,_,_,hl,hel⟩:=DataW.trod_array ht hf;rw[hce] at hel
 match xs,hl with
 |[y0,y1,y2,y3,y4,y5],_=>exact⟨m,y0,y1,y2,y3,y4,y5,hel 0 (by omega),hel 1 (by omega),hel 2 (by omega),hel 3 (by omega),hel 4 (by omega),hel 5 (by omega)⟩
theorem Yfe {w:World}{base fuel:Nat}{sp:Nat→Bool}{held:Bool}{e:TypeId}{c:Value}{x:DataW H×List MemPlace}(he:P.underlying e=some (.int .i64))(hf:DataW.trod enc P w base sp held fuel e [c]=some x):
  ∃a:Int,c=.int .i64 a∧(Lit.int .i64 a).wf=true:=by
 obtain⟨a,q,_,h⟩:=DataW.trod_int he hf;injection q with q;exact⟨a,q,h⟩
end
end Go.Proofs.YtjjmalchelniiaaGreatDoor