/- No condition. -/
import Derived.Test.YtnamlooifcpoaaaGreatDoorScreensNextMh
import Derived.Test.YtnamlooifcpoaaaGreatDoorScreensNextMbg
import Derived.OwnWalk
import Derived.Laws.AppendOwn
import Derived.Laws.AppendOwnNone
import Derived.Deep.MidRow
namespace Go.Proofs.YtnamlooifcpoaaaGreatDoor
open Go.RowKit Go.Lib
theorem Ymn {α:Type}{c:Nat}:∀(xs:List (List α)),(∀x∈xs,x.length=c)→∀(i:Nat) (h:i<xs.length) (j:Nat),j<c→xs.flatten[i*c+j]? =xs[i][j]?
 |[],_,i,h,_,_=>absurd h (Nat.not_lt_zero i)
 |x::xs,hx,0,_,j,hj=>by
  rw[List.flatten_cons,Nat.zero_mul,Nat.zero_add,List.getElem?_append_left (by rw[hx x (List.mem_cons_self ..)];exact hj)]
  rfl
 |x::xs,hx,i+1,h,j,hj=>by
  have hl:=hx x (List.mem_cons_self ..);rw[List.flatten_cons,List.getElem?_append_right (by rw[hl,Nat.add_mul];omega),hl,show (i+1)*c+j-c=i*c+j by rw[Nat.add_mul];omega];exact Ymn xs (fun y hy=>hx y (List.mem_cons_of_mem _ hy)) i (by simpa using h) j hj
theorem Ye0 {α:Type}{c:Nat}:∀(xs:List (List α)),(∀x∈xs,x.length=c)→xs.flatten.length=xs.length*c
 |[],_=>by simp
 |x::xs,hx=>by
  rw[List.flatten_cons,List.length_append,hx x (List.mem_cons_self ..),Ye0 xs (fun y hy=>hx y (List.mem_cons_of_mem _ hy)),List.length_cons,Nat.add_mul];omega
def Yu5 {α:Type}(c:Nat)(V:α→List Value→Prop)(l:List α)(xs:List (List Value)):Prop:=
 xs.length=l.length∧(∀x∈xs,x.length=c)∧∀i,(h:i<l.length)→∃x,xs[i]? =some x∧V l[i] x
theorem Yu5.nil {α:Type}(c:Nat)(V:α→List Value→Prop):Yu5 c V [] []:=⟨rfl,(fun x h=>by cases h),fun i h=>absurd h (Nat.not_lt_zero i)⟩
theorem Yu5.app {α:Type}{c:Nat}{V:α→List Value→Prop}{l m:List α}{xs ys:List (List Value)}(h:Yu5 c V l xs)(k:Yu5 c V m ys):Yu5 c V (l++m) (xs++ys):=by
 obtain⟨h1,h2,h3⟩:=h;obtain⟨k1,k2,k3⟩:=k;refine⟨by rw[List.length_append,List.length_append,h1,k1],fun x hx=>?_,fun i hi=>?_⟩
 ·rcases List.mem_append.1 hx with hx|hx
  ·exact h2 x hx
  ·exact k2 x hx
 ·by_cases hl:i<l.length
  ·obtain⟨x,e,hv⟩:=h3 i hl;exact⟨x,by rw[List.getElem?_append_left (by omega)];exact e,by rw[List.getElem_append_left hl];exact hv⟩
  ·rw[List.length_append] at hi;obtain⟨x,e,hv⟩:=k3 (i-l.length) (by omega);exact⟨x,by rw[List.getElem?_append_right (by omega),h1];exact e,by rw[List.getElem_append_right (by omega)];exact hv⟩
def Ynh {α:Type}(c:Nat)(e:TypeId)(V:α→List Value→Prop)(w:World)(base:Nat)(v:Value)(l:List α):Prop:=
 ∃xs,Yu5 c V l xs∧w.ownsRow base e c v l.length xs.flatten
theorem Ynh.nil {α:Type}(c:Nat)(e:TypeId)(V:α→List Value→Prop)(w:World)(base:Nat):Ynh c e V w base (.slice none 0 0) ([]:List α):=⟨[],Yu5.nil c V,World.ownsRow_nil _ _ _ _⟩
theorem Ynh.fresh {α:Type}{c:Nat}{e:TypeId}{V:α→List Value→Prop}{w:World}{base:Nat}{v:Value}{l:List α}(h:Ynh c e V w base v l):∀k,v.ownBlock=some k→base≤k:=by
 obtain⟨xs,_,h2⟩:=h;exact Ylc h2
theorem Ynh.many {α:Type}{c:Nat}{e:TypeId}{V:α→List Value→Prop}{V':World→α→List Value→Prop}{w:World}{base:Nat}{v:Value}{l:List α}(h:Ynh c e V w base v l)(hV:∀a vs,V a vs→V' w a vs):
  ∃(q:Option Addr) (cap:Nat),v=.slice q l.length cap∧Yby c V' w q l:=by
 obtain⟨xs,⟨h1,h2,h3⟩,h0⟩:=h;have h0':=h0;rcases h0.2 with ⟨rfl,hn⟩|⟨g,cap,cur,rfl,_,hg,_⟩
 ·exact⟨none,0,by rw[hn],.inl (List.eq_nil_of_length_eq_zero hn)⟩
 ·refine⟨_,cap,rfl,.inr ⟨g,0,rfl,(Array.getElem?_eq_some_iff.1 hg).1,fun i hi=>?_⟩⟩;obtain⟨x,e1,hv⟩:=h3 i hi;refine⟨x,hV _ _ hv,fun j u hj=>?_⟩;have hx:x.length=c:=h2 x (List.mem_of_getElem? e1);have hjc:j<c:=by rw[←hx];exact(List.getElem?_eq_some_iff.1 hj).1
  have hf:=Ymn xs h2 i (by omega) j hjc;have e2:xs[i]'(by omega)=x:=by
   have:=List.getElem?_eq_getElem (l:=xs) (i:=i) (by omega);rw[this] at e1;injection e1
  rw[e2,hj] at hf;have:=World.ownsRow.cells (g:=g) h0' rfl (i*c+j) u hf;rw[Addr.add_mid] at this;rw[Nat.zero_add] at this ⊢;exact this
theorem Yby.vals {α:Type}{c:Nat}{V:World→α→List Value→Prop}{w:World}{b o:Nat}{l:List α}(hc:∀a vs,V w a vs→vs.length=c)(h:Yby c V w (some ⟨b,o,none⟩) l):
  ∃xs,Yu5 c (V w) l xs∧∀(j:Nat) u,xs.flatten[j]? =some u→w.cell? ⟨b,o+j,none⟩=some u:=by
 rcases h with rfl|⟨b',o',e,hl,h⟩
 ·exact⟨[],Yu5.nil _ _,fun j u hj=>by simp at hj⟩
 ·injection e with e;injection e with e1 e2;subst e1 e2;have each:∀i,∃x:List Value,(h:i<l.length)→V w l[i] x∧∀(j:Nat) v,x[j]? =some v→w.cell? ⟨b,o+i*c+j,none⟩=some v:=by
   intro i;by_cases hi:i<l.length
   ·obtain⟨vs,h1,h2⟩:=h i hi;exact⟨vs,fun _=>⟨h1,h2⟩⟩
   ·exact⟨[],fun h=>absurd h hi⟩
  have hlen:∀x∈(List.range l.length).map fun i=>(each i).choose,x.length=c:=by
   intro x hx;obtain⟨i,hi,rfl⟩:=List.mem_map.1 hx;exact hc _ _ ((each i).choose_spec (List.mem_range.1 hi)).1
  refine⟨(List.range l.length).map fun i=>(each i).choose,⟨by simp,hlen,fun i hi=>⟨(each i).choose,by simp[hi],((each i).choose_spec hi).1⟩⟩,fun j u hj=>?_⟩;have hjl:=(List.getElem?_eq_some_iff.1 hj).1;rw[Ye0 _ hlen,List.length_map,List.length_range] at hjl;have hc0:0<c:=Nat.pos_of_ne_zero (fun h=>by subst h;simp at hjl);have hi:j / c<l.length:=(Nat.div_lt_iff_lt_mul hc0).2 hjl
  have hm:j%c<c:=Nat.mod_lt _ hc0;have ej:j / c*c+j%c=j:=by rw[Nat.mul_comm];exact Nat.div_add_mod j c
  have hf:=Ymn _ hlen (j / c) (by simpa using hi) (j%c) hm;rw[ej,hj] at hf;have e:((List.range l.length).map fun i=>(each i).choose)[j / c]'(by simpa using hi)=(each (j / c)).choose:=by simp
  rw[e] at hf;have:=((each (j / c)).choose_spec hi).2 (j%c) u hf.symm;rwa [Nat.add_assoc,ej] at this
theorem Yby.const {α:Type}{c:Nat}{V:World→α→List Value→Prop}{w x:World}{q:Option Addr}{l:List α}(h:Yby c V w q l)(hb:Below w.heap.size w x):Yby c (fun _=>V w) x q l:=by
 rcases h with h|⟨b,o,rfl,hl,h⟩
 ·exact .inl h
 ·refine .inr ⟨b,o,rfl,Nat.lt_of_lt_of_le hl hb.size,fun i hi=>?_⟩;obtain⟨vs,h1,h2⟩:=h i hi;exact⟨vs,h1,fun j v hj=>(World.cell?_of_block (a:=⟨b,o+i*c+j,none⟩) (hb.block b hl)).trans (h2 j v hj)⟩
theorem Ynh.less {α:Type}{c:Nat}{e:TypeId}{V:α→List Value→Prop}{w:World}{base base':Nat}{v:Value}{l:List α}(h:Ynh c e V w base v l)(hb:base'≤base):Ynh c e V w base' v l:=by
 obtain⟨xs,h1,h2,h3⟩:=h;refine⟨xs,h1,h2,?_⟩;rcases h3 with h3|⟨g,cap,cur,e1,hg,h4⟩
 ·exact .inl h3
 ·exact .inr ⟨g,cap,cur,e1,Nat.le_trans hb hg,h4⟩
theorem Yit.shape {w:World}{c:Cel}{vs:List Value}(h:Yit w c vs):vs.length=18∧∀u∈vs,u.oneCell'=true:=by
 obtain⟨p,cap,rfl,-,-⟩:=h;refine⟨rfl,fun u hu=>?_⟩;simp only[Ycd,List.mem_cons,List.not_mem_nil,or_false] at hu;rcases hu with rfl|rfl|rfl|rfl|rfl|rfl|rfl|rfl|rfl|rfl|rfl|rfl|rfl|rfl|rfl|rfl|rfl|rfl <;> rfl
theorem Ygs {α:Type}{P:Program}{w w0:World}{ops:Array Oper}{rest:List Oper}{o:Oper}{a:Act}{Q:Exit→Act→World→Prop}{s x:Operand}{t e:TypeId}{base c bytes cap:Nat}{i:TypeInfo}{z v:Value}{V:World→α→List Value→Prop}{l m:List α}{q:Option Addr}
  (hgd:o.guard=none)(ho:o.op=.call {callee:=.builtin .append,args:=#[s,x],argTypes:=#[t,t]})
  (ht:P.underlying t=some (.slice e))(hi:P.info? e=some i)(hz:i.zero=some z)(hzs:z.cells.size=c)(hsize:i.size=c)(hby:i.bytes=bytes)(hc0:0<c)
  (hs:a.eval s=v)(hx:a.eval x=.slice q m.length cap)(hq:q=none→cap=0)(hown:Ynh c e (V w0) w base v l)(hm:Yby c V w q m)(hV:∀b vs,V w b vs→V w0 b vs)(hc:∀b vs,V w b vs→vs.length=c∧∀u∈vs,u.oneCell'=true)
  (h63:l.length+m.length≤maxLen)(hbytes:(l.length+m.length)*bytes≤140737488355328)(hbase:base≤w.heap.size)
  (h:∀v' w',Ynh c e (V w0) w' base v' (l++m)→w.grownBy w' v.ownBlock→wpList P ops Q rest (a.put o.dst v') w'):wpList P ops Q (o::rest) a w:=by
 obtain⟨xs,hxs,hu⟩:=hown;cases q with
 |none=>
  have hm0:m=[]:=by
   rcases hm with hm|⟨b,o,e,_⟩
   ·exact hm
   ·cases e
  subst hm0;rw[hq rfl] at hx;refine wpList_append_own_none hgd s x t ho base e i c ht hi v l.length xs.flatten hs hu hx ?_;exact h v w (by rw[List.append_nil];exact⟨xs,hxs,hu⟩) ⟨rfl,rfl,rfl,Nat.le_refl _,fun _ _ _=>rfl⟩
 |some ad=>
  obtain⟨ys,hys,hcell⟩:∃ys,Yu5 c (V w) m ys∧∀(j:Nat) u,ys.flatten[j]? =some u→w.cell? (ad.add j)=some u:=by
   rcases hm with rfl|⟨b,o,e,hm⟩
   ·exact⟨[],Yu5.nil _ _,fun j u hj=>by simp at hj⟩
   ·injection e with e;subst e;obtain⟨ys,h1,h2⟩:=Yby.vals (fun b vs hv=>(hc b vs hv).1) (.inr ⟨b,o,rfl,hm⟩);exact⟨ys,h1,fun j u hj=>by rw[Addr.add_mid];exact h2 j u hj⟩
  refine wpList_append_own w hgd s x t ho base e i z c bytes ht hi hz hsize hby hzs hc0 v l.length xs.flatten hs hu ad m.length cap ys.flatten hx (by rw[Ye0 ys hys.2.1,hys.1])
   hcell (fun u hu'=>?_) h63 hbytes hbase fun v' w' h1 h2 _=>h v' w' ⟨xs++ys,hxs.app ⟨hys.1,hys.2.1,fun k hk=>?_⟩,by rw[List.length_append,List.flatten_append];exact h1⟩ h2
  ·obtain⟨y,hy,huy⟩:=List.mem_flatten.1 hu';obtain⟨k,hk,rfl⟩:=List.mem_iff_getElem.1 hy;obtain⟨y',e1,hv⟩:=hys.2.2 k (by rw[←hys.1];exact hk);rw[List.getElem?_eq_getElem hk] at e1;injection e1 with e1;subst e1;exact(hc _ _ hv).2 u huy
  ·obtain⟨y,e1,hv⟩:=hys.2.2 k hk;exact⟨y,e1,hV _ _ hv⟩
theorem Ydn {ops:Array Oper}{rest:List Oper}{op:Oper}{a:Act}{w:World}{Q:Exit→Act→World→Prop}(hgd:op.guard=none)(x:Operand)(ho:op.op=.load 48 x)
  (b o:Nat)(hx:a.eval x=.pointer (some ⟨b,o,none⟩))(vs:List Value)(hc:w.rangeAt b o vs)(hl:vs.length=18)(h:wpList Tryz.prog ops Q rest (a.put op.dst (.agg vs.toArray)) w):wpList Tryz.prog ops Q (op::rest) a w:=
 wpList_load_mid hgd _ x ho b o hx vs _ hc Tryz.underlying48 rfl (by rw[hl];kernel_rfl) h
theorem Ye4 {ops:Array Oper}{rest:List Oper}{op:Oper}{a:Act}{w:World}{Q:Exit→Act→World→Prop}(hgd:op.guard=none)(x:Operand)(ho:op.op=.load 42 x)
  (b o:Nat)(hx:a.eval x=.pointer (some ⟨b,o,none⟩))(vs:List Value)(hc:w.rangeAt b o vs)(hl:vs.length=4)(h:wpList Tryz.prog ops Q rest (a.put op.dst (.agg vs.toArray)) w):wpList Tryz.prog ops Q (op::rest) a w:=
 wpList_load_mid hgd _ x ho b o hx vs _ hc Tryz.underlying42 rfl (by rw[hl];kernel_rfl) h
theorem Ykf {ops:Array Oper}{rest:List Oper}{op:Oper}{a:Act}{w:World}{Q:Exit→Act→World→Prop}(hw:Region.wanted op (yielded ops a.tmps)=true)(x:Operand)(ho:op.op=.load 43 x)
  (b o:Nat)(hx:a.eval x=.pointer (some ⟨b,o,none⟩))(u v:Int)(hc:w.rangeAt b o [.int .i64 u,.int .i64 v])(h:wpList Tryz.prog ops Q rest (a.put op.dst (.agg (Ygk u v))) w):wpList Tryz.prog ops Q (op::rest) a w:=by
 unfold wpList;rw[if_pos hw];exact .inl (wp_load_mid _ x ho b o hx [.int .i64 u,.int .i64 v] _ hc Tryz.underlying43 rfl (by kernel_rfl) h)
theorem Yiu {P:Program}{T:TypeId}{Z:Array Value}(h:(P.info? T).map (fun i=>i.zero)=some (some (.agg Z)))(w:World):(zeroValue T).run P w=.ok (.agg Z) w:=by
 cases hq:P.info? T with
 |none=>rw[hq] at h;cases h
 |some i=>
  rw[hq] at h;have h:i.zero=some (.agg Z):=by simpa using h
  simp[zeroValue,typeInfo,hq,h]
theorem Yfv:∃Y:Array Value,Y.size=18∧∀w,(zeroValue 48).run Tryz.prog w=.ok (.agg Y) w:=⟨(Ycd Y3w Yp7).toArray,rfl,Yiu (by kernel_rfl)⟩
theorem Yhq:∃Y:Array Value,Y.size=4∧∀w,(zeroValue 42).run Tryz.prog w=.ok (.agg Y) w:=⟨#[.bool false,.int .i64 0,.int .i64 0,.slice none 0 0],rfl,Yiu (by kernel_rfl)⟩
theorem Yfz {w:World}{c:Cel}{vs:List Value}(h:Yit w c vs):vs.toArray.all (·.oneCell')=true:=by
 rw[Array.all_eq_true_iff_forall_mem];exact fun u hu=>h.shape.2 u (by simpa using hu)
end Go.Proofs.YtnamlooifcpoaaaGreatDoor