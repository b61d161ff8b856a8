/- Part 45 of StripsOnce. No condition. -/
import Derived.Test.YtjjmalchelniiaaGreatDoorStripsOnceMa
import Derived.Test.YtjjmalchelniiaaGreatDoorStripsOnceMd
import Derived.Test.YtjjmalchelniiaaGreatDoorStripsOnceMg
import Derived.Test.YtjjmalchelniiaaGreatDoorStripsOnceMi
import Derived.Test.YtjjmalchelniiaaGreatDoorStripsOnceMj
import Derived.Test.YtjjmalchelniiaaGreatDoorStripsOnceMk
import Derived.Test.YtjjmalchelniiaaGreatDoorStripsOnceMp
import Derived.Test.YtjjmalchelniiaaGreatDoorStripsOnceMq
import Derived.Test.YtjjmalchelniiaaGreatDoorStripsOnceMbr
import Derived.Great.BuildSlice
import Derived.RegionTactic
import Derived.Deep.RegionWith
import Derived.Deep.CutRange
import Derived.Deep.DeepCutAuto
import Derived.Deep.MidRow
namespace Go.Proofs.YtjjmalchelniiaaGreatDoor
open Go.RowKit Go.Lib
def slP:Value→Option Addr
 |.slice q _ _=>q
 |_=>none
def slC:Value→Nat
 |.slice _ _ c=>c
 |_=>0
theorem Yey {w:World}{base e c n:Nat}{v:Value}{xs:List Value}(h:w.ownsRow base e c v n xs):v=.slice (slP v) n (slC v)∧(slP v=none→slC v=0)∧v.oneCell'=true:=by
 rcases h.2 with ⟨rfl,rfl⟩|⟨g,cap,cur,rfl,_⟩
 ·exact⟨rfl,fun _=>rfl,rfl⟩
 ·exact⟨rfl,(fun h=>by cases h),rfl⟩
theorem Y3m {c:Cel}{sl sl':Nat→Value}(h:∀i,i<6→sl i=sl' i):Ybd c sl=Ybd c sl':=by
 unfold Ybd;rw[h 0 (by omega),h 1 (by omega),h 2 (by omega),h 3 (by omega),h 4 (by omega),h 5 (by omega)]
theorem Y9s {w x:World}{base e c n:Nat}{v:Value}{xs:List Value}(h:w.ownsRow base e c v n xs)(hb:Below w.heap.size w x):x.ownsRow base e c v n xs:=
 h.kept (Yak hb none) (by cases hv:v.ownBlock with|none=>exact .inl rfl|some g=>exact .inr (by simp))
theorem Ydx.mono {α:Type}{c:Nat}{e:TypeId}{V V':α→List Value→Prop}{w:World}{base:Nat}{v:Value}{l:List α}(h:Ydx c e V w base v l)(hV:∀a vs,V a vs→V' a vs):Ydx c e V' w base v l:=by
 obtain⟨xs,⟨h1,h2,h3⟩,h4⟩:=h;refine⟨xs,⟨h1,h2,fun i hi=>?_⟩,h4⟩;obtain⟨x,e1,e2⟩:=h3 i hi;exact⟨x,e1,hV _ _ e2⟩
theorem Yqv {w:World}{ops:Array Oper}{rest:List Oper}{o:Oper}{a:Act}{Q:Exit→Act→World→Prop}(hgd:o.guard=none)(x:Operand)(ho:o.op=.buildSlice 44 1 #[(0,x)])(c:Cel)(sl:Nat→Value)
  (hx:a.eval x=.agg (Ybd c sl).toArray)(h:wpList Tryz.prog ops Q rest (a.put o.dst (.slice (some ⟨w.heap.size,0,none⟩) 1 1)) (w.alloc (.cells (Ybd c sl).toArray 77 (0,0)))):wpList Tryz.prog ops Q (o::rest) a w:=by
 have hf:(match Tryz.prog.info? 77 with
  |some ie=>(match ie.zero with
   |some z=>if ie.size=18 then Instr.fill (fun i=>some (i*ie.size,ie.size)) ((Array.range (1*ie.size)).map (z.cells[· % z.cells.size]!)) [(0,.agg (Ybd c sl).toArray)] else none
   |none=>none)
  |none=>none)=some (Ybd c sl).toArray:=by kernel_rfl
 cases hi:Tryz.prog.info? 77 with
 |none=>rw[hi] at hf;cases hf
 |some ie=>
  rw[hi] at hf;cases hz:ie.zero with
  |none=>simp only[hz] at hf;cases hf
  |some z=>
   simp only[hz] at hf;by_cases h18:ie.size=18
   ·rw[if_pos h18] at hf;exact wpList_buildSlice hgd _ _ 1 _ ho _ ie z Tryz.underlying44 hi hz (by rw[h18];decide) (by rw[h18];decide) (by simpa [hx] using hf) h
   ·rw[if_neg h18] at hf;cases hf
theorem Yp4 {w:World}{ops:Array Oper}{rest:List Oper}{o:Oper}{a:Act}{Q:Exit→Act→World→Prop}(hgd:o.guard=none)(x y:Operand)(ho:o.op=.buildSlice 44 2 #[(0,x),(1,y)])(c d:Cel)(sl sl':Nat→Value)(N:Nat)(hN:w.heap.size=N)(t:Tmp)(hd:o.dst=some t)
  (hx:a.eval x=.agg (Ybd c sl).toArray)(hy:a.eval y=.agg (Ybd d sl').toArray)(h:wpList Tryz.prog ops Q rest (a.put (some t) (.slice (some ⟨N,0,none⟩) 2 2)) (w.alloc (.cells (Ybd c sl++Ybd d sl').toArray 77 (0,0)))):wpList Tryz.prog ops Q (o::rest) a w:=by
 have hf:(match Tryz.prog.info? 77 with
  |some ie=>(match ie.zero with
   |some z=>if ie.size=18 then Instr.fill (fun i=>some (i*ie.size,ie.size)) ((Array.range (2*ie.size)).map (z.cells[· % z.cells.size]!)) [(0,.agg (Ybd c sl).toArray),(1,.agg (Ybd d sl').toArray)] else none
   |none=>none)
  |none=>none)=some (Ybd c sl++Ybd d sl').toArray:=by kernel_rfl
 cases hi:Tryz.prog.info? 77 with
 |none=>rw[hi] at hf;cases hf
 |some ie=>
  rw[hi] at hf;cases hz:ie.zero with
  |none=>simp only[hz] at hf;cases hf
  |some z=>
   simp only[hz] at hf;by_cases h18:ie.size=18
   ·rw[if_pos h18] at hf;subst hN;rw[←hd] at h;exact wpList_buildSlice hgd _ _ 2 _ ho _ ie z Tryz.underlying44 hi hz (by rw[h18];decide) (by rw[h18];decide) (by simpa [hx,hy] using hf) h
   ·rw[if_neg h18] at hf;cases hf
section
variable {P:Program}
theorem Yhn {w:World}{base:Nat}{t ty e:TypeId}{i:TypeInfo}{z:Value}{size bytes:Nat}(ht:P.underlying t=some (.slice e))(hi:P.info? e=some i)(hz:i.zero=some z)(hsize:i.size=size)(hby:i.bytes=bytes)(hzs:z.cells.size=size)(hsz:0<size)
  {v:Value}{n:Nat}{xs:List Value}(hown:w.ownsRow base e size v n xs){a:Addr}{m c:Nat}{news:List Value}(hl:news.length=m*size)(hnews:∀j u,news[j]? =some u→w.cell? (a.add j)=some u)(h1:∀u∈news,u.oneCell'=true)
  (h63:n+m≤maxLen)(hbytes:(n+m)*bytes≤140737488355328){v':Value}{w':World}(hr:(Builtin.append_ #[t,t] ty #[v,.slice (some a) m c]).run P w=.ok v' w'):
  ∀k,v'.ownBlock=some k→v.ownBlock=some k∨w.heap.size≤k:=by
 intro k hk;have hsmall:n+m≤9223372036854775807:=by simp only[maxLen] at h63;omega
 rcases hown.2 with ⟨rfl,rfl⟩|⟨g,cap,cur,rfl,_,hg,hnc,hcm,hcs,htake⟩
 ·have hx:xs=[]:=List.eq_nil_of_length_eq_zero (by simpa using hown.1);subst hx;obtain⟨v2,w2,hr2,ho2,-,-⟩:=run_append_own (P:=P) w w.heap.size t ty e i z size bytes ht hi hz hsize hby hzs hsz (.slice none 0 0) 0 [] (World.ownsRow_nil ..) a m c news hl hnews h1 h63 hbytes (Nat.le_refl _);rw[hr] at hr2;injection hr2 with e1 e2;subst e1 e2;exact .inr (ho2.lt k hk).1
 ·by_cases hroom:n+m≤cap
  ·have hfit:n*i.size+news.length≤cur.size:=by rw[hl,hcs,hsize,←Nat.add_mul];exact Nat.mul_le_mul_right _ hroom
   have hr2:=run_append_room (P:=P) w t ty e i ht hi g n cap cur hg a m c news (by rw[hl,hsize]) hnews h1 hroom hfit;rw[hr] at hr2;injection hr2 with e1 e2;subst e1;exact .inl hk
  ·have holds:∀j u,xs[j]? =some u→w.cell? ((⟨g,0,none⟩:Addr).add j)=some u:=hown.cells (g:=g) rfl;have hr2:=run_append_grow (P:=P) w t ty e i z ht hi hz ⟨g,0,none⟩ n cap xs (by rw[hown.1,hsize]) holds a m c news (by rw[hl,hsize]) hnews (by omega) (by omega) (growslice_fits (by omega) (by rw[hby];exact hbytes));rw[hr] at hr2;injection hr2 with e1 e2;subst e1;injection hk with hk
   exact .inr (Nat.le_of_eq hk)
theorem Yg8 {α:Type}{w:World}{ops:Array Oper}{rest:List Oper}{o:Oper}{a:Act}{Q:Exit→Act→World→Prop}{s x:Operand}{t e:TypeId}{base c bytes cap K:Nat}{i:TypeInfo}{z v:Value}{V:α→List Value→Prop}{l:List α}{y:α}{vs:List Value}
  (hgd:o.guard=none)(ho:o.op=.call {callee:=.builtin .append,args:=#[s,x],argTypes:=#[t,t]})
  (ht:P.underlying t=some (.slice e))(hi:P.info? e=some i)(hz:i.zero=some z)(hzs:z.cells.size=c)(hsize:i.size=c)(hby:i.bytes=bytes)(hc0:0<c)
  (hs:a.eval s=v)(hx:a.eval x=.slice (some ⟨K,0,none⟩) 1 cap)(hown:Ydx c e V w base v l)(hV:V y vs)(hvl:vs.length=c)(hv1:∀u∈vs,u.oneCell'=true)(hcell:∀(j:Nat) u,vs[j]? =some u→w.cell? ⟨K,j,none⟩=some u)
  (h63:l.length+1≤maxLen)(hbytes:(l.length+1)*bytes≤140737488355328)(hbase:base≤w.heap.size)
  (h:∀(q:Option Addr) (cap':Nat) w',Ydx c e V w' base (.slice q (l.length+1) cap') (l++[y])→w.grownBy w' v.ownBlock→(∀k,(Value.slice q (l.length+1) cap').ownBlock=some k→v.ownBlock=some k∨w.heap.size≤k)→wpList P ops Q rest (a.put o.dst (.slice q (l.length+1) cap')) w'):wpList P ops Q (o::rest) a w:=by
 obtain⟨xs,hxs,hu⟩:=hown;refine wpList_plain hgd fun K' hK=>?_;have hnews:∀(j:Nat) u,vs[j]? =some u→w.cell? ((⟨K,0,none⟩:Addr).add j)=some u:=fun j u hj=>by rw[Addr.add_mid,Nat.zero_add];exact hcell j u hj
 obtain⟨v',w',hr,h2,h3,-⟩:=run_append_own (P:=P) w base t o.type e i z c bytes ht hi hz hsize hby hzs hc0 v l.length xs.flatten hu ⟨K,0,none⟩ 1 cap vs (by rw[hvl,Nat.one_mul]) hnews hv1 h63 hbytes hbase;have h4:=Yhn ht hi hz hsize hby hzs hc0 hu (by rw[hvl,Nat.one_mul]) hnews hv1 h63 hbytes hr;unfold Oper.wp execOp
 simp only[ho,resolve,invoke,builtin,Sem.run_bind,Sem.run_pure,Result.andThen_ok,List.map_toArray,List.map_cons,List.map_nil,hs,hx,hr];have e4:=(Yey h2).1;rw[e4] at h2 h4 ⊢;refine hK _ _ (h _ _ w' ⟨xs++[vs],hxs.app ⟨rfl,(fun u hu'=>by rw[List.mem_singleton.1 hu'];exact hvl),fun k hk=>?_⟩,by rw[List.flatten_append,List.length_append];simpa using h2⟩ h3 h4);obtain rfl:k=0:=by simpa using hk
 exact⟨vs,rfl,hV⟩
theorem Yqy {w:World}{ops:Array Oper}{rest:List Oper}{o:Oper}{a:Act}{Q:Exit→Act→World→Prop}{s x:Operand}{t e:TypeId}{cap K:Nat}{i:TypeInfo}{z v:Value}{n:Nat}{xs:List Value}{y0 y1:Int}
  (hgd:o.guard=none)(ho:o.op=.call {callee:=.builtin .append,args:=#[s,x],argTypes:=#[t,t]})
  (ht:P.underlying t=some (.slice e))(hi:P.info? e=some i)(hz:i.zero=some z)(hzs:z.cells.size=2)(hsize:i.size=2)(hby:i.bytes=16)
  (hs:a.eval s=v)(hown:w.ownsRow 0 e 2 v n xs)(hx:a.eval x=.slice (some ⟨K,0,none⟩) 1 cap)(c0:w.cell? ⟨K,0,none⟩=some (.int .i64 y0))(c1:w.cell? ⟨K,1,none⟩=some (.int .i64 y1))(hn:n≤1048576)
  (h:∀(q:Option Addr) (cap':Nat) w',w'.ownsRow 0 e 2 (.slice q (n+1) cap') (n+1) (xs++[.int .i64 y0,.int .i64 y1])→w.grownBy w' v.ownBlock→(∀k,(Value.slice q (n+1) cap').ownBlock=some k→v.ownBlock=some k∨w.heap.size≤k)→wpList P ops Q rest (a.put o.dst (.slice q (n+1) cap')) w'):wpList P ops Q (o::rest) a w:=by
 refine wpList_plain hgd fun K' hK=>?_;have hnews:∀(j:Nat) u,([.int .i64 y0,.int .i64 y1]:List Value)[j]? =some u→w.cell? ((⟨K,0,none⟩:Addr).add j)=some u:=fun j u hj=>by
  rw[Addr.add_mid,Nat.zero_add]
  match j,hj with
  |0,hj=>cases hj;exact c0
  |1,hj=>cases hj;exact c1
 have hv1:∀u∈([.int .i64 y0,.int .i64 y1]:List Value),u.oneCell'=true:=by intro u hu;simp only[List.mem_cons,List.not_mem_nil,or_false] at hu;rcases hu with rfl|rfl <;> rfl
 obtain⟨v',w',hr,h2,h3,-⟩:=run_append_own (P:=P) w 0 t o.type e i z 2 16 ht hi hz hsize hby hzs (by decide) v n xs hown ⟨K,0,none⟩ 1 cap _ rfl hnews hv1 (by unfold maxLen;omega) (by omega) (Nat.zero_le _);have h4:=Yhn ht hi hz hsize hby hzs (by decide) hown rfl hnews hv1 (by unfold maxLen;omega) (by omega) hr;have e4:=(Yey h2).1;rw[e4] at h2 h4;unfold Oper.wp execOp
 simp only[ho,resolve,invoke,builtin,Sem.run_bind,Sem.run_pure,Result.andThen_ok,List.map_toArray,List.map_cons,List.map_nil,hs,hx,hr];have:=h _ _ w' h2 h3 h4;rw[←e4] at this;exact hK _ _ this
end
theorem Yuy {w:World}{ops:Array Oper}{rest:List Oper}{o:Oper}{a:Act}{Q:Exit→Act→World→Prop}(hgd:o.guard=none)(x:Operand)(ho:o.op=.buildSlice 37 1 #[(0,x)])(u0 u1 u2 u3:Value)
  (hx:a.eval x=.agg #[u0,u1,u2,u3])(h:wpList Tryz.prog ops Q rest (a.put o.dst (.slice (some ⟨w.heap.size,0,none⟩) 1 1)) (w.alloc (.cells #[u0,u1,u2,u3] 46 (0,0)))):wpList Tryz.prog ops Q (o::rest) a w:=by
 have hf:(match Tryz.prog.info? 46 with
  |some ie=>(match ie.zero with
   |some z=>if ie.size=4 then Instr.fill (fun i=>some (i*ie.size,ie.size)) ((Array.range (1*ie.size)).map (z.cells[· % z.cells.size]!)) [(0,.agg #[u0,u1,u2,u3])] else none
   |none=>none)
  |none=>none)=some #[u0,u1,u2,u3]:=by kernel_rfl
 cases hi:Tryz.prog.info? 46 with
 |none=>rw[hi] at hf;cases hf
 |some ie=>
  rw[hi] at hf;cases hz:ie.zero with
  |none=>simp only[hz] at hf;cases hf
  |some z=>
   simp only[hz] at hf;by_cases h4:ie.size=4
   ·rw[if_pos h4] at hf;exact wpList_buildSlice hgd _ _ 1 _ ho _ ie z Tryz.underlying37 hi hz (by rw[h4];decide) (by rw[h4];decide) (by simpa [hx] using hf) h
   ·rw[if_neg h4] at hf;cases hf
theorem Qe7:∃i z,Tryz.prog.info? 46=some i∧i.zero=some z∧z.cells.size=4∧i.size=4∧i.bytes=48:=by
 have h:(Tryz.prog.info? 46).map (fun i=>(i.zero.map (·.cells.size),i.size,i.bytes))=some (some 4,4,48):=by kernel_rfl
 generalize Tryz.prog.info? 46=x at h
 match x,h with
 |some i,h=>
  rw[Option.map_some] at h;injection h with h;injection h with h1 h2;injection h2 with h2 h3;cases hz:i.zero with
  |none=>rw[hz] at h1;cases h1
  |some z=>
   rw[hz] at h1;injection h1 with h1;exact⟨i,z,rfl,hz,h1,h2,h3⟩
def Ysr (L:List (Option Nat))(w:World)(p:Option Addr)(l:List Ev):Prop:=Ye2 w p l∧(l=[]∨∃b o,p=some ⟨b,o,none⟩∧some b∉L)
section
variable {L L':List (Option Nat)}{w x:World}{row:Option Nat}
theorem Ysr.kept {p:Option Addr}{l:List Ev}(h:Ysr L w p l)(hg:w.grownBy x row)(hr:∀k,row=some k→some k∈L):Ysr L x p l:=by
 obtain⟨h1,h2⟩:=h;refine⟨?_,h2⟩;rcases h2 with rfl|⟨b,o,rfl,hL⟩
 ·exact .inl rfl
 ·rcases h1 with rfl|⟨b',o',e,hlt,hc⟩
  ·exact .inl rfl
  ·injection e with e;injection e with e1 e2;subst e1 e2;have hb:x.heap[b]? =w.heap[b]?:=hg.block b hlt fun e=>hL (hr b e.symm);refine .inr ⟨b,o,rfl,Nat.lt_of_lt_of_le hlt hg.size,fun i hi=>?_⟩;obtain⟨a0,a1,a2⟩:=hc i hi;exact⟨(World.cell?_of_block (a:=⟨b,o+i*3,none⟩) hb).trans a0,(World.cell?_of_block (a:=⟨b,o+i*3+1,none⟩) hb).trans a1,(World.cell?_of_block (a:=⟨b,o+i*3+2,none⟩) hb).trans a2⟩
theorem Ysr.mono {p:Option Addr}{l:List Ev}(h:Ysr L w p l)(hL:∀k,k<w.heap.size→some k∉L→some k∉L'):Ysr L' w p l:=by
 obtain⟨h1,h2⟩:=h;refine⟨h1,?_⟩;rcases h2 with rfl|⟨b,o,rfl,hb⟩
 ·exact .inl rfl
 ·rcases h1 with rfl|⟨b',o',e,hlt,_⟩
  ·exact .inl rfl
  ·injection e with e;injection e with e1 e2;subst e1 e2;exact .inr ⟨b,o,rfl,hL b hlt hb⟩
def Yk8 (L:List (Option Nat))(w:World)(c:Cel)(vs:List Value):Prop:=
 ∃(p:Nat→Option Addr) (cap:Nat→Nat),vs=Ybd c (fun i=>.slice (p i) (c.ev i).length (cap i))∧((Lit.int .i64 c.mx).wf=true∧(Lit.int .i64 c.my).wf=true)∧∀i,i<6→(c.ev i).length≤maxLen∧Ysr L w (p i) (c.ev i)
theorem Yk8.kept {c:Cel}{vs:List Value}(h:Yk8 L w c vs)(hg:w.grownBy x row)(hr:∀k,row=some k→some k∈L):Yk8 L x c vs:=by
 obtain⟨p,cap,h1,h2,h3⟩:=h;exact⟨p,cap,h1,h2,fun i hi=>⟨(h3 i hi).1,(h3 i hi).2.kept hg hr⟩⟩
theorem Yk8.mono {c:Cel}{vs:List Value}(h:Yk8 L w c vs)(hL:∀k,k<w.heap.size→some k∉L→some k∉L'):Yk8 L' w c vs:=by
 obtain⟨p,cap,h1,h2,h3⟩:=h;exact⟨p,cap,h1,h2,fun i hi=>⟨(h3 i hi).1,(h3 i hi).2.mono hL⟩⟩
theorem Yk8.cel (c:Cel)(vs:List Value)(h:Yk8 L w c vs):Y6l w c vs:=by
 obtain⟨p,cap,h1,h2,h3⟩:=h;exact⟨p,cap,h1,h2,fun i hi=>⟨(h3 i hi).1,(h3 i hi).2.1⟩⟩
theorem Yk8.shape {c:Cel}{vs:List Value}(h:Yk8 L w c vs):vs.length=18∧∀u∈vs,u.oneCell'=true:=(Yk8.cel c vs h).shape
def Yhk (L:List (Option Nat))(w:World)(v:Value)(l:List Cel):Prop:=Ydx 18 77 (Yk8 L w) w 0 v l
theorem Yhk.nil (L:List (Option Nat))(w:World):Yhk L w (.slice none 0 0) []:=Ydx.nil ..
theorem Yhk.kept {v:Value}{l:List Cel}(h:Yhk L w v l)(hg:w.grownBy x row)(hr:∀k,row=some k→some k∈L)(hv:∀k,row=some k→v.ownBlock≠some k):Yhk L x v l:=
 Ydx.mono (Ydx.kept h hg (by
  cases e:v.ownBlock with
  |none=>exact .inl rfl
  |some g=>exact .inr fun e2=>hv g e2.symm e)) fun _ _ hc=>hc.kept hg hr
theorem Yhk.mono {v:Value}{l:List Cel}(h:Yhk L w v l)(hL:∀k,k<w.heap.size→some k∉L→some k∉L'):Yhk L' w v l:=Ydx.mono h fun _ _ hc=>hc.mono hL
theorem Ydx.lt {α:Type}{c:Nat}{e:TypeId}{V:α→List Value→Prop}{base:Nat}{v:Value}{l:List α}(h:Ydx c e V w base v l):∀k,v.ownBlock=some k→k<w.heap.size:=by
 obtain⟨xs,_,h2⟩:=h;exact fun k hk=>(h2.lt k hk).2
def Yl6 (L:List (Option Nat))(w:World)(r:RowP)(vs:List Value):Prop:=
 ∃sl,vs=[.bool r.head,.int .i64 r.id,.int .i64 r.quant,sl]∧Yhk L w sl r.cels∧r.cels.length≤maxLen∧∀k,sl.ownBlock=some k→some k∉L
theorem Yl6.kept {r:RowP}{vs:List Value}(h:Yl6 L w r vs)(hg:w.grownBy x row)(hr:∀k,row=some k→some k∈L):Yl6 L x r vs:=by
 obtain⟨sl,h1,h2,h3,h4⟩:=h;exact⟨sl,h1,h2.kept hg hr (fun k hk e=>h4 k e (hr k hk)),h3,h4⟩
theorem Yl6.mono {r:RowP}{vs:List Value}(h:Yl6 L w r vs)(hL:∀k,k<w.heap.size→some k∉L→some k∉L'):Yl6 L' w r vs:=by
 obtain⟨sl,h1,h2,h3,h4⟩:=h;exact⟨sl,h1,h2.mono hL,h3,fun k hk=>hL k (Ydx.lt h2 k hk) (h4 k hk)⟩
theorem Yl6.rowV (r:RowP)(vs:List Value)(h:Yl6 L w r vs):Qi0 w r vs:=by
 obtain⟨sl,rfl,h2,h3,-⟩:=h;obtain⟨xs,hx,ho⟩:=h2;obtain⟨e1,e2,-⟩:=Yey ho;obtain⟨q,cap,e,hm⟩:=Ydx.many (V':=Y6l) ⟨xs,hx,ho⟩ Yk8.cel;refine⟨q,cap,by rw[e],fun hq=>?_,h3,hm⟩;rw[e] at e2;exact e2 hq
theorem Yl6.shape {r:RowP}{vs:List Value}(h:Yl6 L w r vs):vs.length=4∧∀u∈vs,u.oneCell'=true:=by
 obtain⟨sl,rfl,⟨xs,hx,ho⟩,-,-⟩:=h;refine⟨rfl,fun u hu=>?_⟩;simp only[List.mem_cons,List.not_mem_nil,or_false] at hu;rcases hu with rfl|rfl|rfl|rfl
 ·rfl
 ·rfl
 ·rfl
 ·exact(Yey ho).2.2
def Yj0 (L:List (Option Nat))(w:World)(v:Value)(l:List RowP):Prop:=Ydx 4 46 (Yl6 L w) w 0 v l
theorem Yj0.nil (L:List (Option Nat))(w:World):Yj0 L w (.slice none 0 0) []:=Ydx.nil ..
theorem Yj0.mono {v:Value}{l:List RowP}(h:Yj0 L w v l)(hL:∀k,k<w.heap.size→some k∉L→some k∉L'):Yj0 L' w v l:=Ydx.mono h fun _ _ hc=>hc.mono hL
theorem Yj0.rows {v:Value}{l:List RowP}(h:Yj0 L w v l):∃(q:Option Addr) (cap:Nat),v=.slice q l.length cap∧Yg9 w q l:=Ydx.many h Yl6.rowV
end
def Yu3 (n:Nat):List (Option Nat):=(List.range n).map some
theorem Yfe {n j:Nat}:some j∈Yu3 n↔j<n:=by simp[Yu3]
section
variable {w0 w z:World}{A X Z:Nat}{Y SZ:Array Value}{hd:Shd}{a:Option Addr}{ca:Nat}{rv vv rv' vv':Value}{rs:List RowP}{vs:List (Int×Int)}{L L':List (Option Nat)}{row:Option Nat}
end
structure Yae (L:List (Option Nat)) (w w':World):Prop where
 os:w'.os=w.os
 tape:w'.tape=w.tape
 output:w'.output=w.output
 size:w.heap.size≤w'.heap.size
 block:∀k,k<w.heap.size→some k∉L→w'.heap[k]? =w.heap[k]?
section
variable {L M L':List (Option Nat)}{w x z:World}{row:Option Nat}
theorem Yae.refl (L:List (Option Nat))(w:World):Yae L w w:=⟨rfl,rfl,rfl,Nat.le_refl _,fun _ _ _=>rfl⟩
theorem Yae.trans (h:Yae L w x)(k:Yae M x z)(hM:∀j,j<w.heap.size→some j∈M→some j∈L):Yae L w z:=
 ⟨k.os.trans h.os,k.tape.trans h.tape,k.output.trans h.output,Nat.le_trans h.size k.size,fun i hi h1=>(k.block i (Nat.lt_of_lt_of_le hi h.size) fun h2=>h1 (hM i hi h2)).trans (h.block i hi h1)⟩
theorem Yae.mono (h:Yae L w x)(hM:∀j,j<w.heap.size→some j∈L→some j∈M):Yae M w x:=
 ⟨h.os,h.tape,h.output,h.size,fun i hi h1=>h.block i hi fun h2=>h1 (hM i hi h2)⟩
theorem Yae.one (h:w.grownBy x row)(hr:∀k,k<w.heap.size→row=some k→some k∈L):Yae L w x:=
 ⟨h.os,h.tape,h.output,h.size,fun i hi h1=>h.block i hi fun e=>h1 (hr i hi e.symm)⟩
theorem Yae.below (h:Below w.heap.size w x):Yae L w x:=⟨h.os,h.tape,h.output,h.size,fun k hk _=>h.block k hk⟩
theorem Yae.under {N:Nat}(h:Yae L w x)(hN:N≤w.heap.size)(hL:∀k,some k∈L→N≤k):Below N w x:=
 ⟨h.os,h.tape,h.output,h.size,fun k hk=>h.block k (by omega) fun h1=>by have:=hL k h1;omega⟩
theorem Yae.lone {b:Nat}(h:Yae L w x)(hL:∀k,k<w.heap.size→some k∈L→k=b):w.grownBy x (some b):=
 ⟨h.os,h.tape,h.output,h.size,fun k hk hn=>h.block k hk fun h1=>hn (by rw[hL k hk h1])⟩
theorem Yae.set {p:Addr}(v:Value)(hp:some p.block∈L):Yae L w (w.setCell p v):=Yae.one (Yap w p v) fun k _ e=>by injection e with e;subst e;exact hp
theorem Yex {base e c n:Nat}{v:Value}{xs:List Value}(h:w.ownsRow base e c v n xs)(hg:Yae M w x)(hv:∀k,v.ownBlock=some k→some k∉M):x.ownsRow base e c v n xs:=by
 refine⟨h.1,?_⟩;rcases h.2 with h2|⟨g,cap,cur,rfl,hb,hh,h3⟩
 ·exact .inl h2
 ·exact .inr ⟨g,cap,cur,rfl,hb,(hg.block g (Array.getElem?_eq_some_iff.1 hh).1 (hv g rfl)).trans hh,h3⟩
theorem Ysr.keptL {p:Option Addr}{l:List Ev}(h:Ysr L w p l)(hg:Yae M w x)(hr:∀k,some k∈M→some k∈L):Ysr L x p l:=by
 obtain⟨h1,h2⟩:=h;refine⟨?_,h2⟩;rcases h2 with rfl|⟨b,o,rfl,hL⟩
 ·exact .inl rfl
 ·rcases h1 with rfl|⟨b',o',e,hlt,hc⟩
  ·exact .inl rfl
  ·injection e with e;injection e with e1 e2;subst e1 e2;have hb:x.heap[b]? =w.heap[b]?:=hg.block b hlt fun e=>hL (hr b e);refine .inr ⟨b,o,rfl,Nat.lt_of_lt_of_le hlt hg.size,fun i hi=>?_⟩;obtain⟨a0,a1,a2⟩:=hc i hi;exact⟨(World.cell?_of_block (a:=⟨b,o+i*3,none⟩) hb).trans a0,(World.cell?_of_block (a:=⟨b,o+i*3+1,none⟩) hb).trans a1,(World.cell?_of_block (a:=⟨b,o+i*3+2,none⟩) hb).trans a2⟩
theorem Yk8.keptL {c:Cel}{vs:List Value}(h:Yk8 L w c vs)(hg:Yae M w x)(hr:∀k,some k∈M→some k∈L):Yk8 L x c vs:=by
 obtain⟨p,cap,h1,h2,h3⟩:=h;exact⟨p,cap,h1,h2,fun i hi=>⟨(h3 i hi).1,(h3 i hi).2.keptL hg hr⟩⟩
theorem Ydx.keptL {α:Type}{c:Nat}{e:TypeId}{V:α→List Value→Prop}{base:Nat}{v:Value}{l:List α}(h:Ydx c e V w base v l)(hg:Yae M w x)(hv:∀k,v.ownBlock=some k→some k∉M):Ydx c e V x base v l:=by
 obtain⟨xs,h1,h2⟩:=h;exact⟨xs,h1,Yex h2 hg hv⟩
theorem Yhk.keptL {v:Value}{l:List Cel}(h:Yhk L w v l)(hg:Yae M w x)(hr:∀k,some k∈M→some k∈L)(hv:∀k,v.ownBlock=some k→some k∉M):Yhk L x v l:=
 Ydx.mono (Ydx.keptL h hg hv) fun _ _ hc=>hc.keptL hg hr
theorem Yl6.keptL {r:RowP}{vs:List Value}(h:Yl6 L w r vs)(hg:Yae M w x)(hr:∀k,some k∈M→some k∈L):Yl6 L x r vs:=by
 obtain⟨sl,h1,h2,h3,h4⟩:=h;exact⟨sl,h1,h2.keptL hg hr (fun k e hk=>h4 k e (hr k hk)),h3,h4⟩
theorem Yj0.keptL {v:Value}{l:List RowP}(h:Yj0 L w v l)(hg:Yae M w x)(hr:∀k,some k∈M→some k∈L)(hv:∀k,v.ownBlock=some k→some k∉M):Yj0 L x v l:=
 Ydx.mono (Ydx.keptL h hg hv) fun _ _ hc=>hc.keptL hg hr
theorem Ydw.keptL {l:List Int}{p:Option Addr}(h:Ydw w p l)(ha:∀a,p=some a→some a.block∉M)(hg:Yae M w x):Ydw x p l:=by
 rcases h with h|⟨b,o,e,hlt,hc⟩
 ·exact .inl h
 ·refine .inr ⟨b,o,e,Nat.lt_of_lt_of_le hlt hg.size,fun i hi=>?_⟩;exact(World.cell?_of_block (a:=⟨b,o+i,none⟩) (hg.block b hlt (ha _ e))).trans (hc i hi)
end
theorem Ykg (k:Int):0≤Yhx k∧Yhx k≤100∧0≤Yjv k∧Yjv k≤100∧(acr k:Int)≤100:=by
 rcases Yd7 k with rfl|rfl|rfl|rfl|rfl|rfl|⟨h,hv⟩
 case _|_|_|_|_|_=>decide +kernel
 unfold Yhx Yjv acr Yd0 Y8r;rw[hv]
 decide
theorem Yj7 (c:Cel)(sl:Nat→Value)(h:∀i,i<6→(sl i).oneCell'=true):(Ybd c sl).toArray.all (·.oneCell')=true:=by
 rw[Array.all_eq_true_iff_forall_mem];intro v hv;have hm:v∈Ybd c sl:=by simpa using hv
 simp only[Ybd,List.mem_cons,List.not_mem_nil,or_false] at hm;rcases hm with rfl|rfl|rfl|rfl|rfl|rfl|rfl|rfl|rfl|rfl|rfl|rfl|rfl|rfl|rfl|rfl|rfl|rfl
 all_goals first|rfl|exact h _ (by omega)
theorem Y4l {ops:Array Oper}{rest:List Oper}{op:Oper}{a:Act}{w:World}{Q:Exit→Act→World→Prop}(hgd:op.guard=none)(x:Operand)(ho:op.op=.load 73 x)
  (b o:Nat)(hx:a.eval x=.pointer (some ⟨b,o,none⟩))(u v:Int)(hc:w.rangeAt b o [.int .i64 u,.int .i64 v])(h:wpList Tryz.prog ops Q rest (a.put op.dst (.agg #[.int .i64 u,.int .i64 v])) w):wpList Tryz.prog ops Q (op::rest) a w:=
 wpList_load_mid hgd _ x ho b o hx [.int .i64 u,.int .i64 v] _ hc Tryz.underlying73 rfl (by kernel_rfl) h
theorem Qeu {Q:Nat→Option Addr→Nat→Prop}(h:∀i,i<6→∃P cap,Q i P cap):∃(p:Nat→Option Addr) (cap:Nat→Nat),∀i,i<6→Q i (p i) (cap i):=by
 refine⟨fun i=>if h':i<6 then (h i h').choose else none,fun i=>if h':i<6 then (h i h').choose_spec.choose else 0,fun i hi=>?_⟩;simp only[dif_pos hi];exact(h i hi).choose_spec.choose_spec
theorem Qc8 {c:Cel}{sl sl':Nat→Value}(h:∀i,i<6→sl i=sl' i):Ybd c sl=Ybd c sl':=by
 unfold Ybd;rw[h 0 (by omega),h 1 (by omega),h 2 (by omega),h 3 (by omega),h 4 (by omega),h 5 (by omega)]
theorem Ylw (w:World):(zeroValue 46).run Tryz.prog w=.ok (.agg [.bool false,.int .i64 0,.int .i64 0,.slice none 0 0].toArray) w:=Yfv (by kernel_rfl) w
theorem Qc4 {P:Program}{ops:Array Oper}{rest:List Oper}{S:World→Prop}{Q:Act→Prop}{o:Oper}{a:Act}(ty:TypeId)(x:Operand)(b p:Nat)(cs:List Value)(d:TypeDesc)(hw:Region.wanted o (yielded ops a.tmps)=true)(ho:o.op=.load ty x)(hx:a.eval x=.pointer (some ⟨b,p,none⟩))
  (hc:∀w,S w→w.rangeAt b p cs)(hu:P.underlying ty=some d)(hd:d.isRow=true)(hi:(P.info? ty).map (·.size)=some cs.length)(h:Ye9 P ops S Q rest (a.put o.dst (.agg cs.toArray))):Ye9 P ops S Q (o::rest) a:=
 Yaf hw (fun w hS=>by
  unfold execOp;simp only[ho,hx,Instr.loadAt,Instr.sureAddr,Sem.run_bind,Sem.run_pure,Result.andThen_ok,run_loadVar_mid w b p ty cs d (hc w hS) hu hd hi]) h
end Go.Proofs.YtjjmalchelniiaaGreatDoor