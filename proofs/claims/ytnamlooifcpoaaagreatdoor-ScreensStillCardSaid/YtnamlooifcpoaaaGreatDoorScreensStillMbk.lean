/- No condition. -/
import Derived.Test.YtnamlooifcpoaaaGreatDoorScreensStillMbb
import Derived.Test.YtnamlooifcpoaaaGreatDoorScreensStillMbf
import Derived.Test.YtnamlooifcpoaaaGreatDoorScreensStillMbg
import Derived.Test.YtnamlooifcpoaaaGreatDoorScreensStillMbh
import Derived.Test.YtnamlooifcpoaaaGreatDoorScreensStillMbj
import Derived.Great.BuildSlice
import Derived.WalkMore
import Derived.Lib.Hide
namespace Go.Proofs.YtnamlooifcpoaaaGreatDoor
open Go.RowKit Go.Lib
def slP:Value→Option Addr
 |.slice q _ _=>q
 |_=>none
def slC:Value→Nat
 |.slice _ _ c=>c
 |_=>0
theorem Yho {w:World}{base e c n:Nat}{v:Value}{xs:List Value}(h:w.ownsRow base e c v n xs):v=.slice (slP v) n (slC v)∧(slP v=none→slC v=0)∧v.oneCell'=true:=by
 rcases h.2 with ⟨rfl,rfl⟩|⟨g,cap,cur,rfl,_⟩
 ·exact⟨rfl,fun _=>rfl,rfl⟩
 ·exact⟨rfl,(fun h=>by cases h),rfl⟩
theorem Yiw {c:Cel}{sl sl':Nat→Value}(h:∀i,i<6→sl i=sl' i):Ybp c sl=Ybp c sl':=by
 unfold Ybp;rw[h 0 (by omega),h 1 (by omega),h 2 (by omega),h 3 (by omega),h 4 (by omega),h 5 (by omega)]
theorem Ykk {w:World}{base base' e c n:Nat}{v:Value}{xs:List Value}(h:w.ownsRow base e c v n xs)(hb:base'≤base):w.ownsRow base' e c v n xs:=by
 refine⟨h.1,?_⟩;rcases h.2 with h3|⟨g,cap,cur,e1,hg,h4⟩
 ·exact .inl h3
 ·exact .inr ⟨g,cap,cur,e1,Nat.le_trans hb hg,h4⟩
theorem Yl5 {w x:World}{base e c n:Nat}{v:Value}{xs:List Value}(h:w.ownsRow base e c v n xs)(hb:Below w.heap.size w x):x.ownsRow base e c v n xs:=
 h.kept (Yao hb none) (by cases hv:v.ownBlock with|none=>exact .inl rfl|some g=>exact .inr (by simp))
theorem Ydg.mono {α:Type}{c:Nat}{e:TypeId}{V V':α→List Value→Prop}{w:World}{base:Nat}{v:Value}{l:List α}(h:Ydg c e V w base v l)(hV:∀a vs,V a vs→V' a vs):Ydg c e V' w base v l:=by
 obtain⟨xs,⟨h1,h2,h3⟩,h4⟩:=h;refine⟨xs,⟨h1,h2,fun i hi=>?_⟩,h4⟩;obtain⟨x,e1,e2⟩:=h3 i hi;exact⟨x,e1,hV _ _ e2⟩
theorem Yil {w:World}{ops:Array Oper}{rest:List Oper}{o:Oper}{a:Act}{Q:Exit→Act→World→Prop}(hgd:o.guard=none)(x:Operand)(ho:o.op=.buildSlice 40 1 #[(0,x)])(c:Cel)(sl:Nat→Value)
  (hx:a.eval x=.agg (Ybp c sl).toArray)(h:wpList Tryz.prog ops Q rest (a.put o.dst (.slice (some ⟨w.heap.size,0,none⟩) 1 1)) (w.alloc (.cells (Ybp c sl).toArray 48 (0,0)))):wpList Tryz.prog ops Q (o::rest) a w:=by
 have hf:(match Tryz.prog.info? 48 with
  |some ie=>(match ie.zero with
   |some z=>if ie.size=18 then Instr.fill (fun i=>some (i*ie.size,ie.size)) ((Array.range (1*ie.size)).map (z.cells[· % z.cells.size]!)) [(0,.agg (Ybp c sl).toArray)] else none
   |none=>none)
  |none=>none)=some (Ybp c sl).toArray:=by kernel_rfl
 cases hi:Tryz.prog.info? 48 with
 |none=>rw[hi] at hf;cases hf
 |some ie=>
  rw[hi] at hf;cases hz:ie.zero with
  |none=>simp only[hz] at hf;cases hf
  |some z=>
   simp only[hz] at hf;by_cases h18:ie.size=18
   ·rw[if_pos h18] at hf;exact wpList_buildSlice hgd _ _ 1 _ ho _ ie z Tryz.underlying40 hi hz (by rw[h18];decide) (by rw[h18];decide) (by simpa [hx] using hf) h
   ·rw[if_neg h18] at hf;cases hf
theorem Yh5 {w:World}{ops:Array Oper}{rest:List Oper}{o:Oper}{a:Act}{Q:Exit→Act→World→Prop}(hgd:o.guard=none)(x y:Operand)(ho:o.op=.buildSlice 40 2 #[(0,x),(1,y)])(c d:Cel)(sl sl':Nat→Value)(N:Nat)(hN:w.heap.size=N)(t:Tmp)(hd:o.dst=some t)
  (hx:a.eval x=.agg (Ybp c sl).toArray)(hy:a.eval y=.agg (Ybp d sl').toArray)(h:wpList Tryz.prog ops Q rest (a.put (some t) (.slice (some ⟨N,0,none⟩) 2 2)) (w.alloc (.cells (Ybp c sl++Ybp d sl').toArray 48 (0,0)))):wpList Tryz.prog ops Q (o::rest) a w:=by
 have hf:(match Tryz.prog.info? 48 with
  |some ie=>(match ie.zero with
   |some z=>if ie.size=18 then Instr.fill (fun i=>some (i*ie.size,ie.size)) ((Array.range (2*ie.size)).map (z.cells[· % z.cells.size]!)) [(0,.agg (Ybp c sl).toArray),(1,.agg (Ybp d sl').toArray)] else none
   |none=>none)
  |none=>none)=some (Ybp c sl++Ybp d sl').toArray:=by kernel_rfl
 cases hi:Tryz.prog.info? 48 with
 |none=>rw[hi] at hf;cases hf
 |some ie=>
  rw[hi] at hf;cases hz:ie.zero with
  |none=>simp only[hz] at hf;cases hf
  |some z=>
   simp only[hz] at hf;by_cases h18:ie.size=18
   ·rw[if_pos h18] at hf;subst hN;rw[←hd] at h;exact wpList_buildSlice hgd _ _ 2 _ ho _ ie z Tryz.underlying40 hi hz (by rw[h18];decide) (by rw[h18];decide) (by simpa [hx,hy] using hf) h
   ·rw[if_neg h18] at hf;cases hf
structure Yk4 (w:World) (N Q:Nat) (q:Int) (vr vc:Value) (lr lc:List Int):Prop where
 low:N≤Q
 box:w.heap[Q]? =some (.cells [.int .i64 q].toArray 3 (0,0))
 rows:w.ownsRow N 3 1 vr lr.length (Yox lr)
 cels:w.ownsRow N 3 1 vc lc.length (Yox lc)
 nr:vr.ownBlock≠some Q
 nc:vc.ownBlock≠some Q
 two:∀k,vr.ownBlock=some k→vc.ownBlock≠some k
section
variable {w x:World}{N Q:Nat}{q q':Int}{vr vc v:Value}{lr lc:List Int}
theorem Yk4.lt (h:Yk4 w N Q q vr vc lr lc):Q<w.heap.size:=(Array.getElem?_eq_some_iff.1 h.box).1
theorem Yk4.below (h:Yk4 w N Q q vr vc lr lc)(hb:Below w.heap.size w x):Yk4 x N Q q vr vc lr lc:=
 {h with box:=(hb.block Q h.lt).trans h.box,rows:=Yl5 h.rows hb,cels:=Yl5 h.cels hb}
theorem Yk4.turned (h:Yk4 w N Q q vr vc lr lc)(hg:w.grownBy x (some Q))(hx:x.heap[Q]? =some (.cells [.int .i64 q'].toArray 3 (0,0))):Yk4 x N Q q' vr vc lr lc:=
 {h with box:=hx,rows:=h.rows.kept hg (.inr h.nr),cels:=h.cels.kept hg (.inr h.nc)}
theorem Yk4.rowed {y:Int}(h:Yk4 w N Q q vr vc lr lc)(hg:w.grownBy x vr.ownBlock)(ho:x.ownsRow N 3 1 v (lr.length+1) (Yox lr++[.int .i64 y]))(hw:∀k,v.ownBlock=some k→vr.ownBlock=some k∨w.heap.size≤k):Yk4 x N Q q v vc (lr++[y]) lc where
 low:=h.low
 box:=(hg.block Q h.lt (fun e=>h.nr e.symm)).trans h.box
 rows:=by rw[List.length_append,Yly];exact ho
 cels:=h.cels.kept hg (by
  cases hv:vc.ownBlock with
  |none=>exact .inl rfl
  |some k=>exact .inr fun e=>h.two k e.symm hv)
 nr:=fun e=>by
  rcases hw Q e with e1|e1
  ·exact h.nr e1
  ·have:=h.lt;omega
 nc:=h.nc
 two:=fun k hk hv=>by
  rcases hw k hk with e1|e1
  ·exact h.two k e1 hv
  ·have:=(h.cels.lt k hv).2;omega
theorem Yk4.celled {y:Int}(h:Yk4 w N Q q vr vc lr lc)(hg:w.grownBy x vc.ownBlock)(ho:x.ownsRow N 3 1 v (lc.length+1) (Yox lc++[.int .i64 y]))(hw:∀k,v.ownBlock=some k→vc.ownBlock=some k∨w.heap.size≤k):Yk4 x N Q q vr v lr (lc++[y]) where
 low:=h.low
 box:=(hg.block Q h.lt (fun e=>h.nc e.symm)).trans h.box
 rows:=h.rows.kept hg (by
  cases hv:vr.ownBlock with
  |none=>exact .inl rfl
  |some k=>exact .inr fun e=>h.two k hv e.symm)
 cels:=by rw[List.length_append,Yly];exact ho
 nr:=h.nr
 nc:=fun e=>by
  rcases hw Q e with e1|e1
  ·exact h.nc e1
  ·have:=h.lt;omega
 two:=fun k hk hv=>by
  rcases hw k hv with e1|e1
  ·exact h.two k hk e1
  ·have:=(h.rows.lt k hk).2;omega
set_option maxRecDepth 100000 in
set_option maxHeartbeats 1000000 in
theorem Ynx (r:RowP)(cv:Value)(hq:w.heap[Q]? =some (.cells [.int .i64 q].toArray 3 (0,0))):
  Calls Tryz.prog 72 #[.agg #[.bool r.head,.int .i64 r.id,.int .i64 r.quant,cv],.pointer (some ⟨Q,0,none⟩)] w fun e x=>
   e=.returned (.int .i64 (Yfa q r))∧x.heap[Q]? =some (.cells [.int .i64 (Yfa q r)].toArray 3 (0,0))∧w.grownBy x (some Q):=by
 obtain⟨R,hR⟩:∃R,w.heap.size=R:=⟨_,rfl⟩;have hlt:Q<w.heap.size:=(Array.getElem?_eq_some_iff.1 hq).1;cases hh:r.head with
 |true=>
  rw[Ywv q hh];obtain⟨wA,hwA⟩:∃wA,w.alloc (.cells #[.bool true,.int .i64 r.id,.int .i64 r.quant,cv] 42 (0,0))=wA:=⟨_,rfl⟩;have hhA:wA.heap[R]? =some (.cells [.bool true,.int .i64 r.id,.int .i64 r.quant,cv].toArray 42 (0,0)):=by rw[←hwA,←hR];exact heap_alloc_new w _
  have hbA:Below w.heap.size w wA:=by rw[←hwA];exact(Below.refl _ w).alloc (Nat.le_refl _) _
  have hqA:wA.heap[Q]? =some (.cells [.int .i64 q].toArray 3 (0,0)):=(hbA.block Q hlt).trans hq;have c0:=Yac (o:=0) hhA rfl;have c2:=Yac (o:=2) hhA rfl;have d0:=Yac (o:=0) hqA rfl;have f0:=Ya9 (o:=0) hqA;have P:=Lib.hid (Ycq (o:=0) (.int .i64 r.quant) hqA);have G:=Lib.hid (Yag (Yao hbA (some Q)) (Ya2 wA ⟨Q,0,none⟩ (.int .i64 r.quant)));have HWA:=Lib.hid hwA;have HR:=Lib.hid hR
  clear hwA hhA hbA hqA hq hh hR;generalize r.quant=k at *;generalize r.id=i at *
  go_enter Tryz.func72,Tryz.ntmps72
  go_upto_region 1 with fail
  rw[HWA.out,HR.out]
  go_wp2
  go_ret
  exact⟨rfl,P.out,G.out⟩
 |false=>
  rw[Yt6 q hh];obtain⟨wA,hwA⟩:∃wA,w.alloc (.cells #[.bool false,.int .i64 r.id,.int .i64 r.quant,cv] 42 (0,0))=wA:=⟨_,rfl⟩;have hhA:wA.heap[R]? =some (.cells [.bool false,.int .i64 r.id,.int .i64 r.quant,cv].toArray 42 (0,0)):=by rw[←hwA,←hR];exact heap_alloc_new w _
  have hbA:Below w.heap.size w wA:=by rw[←hwA];exact(Below.refl _ w).alloc (Nat.le_refl _) _
  have hqA:wA.heap[Q]? =some (.cells [.int .i64 q].toArray 3 (0,0)):=(hbA.block Q hlt).trans hq;have c0:=Yac (o:=0) hhA rfl;have d0:=Yac (o:=0) hqA rfl;have P:=Lib.hid hqA;have G:=Lib.hid (Yao hbA (some Q));have HWA:=Lib.hid hwA;have HR:=Lib.hid hR;clear hwA hhA hbA hqA hq hh hR;generalize r.quant=k at *;generalize r.id=i at *
  go_enter Tryz.func72,Tryz.ntmps72
  go_upto_region 1 with fail
  rw[HWA.out,HR.out]
  go_wp2
  go_ret
  exact⟨rfl,P.out,G.out⟩
set_option maxRecDepth 100000 in
set_option maxHeartbeats 1000000 in
theorem Yqg (c:Cel)(sl:Nat→Value)(hq:w.heap[Q]? =some (.cells [.int .i64 q].toArray 3 (0,0))):
  Calls Tryz.prog 73 #[.agg (Ybp c sl).toArray,.pointer (some ⟨Q,0,none⟩)] w fun e x=>
   e=.returned (.int .i64 (Yqd q c))∧x.heap[Q]? =some (.cells [.int .i64 (Yqd q c)].toArray 3 (0,0))∧w.grownBy x (some Q):=by
 obtain⟨R,hR⟩:∃R,w.heap.size=R:=⟨_,rfl⟩;have hlt:Q<w.heap.size:=(Array.getElem?_eq_some_iff.1 hq).1;obtain⟨wA,hwA⟩:∃wA,w.alloc (.cells (Ybp c sl).toArray 48 (0,0))=wA:=⟨_,rfl⟩;have hhA:wA.heap[R]? =some (.cells (Ybp c sl).toArray 48 (0,0)):=by rw[←hwA,←hR];exact heap_alloc_new w _
 have hbA:Below w.heap.size w wA:=by rw[←hwA];exact(Below.refl _ w).alloc (Nat.le_refl _) _
 have hqA:wA.heap[Q]? =some (.cells [.int .i64 q].toArray 3 (0,0)):=(hbA.block Q hlt).trans hq;have c2:wA.cell? ⟨R,2,none⟩=some (.int .i64 c.kind):=Yac (o:=2) hhA rfl;have c3:wA.cell? ⟨R,3,none⟩=some (.int .i64 c.step):=Yac (o:=3) hhA rfl;have d0:=Yac (o:=0) hqA rfl;have f0:=Ya9 (o:=0) hqA;have P:=Lib.hid (fun y=>Ycq (o:=0) (.int .i64 y) hqA);have P0:=Lib.hid hqA
 have G:=Lib.hid (fun y=>Yag (Yao hbA (some Q)) (Ya2 wA ⟨Q,0,none⟩ (.int .i64 y)));have G0:=Lib.hid (Yao hbA (some Q));have HWA:=Lib.hid hwA;have HR:=Lib.hid hR;have n1:=fun w=>Yqz q c.step w;by_cases hk:c.kind=1∨c.kind=4
 ·rw[Yza q hk];have tk:((c.kind==1)=true)∨((c.kind==1)=false∧(c.kind==4)=true):=by
   rcases hk with e|e <;> simp[e]
  obtain⟨Z,hZ⟩:∃Z,(Ybp c sl).toArray=Z:=⟨_,rfl⟩;rw[hZ] at HWA ⊢;clear hwA hhA hbA hqA hq hk hR hZ;generalize Yki q c.step=y at *;generalize c.kind=k at *;generalize c.step=s at *;rcases tk with t1|⟨t1,t2⟩
  all_goals
   go_enter Tryz.func73,Tryz.ntmps73
   go_upto_region 1 with fail
   rw[HWA.out,HR.out]
   go_wp2_with (refine(n1 _).mono ?_;rintro e w1 ⟨rfl,rfl⟩)
   go_ret
   exact⟨rfl,P.out _,G.out _⟩
 ·rw[Ywt q hk];have t1:(c.kind==1)=false:=by rw[beq_eq_false_iff_ne];exact fun e=>hk (.inl e)
  have t2:(c.kind==4)=false:=by rw[beq_eq_false_iff_ne];exact fun e=>hk (.inr e)
  obtain⟨Z,hZ⟩:∃Z,(Ybp c sl).toArray=Z:=⟨_,rfl⟩;rw[hZ] at HWA ⊢;clear hwA hhA hbA hqA hq hk hR hZ n1;generalize c.kind=k at *
  go_enter Tryz.func73,Tryz.ntmps73
  go_upto_region 1 with fail
  rw[HWA.out,HR.out]
  go_wp2
  go_ret
  exact⟨rfl,P0.out,G0.out⟩
set_option maxRecDepth 100000 in
set_option maxHeartbeats 1000000 in
theorem Yny (q:Int)(w:World):
  Calls Tryz.prog 50 #[.int .i64 q] w fun e x=>
   e=.returned (.tuple #[.func (.func 72) #[] #[.pointer (some ⟨w.heap.size,0,none⟩)],.func (.func 73) #[] #[.pointer (some ⟨w.heap.size,0,none⟩)]])∧
   x.heap[w.heap.size]? =some (.cells [.int .i64 q].toArray 3 (0,0))∧Below w.heap.size w x:=by
 have hmf:∀(fn:Fn) (first cap:Array Value) (w:World),(Instr.makeFunc fn first cap).run Tryz.prog w=.ok (.func fn first cap) w:=fun _ _ _ _=>rfl;obtain⟨R,hR⟩:∃R,w.heap.size=R:=⟨_,rfl⟩;obtain⟨wA,hwA⟩:∃wA,w.alloc (.cells #[.int .i64 q] 3 (0,0))=wA:=⟨_,rfl⟩;have hhA:wA.heap[R]? =some (.cells [.int .i64 q].toArray 3 (0,0)):=by rw[←hwA,←hR];exact heap_alloc_new w _
 have hbA:Below w.heap.size w wA:=by rw[←hwA];exact(Below.refl _ w).alloc (Nat.le_refl _) _
 rw[hR] at hbA ⊢;have HWA:=Lib.hid hwA;have HR:=Lib.hid hR;have P:=Lib.hid hhA;have G:=Lib.hid hbA;clear hwA hhA hbA hR
 go_enter Tryz.func50,Tryz.ntmps50
 go_upto_region 1 with fail
 rw[HWA.out,HR.out]
 go_wp2
 go_ret2
 exact⟨rfl,P.out,G.out⟩
end
section
variable {P:Program}
theorem Yf1 {α:Type}{w:World}{ops:Array Oper}{rest:List Oper}{o:Oper}{a:Act}{Q:Exit→Act→World→Prop}{s x:Operand}{t e:TypeId}{base c bytes cap K:Nat}{i:TypeInfo}{z v:Value}{V:α→List Value→Prop}{l:List α}{y:α}{vs:List Value}
  (hgd:o.guard=none)(ho:o.op=.call {callee:=.builtin .append,args:=#[s,x],argTypes:=#[t,t]})
  (ht:P.underlying t=some (.slice e))(hi:P.info? e=some i)(hz:i.zero=some z)(hzs:z.cells.size=c)(hsize:i.size=c)(hby:i.bytes=bytes)(hc0:0<c)
  (hs:a.eval s=v)(hx:a.eval x=.slice (some ⟨K,0,none⟩) 1 cap)(hown:Ydg c e V w base v l)(hV:V y vs)(hvl:vs.length=c)(hv1:∀u∈vs,u.oneCell'=true)(hcell:∀(j:Nat) u,vs[j]? =some u→w.cell? ⟨K,j,none⟩=some u)
  (h63:l.length+1≤maxLen)(hbytes:(l.length+1)*bytes≤140737488355328)(hbase:base≤w.heap.size)
  (h:∀(q:Option Addr) (cap':Nat) w',Ydg c e V w' base (.slice q (l.length+1) cap') (l++[y])→w.grownBy w' v.ownBlock→(∀k,(Value.slice q (l.length+1) cap').ownBlock=some k→v.ownBlock=some k∨w.heap.size≤k)→wpList P ops Q rest (a.put o.dst (.slice q (l.length+1) cap')) w'):wpList P ops Q (o::rest) a w:=by
 obtain⟨xs,hxs,hu⟩:=hown;refine wpList_plain hgd fun K' hK=>?_;have hnews:∀(j:Nat) u,vs[j]? =some u→w.cell? ((⟨K,0,none⟩:Addr).add j)=some u:=fun j u hj=>by rw[Addr.add_mid,Nat.zero_add];exact hcell j u hj
 obtain⟨v',w',hr,h2,h3,-⟩:=run_append_own (P:=P) w base t o.type e i z c bytes ht hi hz hsize hby hzs hc0 v l.length xs.flatten hu ⟨K,0,none⟩ 1 cap vs (by rw[hvl,Nat.one_mul]) hnews hv1 h63 hbytes hbase;have h4:=Ygj ht hi hz hsize hby hzs hc0 hu (by rw[hvl,Nat.one_mul]) hnews hv1 h63 hbytes hr;unfold Oper.wp execOp
 simp only[ho,resolve,invoke,builtin,Sem.run_bind,Sem.run_pure,Result.andThen_ok,List.map_toArray,List.map_cons,List.map_nil,hs,hx,hr];have e4:=(Yho h2).1;rw[e4] at h2 h4 ⊢;refine hK _ _ (h _ _ w' ⟨xs++[vs],hxs.app ⟨rfl,(fun u hu'=>by rw[List.mem_singleton.1 hu'];exact hvl),fun k hk=>?_⟩,by rw[List.flatten_append,List.length_append];simpa using h2⟩ h3 h4);obtain rfl:k=0:=by simpa using hk
 exact⟨vs,rfl,hV⟩
end
theorem Ykw {w:World}{ops:Array Oper}{rest:List Oper}{o:Oper}{a:Act}{Q:Exit→Act→World→Prop}(hgd:o.guard=none)(x:Operand)(ho:o.op=.buildSlice 27 1 #[(0,x)])(u0 u1 u2 u3:Value)
  (hx:a.eval x=.agg #[u0,u1,u2,u3])(h:wpList Tryz.prog ops Q rest (a.put o.dst (.slice (some ⟨w.heap.size,0,none⟩) 1 1)) (w.alloc (.cells #[u0,u1,u2,u3] 42 (0,0)))):wpList Tryz.prog ops Q (o::rest) a w:=by
 have hf:(match Tryz.prog.info? 42 with
  |some ie=>(match ie.zero with
   |some z=>if ie.size=4 then Instr.fill (fun i=>some (i*ie.size,ie.size)) ((Array.range (1*ie.size)).map (z.cells[· % z.cells.size]!)) [(0,.agg #[u0,u1,u2,u3])] else none
   |none=>none)
  |none=>none)=some #[u0,u1,u2,u3]:=by kernel_rfl
 cases hi:Tryz.prog.info? 42 with
 |none=>rw[hi] at hf;cases hf
 |some ie=>
  rw[hi] at hf;cases hz:ie.zero with
  |none=>simp only[hz] at hf;cases hf
  |some z=>
   simp only[hz] at hf;by_cases h4:ie.size=4
   ·rw[if_pos h4] at hf;exact wpList_buildSlice hgd _ _ 1 _ ho _ ie z Tryz.underlying27 hi hz (by rw[h4];decide) (by rw[h4];decide) (by simpa [hx] using hf) h
   ·rw[if_neg h4] at hf;cases hf
theorem Yw5:∃i z,Tryz.prog.info? 42=some i∧i.zero=some z∧z.cells.size=4∧i.size=4∧i.bytes=48:=by
 have h:(Tryz.prog.info? 42).map (fun i=>(i.zero.map (·.cells.size),i.size,i.bytes))=some (some 4,4,48):=by kernel_rfl
 generalize Tryz.prog.info? 42=x at h
 match x,h with
 |some i,h=>
  rw[Option.map_some] at h;injection h with h;injection h with h1 h2;injection h2 with h2 h3;cases hz:i.zero with
  |none=>rw[hz] at h1;cases h1
  |some z=>
   rw[hz] at h1;injection h1 with h1;exact⟨i,z,rfl,hz,h1,h2,h3⟩
def Yx7 (L:List (Option Nat))(w:World)(p:Option Addr)(l:List Ev):Prop:=Yex w p l∧(l=[]∨∃b o,p=some ⟨b,o,none⟩∧some b∉L)
section
variable {L L':List (Option Nat)}{w x:World}{row:Option Nat}
theorem Yx7.kept {p:Option Addr}{l:List Ev}(h:Yx7 L w p l)(hg:w.grownBy x row)(hr:∀k,row=some k→some k∈L):Yx7 L x p l:=by
 obtain⟨h1,h2⟩:=h;refine⟨?_,h2⟩;rcases h2 with rfl|⟨b,o,rfl,hL⟩
 ·exact .inl rfl
 ·rcases h1 with rfl|⟨b',o',e,hlt,hc⟩
  ·exact .inl rfl
  ·injection e with e;injection e with e1 e2;subst e1 e2;have hb:x.heap[b]? =w.heap[b]?:=hg.block b hlt fun e=>hL (hr b e.symm);refine .inr ⟨b,o,rfl,Nat.lt_of_lt_of_le hlt hg.size,fun i hi=>?_⟩;obtain⟨a0,a1,a2⟩:=hc i hi;exact⟨(World.cell?_of_block (a:=⟨b,o+i*3,none⟩) hb).trans a0,(World.cell?_of_block (a:=⟨b,o+i*3+1,none⟩) hb).trans a1,(World.cell?_of_block (a:=⟨b,o+i*3+2,none⟩) hb).trans a2⟩
theorem Yx7.mono {p:Option Addr}{l:List Ev}(h:Yx7 L w p l)(hL:∀k,k<w.heap.size→some k∉L→some k∉L'):Yx7 L' w p l:=by
 obtain⟨h1,h2⟩:=h;refine⟨h1,?_⟩;rcases h2 with rfl|⟨b,o,rfl,hb⟩
 ·exact .inl rfl
 ·rcases h1 with rfl|⟨b',o',e,hlt,_⟩
  ·exact .inl rfl
  ·injection e with e;injection e with e1 e2;subst e1 e2;exact .inr ⟨b,o,rfl,hL b hlt hb⟩
def Ym9 (L:List (Option Nat))(w:World)(c:Cel)(vs:List Value):Prop:=
 ∃(p:Nat→Option Addr) (cap:Nat→Nat),vs=Ybp c (fun i=>.slice (p i) (c.ev i).length (cap i))∧((Lit.int .i64 c.mx).wf=true∧(Lit.int .i64 c.my).wf=true)∧∀i,i<6→(c.ev i).length≤maxLen∧Yx7 L w (p i) (c.ev i)
theorem Ym9.kept {c:Cel}{vs:List Value}(h:Ym9 L w c vs)(hg:w.grownBy x row)(hr:∀k,row=some k→some k∈L):Ym9 L x c vs:=by
 obtain⟨p,cap,h1,h2,h3⟩:=h;exact⟨p,cap,h1,h2,fun i hi=>⟨(h3 i hi).1,(h3 i hi).2.kept hg hr⟩⟩
theorem Ym9.mono {c:Cel}{vs:List Value}(h:Ym9 L w c vs)(hL:∀k,k<w.heap.size→some k∉L→some k∉L'):Ym9 L' w c vs:=by
 obtain⟨p,cap,h1,h2,h3⟩:=h;exact⟨p,cap,h1,h2,fun i hi=>⟨(h3 i hi).1,(h3 i hi).2.mono hL⟩⟩
theorem Ym9.cel (c:Cel)(vs:List Value)(h:Ym9 L w c vs):Yrh w c vs:=by
 obtain⟨p,cap,h1,h2,h3⟩:=h;exact⟨p,cap,h1,h2,fun i hi=>⟨(h3 i hi).1,(h3 i hi).2.1⟩⟩
theorem Ym9.shape {c:Cel}{vs:List Value}(h:Ym9 L w c vs):vs.length=18∧∀u∈vs,u.oneCell'=true:=(Ym9.cel c vs h).shape
def Yna (L:List (Option Nat))(w:World)(v:Value)(l:List Cel):Prop:=Ydg 18 48 (Ym9 L w) w 0 v l
theorem Yna.kept {v:Value}{l:List Cel}(h:Yna L w v l)(hg:w.grownBy x row)(hr:∀k,row=some k→some k∈L)(hv:∀k,row=some k→v.ownBlock≠some k):Yna L x v l:=
 Ydg.mono (Ydg.kept h hg (by
  cases e:v.ownBlock with
  |none=>exact .inl rfl
  |some g=>exact .inr fun e2=>hv g e2.symm e)) fun _ _ hc=>hc.kept hg hr
theorem Yna.mono {v:Value}{l:List Cel}(h:Yna L w v l)(hL:∀k,k<w.heap.size→some k∉L→some k∉L'):Yna L' w v l:=Ydg.mono h fun _ _ hc=>hc.mono hL
theorem Ydg.lt {α:Type}{c:Nat}{e:TypeId}{V:α→List Value→Prop}{base:Nat}{v:Value}{l:List α}(h:Ydg c e V w base v l):∀k,v.ownBlock=some k→k<w.heap.size:=by
 obtain⟨xs,_,h2⟩:=h;exact fun k hk=>(h2.lt k hk).2
def Yk5 (L:List (Option Nat))(w:World)(r:RowP)(vs:List Value):Prop:=
 ∃sl,vs=[.bool r.head,.int .i64 r.id,.int .i64 r.quant,sl]∧Yna L w sl r.cels∧r.cels.length≤maxLen∧∀k,sl.ownBlock=some k→some k∉L
theorem Yk5.kept {r:RowP}{vs:List Value}(h:Yk5 L w r vs)(hg:w.grownBy x row)(hr:∀k,row=some k→some k∈L):Yk5 L x r vs:=by
 obtain⟨sl,h1,h2,h3,h4⟩:=h;exact⟨sl,h1,h2.kept hg hr (fun k hk e=>h4 k e (hr k hk)),h3,h4⟩
theorem Yk5.mono {r:RowP}{vs:List Value}(h:Yk5 L w r vs)(hL:∀k,k<w.heap.size→some k∉L→some k∉L'):Yk5 L' w r vs:=by
 obtain⟨sl,h1,h2,h3,h4⟩:=h;exact⟨sl,h1,h2.mono hL,h3,fun k hk=>hL k (Ydg.lt h2 k hk) (h4 k hk)⟩
theorem Yk5.rowV (r:RowP)(vs:List Value)(h:Yk5 L w r vs):Yzu w r vs:=by
 obtain⟨sl,rfl,h2,h3,-⟩:=h;obtain⟨xs,hx,ho⟩:=h2;obtain⟨e1,e2,-⟩:=Yho ho;obtain⟨q,cap,e,hm⟩:=Ydg.many (V':=Yrh) ⟨xs,hx,ho⟩ Ym9.cel;refine⟨q,cap,by rw[e],fun hq=>?_,h3,hm⟩;rw[e] at e2;exact e2 hq
theorem Yk5.shape {r:RowP}{vs:List Value}(h:Yk5 L w r vs):vs.length=4∧∀u∈vs,u.oneCell'=true:=by
 obtain⟨sl,rfl,⟨xs,hx,ho⟩,-,-⟩:=h;refine⟨rfl,fun u hu=>?_⟩;simp only[List.mem_cons,List.not_mem_nil,or_false] at hu;rcases hu with rfl|rfl|rfl|rfl
 ·rfl
 ·rfl
 ·rfl
 ·exact(Yho ho).2.2
def Ycs (L:List (Option Nat))(w:World)(v:Value)(l:List RowP):Prop:=Ydg 4 42 (Yk5 L w) w 0 v l
theorem Ycs.nil (L:List (Option Nat))(w:World):Ycs L w (.slice none 0 0) []:=Ydg.nil ..
theorem Ycs.kept {v:Value}{l:List RowP}(h:Ycs L w v l)(hg:w.grownBy x row)(hr:∀k,row=some k→some k∈L)(hv:∀k,row=some k→v.ownBlock≠some k):Ycs L x v l:=
 Ydg.mono (Ydg.kept h hg (by
  cases e:v.ownBlock with
  |none=>exact .inl rfl
  |some g=>exact .inr fun e2=>hv g e2.symm e)) fun _ _ hc=>hc.kept hg hr
theorem Ycs.mono {v:Value}{l:List RowP}(h:Ycs L w v l)(hL:∀k,k<w.heap.size→some k∉L→some k∉L'):Ycs L' w v l:=Ydg.mono h fun _ _ hc=>hc.mono hL
theorem Ycs.rows {v:Value}{l:List RowP}(h:Ycs L w v l):∃(q:Option Addr) (cap:Nat),v=.slice q l.length cap∧Ydh w q l:=Ydg.many h Yk5.rowV
end
end Go.Proofs.YtnamlooifcpoaaaGreatDoor