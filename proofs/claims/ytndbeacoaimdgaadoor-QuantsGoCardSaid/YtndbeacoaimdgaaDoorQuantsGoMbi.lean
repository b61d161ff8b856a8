/- No condition. -/
import Derived.Test.YtndbeacoaimdgaaDoorQuantsGoMi
import Derived.Test.YtndbeacoaimdgaaDoorQuantsGoMr
import Derived.Test.YtndbeacoaimdgaaDoorQuantsGoMba
import Derived.Test.YtndbeacoaimdgaaDoorQuantsGoMbc
import Derived.Test.YtndbeacoaimdgaaDoorQuantsGoMbf
import Derived.Great.BuildSlice
import Derived.WalkMore
import Derived.Lib.Hide
namespace Go.Proofs.YtndbeacoaimdgaaDoor
open Go.RowKit Go.Lib
theorem Yjh {c:Cel}{sl sl':Nat→Value}(h:∀i,i<6→sl i=sl' i):Ybe c sl=Ybe c sl':=by
 unfold Ybe;rw[h 0 (by omega),h 1 (by omega),h 2 (by omega),h 3 (by omega),h 4 (by omega),h 5 (by omega)]
theorem Yd9 {w:World}{base base' e c n:Nat}{v:Value}{xs:List Value}(h:w.ownsRow base e c v n xs)(hb:base'≤base):w.ownsRow base' e c v n xs:=by
 refine⟨h.1,?_⟩;rcases h.2 with h3|⟨g,cap,cur,e1,hg,h4⟩
 ·exact .inl h3
 ·exact .inr ⟨g,cap,cur,e1,Nat.le_trans hb hg,h4⟩
theorem Yhf {w x:World}{base e c n:Nat}{v:Value}{xs:List Value}(h:w.ownsRow base e c v n xs)(hb:Below w.heap.size w x):x.ownsRow base e c v n xs:=
 h.kept (Yaj hb none) (by cases hv:v.ownBlock with|none=>exact .inl rfl|some g=>exact .inr (by simp))
theorem Ycn {w:World}{ops:Array Oper}{rest:List Oper}{o:Oper}{a:Act}{Q:Exit→Act→World→Prop}(hgd:o.guard=none)(x y:Operand)(ho:o.op=.buildSlice 34 2 #[(0,x),(1,y)])(c d:Cel)(sl sl':Nat→Value)(N:Nat)(hN:w.heap.size=N)(t:Tmp)(hd:o.dst=some t)
  (hx:a.eval x=.agg (Ybe c sl).toArray)(hy:a.eval y=.agg (Ybe d sl').toArray)(h:wpList Tryd.prog ops Q rest (a.put (some t) (.slice (some ⟨N,0,none⟩) 2 2)) (w.alloc (.cells (Ybe c sl++Ybe d sl').toArray 42 (0,0)))):wpList Tryd.prog ops Q (o::rest) a w:=by
 have hf:(match Tryd.prog.info? 42 with
  |some ie=>(match ie.zero with
   |some z=>if ie.size=18 then Instr.fill (fun i=>some (i*ie.size,ie.size)) ((Array.range (2*ie.size)).map (z.cells[· % z.cells.size]!)) [(0,.agg (Ybe c sl).toArray),(1,.agg (Ybe d sl').toArray)] else none
   |none=>none)
  |none=>none)=some (Ybe c sl++Ybe d sl').toArray:=by kernel_rfl
 cases hi:Tryd.prog.info? 42 with
 |none=>rw[hi] at hf;cases hf
 |some ie=>
  rw[hi] at hf;cases hz:ie.zero with
  |none=>simp only[hz] at hf;cases hf
  |some z=>
   simp only[hz] at hf;by_cases h18:ie.size=18
   ·rw[if_pos h18] at hf;subst hN;rw[←hd] at h;exact wpList_buildSlice hgd _ _ 2 _ ho _ ie z Tryd.underlying34 hi hz (by rw[h18];decide) (by rw[h18];decide) (by simpa [hx,hy] using hf) h
   ·rw[if_neg h18] at hf;cases hf
structure Ygq (w:World) (N Q:Nat) (q:Int) (vr vc:Value) (lr lc:List Int):Prop where
 low:N≤Q
 box:w.heap[Q]? =some (.cells [.int .i64 q].toArray 3 (0,0))
 rows:w.ownsRow N 3 1 vr lr.length (Yh5 lr)
 cels:w.ownsRow N 3 1 vc lc.length (Yh5 lc)
 nr:vr.ownBlock≠some Q
 nc:vc.ownBlock≠some Q
 two:∀k,vr.ownBlock=some k→vc.ownBlock≠some k
section
variable {w x:World}{N Q:Nat}{q q':Int}{vr vc v:Value}{lr lc:List Int}
theorem Ygq.lt (h:Ygq w N Q q vr vc lr lc):Q<w.heap.size:=(Array.getElem?_eq_some_iff.1 h.box).1
theorem Ygq.below (h:Ygq w N Q q vr vc lr lc)(hb:Below w.heap.size w x):Ygq x N Q q vr vc lr lc:=
 {h with box:=(hb.block Q h.lt).trans h.box,rows:=Yhf h.rows hb,cels:=Yhf h.cels hb}
theorem Ygq.turned (h:Ygq w N Q q vr vc lr lc)(hg:w.grownBy x (some Q))(hx:x.heap[Q]? =some (.cells [.int .i64 q'].toArray 3 (0,0))):Ygq x N Q q' vr vc lr lc:=
 {h with box:=hx,rows:=h.rows.kept hg (.inr h.nr),cels:=h.cels.kept hg (.inr h.nc)}
theorem Ygq.rowed {y:Int}(h:Ygq w N Q q vr vc lr lc)(hg:w.grownBy x vr.ownBlock)(ho:x.ownsRow N 3 1 v (lr.length+1) (Yh5 lr++[.int .i64 y]))(hw:∀k,v.ownBlock=some k→vr.ownBlock=some k∨w.heap.size≤k):Ygq x N Q q v vc (lr++[y]) lc where
 low:=h.low
 box:=(hg.block Q h.lt (fun e=>h.nr e.symm)).trans h.box
 rows:=by rw[List.length_append,Yhb];exact ho
 cels:=h.cels.kept hg (by
  cases hv:vc.ownBlock with
  |none=>exact .inl rfl
  |some k=>exact .inr fun e=>h.two k e.symm hv)
 nr:=fun e=>by
  rcases hw Q e with e1|e1
  ·exact h.nr e1
  ·have:=h.lt;omega
 nc:=h.nc
 two:=fun k hk hv=>by
  rcases hw k hk with e1|e1
  ·exact h.two k e1 hv
  ·have:=(h.cels.lt k hv).2;omega
theorem Ygq.celled {y:Int}(h:Ygq w N Q q vr vc lr lc)(hg:w.grownBy x vc.ownBlock)(ho:x.ownsRow N 3 1 v (lc.length+1) (Yh5 lc++[.int .i64 y]))(hw:∀k,v.ownBlock=some k→vc.ownBlock=some k∨w.heap.size≤k):Ygq x N Q q vr v lr (lc++[y]) where
 low:=h.low
 box:=(hg.block Q h.lt (fun e=>h.nc e.symm)).trans h.box
 rows:=h.rows.kept hg (by
  cases hv:vr.ownBlock with
  |none=>exact .inl rfl
  |some k=>exact .inr fun e=>h.two k hv e.symm)
 cels:=by rw[List.length_append,Yhb];exact ho
 nr:=h.nr
 nc:=fun e=>by
  rcases hw Q e with e1|e1
  ·exact h.nc e1
  ·have:=h.lt;omega
 two:=fun k hk hv=>by
  rcases hw k hv with e1|e1
  ·exact h.two k hk e1
  ·have:=(h.rows.lt k hk).2;omega
set_option maxRecDepth 100000 in
set_option maxHeartbeats 1000000 in
theorem Yig (r:RowP)(cv:Value)(hq:w.heap[Q]? =some (.cells [.int .i64 q].toArray 3 (0,0))):
  Calls Tryd.prog 32 #[.agg #[.bool r.head,.int .i64 r.id,.int .i64 r.quant,cv],.pointer (some ⟨Q,0,none⟩)] w fun e x=>
   e=.returned (.int .i64 (Ybr q r))∧x.heap[Q]? =some (.cells [.int .i64 (Ybr q r)].toArray 3 (0,0))∧w.grownBy x (some Q):=by
 obtain⟨R,hR⟩:∃R,w.heap.size=R:=⟨_,rfl⟩;have hlt:Q<w.heap.size:=(Array.getElem?_eq_some_iff.1 hq).1;cases hh:r.head with
 |true=>
  rw[Ynn q hh];obtain⟨wA,hwA⟩:∃wA,w.alloc (.cells #[.bool true,.int .i64 r.id,.int .i64 r.quant,cv] 36 (0,0))=wA:=⟨_,rfl⟩;have hhA:wA.heap[R]? =some (.cells [.bool true,.int .i64 r.id,.int .i64 r.quant,cv].toArray 36 (0,0)):=by rw[←hwA,←hR];exact heap_alloc_new w _
  have hbA:Below w.heap.size w wA:=by rw[←hwA];exact(Below.refl _ w).alloc (Nat.le_refl _) _
  have hqA:wA.heap[Q]? =some (.cells [.int .i64 q].toArray 3 (0,0)):=(hbA.block Q hlt).trans hq;have c0:=Yab (o:=0) hhA rfl;have c2:=Yab (o:=2) hhA rfl;have d0:=Yab (o:=0) hqA rfl;have f0:=Yav (o:=0) hqA;have P:=Lib.hid (Yca (o:=0) (.int .i64 r.quant) hqA);have G:=Lib.hid (Yae (Yaj hbA (some Q)) (Yar wA ⟨Q,0,none⟩ (.int .i64 r.quant)));have HWA:=Lib.hid hwA;have HR:=Lib.hid hR
  clear hwA hhA hbA hqA hq hh hR;generalize r.quant=k at *;generalize r.id=i at *
  go_enter Tryd.func32,Tryd.ntmps32
  go_upto_region 1 with fail
  rw[HWA.out,HR.out]
  go_wp2
  go_ret
  exact⟨rfl,P.out,G.out⟩
 |false=>
  rw[Yl1 q hh];obtain⟨wA,hwA⟩:∃wA,w.alloc (.cells #[.bool false,.int .i64 r.id,.int .i64 r.quant,cv] 36 (0,0))=wA:=⟨_,rfl⟩;have hhA:wA.heap[R]? =some (.cells [.bool false,.int .i64 r.id,.int .i64 r.quant,cv].toArray 36 (0,0)):=by rw[←hwA,←hR];exact heap_alloc_new w _
  have hbA:Below w.heap.size w wA:=by rw[←hwA];exact(Below.refl _ w).alloc (Nat.le_refl _) _
  have hqA:wA.heap[Q]? =some (.cells [.int .i64 q].toArray 3 (0,0)):=(hbA.block Q hlt).trans hq;have c0:=Yab (o:=0) hhA rfl;have d0:=Yab (o:=0) hqA rfl;have P:=Lib.hid hqA;have G:=Lib.hid (Yaj hbA (some Q));have HWA:=Lib.hid hwA;have HR:=Lib.hid hR;clear hwA hhA hbA hqA hq hh hR;generalize r.quant=k at *;generalize r.id=i at *
  go_enter Tryd.func32,Tryd.ntmps32
  go_upto_region 1 with fail
  rw[HWA.out,HR.out]
  go_wp2
  go_ret
  exact⟨rfl,P.out,G.out⟩
set_option maxRecDepth 100000 in
set_option maxHeartbeats 1000000 in
theorem Yjy (c:Cel)(sl:Nat→Value)(hq:w.heap[Q]? =some (.cells [.int .i64 q].toArray 3 (0,0))):
  Calls Tryd.prog 33 #[.agg (Ybe c sl).toArray,.pointer (some ⟨Q,0,none⟩)] w fun e x=>
   e=.returned (.int .i64 (Yfr q c))∧x.heap[Q]? =some (.cells [.int .i64 (Yfr q c)].toArray 3 (0,0))∧w.grownBy x (some Q):=by
 obtain⟨R,hR⟩:∃R,w.heap.size=R:=⟨_,rfl⟩;have hlt:Q<w.heap.size:=(Array.getElem?_eq_some_iff.1 hq).1;obtain⟨wA,hwA⟩:∃wA,w.alloc (.cells (Ybe c sl).toArray 42 (0,0))=wA:=⟨_,rfl⟩;have hhA:wA.heap[R]? =some (.cells (Ybe c sl).toArray 42 (0,0)):=by rw[←hwA,←hR];exact heap_alloc_new w _
 have hbA:Below w.heap.size w wA:=by rw[←hwA];exact(Below.refl _ w).alloc (Nat.le_refl _) _
 have hqA:wA.heap[Q]? =some (.cells [.int .i64 q].toArray 3 (0,0)):=(hbA.block Q hlt).trans hq;have c2:wA.cell? ⟨R,2,none⟩=some (.int .i64 c.kind):=Yab (o:=2) hhA rfl;have c3:wA.cell? ⟨R,3,none⟩=some (.int .i64 c.step):=Yab (o:=3) hhA rfl;have d0:=Yab (o:=0) hqA rfl;have f0:=Yav (o:=0) hqA;have P:=Lib.hid (fun y=>Yca (o:=0) (.int .i64 y) hqA);have P0:=Lib.hid hqA
 have G:=Lib.hid (fun y=>Yae (Yaj hbA (some Q)) (Yar wA ⟨Q,0,none⟩ (.int .i64 y)));have G0:=Lib.hid (Yaj hbA (some Q));have HWA:=Lib.hid hwA;have HR:=Lib.hid hR;have n1:=fun w=>Yka q c.step w;by_cases hk:c.kind=1∨c.kind=4
 ·rw[Yoz q hk];have tk:((c.kind==1)=true)∨((c.kind==1)=false∧(c.kind==4)=true):=by
   rcases hk with e|e <;> simp[e]
  obtain⟨Z,hZ⟩:∃Z,(Ybe c sl).toArray=Z:=⟨_,rfl⟩;rw[hZ] at HWA ⊢;clear hwA hhA hbA hqA hq hk hR hZ;generalize Yc8 q c.step=y at *;generalize c.kind=k at *;generalize c.step=s at *;rcases tk with t1|⟨t1,t2⟩
  all_goals
   go_enter Tryd.func33,Tryd.ntmps33
   go_upto_region 1 with fail
   rw[HWA.out,HR.out]
   go_wp2_with (refine(n1 _).mono ?_;rintro e w1 ⟨rfl,rfl⟩)
   go_ret
   exact⟨rfl,P.out _,G.out _⟩
 ·rw[Ynl q hk];have t1:(c.kind==1)=false:=by rw[beq_eq_false_iff_ne];exact fun e=>hk (.inl e)
  have t2:(c.kind==4)=false:=by rw[beq_eq_false_iff_ne];exact fun e=>hk (.inr e)
  obtain⟨Z,hZ⟩:∃Z,(Ybe c sl).toArray=Z:=⟨_,rfl⟩;rw[hZ] at HWA ⊢;clear hwA hhA hbA hqA hq hk hR hZ n1;generalize c.kind=k at *
  go_enter Tryd.func33,Tryd.ntmps33
  go_upto_region 1 with fail
  rw[HWA.out,HR.out]
  go_wp2
  go_ret
  exact⟨rfl,P0.out,G0.out⟩
set_option maxRecDepth 100000 in
set_option maxHeartbeats 1000000 in
theorem Yih (q:Int)(w:World):
  Calls Tryd.prog 22 #[.int .i64 q] w fun e x=>
   e=.returned (.tuple #[.func (.func 32) #[] #[.pointer (some ⟨w.heap.size,0,none⟩)],.func (.func 33) #[] #[.pointer (some ⟨w.heap.size,0,none⟩)]])∧
   x.heap[w.heap.size]? =some (.cells [.int .i64 q].toArray 3 (0,0))∧Below w.heap.size w x:=by
 have hmf:∀(fn:Fn) (first cap:Array Value) (w:World),(Instr.makeFunc fn first cap).run Tryd.prog w=.ok (.func fn first cap) w:=fun _ _ _ _=>rfl;obtain⟨R,hR⟩:∃R,w.heap.size=R:=⟨_,rfl⟩;obtain⟨wA,hwA⟩:∃wA,w.alloc (.cells #[.int .i64 q] 3 (0,0))=wA:=⟨_,rfl⟩;have hhA:wA.heap[R]? =some (.cells [.int .i64 q].toArray 3 (0,0)):=by rw[←hwA,←hR];exact heap_alloc_new w _
 have hbA:Below w.heap.size w wA:=by rw[←hwA];exact(Below.refl _ w).alloc (Nat.le_refl _) _
 rw[hR] at hbA ⊢;have HWA:=Lib.hid hwA;have HR:=Lib.hid hR;have P:=Lib.hid hhA;have G:=Lib.hid hbA;clear hwA hhA hbA hR
 go_enter Tryd.func22,Tryd.ntmps22
 go_upto_region 1 with fail
 rw[HWA.out,HR.out]
 go_wp2
 go_ret2
 exact⟨rfl,P.out,G.out⟩
end
end Go.Proofs.YtndbeacoaimdgaaDoor