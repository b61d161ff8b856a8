/- No condition. -/
import Derived.Test.YtnamlooifcpoaaaGreatDoorScreensNextMp
import Derived.Test.YtnamlooifcpoaaaGreatDoorScreensNextMu
import Derived.Test.YtnamlooifcpoaaaGreatDoorScreensNextMbc
import Derived.Test.YtnamlooifcpoaaaGreatDoorScreensNextMbf
import Derived.Test.YtnamlooifcpoaaaGreatDoorScreensNextMbh
import Derived.Test.YtnamlooifcpoaaaGreatDoorScreensNextMbi
import Derived.Test.YtnamlooifcpoaaaGreatDoorScreensNextMbl
import Derived.Test.YtnamlooifcpoaaaGreatDoorScreensNextMbm
import Derived.Great.BuildSlice
import Derived.WalkMore
import Derived.Lib.Hide
import Derived.RegionTactic
namespace Go.Proofs.YtnamlooifcpoaaaGreatDoor
open Go.RowKit Go.Lib
theorem Ys3 {c:Cel}{sl sl':Nat→Value}(h:∀i,i<6→sl i=sl' i):Ycd c sl=Ycd c sl':=by
 unfold Ycd;rw[h 0 (by omega),h 1 (by omega),h 2 (by omega),h 3 (by omega),h 4 (by omega),h 5 (by omega)]
theorem Yhn {w:World}{base base' e c n:Nat}{v:Value}{xs:List Value}(h:w.ownsRow base e c v n xs)(hb:base'≤base):w.ownsRow base' e c v n xs:=by
 refine⟨h.1,?_⟩;rcases h.2 with h3|⟨g,cap,cur,e1,hg,h4⟩
 ·exact .inl h3
 ·exact .inr ⟨g,cap,cur,e1,Nat.le_trans hb hg,h4⟩
theorem Yho {w x:World}{base e c n:Nat}{v:Value}{xs:List Value}(h:w.ownsRow base e c v n xs)(hb:Below w.heap.size w x):x.ownsRow base e c v n xs:=
 h.kept (Ya2 hb none) (by cases hv:v.ownBlock with|none=>exact .inl rfl|some g=>exact .inr (by simp))
theorem Yke {w:World}{ops:Array Oper}{rest:List Oper}{o:Oper}{a:Act}{Q:Exit→Act→World→Prop}(hgd:o.guard=none)(x y:Operand)(ho:o.op=.buildSlice 40 2 #[(0,x),(1,y)])(c d:Cel)(sl sl':Nat→Value)(N:Nat)(hN:w.heap.size=N)(t:Tmp)(hd:o.dst=some t)
  (hx:a.eval x=.agg (Ycd c sl).toArray)(hy:a.eval y=.agg (Ycd d sl').toArray)(h:wpList Tryz.prog ops Q rest (a.put (some t) (.slice (some ⟨N,0,none⟩) 2 2)) (w.alloc (.cells (Ycd c sl++Ycd d sl').toArray 48 (0,0)))):wpList Tryz.prog ops Q (o::rest) a w:=by
 have hf:(match Tryz.prog.info? 48 with
  |some ie=>(match ie.zero with
   |some z=>if ie.size=18 then Instr.fill (fun i=>some (i*ie.size,ie.size)) ((Array.range (2*ie.size)).map (z.cells[· % z.cells.size]!)) [(0,.agg (Ycd c sl).toArray),(1,.agg (Ycd d sl').toArray)] else none
   |none=>none)
  |none=>none)=some (Ycd c sl++Ycd d sl').toArray:=by kernel_rfl
 cases hi:Tryz.prog.info? 48 with
 |none=>rw[hi] at hf;cases hf
 |some ie=>
  rw[hi] at hf;cases hz:ie.zero with
  |none=>simp only[hz] at hf;cases hf
  |some z=>
   simp only[hz] at hf;by_cases h18:ie.size=18
   ·rw[if_pos h18] at hf;subst hN;rw[←hd] at h;exact wpList_buildSlice hgd _ _ 2 _ ho _ ie z Tryz.underlying40 hi hz (by rw[h18];decide) (by rw[h18];decide) (by simpa [hx,hy] using hf) h
   ·rw[if_neg h18] at hf;cases hf
structure Ynk (w:World) (N Q:Nat) (q:Int) (vr vc:Value) (lr lc:List Int):Prop where
 low:N≤Q
 box:w.heap[Q]? =some (.cells [.int .i64 q].toArray 3 (0,0))
 rows:w.ownsRow N 3 1 vr lr.length (Ykj lr)
 cels:w.ownsRow N 3 1 vc lc.length (Ykj lc)
 nr:vr.ownBlock≠some Q
 nc:vc.ownBlock≠some Q
 two:∀k,vr.ownBlock=some k→vc.ownBlock≠some k
section
variable {w x:World}{N Q:Nat}{q q':Int}{vr vc v:Value}{lr lc:List Int}
theorem Ynk.lt (h:Ynk w N Q q vr vc lr lc):Q<w.heap.size:=(Array.getElem?_eq_some_iff.1 h.box).1
theorem Ynk.below (h:Ynk w N Q q vr vc lr lc)(hb:Below w.heap.size w x):Ynk x N Q q vr vc lr lc:=
 {h with box:=(hb.block Q h.lt).trans h.box,rows:=Yho h.rows hb,cels:=Yho h.cels hb}
theorem Ynk.turned (h:Ynk w N Q q vr vc lr lc)(hg:w.grownBy x (some Q))(hx:x.heap[Q]? =some (.cells [.int .i64 q'].toArray 3 (0,0))):Ynk x N Q q' vr vc lr lc:=
 {h with box:=hx,rows:=h.rows.kept hg (.inr h.nr),cels:=h.cels.kept hg (.inr h.nc)}
theorem Ynk.rowed {y:Int}(h:Ynk w N Q q vr vc lr lc)(hg:w.grownBy x vr.ownBlock)(ho:x.ownsRow N 3 1 v (lr.length+1) (Ykj lr++[.int .i64 y]))(hw:∀k,v.ownBlock=some k→vr.ownBlock=some k∨w.heap.size≤k):Ynk x N Q q v vc (lr++[y]) lc where
 low:=h.low
 box:=(hg.block Q h.lt (fun e=>h.nr e.symm)).trans h.box
 rows:=by rw[List.length_append,Yhk];exact ho
 cels:=h.cels.kept hg (by
  cases hv:vc.ownBlock with
  |none=>exact .inl rfl
  |some k=>exact .inr fun e=>h.two k e.symm hv)
 nr:=fun e=>by
  rcases hw Q e with e1|e1
  ·exact h.nr e1
  ·have:=h.lt;omega
 nc:=h.nc
 two:=fun k hk hv=>by
  rcases hw k hk with e1|e1
  ·exact h.two k e1 hv
  ·have:=(h.cels.lt k hv).2;omega
theorem Ynk.celled {y:Int}(h:Ynk w N Q q vr vc lr lc)(hg:w.grownBy x vc.ownBlock)(ho:x.ownsRow N 3 1 v (lc.length+1) (Ykj lc++[.int .i64 y]))(hw:∀k,v.ownBlock=some k→vc.ownBlock=some k∨w.heap.size≤k):Ynk x N Q q vr v lr (lc++[y]) where
 low:=h.low
 box:=(hg.block Q h.lt (fun e=>h.nc e.symm)).trans h.box
 rows:=h.rows.kept hg (by
  cases hv:vr.ownBlock with
  |none=>exact .inl rfl
  |some k=>exact .inr fun e=>h.two k hv e.symm)
 cels:=by rw[List.length_append,Yhk];exact ho
 nr:=h.nr
 nc:=fun e=>by
  rcases hw Q e with e1|e1
  ·exact h.nc e1
  ·have:=h.lt;omega
 two:=fun k hk hv=>by
  rcases hw k hv with e1|e1
  ·exact h.two k hk e1
  ·have:=(h.rows.lt k hk).2;omega
set_option maxRecDepth 100000 in
set_option maxHeartbeats 1000000 in
theorem Yqh (r:RowP)(cv:Value)(hq:w.heap[Q]? =some (.cells [.int .i64 q].toArray 3 (0,0))):
  Calls Tryz.prog 72 #[.agg #[.bool r.head,.int .i64 r.id,.int .i64 r.quant,cv],.pointer (some ⟨Q,0,none⟩)] w fun e x=>
   e=.returned (.int .i64 (Ye2 q r))∧x.heap[Q]? =some (.cells [.int .i64 (Ye2 q r)].toArray 3 (0,0))∧w.grownBy x (some Q):=by
 obtain⟨R,hR⟩:∃R,w.heap.size=R:=⟨_,rfl⟩;have hlt:Q<w.heap.size:=(Array.getElem?_eq_some_iff.1 hq).1;cases hh:r.head with
 |true=>
  rw[Ysc q hh];obtain⟨wA,hwA⟩:∃wA,w.alloc (.cells #[.bool true,.int .i64 r.id,.int .i64 r.quant,cv] 42 (0,0))=wA:=⟨_,rfl⟩;have hhA:wA.heap[R]? =some (.cells [.bool true,.int .i64 r.id,.int .i64 r.quant,cv].toArray 42 (0,0)):=by rw[←hwA,←hR];exact heap_alloc_new w _
  have hbA:Below w.heap.size w wA:=by rw[←hwA];exact(Below.refl _ w).alloc (Nat.le_refl _) _
  have hqA:wA.heap[Q]? =some (.cells [.int .i64 q].toArray 3 (0,0)):=(hbA.block Q hlt).trans hq;have c0:=Yac (o:=0) hhA rfl;have c2:=Yac (o:=2) hhA rfl;have d0:=Yac (o:=0) hqA rfl;have f0:=Ycb (o:=0) hqA;have P:=Lib.hid (Yev (o:=0) (.int .i64 r.quant) hqA);have G:=Lib.hid (Yal (Ya2 hbA (some Q)) (Ya8 wA ⟨Q,0,none⟩ (.int .i64 r.quant)));have HWA:=Lib.hid hwA;have HR:=Lib.hid hR
  clear hwA hhA hbA hqA hq hh hR;generalize r.quant=k at *;generalize r.id=i at *
  go_enter Tryz.func72,Tryz.ntmps72
  go_upto_region 1 with fail
  rw[HWA.out,HR.out]
  go_wp2
  go_ret
  exact⟨rfl,P.out,G.out⟩
 |false=>
  rw[Yox q hh];obtain⟨wA,hwA⟩:∃wA,w.alloc (.cells #[.bool false,.int .i64 r.id,.int .i64 r.quant,cv] 42 (0,0))=wA:=⟨_,rfl⟩;have hhA:wA.heap[R]? =some (.cells [.bool false,.int .i64 r.id,.int .i64 r.quant,cv].toArray 42 (0,0)):=by rw[←hwA,←hR];exact heap_alloc_new w _
  have hbA:Below w.heap.size w wA:=by rw[←hwA];exact(Below.refl _ w).alloc (Nat.le_refl _) _
  have hqA:wA.heap[Q]? =some (.cells [.int .i64 q].toArray 3 (0,0)):=(hbA.block Q hlt).trans hq;have c0:=Yac (o:=0) hhA rfl;have d0:=Yac (o:=0) hqA rfl;have P:=Lib.hid hqA;have G:=Lib.hid (Ya2 hbA (some Q));have HWA:=Lib.hid hwA;have HR:=Lib.hid hR;clear hwA hhA hbA hqA hq hh hR;generalize r.quant=k at *;generalize r.id=i at *
  go_enter Tryz.func72,Tryz.ntmps72
  go_upto_region 1 with fail
  rw[HWA.out,HR.out]
  go_wp2
  go_ret
  exact⟨rfl,P.out,G.out⟩
set_option maxRecDepth 100000 in
set_option maxHeartbeats 1000000 in
theorem Yt0 (c:Cel)(sl:Nat→Value)(hq:w.heap[Q]? =some (.cells [.int .i64 q].toArray 3 (0,0))):
  Calls Tryz.prog 73 #[.agg (Ycd c sl).toArray,.pointer (some ⟨Q,0,none⟩)] w fun e x=>
   e=.returned (.int .i64 (Yli q c))∧x.heap[Q]? =some (.cells [.int .i64 (Yli q c)].toArray 3 (0,0))∧w.grownBy x (some Q):=by
 obtain⟨R,hR⟩:∃R,w.heap.size=R:=⟨_,rfl⟩;have hlt:Q<w.heap.size:=(Array.getElem?_eq_some_iff.1 hq).1;obtain⟨wA,hwA⟩:∃wA,w.alloc (.cells (Ycd c sl).toArray 48 (0,0))=wA:=⟨_,rfl⟩;have hhA:wA.heap[R]? =some (.cells (Ycd c sl).toArray 48 (0,0)):=by rw[←hwA,←hR];exact heap_alloc_new w _
 have hbA:Below w.heap.size w wA:=by rw[←hwA];exact(Below.refl _ w).alloc (Nat.le_refl _) _
 have hqA:wA.heap[Q]? =some (.cells [.int .i64 q].toArray 3 (0,0)):=(hbA.block Q hlt).trans hq;have c2:wA.cell? ⟨R,2,none⟩=some (.int .i64 c.kind):=Yac (o:=2) hhA rfl;have c3:wA.cell? ⟨R,3,none⟩=some (.int .i64 c.step):=Yac (o:=3) hhA rfl;have d0:=Yac (o:=0) hqA rfl;have f0:=Ycb (o:=0) hqA;have P:=Lib.hid (fun y=>Yev (o:=0) (.int .i64 y) hqA);have P0:=Lib.hid hqA
 have G:=Lib.hid (fun y=>Yal (Ya2 hbA (some Q)) (Ya8 wA ⟨Q,0,none⟩ (.int .i64 y)));have G0:=Lib.hid (Ya2 hbA (some Q));have HWA:=Lib.hid hwA;have HR:=Lib.hid hR;have n1:=fun w=>Yun q c.step w;by_cases hk:c.kind=1∨c.kind=4
 ·rw[Y2k q hk];have tk:((c.kind==1)=true)∨((c.kind==1)=false∧(c.kind==4)=true):=by
   rcases hk with e|e <;> simp[e]
  obtain⟨Z,hZ⟩:∃Z,(Ycd c sl).toArray=Z:=⟨_,rfl⟩;rw[hZ] at HWA ⊢;clear hwA hhA hbA hqA hq hk hR hZ;generalize Yeq q c.step=y at *;generalize c.kind=k at *;generalize c.step=s at *;rcases tk with t1|⟨t1,t2⟩
  all_goals
   go_enter Tryz.func73,Tryz.ntmps73
   go_upto_region 1 with fail
   rw[HWA.out,HR.out]
   go_wp2_with (refine(n1 _).mono ?_;rintro e w1 ⟨rfl,rfl⟩)
   go_ret
   exact⟨rfl,P.out _,G.out _⟩
 ·rw[Y0h q hk];have t1:(c.kind==1)=false:=by rw[beq_eq_false_iff_ne];exact fun e=>hk (.inl e)
  have t2:(c.kind==4)=false:=by rw[beq_eq_false_iff_ne];exact fun e=>hk (.inr e)
  obtain⟨Z,hZ⟩:∃Z,(Ycd c sl).toArray=Z:=⟨_,rfl⟩;rw[hZ] at HWA ⊢;clear hwA hhA hbA hqA hq hk hR hZ n1;generalize c.kind=k at *
  go_enter Tryz.func73,Tryz.ntmps73
  go_upto_region 1 with fail
  rw[HWA.out,HR.out]
  go_wp2
  go_ret
  exact⟨rfl,P0.out,G0.out⟩
set_option maxRecDepth 100000 in
set_option maxHeartbeats 1000000 in
theorem Yqj (q:Int)(w:World):
  Calls Tryz.prog 50 #[.int .i64 q] w fun e x=>
   e=.returned (.tuple #[.func (.func 72) #[] #[.pointer (some ⟨w.heap.size,0,none⟩)],.func (.func 73) #[] #[.pointer (some ⟨w.heap.size,0,none⟩)]])∧
   x.heap[w.heap.size]? =some (.cells [.int .i64 q].toArray 3 (0,0))∧Below w.heap.size w x:=by
 have hmf:∀(fn:Fn) (first cap:Array Value) (w:World),(Instr.makeFunc fn first cap).run Tryz.prog w=.ok (.func fn first cap) w:=fun _ _ _ _=>rfl;obtain⟨R,hR⟩:∃R,w.heap.size=R:=⟨_,rfl⟩;obtain⟨wA,hwA⟩:∃wA,w.alloc (.cells #[.int .i64 q] 3 (0,0))=wA:=⟨_,rfl⟩;have hhA:wA.heap[R]? =some (.cells [.int .i64 q].toArray 3 (0,0)):=by rw[←hwA,←hR];exact heap_alloc_new w _
 have hbA:Below w.heap.size w wA:=by rw[←hwA];exact(Below.refl _ w).alloc (Nat.le_refl _) _
 rw[hR] at hbA ⊢;have HWA:=Lib.hid hwA;have HR:=Lib.hid hR;have P:=Lib.hid hhA;have G:=Lib.hid hbA;clear hwA hhA hbA hR
 go_enter Tryz.func50,Tryz.ntmps50
 go_upto_region 1 with fail
 rw[HWA.out,HR.out]
 go_wp2
 go_ret2
 exact⟨rfl,P.out,G.out⟩
end
def Yxx (S:ShP):List Int:=if Yb0 S=0 then Yg7 S.hd.quant S.rows else []
def Yqf (S:ShP):List Int:=if Yb0 S=0 then Yi6 S.hd.quant S.rows else []
theorem Y0i {S:ShP}(h:Yb0 S=0):Yxx S=Yg7 S.hd.quant S.rows:=if_pos h
theorem Ysa {S:ShP}(h:Yb0 S=0):Yqf S=Yi6 S.hd.quant S.rows:=if_pos h
theorem Yxy {S:ShP}(h:¬ Yb0 S=0):Yxx S=[]:=if_neg h
theorem Yxs {S:ShP}(h:¬ Yb0 S=0):Yqf S=[]:=if_neg h
def Ydh (S:ShP)(w:World)(e:Ending)(w':World):Prop:=
 ∃vr vc,e=.returned (.tuple #[vr,vc,.int .i64 (Yb0 S)])∧w'.ownsRow w.heap.size 3 1 vr (Yxx S).length (Ykj (Yxx S))∧w'.ownsRow w.heap.size 3 1 vc (Yqf S).length (Ykj (Yqf S))∧Below w.heap.size w w'
theorem Ydh.not {S:ShP}{w w':World}(h:¬ Yb0 S=0)(hb:Below w.heap.size w w'){E:Int}(hE:Yb0 S=E):Ydh S w (.returned (.tuple #[.slice none 0 0,.slice none 0 0,.int .i64 E])) w':=by
 subst hE;refine⟨_,_,rfl,?_,?_,hb⟩
 ·rw[Yxy h];exact World.ownsRow_nil ..
 ·rw[Yxs h];exact World.ownsRow_nil ..
theorem Ydh.ok {S:ShP}{w w':World}{vr vc:Value}(h:Yb0 S=0)(hb:Below w.heap.size w w')(h1:w'.ownsRow w.heap.size 3 1 vr (Yg7 S.hd.quant S.rows).length (Ykj (Yg7 S.hd.quant S.rows)))
  (h2:w'.ownsRow w.heap.size 3 1 vc (Yi6 S.hd.quant S.rows).length (Ykj (Yi6 S.hd.quant S.rows))):Ydh S w (.returned (.tuple #[vr,vc,.int .i64 0])) w':=by
 refine⟨vr,vc,by rw[h],?_,?_,hb⟩
 ·rw[Y0i h];exact h1
 ·rw[Ysa h];exact h2
theorem Yhj:∃i z,Tryz.prog.info? 3=some i∧i.zero=some z∧z.cells.size=1∧i.size=1∧i.bytes=8:=by
 have h:=Yzs;generalize Tryz.prog.info? 3=x at h
 match x,h with
 |some i,h=>
  rw[Option.map_some] at h;injection h with h;injection h with h1 h2;injection h2 with h2 h3;exact⟨i,_,rfl,h1,rfl,h2,h3⟩
def qUp (q:Int)(l:List RowP)(i j:Nat):List Int:=Yi6 q (l.take i)++Yh7 (Ye2 (Yi7 q (l.take i)) (l[i]!)) ((l[i]!).cels.take j)
def qIn (q:Int)(l:List RowP)(i j:Nat):Int:=Yu9 (Ye2 (Yi7 q (l.take i)) (l[i]!)) ((l[i]!).cels.take j)
section
variable {q:Int}{l:List RowP}{i j:Nat}
theorem Ym4 (hi:i<l.length):qUp q l i 0=Yi6 q (l.take i)∧qIn q l i 0=Ye2 (Yi7 q (l.take i)) l[i]:=by
 unfold qUp qIn;rw[List.take_zero,getElem!_pos l i hi];exact⟨List.append_nil _,rfl⟩
theorem Ym3 (hi:i<l.length)(hj:j<l[i].cels.length):qUp q l i (j+1)=qUp q l i j++[Yli (qIn q l i j) l[i].cels[j]]∧qIn q l i (j+1)=Yli (qIn q l i j) l[i].cels[j]:=by
 unfold qUp qIn;rw[getElem!_pos l i hi,Yty _ hj,Yx0 _ hj,List.append_assoc];exact⟨rfl,rfl⟩
theorem Yqg (hi:i<l.length):qUp q l i l[i].cels.length=Yi6 q (l.take (i+1))∧qIn q l i l[i].cels.length=Yi7 q (l.take (i+1)):=by
 unfold qUp qIn;rw[getElem!_pos l i hi,List.take_length,Yxt q hi,Yxw q hi];exact⟨rfl,rfl⟩
end
theorem Ysd (S:ShP){q:Int}{i:Nat}(hi:i<S.rows.length)(j:Nat):(qUp q S.rows i j).length≤(Yaw S).length:=by
 have h:=Yf9 S (i+1);rw[Ydt S hi,List.length_append] at h;unfold Yds at h;unfold qUp;rw[List.length_append,Yg3,Yf1,List.length_take,getElem!_pos S.rows i hi];omega
set_option maxRecDepth 100000 in
set_option maxHeartbeats 4000000 in
theorem Yt1 (S:ShP)(p b:Option Addr)(ca cb:Nat)(w:World)(hl:S.hd.supp.length≤maxLen)(hn:S.rows.length≤1048576)(hs:Ydf w p S.hd.supp)(hr:Ycu w b S.rows)(hm:(Yaw S).length≤1048576)(hc:∀c∈Yaw S,∀k,k<6→(c.ev k).length≤1048576)(hR:Yd9 w S.hd.inter):
  Calls Tryz.prog 28 #[.agg (Yaz S.hd (.slice p S.hd.supp.length ca) (.slice b S.rows.length cb) S.zeros).toArray] w (Ydh S w):=by
 have chk:=fun x=>Ypc S p b ca cb x hl (by omega);obtain⟨n,hln⟩:∃n,S.rows.length=n:=⟨_,rfl⟩;rw[hln] at hn chk ⊢;obtain⟨zs,hZ⟩:∃zs,Yaz S.hd (.slice p S.hd.supp.length ca) (.slice b n cb) S.zeros=zs:=⟨_,rfl⟩;have z4:zs[4]? =some (.int .i64 S.hd.quant):=by rw[←hZ];rfl
 have z6:zs[6]? =some (.slice b n cb):=by rw[←hZ];rfl
 have HSZ:(Tryz.prog.info? 29).map (·.size)=some zs.toArray.size:=by rw[show zs.toArray.size=8 by rw[←hZ];rfl];kernel_rfl
 rw[hZ] at chk ⊢;obtain⟨B,hB⟩:∃B,w.heap.size=B:=⟨_,rfl⟩;obtain⟨wA,hwA⟩:∃wA,w.alloc (.cells zs.toArray 29 (0,0))=wA:=⟨_,rfl⟩;have hhA:wA.heap[B]? =some (.cells zs.toArray 29 (0,0)):=by rw[←hwA,←hB];exact heap_alloc_new w _
 have hbA:Below w.heap.size w wA:=by rw[←hwA];exact(Below.refl _ w).alloc (Nat.le_refl _) _
 have hsA:wA.heap.size=B+1:=by rw[←hwA,←hB];simp
 have W0:∀x,Below (B+1) wA x→Below w.heap.size w x:=fun x hx=>hbA.trans (hx.mono (by omega));have CL:=Lib.hid (fun(x:World) (hx:Below (B+1) wA x)=>(⟨Yac ((hx.block B (by omega)).trans hhA) z4,Yac ((hx.block B (by omega)).trans hhA) z6,W0 x hx⟩:x.cell? ⟨B,4,none⟩=some (.int .i64 S.hd.quant)∧x.cell? ⟨B,6,none⟩=some (.slice b n cb)∧Below w.heap.size w x))
 have C1:=chk wA (hs.below hbA) (hr.below hbA) hc (hR.below hbA);rw[hsA] at C1;have DT:=Lib.hid (fun(x:World) (hx:Below (B+1) wA x)=>(fun{E:Int} (h:¬ E=0) (hE:Yb0 S=E)=>Ydh.not (by rw[hE];exact h) (W0 x hx) hE:∀{E:Int},¬ E=0→Yb0 S=E→Ydh S w (.returned (.tuple #[.slice none 0 0,.slice none 0 0,.int .i64 E])) x));have HWA:=Lib.hid hwA;have HB:=Lib.hid hB;have HSA:=Lib.hid hsA;have NR:=Lib.hid hln
 have HR:=Lib.hid hr;have MOST:=Lib.hid (fun q i j (hi:i<S.rows.length)=>Nat.le_trans (Ysd S (q:=q) hi j) hm);obtain⟨E,hE⟩:∃E,Yb0 S=E:=⟨_,rfl⟩;rw[hE] at C1;have EH:=Lib.hid hE;obtain⟨Yr,HYRS,hzr⟩:=Yhq;obtain⟨Y,HYS,hzv⟩:=Yfv;clear hwA hbA hsA W0 hZ hln hr hm hc hs hR chk hB z4 z6 hE hl;by_cases h0:E=0
 case neg=>
  have t1:(E != 0)=true:=by simpa [bne] using h0
  have HN:=Lib.hid h0;clear h0
  go_enter Tryz.func28,Tryz.ntmps28
  go_wp2_with (rw[HWA.out,HB.out];with_reducible refine wpList_load_row rfl 29 _ rfl B rfl 29 zs.toArray (0,0) _ hhA Tryz.underlying29 rfl HSZ ?_)
  refine C1.mono ?_;rintro e w1 ⟨rfl,hb1⟩
  go_wp2
  go_ret3
  exact DT.out _ hb1 HN.out EH.out
 subst h0;have EH0:=Lib.hid (show Yb0 S=0 from EH.out);clear EH DT;obtain⟨q,hq⟩:∃q,S.hd.quant=q:=⟨_,rfl⟩;rw[hq] at CL;have HQ:=Lib.hid hq;clear hq
 go_enter Tryz.func28,Tryz.ntmps28
 go_wp2_with (rw[HWA.out,HB.out];with_reducible refine wpList_load_row rfl 29 _ rfl B rfl 29 zs.toArray (0,0) _ hhA Tryz.underlying29 rfl HSZ ?_)
 refine C1.mono ?_;rintro e w1 ⟨rfl,hb1⟩;obtain⟨k4,-,-⟩:=CL.out _ hb1;clear C1 hhA;have cf:=Yqj q w1
 go_wp2_with fail
 refine cf.mono ?_;rintro e w2 ⟨rfl,hQ2,hb2⟩;have hbA2:Below (B+1) wA w2:=hb1.trans (hb2.mono (by have:=hb1.size;have:=HSA.out;omega));obtain⟨-,k6,-⟩:=CL.out _ hbA2;obtain⟨Q,hQ⟩:∃Q,w1.heap.size=Q:=⟨_,rfl⟩;rw[hQ] at hQ2 ⊢;have hBQ:B+1≤Q:=by rw[←hQ];have:=hb1.size;have:=HSA.out;omega
 have at0:Ynk w2 (B+1) Q q (.slice none 0 0) (.slice none 0 0) [] []:=⟨by omega,hQ2,World.ownsRow_nil ..,World.ownsRow_nil ..,(fun e=>by cases e),(fun e=>by cases e),fun k e=>by cases e⟩;clear k4 cf hb1 hb2 hQ hQ2
 go_wp2
 clear k6
 go_loopw [2,3,26] (fun vr vc t wr=>∃i:Nat,t=.int .i64 (i:Int)∧i≤n∧Ynk wr (B+1) Q (Yi7 q (S.rows.take i)) vr vc (Yg7 q (S.rows.take i)) (Yi6 q (S.rows.take i))∧Below (B+1) wA wr) (fun _ _ t _=>n-(intOf t).toNat)
 case atStart=>exact⟨0,rfl,Nat.zero_le _,at0,hbA2⟩
 case round=>
  clear at0 hbA2;obtain⟨i,rfl,hi,ha,hb⟩:=hrel;obtain⟨-,-,hbw⟩:=CL.out _ hb;by_cases hlt:i<n
  ·have t1:decide ((i:Int)<(n:Int))=true:=by simp;omega
   obtain⟨b1,o1,rfl,hb1,hc1⟩:=Ye3 HR.out (by rw[NR.out];omega);have hil:i<S.rows.length:=by rw[NR.out];exact hlt
   obtain⟨r,cap,hq,hml,hcel,hat⟩:=hc1 i hil;obtain⟨rs,hrs⟩:∃rs,[Value.bool S.rows[i].head,.int .i64 S.rows[i].id,.int .i64 S.rows[i].quant,.slice r S.rows[i].cels.length cap]=rs:=⟨_,rfl⟩;have r3:rs[3]? =some (.slice r S.rows[i].cels.length cap):=by rw[←hrs];rfl
   have rl:rs.length=4:=by rw[←hrs];rfl
   have ro:rs.toArray.all (·.oneCell')=true:=by rw[←hrs];simp[Value.oneCell']
   have hrg:wr.rangeAt b1 (o1+i*4) rs:=fun k v hk=>by
    obtain⟨a0,a1,a2,a3⟩:=hat wr hbw;rw[←hrs] at hk
    match k,hk with
    |0,hk=>injection hk with hk;subst hk;exact a0
    |1,hk=>injection hk with hk;subst hk;exact a1
    |2,hk=>injection hk with hk;subst hk;exact a2
    |3,hk=>injection hk with hk;subst hk;exact a3
   have HSR:(Tryz.prog.info? 42).map (·.size)=some rs.toArray.size:=by rw[show rs.toArray.size=4 from rl];kernel_rfl
   have HYR:Yr.size=rs.toArray.size:=by rw[HYRS];exact rl.symm
   obtain⟨u1,u2⟩:=Ym4 (q:=q) hil;have uN:=Lib.hid (fun j (hj:j<S.rows[i].cels.length)=>Ym3 (q:=q) hil hj);have uR:=Lib.hid (Yqg (q:=q) hil);have uM:=Lib.hid (fun j=>MOST.out q i j hil);have fN:=Lib.hid (Yow q hil);have fM:(Yg7 q (S.rows.take i)).length≤1048576:=by rw[Yel,List.length_take];omega
   have cb:=fun(x:World) (q0:Int) (hx:x.heap[Q]? =some (.cells [.int .i64 q0].toArray 3 (0,0)))=>Yqh S.rows[i] (.slice r S.rows[i].cels.length cap) hx;have CB:=Lib.hid (fun(x:World) (q0:Int) (hx:x.heap[Q]? =some (.cells [.int .i64 q0].toArray 3 (0,0)))=>(by
    have h:=cb x q0 hx;rw[show (#[.bool S.rows[i].head,.int .i64 S.rows[i].id,.int .i64 S.rows[i].quant,.slice r S.rows[i].cels.length cap]:Array Value)=rs.toArray by rw[←hrs]] at h;exact h:Calls Tryz.prog 72 #[.agg rs.toArray,.pointer (some ⟨Q,0,none⟩)] x fun e y=>
     e=.returned (.int .i64 (Ye2 q0 S.rows[i]))∧y.heap[Q]? =some (.cells [.int .i64 (Ye2 q0 S.rows[i])].toArray 3 (0,0))∧x.grownBy y (some Q)))
   clear cb hat hc1 hrs;rw[←u1] at ha;obtain⟨U,hU⟩:∃U,qUp q S.rows i=U:=⟨_,rfl⟩;obtain⟨I,hI⟩:∃I,qIn q S.rows i=I:=⟨_,rfl⟩;obtain⟨q0,hq0⟩:∃q0,Yi7 q (S.rows.take i)=q0:=⟨_,rfl⟩;rw[hq0] at ha u2 fN;have CB0:=Lib.hid (fun(x:World) hx=>CB.out x q0 hx);rw[←u2] at fN CB0;obtain⟨fl,hfl⟩:∃fl,Yg7 q (S.rows.take i)=fl:=⟨_,rfl⟩;rw[hfl] at ha fN fM;simp only[hU,hI] at ha uN uR uM fN CB0 u1 u2
   clear hU hI hq0 hfl CB u1 u2;generalize S.rows[i].cels=m at *;obtain⟨R,hR⟩:∃R,wr.heap.size=R:=⟨_,rfl⟩;obtain⟨wB,hwB⟩:∃wB,wr.alloc (.cells rs.toArray 42 (0,0))=wB:=⟨_,rfl⟩;have hhB:wB.heap[R]? =some (.cells rs.toArray 42 (0,0)):=by rw[←hwB,←hR];exact heap_alloc_new wr _
   have hbB:Below wr.heap.size wr wB:=by rw[←hwB];exact(Below.refl _ wr).alloc (Nat.le_refl _) _
   have haB:=ha.below hbB;have hbwB:Below (B+1) wA wB:=hb.trans (hbB.mono (by have:=hb.size;have:=HSA.out;omega));have hQR:Q<R:=by rw[←hR];exact ha.lt
   have hvR:∀k,u2.ownBlock=some k→k<R:=fun k hk=>by rw[←hR];exact(ha.rows.lt k hk).2
   have cB:=CB0.out wB haB.box;have HWB:=Lib.hid hwB;have HRR:=Lib.hid hR;have HCEL:=Lib.hid hcel;have R3:=Lib.hid r3;clear hwB hbB ha hb hbw hcel r3 hR CB0
   go_wp2_with (first|(with_reducible refine Ye4 rfl _ rfl b1 (o1+i*4) rfl rs hrg rl ?_)|(with_reducible refine Yai rfl 42 _ _ rfl rs.toArray Yr 42 rfl rfl HSR HYR ro ?_;rw[HWB.out,HRR.out])|(with_reducible refine wpList_load_row rfl 42 _ rfl R rfl 42 rs.toArray (0,0) _ hhB Tryz.underlying42 rfl HSR ?_))
   refine cB.mono ?_;rintro e w3 ⟨rfl,hQ3,hg3⟩;have ha3:=haB.turned hg3 hQ3;have hh3:=(hg3.block R (Array.getElem?_eq_some_iff.1 hhB).1 (fun e=>by injection e with e;omega)).trans hhB;have hb3:Below (B+1) wA w3:=hbwB.grown hg3 (by have:=hbwB.size;have:=HSA.out;omega) (fun k hk=>by injection hk with hk;omega);obtain⟨wP,hwP⟩:∃wP,w3.alloc (.cells #[.int .i64 (I 0)] 3 (0,0))=wP:=⟨_,rfl⟩
   have hbP:Below w3.heap.size w3 wP:=by rw[←hwP];exact(Below.refl _ w3).alloc (Nat.le_refl _) _
   have haP:=ha3.below hbP;have hhP:=(hbP.block R (Array.getElem?_eq_some_iff.1 hh3).1).trans hh3;have c0:wP.cell? ⟨w3.heap.size,0,none⟩=some (.int .i64 (I 0)):=by rw[←hwP];exact Yac (cs:=[.int .i64 (I 0)]) (heap_alloc_new w3 _) rfl
   have hbPA:Below (B+1) wA wP:=hb3.trans (hbP.mono (by have:=hb3.size;have:=HSA.out;omega));have hwo:=haP.rows;have hzP:B+1≤wP.heap.size:=by have:=hbPA.size;have:=HSA.out;omega
   obtain⟨ti,tz,j0,j1,j2,j3,j4⟩:=Yhj;have HWP:=Lib.hid hwP;have HAP:=Lib.hid haP;have HHP:=Lib.hid hhP;have HBPA:=Lib.hid hbPA;clear hwP hbP ha3 hh3 hb3 haB hbwB hhB hrg HSR HYR ro rl cB hg3 hQ3 haP hhP hbPA
   go_wp2_with (at_builtin;rw[HWP.out];refine Ydz (v:=u2) (y0:=I 0) rfl rfl Tryz.underlying26 j0 j1 j2 j3 j4 rfl hwo rfl ?c1 ?c2 ?c3 ?_;(case c1=>exact c0);(case c2=>exact fM);(case c3=>exact hzP);intro v8 w8 ho8 hg8 hw8;have k3:w8.cell? ⟨R,3,none⟩=some (.slice r m.length cap):=Yac ((hg8.block R (Array.getElem?_eq_some_iff.1 HHP.out).1 (fun e=>by have:=hvR R e.symm;omega)).trans HHP.out) R3.out)
   have ha8:=HAP.out.rowed hg8 ho8 hw8;have hb8:Below (B+1) wA w8:=HBPA.out.grown hg8 (by have:=HBPA.out.size;have:=HSA.out;omega) (fun k hk=>by have:=(hwo.lt k hk).1;omega);rw[←fN.out] at ha8;clear c0 hwo hg8 ho8 hw8 HAP HHP HBPA fM fN
   go_loopw [3,39] (fun v t wr=>∃j:Nat,t=.int .i64 (j:Int)∧j≤m.length∧Ynk wr (B+1) Q (I j) v8 v (Yg7 q (S.rows.take (i+1))) (U j)∧Below (B+1) wA wr) (fun _ t _=>m.length-(intOf t).toNat)
   case atStart=>exact⟨0,rfl,Nat.zero_le _,ha8,hb8⟩
   case round=>
    clear k3 ha8 hb8;obtain⟨j,rfl,hj,ha,hb⟩:=hrel;by_cases hjm:j<m.length
    ·have t2:decide ((j:Int)<(m.length:Int))=true:=by simp;omega
     have hml2:m.length≤9223372036854775807:=by unfold maxLen at hml;omega
     obtain⟨-,-,hbw⟩:=CL.out _ hb;obtain⟨b2,o2,rfl,hb2,hcv⟩:=Yby.each HCEL.out (by omega);obtain⟨vs,hV,hvc⟩:=hcv j hjm;have hl18:=hV.shape.1;have hone:=Yfz hV;obtain⟨p3,cap3,hvs,-,-⟩:=hV;have hrg:wr.rangeAt b2 (o2+j*18) vs:=fun k v hk=>hvc wr hbw k v hk;obtain⟨N1,N2⟩:=uN.out j hjm;have GM:=uM.out (j+1);rw[N1,List.length_append] at GM
     have cnx:=fun(x:World) (q0:Int) (hx:x.heap[Q]? =some (.cells [.int .i64 q0].toArray 3 (0,0)))=>Yt0 m[j] (fun i=>.slice (p3 i) (m[j].ev i).length (cap3 i)) hx;rw[←hvs] at cnx;have LU:(U j).length≤1048576:=by simp only[List.length_cons,List.length_nil] at GM;omega
     obtain⟨C,hC⟩:∃C,wr.heap.size=C:=⟨_,rfl⟩;obtain⟨wC,hwC⟩:∃wC,wr.alloc (.cells vs.toArray 48 (0,0))=wC:=⟨_,rfl⟩;have hhC:wC.heap[C]? =some (.cells vs.toArray 48 (0,0)):=by rw[←hwC,←hC];exact heap_alloc_new wr _
     have hbC:Below wr.heap.size wr wC:=by rw[←hwC];exact(Below.refl _ wr).alloc (Nat.le_refl _) _
     have haC:=ha.below hbC;have hbwC:Below (B+1) wA wC:=hb.trans (hbC.mono (by have:=hb.size;have:=HSA.out;omega));have HSV:(Tryz.prog.info? 48).map (·.size)=some vs.toArray.size:=by rw[show vs.toArray.size=18 from hl18];kernel_rfl
     have HYV:Y.size=vs.toArray.size:=by rw[HYS];exact hl18.symm
     have cC:=cnx wC (I j) haC.box;rw[←N2] at cC N1;have UN:=Lib.hid N1;have HWC:=Lib.hid hwC;have HCC:=Lib.hid hC;clear hwC hbC ha hb hC cnx hvs hcv hvc N1 N2 GM hbw
     go_wp2_with (first|(with_reducible refine Ydn rfl _ rfl b2 (o2+j*18) rfl vs hrg hl18 ?_)|(with_reducible refine Yai rfl 48 _ _ rfl vs.toArray Y 48 rfl rfl HSV HYV hone ?_;rw[HWC.out,HCC.out])|(with_reducible refine wpList_load_row rfl 48 _ rfl C rfl 48 vs.toArray (0,0) _ hhC Tryz.underlying48 rfl HSV ?_))
     refine cC.mono ?_;rintro e w3 ⟨rfl,hQ3,hg3⟩;have ha3:=haC.turned hg3 hQ3;have hb3:Below (B+1) wA w3:=hbwC.grown hg3 (by have:=hbwC.size;have:=HSA.out;omega) (fun k hk=>by injection hk with hk;omega);obtain⟨wP,hwP⟩:∃wP,w3.alloc (.cells #[.int .i64 (I (j+1))] 3 (0,0))=wP:=⟨_,rfl⟩;have hbP:Below w3.heap.size w3 wP:=by rw[←hwP];exact(Below.refl _ w3).alloc (Nat.le_refl _) _
     have haP:=ha3.below hbP;have c0:wP.cell? ⟨w3.heap.size,0,none⟩=some (.int .i64 (I (j+1))):=by rw[←hwP];exact Yac (cs:=[.int .i64 (I (j+1))]) (heap_alloc_new w3 _) rfl
     have hbPA:Below (B+1) wA wP:=hb3.trans (hbP.mono (by have:=hb3.size;have:=HSA.out;omega));have hwo:=haP.cels;have hzP:B+1≤wP.heap.size:=by have:=hbPA.size;have:=HSA.out;omega
     obtain⟨ti,tz,j0,j1,j2,j3,j4⟩:=Yhj;have HWP:=Lib.hid hwP;have HAP:=Lib.hid haP;have HBPA:=Lib.hid hbPA;clear hwP hbP ha3 hb3 haC hbwC hhC hrg HSV HYV hone hl18 cC hg3 hQ3 haP hbPA
     go_wp2_with (at_builtin;rw[HWP.out];refine Ydz (v:=u3) (y0:=I (j+1)) rfl rfl Tryz.underlying26 j0 j1 j2 j3 j4 rfl hwo rfl ?c1 ?c2 ?c3 ?_;(case c1=>exact c0);(case c2=>exact LU);(case c3=>exact hzP);intro v9 w9 ho9 hg9 hw9)
     have ha9:=HAP.out.celled hg9 ho9 hw9;have hb9:Below (B+1) wA w9:=HBPA.out.grown hg9 (by have:=HBPA.out.size;have:=HSA.out;omega) (fun k hk=>by have:=(hwo.lt k hk).1;omega);rw[←UN.out] at ha9;clear c0 hwo hg9 ho9 hw9 HAP HBPA
     go_roundw
     case rel=>exact⟨j+1,by go_num,by omega,ha9,hb9⟩
     case measure=>simp[intOf];omega
    ·obtain rfl:m.length=j:=by omega
     have t2:decide ((m.length:Int)<(m.length:Int))=false:=by simp
     rw[uR.out.1,uR.out.2] at ha
     go_wp2
     go_roundw
     case rel=>exact⟨i+1,by go_num,by omega,ha,hb⟩
     case measure=>simp[intOf];omega
  ·obtain rfl:n=i:=by omega
   have t1:decide ((n:Int)<(n:Int))=false:=by simp
   have e1:S.rows.take n=S.rows:=List.take_of_length_le (by rw[NR.out];omega);rw[e1] at ha;have o1:=Yhn ha.rows (show B≤B+1 by omega);have o2:=Yhn ha.cels (show B≤B+1 by omega);rw[←HQ.out,←HB.out] at o1 o2;have H1:=Lib.hid o1;have H2:=Lib.hid o2;clear e1 ha o1 o2
   go_wp2
   go_ret3
   exact Ydh.ok EH0.out hbw H1.out H2.out
def Yjd (l:List Int)(E:Int)(w:World)(e:Ending)(w':World):Prop:=
 ∃v,e=.returned (.tuple #[v,.int .i64 E])∧w'.ownsRow w.heap.size 3 1 v l.length (Ykj l)∧Below w.heap.size w w'
set_option maxRecDepth 100000 in
set_option maxHeartbeats 1000000 in
theorem Ytz (S:ShP)(p b:Option Addr)(ca cb:Nat)(w:World)(hl:S.hd.supp.length≤maxLen)(hn:S.rows.length≤1048576)(hs:Ydf w p S.hd.supp)(hr:Ycu w b S.rows)(hm:(Yaw S).length≤1048576)(hc:∀c∈Yaw S,∀k,k<6→(c.ev k).length≤1048576)(hR:Yd9 w S.hd.inter):
  Calls Tryz.prog 15 #[.agg (Yaz S.hd (.slice p S.hd.supp.length ca) (.slice b S.rows.length cb) S.zeros).toArray] w (Yjd (Yqf S) (Yb0 S) w):=by
 have thr:=fun x h1 h2 h3=>Yt1 S p b ca cb x hl hn h1 h2 hm hc h3;obtain⟨zs,hZ⟩:∃zs,Yaz S.hd (.slice p S.hd.supp.length ca) (.slice b S.rows.length cb) S.zeros=zs:=⟨_,rfl⟩;have HSZ:(Tryz.prog.info? 29).map (·.size)=some zs.toArray.size:=by rw[show zs.toArray.size=8 by rw[←hZ];rfl];kernel_rfl
 rw[hZ] at thr ⊢;obtain⟨B,hB⟩:∃B,w.heap.size=B:=⟨_,rfl⟩;obtain⟨wA,hwA⟩:∃wA,w.alloc (.cells zs.toArray 29 (0,0))=wA:=⟨_,rfl⟩;have hhA:wA.heap[B]? =some (.cells zs.toArray 29 (0,0)):=by rw[←hwA,←hB];exact heap_alloc_new w _
 have hbA:Below w.heap.size w wA:=by rw[←hwA];exact(Below.refl _ w).alloc (Nat.le_refl _) _
 have C1:=thr wA (hs.below hbA) (hr.below hbA) (hR.below hbA);unfold Ydh at C1;have HWA:=Lib.hid hwA;have HB:=Lib.hid hB;have HBA:=Lib.hid hbA;generalize Yqf S=la at *;generalize Yxx S=lf at *;generalize Yb0 S=E at *;clear thr hwA hB hbA hZ hs hr hR hc hm hn hl
 go_enter Tryz.func15,Tryz.ntmps15
 go_wp2_with (rw[HWA.out,HB.out];with_reducible refine wpList_load_row rfl 29 _ rfl B rfl 29 zs.toArray (0,0) _ hhA Tryz.underlying29 rfl HSZ ?_)
 refine C1.mono ?_;rintro e w1 ⟨vr,vc,rfl,h1,h2,hb1⟩;have H2:=Lib.hid h2;have H3:=Lib.hid hb1;clear h1 h2 hb1
 go_wp2
 go_ret2
 exact⟨_,rfl,Yhn H2.out HBA.out.size,HBA.out.trans (H3.out.mono HBA.out.size)⟩
def Yjc (l:List Int)(w:World)(e:Ending)(w':World):Prop:=∃v,e=.returned v∧w'.ownsRow w.heap.size 3 1 v l.length (Ykj l)∧Below w.heap.size w w'
set_option maxRecDepth 100000 in
set_option maxHeartbeats 2000000 in
theorem Yqi (S:ShP)(p b:Option Addr)(ca cb:Nat)(w:World)(hn:S.rows.length≤1048576)(hr:Ycu w b S.rows)(hO:QOk S):
  Calls Tryz.prog 41 #[.agg (Yaz S.hd (.slice p S.hd.supp.length ca) (.slice b S.rows.length cb) S.zeros).toArray] w (Yjc (Yg7 S.hd.quant S.rows) w):=by
 obtain⟨n,hln⟩:∃n,S.rows.length=n:=⟨_,rfl⟩;rw[hln] at hn ⊢;obtain⟨zs,hZ⟩:∃zs,Yaz S.hd (.slice p S.hd.supp.length ca) (.slice b n cb) S.zeros=zs:=⟨_,rfl⟩;have z4:zs[4]? =some (.int .i64 S.hd.quant):=by rw[←hZ];rfl
 have z6:zs[6]? =some (.slice b n cb):=by rw[←hZ];rfl
 rw[hZ];obtain⟨B,hB⟩:∃B,w.heap.size=B:=⟨_,rfl⟩;obtain⟨wA,hwA⟩:∃wA,w.alloc (.cells zs.toArray 29 (0,0))=wA:=⟨_,rfl⟩;have hhA:wA.heap[B]? =some (.cells zs.toArray 29 (0,0)):=by rw[←hwA,←hB];exact heap_alloc_new w _
 have hbA:Below w.heap.size w wA:=by rw[←hwA];exact(Below.refl _ w).alloc (Nat.le_refl _) _
 have hsA:wA.heap.size=B+1:=by rw[←hwA,←hB];simp
 have CL:=Lib.hid (fun(x:World) (hx:Below (B+1) wA x)=>(⟨Yac ((hx.block B (by omega)).trans hhA) z6,hbA.trans (hx.mono (by omega))⟩:x.cell? ⟨B,6,none⟩=some (.slice b n cb)∧Below w.heap.size w x));have k4:wA.cell? ⟨B,4,none⟩=some (.int .i64 S.hd.quant):=Yac hhA z4;have at0:wA.ownsRow (B+1) 3 1 (.slice none 0 0) 0 (Ykj []):=World.ownsRow_nil ..;have hb0:Below (B+1) wA wA:=Below.refl _ _
 have HWA:=Lib.hid hwA;have HB:=Lib.hid hB;have HSA:=Lib.hid hsA;have NR:=Lib.hid hln;have HR:=Lib.hid hr;have HO:=Lib.hid hO;obtain⟨q,hq⟩:∃q,S.hd.quant=q:=⟨_,rfl⟩;rw[hq] at k4 ⊢;have HQ:=Lib.hid hq;clear hwA hbA hsA hhA z4 z6 hZ hln hr hO hq hB
 go_enter Tryz.func41,Tryz.ntmps41
 go_upto_region 1 with fail
 rw[HWA.out,HB.out]
 go_wp2
 clear k4
 go_loopw [3,4,5] (fun v z t wr=>∃i:Nat,t=.int .i64 (i:Int)∧z=.int .i64 (Yi7 q (S.rows.take i))∧i≤n∧wr.ownsRow (B+1) 3 1 v (Yg7 q (S.rows.take i)).length (Ykj (Yg7 q (S.rows.take i)))∧Below (B+1) wA wr) (fun _ _ t _=>n-(intOf t).toNat)
 case atStart=>exact⟨0,rfl,rfl,Nat.zero_le _,at0,hb0⟩
 case round=>
  clear at0 hb0;obtain⟨i,rfl,rfl,hi,ho,hb⟩:=hrel;obtain⟨k6,hbw⟩:=CL.out _ hb;by_cases hlt:i<n
  ·have t1:decide ((i:Int)<(n:Int))=true:=by simp;omega
   obtain⟨b1,o1,rfl,hb1,hc1⟩:=Ye3 HR.out (by rw[NR.out];omega);have hil:i<S.rows.length:=by rw[NR.out];exact hlt
   obtain⟨r,cap,hq,hml,hcel,hat⟩:=hc1 i hil;obtain⟨c0,-,c2,-⟩:=hat _ hbw;have C3:=Lib.hid (fun x hx=>(hat x hx).2.2.2);obtain⟨u1,u2⟩:=Ym4 (q:=q) hil;have uN:=fun j (hj:j<S.rows[i].cels.length)=>(Ym3 (q:=q) hil hj).2;have uR:=Lib.hid (Yqg (q:=q) hil).2;have fN:=Lib.hid (Yow q hil);have fM:(Yg7 q (S.rows.take i)).length≤1048576:=by rw[Yel,List.length_take];omega
   have hin:∀j,1≤qIn q S.rows i j∧qIn q S.rows i j≤31:=fun j=>by
    have h:=HO.out.head hil;rw[HQ.out] at h;unfold qIn;rw[getElem!_pos S.rows i hil];exact Ym2 h _
   have hst:∀j (hj:j<S.rows[i].cels.length),Yeq (qIn q S.rows i j) S.rows[i].cels[j].step=qIn q S.rows i (j+1):=fun j hj=>by
    rw[uN j hj];exact Yov (hin j) (HO.out.cel hil (List.getElem_mem hj))
   have ST:=Lib.hid hst;rw[←u2] at fN;have Y:(S.rows[i].head=true∧S.rows[i].quant=qIn q S.rows i 0)∨(S.rows[i].head=false∧Yi7 q (S.rows.take i)=qIn q S.rows i 0):=by
    rw[u2];cases hh:S.rows[i].head with
    |true=>exact .inl ⟨rfl,(Ysc _ hh).symm⟩
    |false=>exact .inr ⟨rfl,(Yox _ hh).symm⟩
   obtain⟨I,hI⟩:∃I,qIn q S.rows i=I:=⟨_,rfl⟩;simp only[hI] at ST fN uR Y;obtain⟨q0,hq0⟩:∃q0,Yi7 q (S.rows.take i)=q0:=⟨_,rfl⟩;rw[hq0] at Y;obtain⟨fl,hfl⟩:∃fl,Yg7 q (S.rows.take i)=fl:=⟨_,rfl⟩;rw[hfl] at ho fN fM;rw[hq0];clear hat hc1 hI hin hst uN u1 u2 hq0 hfl;generalize S.rows[i].cels=m at *;generalize S.rows[i].head=hd at *;generalize S.rows[i].quant=qr at *
   obtain⟨wP,hwP⟩:∃wP,wr.alloc (.cells #[.int .i64 (I 0)] 3 (0,0))=wP:=⟨_,rfl⟩;have hbP:Below wr.heap.size wr wP:=by rw[←hwP];exact(Below.refl _ wr).alloc (Nat.le_refl _) _
   have hoP:=Yho ho hbP;have e0:wP.cell? ⟨wr.heap.size,0,none⟩=some (.int .i64 (I 0)):=by rw[←hwP];exact Yac (cs:=[.int .i64 (I 0)]) (heap_alloc_new wr _) rfl
   have hbPA:Below (B+1) wA wP:=hb.trans (hbP.mono (by have:=hb.size;have:=HSA.out;omega));have hzP:B+1≤wP.heap.size:=by have:=hbPA.size;have:=HSA.out;omega
   obtain⟨ti,tz,j0,j1,j2,j3,j4⟩:=Yhj;have HWP:=Lib.hid hwP;have HBPA:=Lib.hid hbPA;have HCEL:=Lib.hid hcel;clear hwP hbP ho hb hbPA hcel hbw;rcases Y with ⟨rfl,rfl⟩|⟨rfl,rfl⟩
   all_goals
    go_wp2_with (at_builtin;rw[HWP.out];refine Ydz (v:=u3) (y0:=I 0) rfl rfl Tryz.underlying26 j0 j1 j2 j3 j4 rfl hoP rfl ?c1 ?c2 ?c3 ?_;(case c1=>exact e0);(case c2=>exact fM);(case c3=>exact hzP);intro v8 w8 ho8 hg8 hw8)
    have hb8:Below (B+1) wA w8:=HBPA.out.grown hg8 (by have:=HBPA.out.size;have:=HSA.out;omega) (fun k hk=>by have:=(hoP.lt k hk).1;omega);obtain⟨l6,hbw8⟩:=CL.out _ hb8;have l3:=C3.out _ hbw8;have ho9:w8.ownsRow (B+1) 3 1 v8 (Yg7 q (S.rows.take (i+1))).length (Ykj (Yg7 q (S.rows.take (i+1)))):=by rw[fN.out,List.length_append,Yhk];exact ho8
    clear k6 c0 c2 e0 hoP hzP ho8 hg8 hw8 fM HWP HBPA j0 j1 j2 j3 j4;have HO9:=Lib.hid ho9;clear ho9
    go_loop [4,6] (fun z t=>∃k:Nat,t=.int .i64 (k:Int)∧z=.int .i64 (I k)∧k≤m.length) (fun _ t=>m.length-(intOf t).toNat)
    case atStart=>exact⟨0,rfl,rfl,Nat.zero_le _⟩
    case round=>
     obtain⟨k,rfl,rfl,hk⟩:=hrel;by_cases hkm:k<m.length
     ·have t3:decide ((k:Int)<(m.length:Int))=true:=by simp;omega
      have hml2:m.length≤9223372036854775807:=by unfold maxLen at hml;omega
      obtain⟨b2,o2,rfl,hb2,hcv⟩:=Yby.each HCEL.out (by omega);obtain⟨vs,⟨p3,cap3,hvs,-,-⟩,hvc⟩:=hcv k hkm;have s3:w8.cell? ⟨b2,o2+k*18+3,none⟩=some (.int .i64 m[k].step):=hvc w8 hbw8 3 _ (by rw[hvs];rfl);have sn:=fun w=>Ylu (I k) m[k].step w;rw[ST.out k hkm] at sn;clear hcv hvc hvs;generalize m[k].step=st at *
      go_wp2_with fail
      refine(sn _).mono ?_;rintro e x ⟨rfl,rfl⟩
      go_wp2
      go_round
      case rel=>exact⟨k+1,by go_num,rfl,by omega⟩
      case measure=>simp[intOf];omega
     ·obtain rfl:m.length=k:=by omega
      have t3:decide ((m.length:Int)<(m.length:Int))=false:=by simp
      go_wp2
      go_roundw
      case rel=>exact⟨i+1,by go_num,by rw[uR.out],by omega,HO9.out,hb8⟩
      case measure=>simp[intOf];omega
  ·obtain rfl:n=i:=by omega
   have t1:decide ((n:Int)<(n:Int))=false:=by simp
   have e1:S.rows.take n=S.rows:=List.take_of_length_le (by rw[NR.out];omega);rw[e1] at ho;have o1:=Yhn ho (show B≤B+1 by omega);rw[←HB.out] at o1;have H1:=Lib.hid o1;clear e1 ho o1
   go_wp2
   go_ret
   exact⟨_,rfl,H1.out,hbw⟩
set_option maxRecDepth 100000 in
set_option maxHeartbeats 2000000 in
theorem Yx1 (S:ShP)(p b:Option Addr)(ca cb:Nat)(w:World)(hn:S.rows.length≤1048576)(hr:Ycu w b S.rows)(hm:(Yaw S).length≤1048576)(hO:QOk S):
  Calls Tryz.prog 23 #[.agg (Yaz S.hd (.slice p S.hd.supp.length ca) (.slice b S.rows.length cb) S.zeros).toArray] w (Yjc (Yi6 S.hd.quant S.rows) w):=by
 have fst:=fun x hx=>Yqi S p b ca cb x hn hx hO;have fln:(Yg7 S.hd.quant S.rows).length=S.rows.length:=Yel _ _;obtain⟨n,hln⟩:∃n,S.rows.length=n:=⟨_,rfl⟩;rw[hln] at hn fst ⊢;obtain⟨zs,hZ⟩:∃zs,Yaz S.hd (.slice p S.hd.supp.length ca) (.slice b n cb) S.zeros=zs:=⟨_,rfl⟩;have z6:zs[6]? =some (.slice b n cb):=by rw[←hZ];rfl
 have HSZ:(Tryz.prog.info? 29).map (·.size)=some zs.toArray.size:=by rw[show zs.toArray.size=8 by rw[←hZ];rfl];kernel_rfl
 rw[hZ] at fst ⊢;obtain⟨B,hB⟩:∃B,w.heap.size=B:=⟨_,rfl⟩;obtain⟨wA,hwA⟩:∃wA,w.alloc (.cells zs.toArray 29 (0,0))=wA:=⟨_,rfl⟩;have hhA:wA.heap[B]? =some (.cells zs.toArray 29 (0,0)):=by rw[←hwA,←hB];exact heap_alloc_new w _
 have hbA:Below w.heap.size w wA:=by rw[←hwA];exact(Below.refl _ w).alloc (Nat.le_refl _) _
 have hsA:wA.heap.size=B+1:=by rw[←hwA,←hB];simp
 have C1:=fst wA (hr.below hbA);unfold Yjc at C1;obtain⟨q,hq⟩:∃q,S.hd.quant=q:=⟨_,rfl⟩;rw[hq] at C1 fln ⊢;have HQ:=Lib.hid hq;have HWA:=Lib.hid hwA;have HB:=Lib.hid hB;have HSA:=Lib.hid hsA;have NR:=Lib.hid hln;have HR:=Lib.hid hr;have HO:=Lib.hid hO;have HHA:=Lib.hid hhA;have HBA:=Lib.hid hbA;have Z6:=Lib.hid z6;have FL:=Lib.hid (fln.trans hln)
 have MOST:=Lib.hid (fun q i j (hi:i<S.rows.length)=>Nat.le_trans (Ysd S (q:=q) hi j) hm);clear hwA hB hsA hbA z6 hln hr hO hZ hq fst fln hm
 go_enter Tryz.func23,Tryz.ntmps23
 go_wp2_with (rw[HWA.out,HB.out];with_reducible refine wpList_load_row rfl 29 _ rfl B rfl 29 zs.toArray (0,0) _ hhA Tryz.underlying29 rfl HSZ ?_)
 refine C1.mono ?_;rintro e w1 ⟨vf,rfl,hof,hb1⟩;rw[FL.out] at hof;obtain⟨qf,cf,rfl,hif⟩:=Yiz FL.out hof;have hz1:B+1≤w1.heap.size:=by have:=hb1.size;have:=HSA.out;omega
 have hbs:=HBA.out.size;rw[HSA.out] at hb1 hbs;obtain⟨N,hN⟩:∃N,w1.heap.size=N:=⟨_,rfl⟩;have CL:=Lib.hid (fun(x:World) (hx:Below N w1 x)=>(⟨Yac (((hb1.trans (hx.mono (by omega))).block B (by omega)).trans HHA.out) Z6.out,HBA.out.trans ((hb1.trans (hx.mono (by omega))).mono (by omega))⟩:x.cell? ⟨B,6,none⟩=some (.slice b n cb)∧Below w.heap.size w x));have HIF:=Lib.hid hif;have HN:=Lib.hid hN
 have HZ1:=Lib.hid hz1;have at0:w1.ownsRow N 3 1 (.slice none 0 0) 0 (Ykj []):=World.ownsRow_nil ..;have hb0:Below N w1 w1:=Below.refl _ _;clear C1 hhA hof hif hb1 hN hz1 hbs
 go_wp2
 go_loopw [3,5] (fun v t wr=>∃i:Nat,t=.int .i64 (i:Int)∧i≤n∧wr.ownsRow N 3 1 v (Yi6 q (S.rows.take i)).length (Ykj (Yi6 q (S.rows.take i)))∧Below N w1 wr) (fun _ t _=>n-(intOf t).toNat)
 case atStart=>exact⟨0,rfl,Nat.zero_le _,at0,hb0⟩
 case round=>
  clear at0 hb0;obtain⟨i,rfl,hi,ho,hb⟩:=hrel;obtain⟨k6,hbw⟩:=CL.out _ hb;by_cases hlt:i<n
  ·have t1:decide ((i:Int)<(n:Int))=true:=by simp;omega
   obtain⟨b1,o1,rfl,hb1,hc1⟩:=Ye3 HR.out (by rw[NR.out];omega);have hil:i<S.rows.length:=by rw[NR.out];exact hlt
   obtain⟨r,cap,-,hml,hcel,hat⟩:=hc1 i hil;have C3:=Lib.hid (fun x hx=>(hat x hx).2.2.2);obtain⟨u1,u2⟩:=Ym4 (q:=q) hil;have uN:=fun j (hj:j<S.rows[i].cels.length)=>Ym3 (q:=q) hil hj;have uR:=Lib.hid (Yqg (q:=q) hil).1;have uM:=Lib.hid (fun j=>MOST.out q i j hil);have hin:∀j,1≤qIn q S.rows i j∧qIn q S.rows i j≤31:=fun j=>by
    have h:=HO.out.head hil;rw[HQ.out] at h;unfold qIn;rw[getElem!_pos S.rows i hil];exact Ym2 h _
   have ST:=Lib.hid (fun j (hj:j<S.rows[i].cels.length)=>(by
    have h1:Yeq (qIn q S.rows i j) S.rows[i].cels[j].step=qIn q S.rows i (j+1):=by
     rw[(uN j hj).2];exact Yov (hin j) (HO.out.cel hil (List.getElem_mem hj))
    exact⟨h1,by rw[(uN j hj).1,←(uN j hj).2]⟩:Yeq (qIn q S.rows i j) S.rows[i].cels[j].step=qIn q S.rows i (j+1)∧qUp q S.rows i (j+1)=qUp q S.rows i j++[qIn q S.rows i (j+1)]))
   obtain⟨bf,of,rfl,-,hcf⟩:=HIF.out.hold (by rw[FL.out];omega);have f0:=hcf wr (by rw[HN.out];exact hb) i (by rw[FL.out];exact hlt);rw[Y2l q hil,←u2] at f0;rw[←u1] at ho;obtain⟨I,hI⟩:∃I,qIn q S.rows i=I:=⟨_,rfl⟩;obtain⟨U,hU⟩:∃U,qUp q S.rows i=U:=⟨_,rfl⟩;simp only[hI,hU] at ST uR uM f0 ho;clear hat hc1 hI hU hin uN u1 u2 hcf;generalize S.rows[i].cels=m at *;have HCEL:=Lib.hid hcel
   have l3:=C3.out _ hbw;clear hcel
   go_wp2
   clear k6 l3 f0 hbw
   go_loopw [3,6,7] (fun v z t wr=>∃k:Nat,t=.int .i64 (k:Int)∧z=.int .i64 (I k)∧k≤m.length∧wr.ownsRow N 3 1 v (U k).length (Ykj (U k))∧Below N w1 wr) (fun _ _ t _=>m.length-(intOf t).toNat)
   case atStart=>exact⟨0,rfl,rfl,Nat.zero_le _,ho,hb⟩
   case round=>
    clear ho hb;obtain⟨k,rfl,rfl,hk,ho,hb⟩:=hrel;obtain⟨k6,hbw⟩:=CL.out _ hb;have l3:=C3.out _ hbw;by_cases hkm:k<m.length
    ·have t3:decide ((k:Int)<(m.length:Int))=true:=by simp;omega
     have hml2:m.length≤9223372036854775807:=by unfold maxLen at hml;omega
     obtain⟨b2,o2,rfl,hb2,hcv⟩:=Yby.each HCEL.out (by omega);obtain⟨vs,⟨p3,cap3,hvs,-,-⟩,hvc⟩:=hcv k hkm;have s3:wr.cell? ⟨b2,o2+k*18+3,none⟩=some (.int .i64 m[k].step):=hvc wr hbw 3 _ (by rw[hvs];rfl);have sn:=fun w=>Ylu (I k) m[k].step w;obtain⟨S1,S2⟩:=ST.out k hkm;rw[S1] at sn;have GM:=uM.out (k+1);rw[S2,List.length_append] at GM
     have LU:(U k).length≤1048576:=by simp only[List.length_cons,List.length_nil] at GM;omega
     have UN:=Lib.hid S2;clear hcv hvc hvs GM S1 S2;generalize m[k].step=st at *;obtain⟨wP,hwP⟩:∃wP,wr.alloc (.cells #[.int .i64 (I (k+1))] 3 (0,0))=wP:=⟨_,rfl⟩;have hbP:Below wr.heap.size wr wP:=by rw[←hwP];exact(Below.refl _ wr).alloc (Nat.le_refl _) _
     have hoP:=Yho ho hbP;have e0:wP.cell? ⟨wr.heap.size,0,none⟩=some (.int .i64 (I (k+1))):=by rw[←hwP];exact Yac (cs:=[.int .i64 (I (k+1))]) (heap_alloc_new wr _) rfl
     have hbPA:Below N w1 wP:=hb.trans (hbP.mono (by have:=hb.size;have:=HN.out;omega));have hzP:N≤wP.heap.size:=by have:=hbPA.size;have:=HN.out;omega
     obtain⟨ti,tz,j0,j1,j2,j3,j4⟩:=Yhj;have HWP:=Lib.hid hwP;have HBPA:=Lib.hid hbPA;clear hwP hbP ho hb hbPA hbw
     go_wp2_with (first|(refine(sn _).mono ?_;rintro e x ⟨rfl,rfl⟩)|(at_builtin;rw[HWP.out];refine Ydz (v:=u3) (y0:=I (k+1)) rfl rfl Tryz.underlying26 j0 j1 j2 j3 j4 rfl hoP rfl ?c1 ?c2 ?c3 ?_;(case c1=>exact e0);(case c2=>exact LU);(case c3=>exact hzP);intro v8 w8 ho8 hg8 hw8))
     have hb8:Below N w1 w8:=HBPA.out.grown hg8 (by have:=HBPA.out.size;have:=HN.out;omega) (fun k hk=>by have:=(hoP.lt k hk).1;omega);have ho9:w8.ownsRow N 3 1 v8 (U (k+1)).length (Ykj (U (k+1))):=by rw[UN.out,List.length_append,Yhk];exact ho8
     clear hg8 hw8 ho8 hoP
     go_roundw
     case rel=>exact⟨k+1,by go_num,rfl,by omega,ho9,hb8⟩
     case measure=>simp[intOf];omega
    ·obtain rfl:m.length=k:=by omega
     have t3:decide ((m.length:Int)<(m.length:Int))=false:=by simp
     rw[uR.out] at ho
     go_wp2
     go_roundw
     case rel=>exact⟨i+1,by go_num,by omega,ho,hb⟩
     case measure=>simp[intOf];omega
  ·obtain rfl:n=i:=by omega
   have t1:decide ((n:Int)<(n:Int))=false:=by simp
   have e1:S.rows.take n=S.rows:=List.take_of_length_le (by rw[NR.out];omega);rw[e1] at ho;have o1:=Yhn ho (show B≤N by have:=HZ1.out;have:=HN.out;omega);rw[←HB.out] at o1;have H1:=Lib.hid o1;clear e1 ho o1
   go_wp2
   go_ret
   exact⟨_,rfl,H1.out,hbw⟩
theorem Yp8 (w:World)(c:Cel)(hm:(Lit.int .i64 c.mx).wf=true∧(Lit.int .i64 c.my).wf=true)(h:∀i,i<6→c.ev i=[]):Yit w c (Ycd c Yp7):=
 ⟨fun _=>none,fun _=>0,Ys3 fun i hi=>by rw[h i hi];rfl,hm,fun i hi=>by rw[h i hi];exact⟨Nat.zero_le _,.inl rfl⟩⟩
theorem Y04 {w:World}{b:Nat}{c d:Cel}(hc:(Lit.int .i64 c.mx).wf=true∧(Lit.int .i64 c.my).wf=true)(hd:(Lit.int .i64 d.mx).wf=true∧(Lit.int .i64 d.my).wf=true)(ec:∀i,i<6→c.ev i=[])(ed:∀i,i<6→d.ev i=[])
  (h:w.heap[b]? =some (.cells (Ycd c Yp7++Ycd d Yp7).toArray 48 (0,0))):Yib w (some ⟨b,0,none⟩) [c,d]:=by
 refine .inr ⟨b,0,rfl,(Array.getElem?_eq_some_iff.1 h).1,fun i hi=>?_⟩
 match i,hi with
 |0,_=>
  refine⟨Ycd c Yp7,Yp8 w c hc ec,fun j v hj=>?_⟩;have hl:j<18:=(List.getElem?_eq_some_iff.1 hj).1;rw[Nat.zero_mul,Nat.zero_add];exact Yac h (by rw[List.getElem?_append_left hl];exact hj)
 |1,_=>
  refine⟨Ycd d Yp7,Yp8 w d hd ed,fun j v hj=>?_⟩;exact Yac h (by rw[List.getElem?_append_right (by show 18≤0+1*18+j;omega),show 0+1*18+j-(Ycd c Yp7).length=j by show 0+1*18+j-18=j;omega];exact hj)
theorem Y06 {w:World}{b b1 b2:Nat}{l m:List Cel}(h:w.heap[b]? =some (.cells #[.bool false,.int .i64 0,.int .i64 0,.slice (some ⟨b1,0,none⟩) 2 2,.bool false,.int .i64 0,.int .i64 0,.slice (some ⟨b2,0,none⟩) 2 2] 42 (0,0)))
  (hl:l.length=2)(hm:m.length=2)(h1:Yib w (some ⟨b1,0,none⟩) l)(h2:Yib w (some ⟨b2,0,none⟩) m):Ycu w (some ⟨b,0,none⟩) [⟨false,0,0,l⟩,⟨false,0,0,m⟩]:=by
 have h':w.heap[b]? =some (.cells [.bool false,.int .i64 0,.int .i64 0,.slice (some ⟨b1,0,none⟩) 2 2,.bool false,.int .i64 0,.int .i64 0,.slice (some ⟨b2,0,none⟩) 2 2].toArray 42 (0,0)):=h;refine .inr ⟨b,0,rfl,(Array.getElem?_eq_some_iff.1 h).1,fun i hi=>?_⟩
 match i,hi with
 |0,_=>
  refine⟨[.bool false,.int .i64 0,.int .i64 0,.slice (some ⟨b1,0,none⟩) 2 2],⟨some ⟨b1,0,none⟩,2,(by show _=[Value.bool false,.int .i64 0,.int .i64 0,.slice _ l.length 2];rw[hl]),(fun h=>by cases h),(by show l.length≤_;rw[hl];decide),h1⟩,fun j v hj=>?_⟩
  match j,hj with
  |0,hj|1,hj|2,hj|3,hj=>injection hj with hj;subst hj;exact Yac h' rfl
 |1,_=>
  refine⟨[.bool false,.int .i64 0,.int .i64 0,.slice (some ⟨b2,0,none⟩) 2 2],⟨some ⟨b2,0,none⟩,2,(by show _=[Value.bool false,.int .i64 0,.int .i64 0,.slice _ m.length 2];rw[hm]),(fun h=>by cases h),(by show m.length≤_;rw[hm];decide),h2⟩,fun j v hj=>?_⟩
  match j,hj with
  |0,hj|1,hj|2,hj|3,hj=>injection hj with hj;subst hj;exact Yac h' rfl
theorem Yf5 {P:Program}{ops:Array Oper}{rest:List Oper}{op:Oper}{a:Act}{w:World}{Q:Exit→Act→World→Prop}(hgd:op.guard=none)(ty:TypeId)(x y:Operand)(ho:op.op=.store ty x y)
  (Z old:Array Value)(T:TypeId)(N:Nat)(hN:w.heap.size=N)(hx:a.eval x=.pointer (some ⟨N,0,none⟩))(hy:a.eval y=.agg Z)(hi:(P.info? ty).map (·.size)=some Z.size)(hs:old.size=Z.size)(h1:Z.all (·.oneCell')=true)
  (h:wpList P ops Q rest (a.put op.dst undef) (w.alloc (.cells Z T (0,0)))):wpList P ops Q (op::rest) a (w.alloc (.cells old T (0,0))):=by
 subst hN;exact Yai hgd ty x y ho Z old T hx hy hi hs h1 h
theorem Yfw (w:World)(o:Obj):∃w',w.alloc o=w'∧w'.heap.size=w.heap.size+1∧w'.heap[w.heap.size]? =some o∧Below w.heap.size w w':=
 ⟨_,rfl,by simp,heap_alloc_new w _,(Below.refl _ w).alloc (Nat.le_refl _) _⟩
theorem Yqw:∃Y:Array Value,Y.size=8∧∀w,(zeroValue 29).run Tryz.prog w=.ok (.agg Y) w:=⟨#[.int .i64 0,.int .i64 0,.int .i64 0,.bool false,.int .i64 0,.slice none 0 0,.slice none 0 0,.int .i64 0],rfl,Yiu (by kernel_rfl)⟩
end Go.Proofs.YtnamlooifcpoaaaGreatDoor