/- Texts that SheetoutPuts's proof stands on, part 45 of 47. No condition of its own. -/
import Derived.Test.YtgikochfffdpfaaGreatDoorSheetoutPutsMk
import Derived.Test.YtgikochfffdpfaaGreatDoorSheetoutPutsMl
import Derived.Test.YtgikochfffdpfaaGreatDoorSheetoutPutsMm
import Derived.Test.YtgikochfffdpfaaGreatDoorSheetoutPutsMt
import Derived.Test.YtgikochfffdpfaaGreatDoorSheetoutPutsMbq
import Derived.Test.YtgikochfffdpfaaGreatDoorSheetoutPutsMbr
import Derived.Great.BuildSlice
import Derived.Deep.MidRow
namespace Go.Proofs.YtgikochfffdpfaaGreatDoor
open Go.RowKit Go.Lib
def slP:Value→Option Addr
 | .slice q _ _=> q
 | _=> none
def slC:Value→Nat
 | .slice _ _ c=> c
 | _=> 0
theorem Yui {w:World} {base e c n:Nat} {v:Value} {xs:List Value} (h:w.ownsRow base e c v n xs):v = .slice (slP v) n (slC v)∧(slP v=none→slC v=0)∧v.oneCell'=true:=by
 rcases h.2 with ⟨rfl,rfl⟩ | ⟨g,cap,cur,rfl,_⟩
 ·exact ⟨rfl,fun _=> rfl,rfl⟩
 ·exact ⟨rfl,(fun h=> by cases h),rfl⟩
theorem Yq6 {c:Cel} {sl sl':Nat→Value} (h:∀i,i<6→sl i=sl' i):Ycs c sl=Ycs c sl':=by
 unfold Ycs
 rw [h 0 (by omega),h 1 (by omega),h 2 (by omega),h 3 (by omega),h 4 (by omega),h 5 (by omega)]
theorem Yjg {w x:World} {base e c n:Nat} {v:Value} {xs:List Value} (h:w.ownsRow base e c v n xs) (hb:Below w.heap.size w x):x.ownsRow base e c v n xs:=
 h.kept (Yaq hb none) (by cases hv:v.ownBlock with | none=> exact .inl rfl | some g=> exact .inr (by simp))
theorem Yj0 {w:World} {ops:Array Oper} {rest:List Oper} {o:Oper} {a:Act} {Q:Exit→Act→World→Prop} (hgd:o.guard=none) (x y:Operand) (ho:o.op = .buildSlice 57 2 #[(0,x),(1,y)]) (c d:Cel) (sl sl':Nat→Value) (N:Nat) (hN:w.heap.size=N) (t:Tmp) (hd:o.dst=some t)
  (hx:a.eval x = .agg (Ycs c sl).toArray) (hy:a.eval y = .agg (Ycs d sl').toArray) (h:wpList Tryz.prog ops Q rest (a.put (some t) (.slice (some ⟨N,0,none⟩) 2 2)) (w.alloc (.cells (Ycs c sl++Ycs d sl').toArray 56 (0,0)))):wpList Tryz.prog ops Q (o::rest) a w:=by
 have hf:(match Tryz.prog.info? 56 with
  | some ie=> (match ie.zero with
   | some z=> if ie.size=18 then Instr.fill (fun i=> some (i*ie.size,ie.size)) ((Array.range (2*ie.size)).map (z.cells[· % z.cells.size]!)) [(0,.agg (Ycs c sl).toArray),(1,.agg (Ycs d sl').toArray)] else none
   | none=> none)
  | none=> none)=some (Ycs c sl++Ycs d sl').toArray:=by kernel_rfl
 cases hi:Tryz.prog.info? 56 with
 | none=> rw [hi] at hf;cases hf
 | some ie=>
  rw [hi] at hf
  cases hz:ie.zero with
  | none=> simp only [hz] at hf;cases hf
  | some z=>
   simp only [hz] at hf
   by_cases h18:ie.size=18
   ·rw [if_pos h18] at hf
    subst hN
    rw [←hd] at h
    exact wpList_buildSlice hgd _ _ 2 _ ho _ ie z Tryz.underlying57 hi hz (by rw [h18];decide) (by rw [h18];decide) (by simpa [hx,hy] using hf) h
   ·rw [if_neg h18] at hf;cases hf
section
variable {P:Program}
theorem Yml {w:World} {base:Nat} {t ty e:TypeId} {i:TypeInfo} {z:Value} {size bytes:Nat} (ht:P.underlying t=some (.slice e)) (hi:P.info? e=some i) (hz:i.zero=some z) (hsize:i.size=size) (hby:i.bytes=bytes) (hzs:z.cells.size=size) (hsz:0<size)
  {v:Value} {n:Nat} {xs:List Value} (hown:w.ownsRow base e size v n xs) {a:Addr} {m c:Nat} {news:List Value} (hl:news.length=m*size) (hnews:∀j u,news[j]? = some u→w.cell? (a.add j)=some u) (h1:∀u∈news,u.oneCell'=true)
  (h63:n+m≤maxLen) (hbytes:(n+m)*bytes≤140737488355328) {v':Value} {w':World} (hr:(Builtin.append_ #[t,t] ty #[v,.slice (some a) m c]).run P w = .ok v' w'):
  ∀k,v'.ownBlock=some k→v.ownBlock=some k∨w.heap.size≤k:=by
 intro k hk
 have hsmall:n+m≤9223372036854775807:=by simp only [maxLen] at h63;omega
 rcases hown.2 with ⟨rfl,rfl⟩ | ⟨g,cap,cur,rfl,_,hg,hnc,hcm,hcs,htake⟩
 ·have hx:xs = []:=List.eq_nil_of_length_eq_zero (by simpa using hown.1)
  subst hx
  obtain ⟨v2,w2,hr2,ho2,-,-⟩:=run_append_own (P:=P) w w.heap.size t ty e i z size bytes ht hi hz hsize hby hzs hsz (.slice none 0 0) 0 [] (World.ownsRow_nil ..) a m c news hl hnews h1 h63 hbytes (Nat.le_refl _)
  rw [hr] at hr2
  injection hr2 with e1 e2
  subst e1 e2
  exact .inr (ho2.lt k hk).1
 ·by_cases hroom:n+m≤cap
  ·have hfit:n*i.size+news.length≤cur.size:=by rw [hl,hcs,hsize,←Nat.add_mul];exact Nat.mul_le_mul_right _ hroom
   have hr2:=run_append_room (P:=P) w t ty e i ht hi g n cap cur hg a m c news (by rw [hl,hsize]) hnews h1 hroom hfit
   rw [hr] at hr2
   injection hr2 with e1 e2
   subst e1
   exact .inl hk
  ·have holds:∀j u,xs[j]? = some u→w.cell? ((⟨g,0,none⟩:Addr).add j)=some u:=hown.cells (g:=g) rfl
   have hr2:=run_append_grow (P:=P) w t ty e i z ht hi hz ⟨g,0,none⟩ n cap xs (by rw [hown.1,hsize]) holds a m c news (by rw [hl,hsize]) hnews (by omega) (by omega) (growslice_fits (by omega) (by rw [hby];exact hbytes))
   rw [hr] at hr2
   injection hr2 with e1 e2
   subst e1
   injection hk with hk
   exact .inr (Nat.le_of_eq hk)
theorem Yki {w:World} {ops:Array Oper} {rest:List Oper} {o:Oper} {a:Act} {Q:Exit→Act→World→Prop} {s x:Operand} {t e:TypeId} {cap K:Nat} {i:TypeInfo} {z v:Value} {n:Nat} {xs:List Value} {y0 y1:Int}
  (hgd:o.guard=none) (ho:o.op = .call {callee:=.builtin .append,args:=#[s,x],argTypes:=#[t,t]})
  (ht:P.underlying t=some (.slice e)) (hi:P.info? e=some i) (hz:i.zero=some z) (hzs:z.cells.size=2) (hsize:i.size=2) (hby:i.bytes=16)
  (hs:a.eval s=v) (hown:w.ownsRow 0 e 2 v n xs) (hx:a.eval x = .slice (some ⟨K,0,none⟩) 1 cap) (c0:w.cell? ⟨K,0,none⟩=some (.int .i64 y0)) (c1:w.cell? ⟨K,1,none⟩=some (.int .i64 y1)) (hn:n≤1048576)
  (h:∀(q:Option Addr) (cap':Nat) w',w'.ownsRow 0 e 2 (.slice q (n+1) cap') (n+1) (xs ++ [.int .i64 y0,.int .i64 y1])→w.grownBy w' v.ownBlock→(∀k,(Value.slice q (n+1) cap').ownBlock=some k→v.ownBlock=some k∨w.heap.size≤k)→wpList P ops Q rest (a.put o.dst (.slice q (n+1) cap')) w'):wpList P ops Q (o::rest) a w:=by
 refine wpList_plain hgd fun K' hK=> ?_
 have hnews:∀(j:Nat) u,([.int .i64 y0,.int .i64 y1]:List Value)[j]? = some u→w.cell? ((⟨K,0,none⟩:Addr).add j)=some u:=fun j u hj=> by
  rw [Addr.add_mid,Nat.zero_add]
  match j,hj with
  | 0,hj=> cases hj;exact c0
  | 1,hj=> cases hj;exact c1
 have hv1:∀u∈([.int .i64 y0,.int .i64 y1]:List Value),u.oneCell'=true:=by intro u hu;simp only [List.mem_cons,List.not_mem_nil,or_false] at hu;rcases hu with rfl | rfl <;> rfl
 obtain ⟨v',w',hr,h2,h3,-⟩:=run_append_own (P:=P) w 0 t o.type e i z 2 16 ht hi hz hsize hby hzs (by decide) v n xs hown ⟨K,0,none⟩ 1 cap _ rfl hnews hv1 (by unfold maxLen;omega) (by omega) (Nat.zero_le _)
 have h4:=Yml ht hi hz hsize hby hzs (by decide) hown rfl hnews hv1 (by unfold maxLen;omega) (by omega) hr
 have e4:=(Yui h2).1
 rw [e4] at h2 h4
 unfold Oper.wp execOp
 simp only [ho,resolve,invoke,builtin,Sem.run_bind,Sem.run_pure,Result.andThen_ok,List.map_toArray,List.map_cons,List.map_nil,hs,hx,hr]
 have:=h _ _ w' h2 h3 h4
 rw [←e4] at this
 exact hK _ _ this
end
section
variable {L L':List (Option Nat)} {w x:World} {row:Option Nat}
end
structure Ya0 (L:List (Option Nat)) (w w':World):Prop where
 os:w'.os=w.os
 tape:w'.tape=w.tape
 output:w'.output=w.output
 size:w.heap.size≤w'.heap.size
 block:∀k,k<w.heap.size→some k∉L→w'.heap[k]? = w.heap[k]?
section
variable {L M L':List (Option Nat)} {w x z:World} {row:Option Nat}
theorem Ya0.trans (h:Ya0 L w x) (k:Ya0 M x z) (hM:∀j,j<w.heap.size→some j∈M→some j∈L):Ya0 L w z:=
 ⟨k.os.trans h.os,k.tape.trans h.tape,k.output.trans h.output,Nat.le_trans h.size k.size,fun i hi h1=> (k.block i (Nat.lt_of_lt_of_le hi h.size) fun h2=> h1 (hM i hi h2)).trans (h.block i hi h1)⟩
theorem Ya0.one (h:w.grownBy x row) (hr:∀k,k<w.heap.size→row=some k→some k∈L):Ya0 L w x:=
 ⟨h.os,h.tape,h.output,h.size,fun i hi h1=> h.block i hi fun e=> h1 (hr i hi e.symm)⟩
theorem Ya0.below (h:Below w.heap.size w x):Ya0 L w x:=⟨h.os,h.tape,h.output,h.size,fun k hk _=> h.block k hk⟩
theorem Ya0.under {N:Nat} (h:Ya0 L w x) (hN:N≤w.heap.size) (hL:∀k,some k∈L→N≤k):Below N w x:=
 ⟨h.os,h.tape,h.output,h.size,fun k hk=> h.block k (by omega) fun h1=> by have:=hL k h1;omega⟩
theorem Ya0.lone {b:Nat} (h:Ya0 L w x) (hL:∀k,k<w.heap.size→some k∈L→k=b):w.grownBy x (some b):=
 ⟨h.os,h.tape,h.output,h.size,fun k hk hn=> h.block k hk fun h1=> hn (by rw [hL k hk h1])⟩
theorem Ya0.set {p:Addr} (v:Value) (hp:some p.block∈L):Ya0 L w (w.setCell p v):=Ya0.one (Ybh w p v) fun k _ e=> by injection e with e;subst e;exact hp
theorem Ynf {base e c n:Nat} {v:Value} {xs:List Value} (h:w.ownsRow base e c v n xs) (hg:Ya0 M w x) (hv:∀k,v.ownBlock=some k→some k∉M):x.ownsRow base e c v n xs:=by
 refine ⟨h.1,?_⟩
 rcases h.2 with h2 | ⟨g,cap,cur,rfl,hb,hh,h3⟩
 ·exact .inl h2
 ·exact .inr ⟨g,cap,cur,rfl,hb,(hg.block g (Array.getElem?_eq_some_iff.1 hh).1 (hv g rfl)).trans hh,h3⟩
end
theorem Ylx (k:Int):0≤Yf3 k∧Yf3 k≤100∧0≤Yfm k∧Yfm k≤100∧(acr k:Int)≤100:=by
 rcases Ycd k with rfl | rfl | rfl | rfl | rfl | rfl | ⟨h,hv⟩
 case _ | _ | _ | _ | _ | _=> decide +kernel
 unfold Yf3 Yfm acr Yex Yf4
 rw [hv]
 decide
theorem Ykx {ops:Array Oper} {rest:List Oper} {op:Oper} {a:Act} {w:World} {Q:Exit→Act→World→Prop} (hgd:op.guard=none) (x:Operand) (ho:op.op = .load 51 x)
  (b o:Nat) (hx:a.eval x = .pointer (some ⟨b,o,none⟩)) (u v:Int) (hc:w.rangeAt b o [.int .i64 u,.int .i64 v]) (h:wpList Tryz.prog ops Q rest (a.put op.dst (.agg #[.int .i64 u,.int .i64 v])) w):wpList Tryz.prog ops Q (op::rest) a w:=
 wpList_load_mid hgd _ x ho b o hx [.int .i64 u,.int .i64 v] _ hc Tryz.underlying51 rfl (by kernel_rfl) h
theorem Yv7 {P:Program} {ops:Array Oper} {rest:List Oper} {S:World→Prop} {Q:Act→Prop} {o:Oper} {a:Act} (ty:TypeId) (x:Operand) (b p:Nat) (cs:List Value) (d:TypeDesc) (hw:Region.wanted o (yielded ops a.tmps)=true) (ho:o.op = .load ty x) (hx:a.eval x = .pointer (some ⟨b,p,none⟩))
  (hc:∀w,S w→w.rangeAt b p cs) (hu:P.underlying ty=some d) (hd:d.isRow=true) (hi:(P.info? ty).map (·.size)=some cs.length) (h:Ydc P ops S Q rest (a.put o.dst (.agg cs.toArray))):Ydc P ops S Q (o::rest) a:=
 Yaa hw (fun w hS=> by
  unfold execOp
  simp only [ho,hx,Instr.loadAt,Instr.sureAddr,Sem.run_bind,Sem.run_pure,Result.andThen_ok,run_loadVar_mid w b p ty cs d (hc w hS) hu hd hi]) h
end Go.Proofs.YtgikochfffdpfaaGreatDoor