/- Texts that SheetinTakes's proof stands on, part 31 of 52. No condition of its own. -/
import Derived.Test.YtpgdngijmihafaaGreatDoorSheetinTakesMa
import Derived.Test.YtpgdngijmihafaaGreatDoorSheetinTakesMc
import Derived.Test.YtpgdngijmihafaaGreatDoorSheetinTakesMd
import Derived.Test.YtpgdngijmihafaaGreatDoorSheetinTakesMf
import Derived.Test.YtpgdngijmihafaaGreatDoorSheetinTakesMi
import Derived.Test.YtpgdngijmihafaaGreatDoorSheetinTakesMj
import Derived.Test.YtpgdngijmihafaaGreatDoorSheetinTakesMk
import Derived.Test.YtpgdngijmihafaaGreatDoorSheetinTakesMn
import Derived.Test.YtpgdngijmihafaaGreatDoorSheetinTakesMp
import Derived.Test.YtpgdngijmihafaaGreatDoorSheetinTakesMbd
import Derived.Great.BuildSlice
import Derived.RegionTactic
import Derived.Deep.RegionWith
import Derived.Deep.CutRange
import Derived.Deep.DeepCutAuto
import Derived.BigRegion
import Derived.Lib.OthersKept
import Derived.Deep.RegionLaw
import Derived.Laws.CopyOwn
import Derived.Deep.MidRow
namespace Go.Proofs.YtpgdngijmihafaaGreatDoor
open Go.RowKit Go.Lib
def slP:Value→Option Addr
 | .slice q _ _=> q
 | _=> none
def slC:Value→Nat
 | .slice _ _ c=> c
 | _=> 0
theorem Ye5 {w:World} {base e c n:Nat} {v:Value} {xs:List Value} (h:w.ownsRow base e c v n xs):v = .slice (slP v) n (slC v)∧(slP v=none→slC v=0)∧v.oneCell'=true:=by
 rcases h.2 with ⟨rfl,rfl⟩ | ⟨g,cap,cur,rfl,_⟩
 ·exact ⟨rfl,fun _=> rfl,rfl⟩
 ·exact ⟨rfl,(fun h=> by cases h),rfl⟩
theorem Yc6.mono {α:Type} {c:Nat} {e:TypeId} {V V':α→List Value→Prop} {w:World} {base:Nat} {v:Value} {l:List α} (h:Yc6 c e V w base v l) (hV:∀a vs,V a vs→V' a vs):Yc6 c e V' w base v l:=by
 obtain ⟨xs,⟨h1,h2,h3⟩,h4⟩:=h
 refine ⟨xs,⟨h1,h2,fun i hi=> ?_⟩,h4⟩
 obtain ⟨x,e1,e2⟩:=h3 i hi
 exact ⟨x,e1,hV _ _ e2⟩
theorem Yc6.typed {α:Type} {c:Nat} {e:TypeId} {V:α→List Value→Prop} {w:World} {base:Nat} {v:Value} {l:List α} (h:Yc6 c e V w base v l):∀g,v.ownBlock=some g→∃cur,w.heap[g]? = some (.cells cur e (0,0)):=by
 obtain ⟨xs,_,h2⟩:=h
 rcases h2.2 with ⟨rfl,_⟩ | ⟨g,cap,cur,rfl,_,hh,_⟩
 ·intro g h;cases h
 ·intro g' h
  injection h with h
  subst h
  exact ⟨cur,hh⟩
theorem Yh8 {w:World} {ops:Array Oper} {rest:List Oper} {o:Oper} {a:Act} {Q:Exit→Act→World→Prop} (hgd:o.guard=none) (x:Operand) (ho:o.op = .buildSlice 42 1 #[(0,x)]) (c:Cel) (sl:Nat→Value)
  (hx:a.eval x = .agg (Ya5 c sl).toArray) (h:wpList Tryz.prog ops Q rest (a.put o.dst (.slice (some ⟨w.heap.size,0,none⟩) 1 1)) (w.alloc (.cells (Ya5 c sl).toArray 50 (0,0)))):wpList Tryz.prog ops Q (o::rest) a w:=by
 have hf:(match Tryz.prog.info? 50 with
  | some ie=> (match ie.zero with
   | some z=> if ie.size=18 then Instr.fill (fun i=> some (i*ie.size,ie.size)) ((Array.range (1*ie.size)).map (z.cells[· % z.cells.size]!)) [(0,.agg (Ya5 c sl).toArray)] else none
   | none=> none)
  | none=> none)=some (Ya5 c sl).toArray:=by kernel_rfl
 cases hi:Tryz.prog.info? 50 with
 | none=> rw [hi] at hf;cases hf
 | some ie=>
  rw [hi] at hf
  cases hz:ie.zero with
  | none=> simp only [hz] at hf;cases hf
  | some z=>
   simp only [hz] at hf
   by_cases h18:ie.size=18
   ·rw [if_pos h18] at hf
    exact wpList_buildSlice hgd _ _ 1 _ ho _ ie z Tryz.underlying42 hi hz (by rw [h18];decide) (by rw [h18];decide) (by simpa [hx] using hf) h
   ·rw [if_neg h18] at hf;cases hf
section
variable {P:Program}
theorem Yg5 {w:World} {base:Nat} {t ty e:TypeId} {i:TypeInfo} {z:Value} {size bytes:Nat} (ht:P.underlying t=some (.slice e)) (hi:P.info? e=some i) (hz:i.zero=some z) (hsize:i.size=size) (hby:i.bytes=bytes) (hzs:z.cells.size=size) (hsz:0<size)
  {v:Value} {n:Nat} {xs:List Value} (hown:w.ownsRow base e size v n xs) {a:Addr} {m c:Nat} {news:List Value} (hl:news.length=m*size) (hnews:∀j u,news[j]? = some u→w.cell? (a.add j)=some u) (h1:∀u∈news,u.oneCell'=true)
  (h63:n+m≤maxLen) (hbytes:(n+m)*bytes≤140737488355328) {v':Value} {w':World} (hr:(Builtin.append_ #[t,t] ty #[v,.slice (some a) m c]).run P w = .ok v' w'):
  ∀k,v'.ownBlock=some k→v.ownBlock=some k∨w.heap.size≤k:=by
 intro k hk
 have hsmall:n+m≤9223372036854775807:=by simp only [maxLen] at h63;omega
 rcases hown.2 with ⟨rfl,rfl⟩ | ⟨g,cap,cur,rfl,_,hg,hnc,hcm,hcs,htake⟩
 ·have hx:xs = []:=List.eq_nil_of_length_eq_zero (by simpa using hown.1)
  subst hx
  obtain ⟨v2,w2,hr2,ho2,-,-⟩:=run_append_own (P:=P) w w.heap.size t ty e i z size bytes ht hi hz hsize hby hzs hsz (.slice none 0 0) 0 [] (World.ownsRow_nil ..) a m c news hl hnews h1 h63 hbytes (Nat.le_refl _)
  rw [hr] at hr2
  injection hr2 with e1 e2
  subst e1 e2
  exact .inr (ho2.lt k hk).1
 ·by_cases hroom:n+m≤cap
  ·have hfit:n*i.size+news.length≤cur.size:=by rw [hl,hcs,hsize,←Nat.add_mul];exact Nat.mul_le_mul_right _ hroom
   have hr2:=run_append_room (P:=P) w t ty e i ht hi g n cap cur hg a m c news (by rw [hl,hsize]) hnews h1 hroom hfit
   rw [hr] at hr2
   injection hr2 with e1 e2
   subst e1
   exact .inl hk
  ·have holds:∀j u,xs[j]? = some u→w.cell? ((⟨g,0,none⟩:Addr).add j)=some u:=hown.cells (g:=g) rfl
   have hr2:=run_append_grow (P:=P) w t ty e i z ht hi hz ⟨g,0,none⟩ n cap xs (by rw [hown.1,hsize]) holds a m c news (by rw [hl,hsize]) hnews (by omega) (by omega) (growslice_fits (by omega) (by rw [hby];exact hbytes))
   rw [hr] at hr2
   injection hr2 with e1 e2
   subst e1
   injection hk with hk
   exact .inr (Nat.le_of_eq hk)
theorem Yer {α:Type} {w:World} {ops:Array Oper} {rest:List Oper} {o:Oper} {a:Act} {Q:Exit→Act→World→Prop} {s x:Operand} {t e:TypeId} {base c bytes cap K:Nat} {i:TypeInfo} {z v:Value} {V:α→List Value→Prop} {l:List α} {y:α} {vs:List Value}
  (hgd:o.guard=none) (ho:o.op = .call {callee:=.builtin .append,args:=#[s,x],argTypes:=#[t,t]})
  (ht:P.underlying t=some (.slice e)) (hi:P.info? e=some i) (hz:i.zero=some z) (hzs:z.cells.size=c) (hsize:i.size=c) (hby:i.bytes=bytes) (hc0:0<c)
  (hs:a.eval s=v) (hx:a.eval x = .slice (some ⟨K,0,none⟩) 1 cap) (hown:Yc6 c e V w base v l) (hV:V y vs) (hvl:vs.length=c) (hv1:∀u∈vs,u.oneCell'=true) (hcell:∀(j:Nat) u,vs[j]? = some u→w.cell? ⟨K,j,none⟩=some u)
  (h63:l.length+1≤maxLen) (hbytes:(l.length+1)*bytes≤140737488355328) (hbase:base≤w.heap.size)
  (h:∀(q:Option Addr) (cap':Nat) w',Yc6 c e V w' base (.slice q (l.length+1) cap') (l ++ [y])→w.grownBy w' v.ownBlock→(∀k,(Value.slice q (l.length+1) cap').ownBlock=some k→v.ownBlock=some k∨w.heap.size≤k)→wpList P ops Q rest (a.put o.dst (.slice q (l.length+1) cap')) w'):wpList P ops Q (o::rest) a w:=by
 obtain ⟨xs,hxs,hu⟩:=hown
 refine wpList_plain hgd fun K' hK=> ?_
 have hnews:∀(j:Nat) u,vs[j]? = some u→w.cell? ((⟨K,0,none⟩:Addr).add j)=some u:=fun j u hj=> by rw [Addr.add_mid,Nat.zero_add];exact hcell j u hj
 obtain ⟨v',w',hr,h2,h3,-⟩:=run_append_own (P:=P) w base t o.type e i z c bytes ht hi hz hsize hby hzs hc0 v l.length xs.flatten hu ⟨K,0,none⟩ 1 cap vs (by rw [hvl,Nat.one_mul]) hnews hv1 h63 hbytes hbase
 have h4:=Yg5 ht hi hz hsize hby hzs hc0 hu (by rw [hvl,Nat.one_mul]) hnews hv1 h63 hbytes hr
 unfold Oper.wp execOp
 simp only [ho,resolve,invoke,builtin,Sem.run_bind,Sem.run_pure,Result.andThen_ok,List.map_toArray,List.map_cons,List.map_nil,hs,hx,hr]
 have e4:=(Ye5 h2).1
 rw [e4] at h2 h4 ⊢
 refine hK _ _ (h _ _ w' ⟨xs ++ [vs],hxs.app ⟨rfl,(fun u hu'=> by rw [List.mem_singleton.1 hu'];exact hvl),fun k hk=> ?_⟩,by rw [List.flatten_append,List.length_append];simpa using h2⟩ h3 h4)
 obtain rfl:k=0:=by simpa using hk
 exact ⟨vs,rfl,hV⟩
theorem Yn8 {w:World} {ops:Array Oper} {rest:List Oper} {o:Oper} {a:Act} {Q:Exit→Act→World→Prop} {s x:Operand} {t e:TypeId} {cap K:Nat} {i:TypeInfo} {z v:Value} {n:Nat} {xs:List Value} {y0 y1:Int}
  (hgd:o.guard=none) (ho:o.op = .call {callee:=.builtin .append,args:=#[s,x],argTypes:=#[t,t]})
  (ht:P.underlying t=some (.slice e)) (hi:P.info? e=some i) (hz:i.zero=some z) (hzs:z.cells.size=2) (hsize:i.size=2) (hby:i.bytes=16)
  (hs:a.eval s=v) (hown:w.ownsRow 0 e 2 v n xs) (hx:a.eval x = .slice (some ⟨K,0,none⟩) 1 cap) (c0:w.cell? ⟨K,0,none⟩=some (.int .i64 y0)) (c1:w.cell? ⟨K,1,none⟩=some (.int .i64 y1)) (hn:n≤1048576)
  (h:∀(q:Option Addr) (cap':Nat) w',w'.ownsRow 0 e 2 (.slice q (n+1) cap') (n+1) (xs ++ [.int .i64 y0,.int .i64 y1])→w.grownBy w' v.ownBlock→(∀k,(Value.slice q (n+1) cap').ownBlock=some k→v.ownBlock=some k∨w.heap.size≤k)→wpList P ops Q rest (a.put o.dst (.slice q (n+1) cap')) w'):wpList P ops Q (o::rest) a w:=by
 refine wpList_plain hgd fun K' hK=> ?_
 have hnews:∀(j:Nat) u,([.int .i64 y0,.int .i64 y1]:List Value)[j]? = some u→w.cell? ((⟨K,0,none⟩:Addr).add j)=some u:=fun j u hj=> by
  rw [Addr.add_mid,Nat.zero_add]
  match j,hj with
  | 0,hj=> cases hj;exact c0
  | 1,hj=> cases hj;exact c1
 have hv1:∀u∈([.int .i64 y0,.int .i64 y1]:List Value),u.oneCell'=true:=by intro u hu;simp only [List.mem_cons,List.not_mem_nil,or_false] at hu;rcases hu with rfl | rfl <;> rfl
 obtain ⟨v',w',hr,h2,h3,-⟩:=run_append_own (P:=P) w 0 t o.type e i z 2 16 ht hi hz hsize hby hzs (by decide) v n xs hown ⟨K,0,none⟩ 1 cap _ rfl hnews hv1 (by unfold maxLen;omega) (by omega) (Nat.zero_le _)
 have h4:=Yg5 ht hi hz hsize hby hzs (by decide) hown rfl hnews hv1 (by unfold maxLen;omega) (by omega) hr
 have e4:=(Ye5 h2).1
 rw [e4] at h2 h4
 unfold Oper.wp execOp
 simp only [ho,resolve,invoke,builtin,Sem.run_bind,Sem.run_pure,Result.andThen_ok,List.map_toArray,List.map_cons,List.map_nil,hs,hx,hr]
 have:=h _ _ w' h2 h3 h4
 rw [←e4] at this
 exact hK _ _ this
end
theorem Yi0 {w:World} {ops:Array Oper} {rest:List Oper} {o:Oper} {a:Act} {Q:Exit→Act→World→Prop} (hgd:o.guard=none) (x:Operand) (ho:o.op = .buildSlice 28 1 #[(0,x)]) (u0 u1 u2 u3:Value)
  (hx:a.eval x = .agg #[u0,u1,u2,u3]) (h:wpList Tryz.prog ops Q rest (a.put o.dst (.slice (some ⟨w.heap.size,0,none⟩) 1 1)) (w.alloc (.cells #[u0,u1,u2,u3] 44 (0,0)))):wpList Tryz.prog ops Q (o::rest) a w:=by
 have hf:(match Tryz.prog.info? 44 with
  | some ie=> (match ie.zero with
   | some z=> if ie.size=4 then Instr.fill (fun i=> some (i*ie.size,ie.size)) ((Array.range (1*ie.size)).map (z.cells[· % z.cells.size]!)) [(0,.agg #[u0,u1,u2,u3])] else none
   | none=> none)
  | none=> none)=some #[u0,u1,u2,u3]:=by kernel_rfl
 cases hi:Tryz.prog.info? 44 with
 | none=> rw [hi] at hf;cases hf
 | some ie=>
  rw [hi] at hf
  cases hz:ie.zero with
  | none=> simp only [hz] at hf;cases hf
  | some z=>
   simp only [hz] at hf
   by_cases h4:ie.size=4
   ·rw [if_pos h4] at hf
    exact wpList_buildSlice hgd _ _ 1 _ ho _ ie z Tryz.underlying28 hi hz (by rw [h4];decide) (by rw [h4];decide) (by simpa [hx] using hf) h
   ·rw [if_neg h4] at hf;cases hf
theorem Yxt:∃i z,Tryz.prog.info? 44=some i∧i.zero=some z∧z.cells.size=4∧i.size=4∧i.bytes=48:=by
 have h:(Tryz.prog.info? 44).map (fun i=> (i.zero.map (·.cells.size),i.size,i.bytes))=some (some 4,4,48):=by kernel_rfl
 generalize Tryz.prog.info? 44=x at h
 match x,h with
 | some i,h=>
  rw [Option.map_some] at h
  injection h with h
  injection h with h1 h2
  injection h2 with h2 h3
  cases hz:i.zero with
  | none=> rw [hz] at h1;cases h1
  | some z=>
   rw [hz] at h1
   injection h1 with h1
   exact ⟨i,z,rfl,hz,h1,h2,h3⟩
def Yjy (L:List (Option Nat)) (w:World) (p:Option Addr) (l:List Ev):Prop:=Yea w p l∧(l = []∨∃b o,p=some ⟨b,o,none⟩∧some b∉L)
section
variable {L L':List (Option Nat)} {w x:World} {row:Option Nat}
theorem Yjy.kept {p:Option Addr} {l:List Ev} (h:Yjy L w p l) (hg:w.grownBy x row) (hr:∀k,row=some k→some k∈L):Yjy L x p l:=by
 obtain ⟨h1,h2⟩:=h
 refine ⟨?_,h2⟩
 rcases h2 with rfl | ⟨b,o,rfl,hL⟩
 ·exact .inl rfl
 ·rcases h1 with rfl | ⟨b',o',e,hlt,hc⟩
  ·exact .inl rfl
  ·injection e with e
   injection e with e1 e2
   subst e1 e2
   have hb:x.heap[b]? = w.heap[b]?:=hg.block b hlt fun e=> hL (hr b e.symm)
   refine .inr ⟨b,o,rfl,Nat.lt_of_lt_of_le hlt hg.size,fun i hi=> ?_⟩
   obtain ⟨a0,a1,a2⟩:=hc i hi
   exact ⟨(World.cell?_of_block (a:=⟨b,o+i*3,none⟩) hb).trans a0,(World.cell?_of_block (a:=⟨b,o+i*3+1,none⟩) hb).trans a1,(World.cell?_of_block (a:=⟨b,o+i*3+2,none⟩) hb).trans a2⟩
theorem Yjy.mono {p:Option Addr} {l:List Ev} (h:Yjy L w p l) (hL:∀k,k<w.heap.size→some k∉L→some k∉L'):Yjy L' w p l:=by
 obtain ⟨h1,h2⟩:=h
 refine ⟨h1,?_⟩
 rcases h2 with rfl | ⟨b,o,rfl,hb⟩
 ·exact .inl rfl
 ·rcases h1 with rfl | ⟨b',o',e,hlt,_⟩
  ·exact .inl rfl
  ·injection e with e
   injection e with e1 e2
   subst e1 e2
   exact .inr ⟨b,o,rfl,hL b hlt hb⟩
def Yha (L:List (Option Nat)) (w:World) (c:Cel) (vs:List Value):Prop:=
 ∃(p:Nat→Option Addr) (cap:Nat→Nat),vs=Ya5 c (fun i=> .slice (p i) (c.ev i).length (cap i))∧((Lit.int .i64 c.mx).wf=true∧(Lit.int .i64 c.my).wf=true)∧∀i,i<6→(c.ev i).length≤maxLen∧Yjy L w (p i) (c.ev i)
theorem Yha.kept {c:Cel} {vs:List Value} (h:Yha L w c vs) (hg:w.grownBy x row) (hr:∀k,row=some k→some k∈L):Yha L x c vs:=by
 obtain ⟨p,cap,h1,h2,h3⟩:=h
 exact ⟨p,cap,h1,h2,fun i hi=> ⟨(h3 i hi).1,(h3 i hi).2.kept hg hr⟩⟩
theorem Yha.mono {c:Cel} {vs:List Value} (h:Yha L w c vs) (hL:∀k,k<w.heap.size→some k∉L→some k∉L'):Yha L' w c vs:=by
 obtain ⟨p,cap,h1,h2,h3⟩:=h
 exact ⟨p,cap,h1,h2,fun i hi=> ⟨(h3 i hi).1,(h3 i hi).2.mono hL⟩⟩
theorem Yha.cel (c:Cel) (vs:List Value) (h:Yha L w c vs):Y5z w c vs:=by
 obtain ⟨p,cap,h1,h2,h3⟩:=h
 exact ⟨p,cap,h1,h2,fun i hi=> ⟨(h3 i hi).1,(h3 i hi).2.1⟩⟩
theorem Yha.shape {c:Cel} {vs:List Value} (h:Yha L w c vs):vs.length=18∧∀u∈vs,u.oneCell'=true:=(Yha.cel c vs h).shape
def Ye9 (L:List (Option Nat)) (w:World) (v:Value) (l:List Cel):Prop:=Yc6 18 50 (Yha L w) w 0 v l
theorem Ye9.nil (L:List (Option Nat)) (w:World):Ye9 L w (.slice none 0 0) []:=Yc6.nil ..
theorem Ye9.kept {v:Value} {l:List Cel} (h:Ye9 L w v l) (hg:w.grownBy x row) (hr:∀k,row=some k→some k∈L) (hv:∀k,row=some k→v.ownBlock≠some k):Ye9 L x v l:=
 Yc6.mono (Yc6.kept h hg (by
  cases e:v.ownBlock with
  | none=> exact .inl rfl
  | some g=> exact .inr fun e2=> hv g e2.symm e)) fun _ _ hc=> hc.kept hg hr
theorem Ye9.mono {v:Value} {l:List Cel} (h:Ye9 L w v l) (hL:∀k,k<w.heap.size→some k∉L→some k∉L'):Ye9 L' w v l:=Yc6.mono h fun _ _ hc=> hc.mono hL
theorem Yc6.lt {α:Type} {c:Nat} {e:TypeId} {V:α→List Value→Prop} {base:Nat} {v:Value} {l:List α} (h:Yc6 c e V w base v l):∀k,v.ownBlock=some k→k<w.heap.size:=by
 obtain ⟨xs,_,h2⟩:=h
 exact fun k hk=> (h2.lt k hk).2
def Yhe (L:List (Option Nat)) (w:World) (r:RowP) (vs:List Value):Prop:=
 ∃sl,vs = [.bool r.head,.int .i64 r.id,.int .i64 r.quant,sl]∧Ye9 L w sl r.cels∧r.cels.length≤maxLen∧∀k,sl.ownBlock=some k→some k∉L
theorem Yhe.kept {r:RowP} {vs:List Value} (h:Yhe L w r vs) (hg:w.grownBy x row) (hr:∀k,row=some k→some k∈L):Yhe L x r vs:=by
 obtain ⟨sl,h1,h2,h3,h4⟩:=h
 exact ⟨sl,h1,h2.kept hg hr (fun k hk e=> h4 k e (hr k hk)),h3,h4⟩
theorem Yhe.mono {r:RowP} {vs:List Value} (h:Yhe L w r vs) (hL:∀k,k<w.heap.size→some k∉L→some k∉L'):Yhe L' w r vs:=by
 obtain ⟨sl,h1,h2,h3,h4⟩:=h
 exact ⟨sl,h1,h2.mono hL,h3,fun k hk=> hL k (Yc6.lt h2 k hk) (h4 k hk)⟩
theorem Yhe.rowV (r:RowP) (vs:List Value) (h:Yhe L w r vs):Qa0 w r vs:=by
 obtain ⟨sl,rfl,h2,h3,-⟩:=h
 obtain ⟨xs,hx,ho⟩:=h2
 obtain ⟨e1,e2,-⟩:=Ye5 ho
 obtain ⟨q,cap,e,hm⟩:=Yc6.many (V':=Y5z) ⟨xs,hx,ho⟩ Yha.cel
 refine ⟨q,cap,by rw [e],fun hq=> ?_,h3,hm⟩
 rw [e] at e2
 exact e2 hq
theorem Yhe.shape {r:RowP} {vs:List Value} (h:Yhe L w r vs):vs.length=4∧∀u∈vs,u.oneCell'=true:=by
 obtain ⟨sl,rfl,⟨xs,hx,ho⟩,-,-⟩:=h
 refine ⟨rfl,fun u hu=> ?_⟩
 simp only [List.mem_cons,List.not_mem_nil,or_false] at hu
 rcases hu with rfl | rfl | rfl | rfl
 ·rfl
 ·rfl
 ·rfl
 ·exact (Ye5 ho).2.2
def Yek (L:List (Option Nat)) (w:World) (v:Value) (l:List RowP):Prop:=Yc6 4 44 (Yhe L w) w 0 v l
theorem Yek.nil (L:List (Option Nat)) (w:World):Yek L w (.slice none 0 0) []:=Yc6.nil ..
theorem Yek.kept {v:Value} {l:List RowP} (h:Yek L w v l) (hg:w.grownBy x row) (hr:∀k,row=some k→some k∈L) (hv:∀k,row=some k→v.ownBlock≠some k):Yek L x v l:=
 Yc6.mono (Yc6.kept h hg (by
  cases e:v.ownBlock with
  | none=> exact .inl rfl
  | some g=> exact .inr fun e2=> hv g e2.symm e)) fun _ _ hc=> hc.kept hg hr
theorem Yek.mono {v:Value} {l:List RowP} (h:Yek L w v l) (hL:∀k,k<w.heap.size→some k∉L→some k∉L'):Yek L' w v l:=Yc6.mono h fun _ _ hc=> hc.mono hL
theorem Yek.rows {v:Value} {l:List RowP} (h:Yek L w v l):∃(q:Option Addr) (cap:Nat),v = .slice q l.length cap∧Yh9 w q l:=Yc6.many h Yhe.rowV
end
structure Ylb (w0 w:World) (A X Z:Nat) (Y SZ:Array Value) (hd:Shd) (a:Option Addr) (ca:Nat) (rv vv:Value) (rs:List RowP) (vs:List (Int×Int)) (L:List (Option Nat)):Prop where
 low:Below w0.heap.size w0 w
 res:w.heap[A]? = some (.cells Y 30 (0,0))
 sht:w.heap[X]? = some (.cells (Ya8 hd (.slice a hd.supp.length ca) rv 0).toArray 30 (0,0))
 siz:w.heap[Z]? = some (.cells SZ 52 (0,0))
 sup:Ycf w a hd.supp∧(hd.supp = []∨∃b o,a=some ⟨b,o,none⟩∧some b∉L)
 row:Yek L w rv rs
 vec:w.ownsRow 0 45 2 vv vs.length (Yxd vs)
 ord:w0.heap.size≤A∧A<w.heap.size∧X<w.heap.size∧Z<w.heap.size∧A≠X∧A≠Z∧X≠Z
 inX:some X∈L
 inR:∀k,rv.ownBlock=some k→some k∈L∧k≠X
 inV:∀k,vv.ownBlock=some k→some k∈L∧k≠X
 ne:∀k,rv.ownBlock=some k→vv.ownBlock≠some k
 off:∀k,some k∈L→w0.heap.size≤k∧k≠A∧k≠Z
section
variable {w0 w z:World} {A X Z:Nat} {Y SZ:Array Value} {hd:Shd} {a:Option Addr} {ca:Nat} {rv vv rv' vv':Value} {rs:List RowP} {vs:List (Int×Int)} {L L':List (Option Nat)} {row:Option Nat}
theorem Ycf.kept {l:List Int} {p:Option Addr} (h:Ycf w p l) (ha:l = []∨∃b o,p=some ⟨b,o,none⟩∧some b∉L) (hg:w.grownBy z row) (hr:∀k,row=some k→some k∈L):Ycf z p l:=by
 rcases ha with rfl | ⟨b,o,rfl,hb⟩
 ·exact Ycf.nil _ _
 ·rcases h with h | ⟨b',o',e,hlt,hc⟩
  ·exact .inl h
  ·injection e with e
   injection e with e1 e2
   subst e1 e2
   refine .inr ⟨b,o,rfl,Nat.lt_of_lt_of_le hlt hg.size,fun i hi=> ?_⟩
   exact (World.cell?_of_block (a:=⟨b,o+i,none⟩) (hg.block b hlt fun e=> hb (hr b e.symm))).trans (hc i hi)
theorem Ylb.grow (h:Ylb w0 w A X Z Y SZ hd a ca rv vv rs vs L) (hg:w.grownBy z row) (hr:∀k,row=some k→some k∈L∧k≠X∧rv.ownBlock≠some k∧vv.ownBlock≠some k):Ylb w0 z A X Z Y SZ hd a ca rv vv rs vs L where
 low:=h.low.grown hg h.low.size fun k hk=> (h.off k (hr k hk).1).1
 res:=(hg.block A h.ord.2.1 fun e=> (h.off A (hr A e.symm).1).2.1 rfl).trans h.res
 sht:=(hg.block X h.ord.2.2.1 fun e=> (hr X e.symm).2.1 rfl).trans h.sht
 siz:=(hg.block Z h.ord.2.2.2.1 fun e=> (h.off Z (hr Z e.symm).1).2.2 rfl).trans h.siz
 sup:=⟨h.sup.1.kept h.sup.2 hg fun k hk=> (hr k hk).1,h.sup.2⟩
 row:=h.row.kept hg (fun k hk=> (hr k hk).1) fun k hk=> (hr k hk).2.2.1
 vec:=h.vec.kept hg (by
  cases e:vv.ownBlock with
  | none=> exact .inl rfl
  | some g=> exact .inr fun e2=> (hr g e2.symm).2.2.2 e)
 ord:=by have:=hg.size;have:=h.ord;omega
 inX:=h.inX
 inR:=h.inR
 inV:=h.inV
 ne:=h.ne
 off:=h.off
theorem Ylb.move (h:Ylb w0 w A X Z Y SZ hd a ca rv vv rs vs L) (hb:Below w.heap.size w z):Ylb w0 z A X Z Y SZ hd a ca rv vv rs vs L:=h.grow (Yal hb none) fun k hk=> by cases hk
theorem Ylb.mono (h:Ylb w0 w A X Z Y SZ hd a ca rv vv rs vs L) (hL:∀k,k<w.heap.size→some k∉L→some k∉L') (hX:some X∈L') (hR:∀k,rv.ownBlock=some k→some k∈L') (hV:∀k,vv.ownBlock=some k→some k∈L') (ho:∀k,some k∈L'→w0.heap.size≤k∧k≠A∧k≠Z):Ylb w0 w A X Z Y SZ hd a ca rv vv rs vs L' where
 low:=h.low
 res:=h.res
 sht:=h.sht
 siz:=h.siz
 sup:=by
  refine ⟨h.sup.1,?_⟩
  rcases h.sup.2 with h1 | ⟨b,o,e,hb⟩
  ·exact .inl h1
  ·rcases h.sup.1 with h2 | ⟨b',o',e',hlt,_⟩
   ·exact .inl (List.eq_nil_of_length_eq_zero h2)
   ·rw [e] at e'
    injection e' with e'
    injection e' with e1 e2
    subst e1
    exact .inr ⟨b,o,e,hL b hlt hb⟩
 row:=h.row.mono hL
 vec:=h.vec
 ord:=h.ord
 inX:=hX
 inR:=fun k hk=> ⟨hR k hk,(h.inR k hk).2⟩
 inV:=fun k hk=> ⟨hV k hk,(h.inV k hk).2⟩
 ne:=h.ne
 off:=ho
theorem Ylb.more (h:Ylb w0 w A X Z Y SZ hd a ca rv vv rs vs L) {R:Nat} (hR:w.heap.size≤R):Ylb w0 w A X Z Y SZ hd a ca rv vv rs vs (some R::L):=
 h.mono (fun k hk hn hm=> by
  rcases List.mem_cons.1 hm with e | e
  ·injection e with e;omega
  ·exact hn e) (List.mem_cons_of_mem _ h.inX) (fun k hk=> List.mem_cons_of_mem _ (h.inR k hk).1) (fun k hk=> List.mem_cons_of_mem _ (h.inV k hk).1) fun k hk=> by
  rcases List.mem_cons.1 hk with e | e
  ·injection e with e
   have:=h.low.size
   have:=h.ord
   omega
  ·exact h.off k e
theorem Ylb.vecs {v:Int×Int} (h:Ylb w0 w A X Z Y SZ hd a ca rv vv rs vs L) (hg:w.grownBy z vv.ownBlock) (ho:z.ownsRow 0 45 2 vv' (vs.length+1) (Yxd vs ++ [.int .i64 v.1,.int .i64 v.2])) (hw:∀k,vv'.ownBlock=some k→vv.ownBlock=some k∨w.heap.size≤k):
  Ylb w0 z A X Z Y SZ hd a ca rv vv' rs (vs ++ [v]) (vv'.ownBlock::L):=by
 have hV:=fun k hk=> h.inV k hk
 have hrow:∀k,vv.ownBlock=some k→some k∈L:=fun k hk=> (hV k hk).1
 have h1:∀k,k<w.heap.size→some k∉L→some k∉vv'.ownBlock::L:=fun k hk hn hm=> by
  rcases List.mem_cons.1 hm with e | e
  ·rcases hw k e.symm with h2 | h2
   ·exact hn (hV k h2).1
   ·omega
  ·exact hn e
 have hsX:∀k,vv'.ownBlock=some k→k≠X∧w0.heap.size≤k∧k≠A∧k≠Z∧rv.ownBlock≠some k:=fun k hk=> by
  rcases hw k hk with h2 | h2
  ·exact ⟨(hV k h2).2,(h.off k (hV k h2).1).1,(h.off k (hV k h2).1).2.1,(h.off k (hV k h2).1).2.2,fun e=> h.ne k e h2⟩
  ·have:=h.ord
   have:=h.low.size
   exact ⟨by omega,by omega,by omega,by omega,fun e=> by have:=Yc6.lt h.row k e;omega⟩
 exact {
  low:=h.low.grown hg h.low.size fun k hk=> (h.off k (hrow k hk)).1
  res:=(hg.block A h.ord.2.1 fun e=> (h.off A (hrow A e.symm)).2.1 rfl).trans h.res
  sht:=(hg.block X h.ord.2.2.1 fun e=> (hV X e.symm).2 rfl).trans h.sht
  siz:=(hg.block Z h.ord.2.2.2.1 fun e=> (h.off Z (hrow Z e.symm)).2.2 rfl).trans h.siz
  sup:=by
   refine ⟨h.sup.1.kept h.sup.2 hg hrow,?_⟩
   rcases h.sup.2 with h2 | ⟨b,o,e,hb⟩
   ·exact .inl h2
   ·rcases h.sup.1 with h2 | ⟨b',o',e',hlt,_⟩
    ·exact .inl (List.eq_nil_of_length_eq_zero h2)
    ·rw [e] at e'
     injection e' with e'
     injection e' with e1 e2
     subst e1
     exact .inr ⟨b,o,e,h1 b hlt hb⟩
  row:=by
   have h2:=h.row.mono h1
   exact h2.kept hg (fun k hk=> List.mem_cons_of_mem _ (hrow k hk)) fun k hk e=> h.ne k e hk
  vec:=by rw [List.length_append,Yrq];exact ho
  ord:=by have:=hg.size;have:=h.ord;omega
  inX:=List.mem_cons_of_mem _ h.inX
  inR:=fun k hk=> ⟨List.mem_cons_of_mem _ (h.inR k hk).1,(h.inR k hk).2⟩
  inV:=fun k hk=> ⟨by rw [←hk];exact List.mem_cons_self ..,(hsX k hk).1⟩
  ne:=fun k hk e=> (hsX k e).2.2.2.2 hk
  off:=fun k hk=> by
   rcases List.mem_cons.1 hk with e | e
   ·exact ⟨(hsX k e.symm).2.1,(hsX k e.symm).2.2.1,(hsX k e.symm).2.2.2.1⟩
   ·exact h.off k e}
theorem Ylb.rows {r:RowP} (h:Ylb w0 w A X Z Y SZ hd a ca rv vv rs vs L) (hg:w.grownBy z rv.ownBlock) (ho:Yc6 4 44 (Yhe L w) z 0 rv' (rs ++ [r])) (hw:∀k,rv'.ownBlock=some k→rv.ownBlock=some k∨w.heap.size≤k):
  Ylb w0 (z.setCell ⟨X,6,none⟩ rv') A X Z Y SZ hd a ca rv' vv (rs ++ [r]) vs (rv'.ownBlock::L):=by
 have hR:=fun k hk=> h.inR k hk
 have hrow:∀k,rv.ownBlock=some k→some k∈L:=fun k hk=> (hR k hk).1
 have hgs:=Yam z ⟨X,6,none⟩ rv'
 have h1:∀k,k<w.heap.size→some k∉L→some k∉rv'.ownBlock::L:=fun k hk hn hm=> by
  rcases List.mem_cons.1 hm with e | e
  ·rcases hw k e.symm with h2 | h2
   ·exact hn (hR k h2).1
   ·omega
  ·exact hn e
 have hsX:∀k,rv'.ownBlock=some k→k≠X∧w0.heap.size≤k∧k≠A∧k≠Z∧vv.ownBlock≠some k:=fun k hk=> by
  rcases hw k hk with h2 | h2
  ·exact ⟨(hR k h2).2,(h.off k (hR k h2).1).1,(h.off k (hR k h2).1).2.1,(h.off k (hR k h2).1).2.2,fun e=> h.ne k h2 e⟩
  ·have:=h.ord
   have:=h.low.size
   exact ⟨by omega,by omega,by omega,by omega,fun e=> by have:=(h.vec.lt k e).2;omega⟩
 have hX6:z.heap[X]? = some (.cells (Ya8 hd (.slice a hd.supp.length ca) rv 0).toArray 30 (0,0)):=(hg.block X h.ord.2.2.1 fun e=> (hR X e.symm).2 rfl).trans h.sht
 have lz:Below w0.heap.size w0 z:=h.low.grown hg h.low.size fun k hk=> (h.off k (hrow k hk)).1
 have hXoff:=h.off X h.inX
 have hzs:=hg.size
 have o:=h.ord
 have inL:∀k,(some X:Option Nat)=some k→some k∈rv'.ownBlock::L:=fun k e=> by
  injection e with e
  subst e
  exact List.mem_cons_of_mem _ h.inX
 exact {
  low:=lz.setCell hXoff.1 _
  res:=((hgs.block A (by omega) fun e=> by injection e with e;exact o.2.2.2.2.1 e).trans (hg.block A o.2.1 fun e=> (h.off A (hrow A e.symm)).2.1 rfl)).trans h.res
  sht:=by
   have:=Yau (o:=6) rv' hX6
   exact this
  siz:=((hgs.block Z (by omega) fun e=> by injection e with e;exact o.2.2.2.2.2.2 e.symm).trans (hg.block Z o.2.2.2.1 fun e=> (h.off Z (hrow Z e.symm)).2.2 rfl)).trans h.siz
  sup:=by
   refine ⟨(h.sup.1.kept h.sup.2 hg hrow).kept h.sup.2 hgs (fun k e=> by injection e with e;subst e;exact h.inX),?_⟩
   rcases h.sup.2 with h2 | ⟨b,o,e,hb⟩
   ·exact .inl h2
   ·rcases h.sup.1 with h2 | ⟨b',o',e',hlt,_⟩
    ·exact .inl (List.eq_nil_of_length_eq_zero h2)
    ·rw [e] at e'
     injection e' with e'
     injection e' with e1 e2
     subst e1
     exact .inr ⟨b,o,e,h1 b hlt hb⟩
  row:=by
   have h2:Yc6 4 44 (Yhe L z) z 0 rv' (rs ++ [r]):=Yc6.mono ho fun _ _ hv=> hv.kept hg hrow
   have h3:Yc6 4 44 (Yhe (rv'.ownBlock::L) z) z 0 rv' (rs ++ [r]):=Yc6.mono ho fun _ _ hv=> (hv.mono h1).kept hg fun k hk=> List.mem_cons_of_mem _ (hrow k hk)
   exact Yek.kept h3 hgs inL fun k e e2=> by
    injection e with e
    subst e
    exact (hsX _ e2).1 rfl
  vec:=(h.vec.kept hg (by
   cases e:vv.ownBlock with
   | none=> exact .inl rfl
   | some g=> exact .inr fun e2=> h.ne g e2.symm e)).kept hgs (by
   cases e:vv.ownBlock with
   | none=> exact .inl rfl
   | some g=> exact .inr fun e2=> by injection e2 with e2;exact (h.inV g e).2 e2)
  ord:=by have:=hgs.size;omega
  inX:=List.mem_cons_of_mem _ h.inX
  inR:=fun k hk=> ⟨by rw [←hk];exact List.mem_cons_self ..,(hsX k hk).1⟩
  inV:=fun k hk=> ⟨List.mem_cons_of_mem _ (h.inV k hk).1,(h.inV k hk).2⟩
  ne:=fun k hk=> (hsX k hk).2.2.2.2
  off:=fun k hk=> by
   rcases List.mem_cons.1 hk with e | e
   ·exact ⟨(hsX k e.symm).2.1,(hsX k e.symm).2.2.1,(hsX k e.symm).2.2.2.1⟩
   ·exact h.off k e}
end
structure Yai (L:List (Option Nat)) (w w':World):Prop where
 os:w'.os=w.os
 tape:w'.tape=w.tape
 output:w'.output=w.output
 size:w.heap.size≤w'.heap.size
 block:∀k,k<w.heap.size→some k∉L→w'.heap[k]? = w.heap[k]?
section
variable {L M L':List (Option Nat)} {w x z:World} {row:Option Nat}
theorem Yai.trans (h:Yai L w x) (k:Yai M x z) (hM:∀j,j<w.heap.size→some j∈M→some j∈L):Yai L w z:=
 ⟨k.os.trans h.os,k.tape.trans h.tape,k.output.trans h.output,Nat.le_trans h.size k.size,fun i hi h1=> (k.block i (Nat.lt_of_lt_of_le hi h.size) fun h2=> h1 (hM i hi h2)).trans (h.block i hi h1)⟩
theorem Yai.mono (h:Yai L w x) (hM:∀j,j<w.heap.size→some j∈L→some j∈M):Yai M w x:=
 ⟨h.os,h.tape,h.output,h.size,fun i hi h1=> h.block i hi fun h2=> h1 (hM i hi h2)⟩
theorem Yai.one (h:w.grownBy x row) (hr:∀k,k<w.heap.size→row=some k→some k∈L):Yai L w x:=
 ⟨h.os,h.tape,h.output,h.size,fun i hi h1=> h.block i hi fun e=> h1 (hr i hi e.symm)⟩
theorem Yai.below (h:Below w.heap.size w x):Yai L w x:=⟨h.os,h.tape,h.output,h.size,fun k hk _=> h.block k hk⟩
theorem Yai.under {N:Nat} (h:Yai L w x) (hN:N≤w.heap.size) (hL:∀k,some k∈L→N≤k):Below N w x:=
 ⟨h.os,h.tape,h.output,h.size,fun k hk=> h.block k (by omega) fun h1=> by have:=hL k h1;omega⟩
theorem Yai.lone {b:Nat} (h:Yai L w x) (hL:∀k,k<w.heap.size→some k∈L→k=b):w.grownBy x (some b):=
 ⟨h.os,h.tape,h.output,h.size,fun k hk hn=> h.block k hk fun h1=> hn (by rw [hL k hk h1])⟩
theorem Yai.set {p:Addr} (v:Value) (hp:some p.block∈L):Yai L w (w.setCell p v):=Yai.one (Yam w p v) fun k _ e=> by injection e with e;subst e;exact hp
theorem Yfw {base e c n:Nat} {v:Value} {xs:List Value} (h:w.ownsRow base e c v n xs) (hg:Yai M w x) (hv:∀k,v.ownBlock=some k→some k∉M):x.ownsRow base e c v n xs:=by
 refine ⟨h.1,?_⟩
 rcases h.2 with h2 | ⟨g,cap,cur,rfl,hb,hh,h3⟩
 ·exact .inl h2
 ·exact .inr ⟨g,cap,cur,rfl,hb,(hg.block g (Array.getElem?_eq_some_iff.1 hh).1 (hv g rfl)).trans hh,h3⟩
theorem Yjy.keptL {p:Option Addr} {l:List Ev} (h:Yjy L w p l) (hg:Yai M w x) (hr:∀k,some k∈M→some k∈L):Yjy L x p l:=by
 obtain ⟨h1,h2⟩:=h
 refine ⟨?_,h2⟩
 rcases h2 with rfl | ⟨b,o,rfl,hL⟩
 ·exact .inl rfl
 ·rcases h1 with rfl | ⟨b',o',e,hlt,hc⟩
  ·exact .inl rfl
  ·injection e with e
   injection e with e1 e2
   subst e1 e2
   have hb:x.heap[b]? = w.heap[b]?:=hg.block b hlt fun e=> hL (hr b e)
   refine .inr ⟨b,o,rfl,Nat.lt_of_lt_of_le hlt hg.size,fun i hi=> ?_⟩
   obtain ⟨a0,a1,a2⟩:=hc i hi
   exact ⟨(World.cell?_of_block (a:=⟨b,o+i*3,none⟩) hb).trans a0,(World.cell?_of_block (a:=⟨b,o+i*3+1,none⟩) hb).trans a1,(World.cell?_of_block (a:=⟨b,o+i*3+2,none⟩) hb).trans a2⟩
theorem Yha.keptL {c:Cel} {vs:List Value} (h:Yha L w c vs) (hg:Yai M w x) (hr:∀k,some k∈M→some k∈L):Yha L x c vs:=by
 obtain ⟨p,cap,h1,h2,h3⟩:=h
 exact ⟨p,cap,h1,h2,fun i hi=> ⟨(h3 i hi).1,(h3 i hi).2.keptL hg hr⟩⟩
theorem Yc6.keptL {α:Type} {c:Nat} {e:TypeId} {V:α→List Value→Prop} {base:Nat} {v:Value} {l:List α} (h:Yc6 c e V w base v l) (hg:Yai M w x) (hv:∀k,v.ownBlock=some k→some k∉M):Yc6 c e V x base v l:=by
 obtain ⟨xs,h1,h2⟩:=h
 exact ⟨xs,h1,Yfw h2 hg hv⟩
theorem Ye9.keptL {v:Value} {l:List Cel} (h:Ye9 L w v l) (hg:Yai M w x) (hr:∀k,some k∈M→some k∈L) (hv:∀k,v.ownBlock=some k→some k∉M):Ye9 L x v l:=
 Yc6.mono (Yc6.keptL h hg hv) fun _ _ hc=> hc.keptL hg hr
theorem Yhe.keptL {r:RowP} {vs:List Value} (h:Yhe L w r vs) (hg:Yai M w x) (hr:∀k,some k∈M→some k∈L):Yhe L x r vs:=by
 obtain ⟨sl,h1,h2,h3,h4⟩:=h
 exact ⟨sl,h1,h2.keptL hg hr (fun k e hk=> h4 k e (hr k hk)),h3,h4⟩
theorem Yek.keptL {v:Value} {l:List RowP} (h:Yek L w v l) (hg:Yai M w x) (hr:∀k,some k∈M→some k∈L) (hv:∀k,v.ownBlock=some k→some k∉M):Yek L x v l:=
 Yc6.mono (Yc6.keptL h hg hv) fun _ _ hc=> hc.keptL hg hr
theorem Ycf.keptL {l:List Int} {p:Option Addr} (h:Ycf w p l) (ha:∀a,p=some a→some a.block∉M) (hg:Yai M w x):Ycf x p l:=by
 rcases h with h | ⟨b,o,e,hlt,hc⟩
 ·exact .inl h
 ·refine .inr ⟨b,o,e,Nat.lt_of_lt_of_le hlt hg.size,fun i hi=> ?_⟩
  exact (World.cell?_of_block (a:=⟨b,o+i,none⟩) (hg.block b hlt (ha _ e))).trans (hc i hi)
end
theorem Y4x:∃Y:Array Value,Y.size=4∧∀w,(zeroValue 52).run Tryz.prog w = .ok (.agg Y) w:=⟨#[.int .i64 0,.int .i64 0,.int .i64 0,.int .i64 0],rfl,Yge (by kernel_rfl)⟩
theorem Ylv (k:Int):0≤Yfo k∧Yfo k≤100∧0≤Yf6 k∧Yf6 k≤100∧(acr k:Int)≤100:=by
 rcases Yc8 k with rfl | rfl | rfl | rfl | rfl | rfl | ⟨h,hv⟩
 case _ | _ | _ | _ | _ | _=> decide +kernel
 unfold Yfo Yf6 acr Yej Yix
 rw [hv]
 decide
theorem Yki {w w0:World} {N C:Nat} {T:TypeId} {Y Z:Array Value} (h:w.heap[C]? = some (.cells Y T (0,0))) (hb:Below N w0 w) (hC:N≤C) (hN:N≤w.heap.size):
  ∃w',w.setRow C Z=w'∧w'.heap[C]? = some (.cells Z T (0,0))∧Below N w0 w'∧w.grownBy w' (some C):=by
 have hg:w.grownBy (w.setRow C Z) (some C):=⟨rfl,rfl,rfl,by simp,fun k _ hk=> setRow_other _ _ _ _ (by intro e;exact hk (by rw [e]))⟩
 exact ⟨_,rfl,setRow_heap _ _ _ _ _ _ h,hb.grown hg hN (fun k hk=> by injection hk with hk;omega),hg⟩
theorem Yfe (c:Cel) (sl:Nat→Value) (h:∀i,i<6→(sl i).oneCell'=true):(Ya5 c sl).toArray.all (·.oneCell')=true:=by
 rw [Array.all_eq_true_iff_forall_mem]
 intro v hv
 have hm:v∈Ya5 c sl:=by simpa using hv
 simp only [Ya5,List.mem_cons,List.not_mem_nil,or_false] at hm
 rcases hm with rfl | rfl | rfl | rfl | rfl | rfl | rfl | rfl | rfl | rfl | rfl | rfl | rfl | rfl | rfl | rfl | rfl | rfl
 all_goals first | rfl | exact h _ (by omega)
theorem Yy9 {ops:Array Oper} {rest:List Oper} {op:Oper} {a:Act} {w:World} {Q:Exit→Act→World→Prop} (hgd:op.guard=none) (x:Operand) (ho:op.op = .load 45 x)
  (b o:Nat) (hx:a.eval x = .pointer (some ⟨b,o,none⟩)) (u v:Int) (hc:w.rangeAt b o [.int .i64 u,.int .i64 v]) (h:wpList Tryz.prog ops Q rest (a.put op.dst (.agg #[.int .i64 u,.int .i64 v])) w):wpList Tryz.prog ops Q (op::rest) a w:=
 wpList_load_mid hgd _ x ho b o hx [.int .i64 u,.int .i64 v] _ hc Tryz.underlying45 rfl (by kernel_rfl) h
theorem Yyl {Q:Nat→Option Addr→Nat→Prop} (h:∀i,i<6→∃P cap,Q i P cap):∃(p:Nat→Option Addr) (cap:Nat→Nat),∀i,i<6→Q i (p i) (cap i):=by
 refine ⟨fun i=> if h':i<6 then (h i h').choose else none,fun i=> if h':i<6 then (h i h').choose_spec.choose else 0,fun i hi=> ?_⟩
 simp only [dif_pos hi]
 exact (h i hi).choose_spec.choose_spec
theorem Yx7 {c:Cel} {sl sl':Nat→Value} (h:∀i,i<6→sl i=sl' i):Ya5 c sl=Ya5 c sl':=by
 unfold Ya5
 rw [h 0 (by omega),h 1 (by omega),h 2 (by omega),h 3 (by omega),h 4 (by omega),h 5 (by omega)]
theorem Yhz (w:World):(zeroValue 44).run Tryz.prog w = .ok (.agg [.bool false,.int .i64 0,.int .i64 0,.slice none 0 0].toArray) w:=Yge (by kernel_rfl) w
theorem Y6p {P:Program} {ops:Array Oper} {rest:List Oper} {S:World→Prop} {Q:Act→Prop} {o:Oper} {a:Act} (ty:TypeId) (x:Operand) (b p:Nat) (cs:List Value) (d:TypeDesc) (hw:Region.wanted o (yielded ops a.tmps)=true) (ho:o.op = .load ty x) (hx:a.eval x = .pointer (some ⟨b,p,none⟩))
  (hc:∀w,S w→w.rangeAt b p cs) (hu:P.underlying ty=some d) (hd:d.isRow=true) (hi:(P.info? ty).map (·.size)=some cs.length) (h:Yeo P ops S Q rest (a.put o.dst (.agg cs.toArray))):Yeo P ops S Q (o::rest) a:=
 Yad hw (fun w hS=> by
  unfold execOp
  simp only [ho,hx,Instr.loadAt,Instr.sureAddr,Sem.run_bind,Sem.run_pure,Result.andThen_ok,run_loadVar_mid w b p ty cs d (hc w hS) hu hd hi]) h
structure Ys7 (w0 w:World) (A X Z:Nat) (Y SZ:Array Value) (hd:Shd) (a:Option Addr) (ca:Nat) (rv vv:Value) (rs:List RowP) (vs:List (Int×Int)) (R:Nat) (b:Bool) (id qu:Int) (cv:Value) (cs:List Cel) (L1 L:List (Option Nat)):Prop where
 out:Ylb w0 w A X Z Y SZ hd a ca rv vv rs vs L
 rowc:w.heap[R]? = some (.cells [.bool b,.int .i64 id,.int .i64 qu,cv].toArray 44 (0,0))
 cel:Ye9 L w cv cs
 rin:some R∈L∧R≠X∧rv.ownBlock≠some R∧vv.ownBlock≠some R∧R<w.heap.size
 cin:∀k,cv.ownBlock=some k→some k∈L∧k≠X∧k≠R∧rv.ownBlock≠some k∧vv.ownBlock≠some k
 sub:(∀x,x∈L1→x∈L)∧some X∈L1∧(∀k,rv.ownBlock=some k→some k∈L1)∧∀k,vv.ownBlock=some k→some k∈L1
 lb:∀k,some k∈L→k<w.heap.size
 cvn:∀k,cv.ownBlock=some k→some k∉L1
section
variable {w0 w z:World} {A X Z R:Nat} {Y SZ:Array Value} {hd:Shd} {a:Option Addr} {ca:Nat} {rv vv rv' vv' cv cv':Value} {rs:List RowP} {vs:List (Int×Int)} {L L1 L':List (Option Nat)} {b:Bool} {id qu:Int} {cs:List Cel}
theorem Ys7.move (h:Ys7 w0 w A X Z Y SZ hd a ca rv vv rs vs R b id qu cv cs L1 L) (hb:Below w.heap.size w z):Ys7 w0 z A X Z Y SZ hd a ca rv vv rs vs R b id qu cv cs L1 L where
 out:=h.out.move hb
 rowc:=(hb.block R h.rin.2.2.2.2).trans h.rowc
 cel:=h.cel.kept (Yal hb none) (fun k hk=> by cases hk) fun k hk=> by cases hk
 rin:=⟨h.rin.1,h.rin.2.1,h.rin.2.2.1,h.rin.2.2.2.1,Nat.lt_of_lt_of_le h.rin.2.2.2.2 hb.size⟩
 cin:=h.cin
 sub:=h.sub
 lb:=fun k hk=> Nat.lt_of_lt_of_le (h.lb k hk) hb.size
 cvn:=h.cvn
theorem Ys7.vecs {v:Int×Int} (h:Ys7 w0 w A X Z Y SZ hd a ca rv vv rs vs R b id qu cv cs L1 L) (hg:w.grownBy z vv.ownBlock) (ho:z.ownsRow 0 45 2 vv' (vs.length+1) (Yxd vs ++ [.int .i64 v.1,.int .i64 v.2])) (hw:∀k,vv'.ownBlock=some k→vv.ownBlock=some k∨w.heap.size≤k):
  Ys7 w0 z A X Z Y SZ hd a ca rv vv' rs (vs ++ [v]) R b id qu cv cs (vv'.ownBlock::L1) (vv'.ownBlock::L):=by
 have hV:=fun k hk=> (h.out.inV k hk).1
 have hcl:=Yc6.lt h.cel
 have h1:∀k,k<w.heap.size→some k∉L→some k∉vv'.ownBlock::L:=fun k hk hn hm=> by
  rcases List.mem_cons.1 hm with e | e
  ·rcases hw k e.symm with h2 | h2
   ·exact hn (hV k h2)
   ·omega
  ·exact hn e
 exact {
  out:=h.out.vecs hg ho hw
  rowc:=(hg.block R h.rin.2.2.2.2 fun e=> h.rin.2.2.2.1 e.symm).trans h.rowc
  cel:=Ye9.kept (h.cel.mono h1) hg (fun k hk=> List.mem_cons_of_mem _ (hV k hk)) fun k hk e=> (h.cin k e).2.2.2.2 hk
  rin:=⟨List.mem_cons_of_mem _ h.rin.1,h.rin.2.1,h.rin.2.2.1,(fun e=> by
   rcases hw R e with h2 | h2
   ·exact h.rin.2.2.2.1 h2
   ·have:=h.rin.2.2.2.2;omega),Nat.lt_of_lt_of_le h.rin.2.2.2.2 hg.size⟩
  cin:=fun k hk=> ⟨List.mem_cons_of_mem _ (h.cin k hk).1,(h.cin k hk).2.1,(h.cin k hk).2.2.1,(h.cin k hk).2.2.2.1,fun e=> by
   rcases hw k e with h2 | h2
   ·exact (h.cin k hk).2.2.2.2 h2
   ·have:=hcl k hk;omega⟩
  sub:=⟨fun x hx=> by
   rcases List.mem_cons.1 hx with e | e
   ·rw [e];exact List.mem_cons_self ..
   ·exact List.mem_cons_of_mem _ (h.sub.1 x e),List.mem_cons_of_mem _ h.sub.2.1,fun k hk=> List.mem_cons_of_mem _ (h.sub.2.2.1 k hk),fun k hk=> by rw [←hk];exact List.mem_cons_self ..⟩
  lb:=fun k hk=> by
   rcases List.mem_cons.1 hk with e | e
   ·exact (ho.lt k e.symm).2
   ·exact Nat.lt_of_lt_of_le (h.lb k e) hg.size
  cvn:=fun k hk hm=> by
   rcases List.mem_cons.1 hm with e | e
   ·rcases hw k e.symm with h2 | h2
    ·exact (h.cin k hk).2.2.2.2 h2
    ·have:=hcl k hk;omega
   ·exact h.cvn k hk e}
theorem Ys7.cels {c:Cel} (h:Ys7 w0 w A X Z Y SZ hd a ca rv vv rs vs R b id qu cv cs L1 L) (hg:w.grownBy z cv.ownBlock) (ho:Yc6 18 50 (Yha L w) z 0 cv' (cs ++ [c])) (hw:∀k,cv'.ownBlock=some k→cv.ownBlock=some k∨w.heap.size≤k):
  Ys7 w0 (z.setCell ⟨R,3,none⟩ cv') A X Z Y SZ hd a ca rv vv rs vs R b id qu cv' (cs ++ [c]) L1 (cv'.ownBlock::L):=by
 have hC:=fun k hk=> (h.cin k hk).1
 have o:=h.out.ord
 have hlow:=h.out.low.size
 have hvl:∀k,vv.ownBlock=some k→k<w.heap.size:=fun k hk=> (h.out.vec.lt k hk).2
 have hrl:=Yc6.lt h.out.row
 have h1:∀k,k<w.heap.size→some k∉L→some k∉cv'.ownBlock::L:=fun k hk hn hm=> by
  rcases List.mem_cons.1 hm with e | e
  ·rcases hw k e.symm with h2 | h2
   ·exact hn (hC k h2)
   ·omega
  ·exact hn e
 have hnew:∀k,cv'.ownBlock=some k→k≠X∧k≠R∧rv.ownBlock≠some k∧vv.ownBlock≠some k∧w0.heap.size≤k∧k≠A∧k≠Z:=fun k hk=> by
  rcases hw k hk with h2 | h2
  ·obtain ⟨a1,a2,a3,a4,a5⟩:=h.cin k h2
   exact ⟨a2,a3,a4,a5,h.out.off k a1⟩
  ·have:=h.rin.2.2.2.2
   exact ⟨by omega,by omega,fun e=> by have:=hrl k e;omega,fun e=> by have:=hvl k e;omega,by omega,by omega,by omega⟩
 have hgs:=Yam z ⟨R,3,none⟩ cv'
 have hz:=hg.size
 have hRz:z.heap[R]? = some (.cells [.bool b,.int .i64 id,.int .i64 qu,cv].toArray 44 (0,0)):=(hg.block R h.rin.2.2.2.2 fun e=> (h.cin R e.symm).2.2.1 rfl).trans h.rowc
 have hout:Ylb w0 w A X Z Y SZ hd a ca rv vv rs vs (cv'.ownBlock::L):=h.out.mono h1 (List.mem_cons_of_mem _ h.out.inX) (fun k hk=> List.mem_cons_of_mem _ (h.out.inR k hk).1) (fun k hk=> List.mem_cons_of_mem _ (h.out.inV k hk).1) fun k hk=> by
  rcases List.mem_cons.1 hk with e | e
  ·exact (hnew k e.symm).2.2.2.2
  ·exact h.out.off k e
 have h2:=hout.grow hg fun k hk=> ⟨List.mem_cons_of_mem _ (hC k hk),(h.cin k hk).2.1,(h.cin k hk).2.2.2.1,(h.cin k hk).2.2.2.2⟩
 have h3:=h2.grow hgs fun k hk=> by
  injection hk with hk
  subst hk
  exact ⟨List.mem_cons_of_mem _ h.rin.1,h.rin.2.1,h.rin.2.2.1,h.rin.2.2.2.1⟩
 have hcel:Ye9 (cv'.ownBlock::L) z cv' (cs ++ [c]):=Yc6.mono ho fun _ _ hv=> (hv.mono h1).kept hg fun k hk=> List.mem_cons_of_mem _ (hC k hk)
 exact {
  out:=h3
  rowc:=Yau (o:=3) cv' hRz
  cel:=hcel.kept hgs (fun k hk=> by injection hk with hk;subst hk;exact List.mem_cons_of_mem _ h.rin.1) fun k hk e=> by
   injection hk with hk
   subst hk
   exact (hnew _ e).2.1 rfl
  rin:=⟨List.mem_cons_of_mem _ h.rin.1,h.rin.2.1,h.rin.2.2.1,h.rin.2.2.2.1,by have:=h.rin.2.2.2.2;have:=hgs.size;omega⟩
  cin:=fun k hk=> ⟨by rw [←hk];exact List.mem_cons_self ..,(hnew k hk).1,(hnew k hk).2.1,(hnew k hk).2.2.1,(hnew k hk).2.2.2.1⟩
  sub:=⟨fun x hx=> List.mem_cons_of_mem _ (h.sub.1 x hx),h.sub.2⟩
  lb:=fun k hk=> by
   have:=hgs.size
   rcases List.mem_cons.1 hk with e | e
   ·have:=Yc6.lt hcel k e.symm;omega
   ·have:=h.lb k e;omega
  cvn:=fun k hk hm=> by
   rcases hw k hk with h4 | h4
   ·exact h.cvn k h4 hm
   ·have:=h.lb k (h.sub.1 _ hm);omega}
theorem Ys7.done (h:Ys7 w0 w A X Z Y SZ hd a ca rv vv rs vs R b id qu cv cs L1 L) (hl:cs.length≤maxLen):Ylb w0 w A X Z Y SZ hd a ca rv vv rs vs L1∧Yhe L1 w ⟨b,id,qu,cs⟩ [.bool b,.int .i64 id,.int .i64 qu,cv]∧∀k,some k∈L1→k<w.heap.size:=by
 have hs:∀k,k<w.heap.size→some k∉L→some k∉L1:=fun k _ hn hm=> hn (h.sub.1 _ hm)
 exact ⟨h.out.mono hs h.sub.2.1 h.sub.2.2.1 h.sub.2.2.2 fun k hk=> h.out.off k (h.sub.1 _ hk),⟨cv,rfl,h.cel.mono hs,hl,h.cvn⟩,fun k hk=> h.lb k (h.sub.1 _ hk)⟩
theorem Ylb.begins (h:Ylb w0 w A X Z Y SZ hd a ca rv vv rs vs L) (hl:∀k,some k∈L→k<w.heap.size):
  Ys7 w0 (w.alloc (.cells [.bool false,.int .i64 0,.int .i64 0,.slice none 0 0].toArray 44 (0,0))) A X Z Y SZ hd a ca rv vv rs vs w.heap.size false 0 0 (.slice none 0 0) [] L (some w.heap.size::L) where
 out:=(h.more (Nat.le_refl _)).move ((Below.refl _ w).alloc (Nat.le_refl _) _)
 rowc:=heap_alloc_new w _
 cel:=Ye9.nil _ _
 rin:=⟨List.mem_cons_self ..,by have:=h.ord;omega,(fun e=> by have:=Yc6.lt h.row _ e;omega),(fun e=> by have:=(h.vec.lt _ e).2;omega),by simp⟩
 cin:=fun k hk=> by cases hk
 sub:=⟨fun x hx=> List.mem_cons_of_mem _ hx,h.inX,fun k hk=> (h.inR k hk).1,fun k hk=> (h.inV k hk).1⟩
 lb:=fun k hk=> by
  rcases List.mem_cons.1 hk with e | e
  ·injection e with e;rw [e];simp
  ·have:=hl k e;simp;omega
 cvn:=fun k hk=> by cases hk
theorem Ys7.head (h:Ys7 w0 w A X Z Y SZ hd a ca rv vv rs vs R false 0 0 (.slice none 0 0) [] L1 L) (hh:z.heap[R]? = some (.cells [.bool b,.int .i64 id,.int .i64 qu,.slice none 0 0].toArray 44 (0,0))) (hg:w.grownBy z (some R)):Ys7 w0 z A X Z Y SZ hd a ca rv vv rs vs R b id qu (.slice none 0 0) [] L1 L where
 out:=h.out.grow hg fun k hk=> by
  injection hk with hk
  subst hk
  exact ⟨h.rin.1,h.rin.2.1,h.rin.2.2.1,h.rin.2.2.2.1⟩
 rowc:=hh
 cel:=Ye9.nil _ _
 rin:=⟨h.rin.1,h.rin.2.1,h.rin.2.2.1,h.rin.2.2.2.1,Nat.lt_of_lt_of_le h.rin.2.2.2.2 hg.size⟩
 cin:=fun k hk=> by cases hk
 sub:=h.sub
 lb:=fun k hk=> Nat.lt_of_lt_of_le (h.lb k hk) hg.size
 cvn:=fun k hk=> by cases hk
end
end Go.Proofs.YtpgdngijmihafaaGreatDoor