/- Part 49 of StripsOnce. No condition. -/
import Derived.Test.YtjjmalchelniiaaGreatDoorStripsOnceMz
import Derived.Test.YtjjmalchelniiaaGreatDoorStripsOnceMbl
import Derived.Test.YtjjmalchelniiaaGreatDoorStripsOnceMbs
namespace Go.Proofs.YtjjmalchelniiaaGreatDoor
open Go.RowKit Go.Lib
def Qid (rb:Nat)(k:Int)(inter:Bool)(vv:Value)(first:Int):List Value:=[.pointer (some ⟨rb,0,none⟩),.int .i64 k,.int .i64 (Yhx k),.int .i64 (Yjv k),.int .i64 (Yd0 k),.bool inter,vv,.int .i64 first]
structure Ycq (w:World) (G rb:Nat) (s:ByteArray) (p:Nat) (k:Int) (inter:Bool) (vv:Value) (vs:List (Int×Int)) (first:Int):Prop where
 blk:w.heap[G]? =some (.cells (Qid rb k inter vv first).toArray 157 (0,0))
 rd:Yba w rb s p
 vec:w.ownsRow 0 73 2 vv vs.length (Y6e vs)
 ne:G≠rb∧∀j,vv.ownBlock=some j→j≠G∧j≠rb
section
variable {w z:World}{G rb p q:Nat}{s:ByteArray}{k:Int}{inter:Bool}{vv vv':Value}{vs:List (Int×Int)}{first first':Int}{M:List (Option Nat)}{row:Option Nat}
theorem Ycq.lt (h:Ycq w G rb s p k inter vv vs first):G<w.heap.size∧rb<w.heap.size∧∀j,vv.ownBlock=some j→j<w.heap.size:=
 ⟨(Array.getElem?_eq_some_iff.1 h.blk).1,h.rd.lt,fun j hj=>(h.vec.lt j hj).2⟩
theorem Ycq.cell (h:Ycq w G rb s p k inter vv vs first){o:Nat}{v:Value}(hv:(Qid rb k inter vv first)[o]? =some v):w.cell? ⟨G,o,none⟩=some v:=Yab h.blk hv
theorem Ycq.keptL (h:Ycq w G rb s p k inter vv vs first)(hg:Yae M w z)(hG:some G∉M)(hr:some rb∉M)(hv:∀j,vv.ownBlock=some j→some j∉M):Ycq z G rb s p k inter vv vs first where
 blk:=(hg.block G h.lt.1 hG).trans h.blk
 rd:=⟨(hg.block rb h.lt.2.1 hr).trans h.rd.1,h.rd.2⟩
 vec:=Yex h.vec hg hv
 ne:=h.ne
theorem Ycq.below (h:Ycq w G rb s p k inter vv vs first)(hb:Below w.heap.size w z):Ycq z G rb s p k inter vv vs first:=
 h.keptL (M:=[]) (Yae.below hb) (by simp) (by simp) (by simp)
theorem Ycq.reads (h:Ycq w G rb s p k inter vv vs first)(hg:w.grownBy z (some rb))(hr:Yba z rb s q):Ycq z G rb s q k inter vv vs first where
 blk:=(hg.block G h.lt.1 fun e=>by injection e with e;exact h.ne.1 e).trans h.blk
 rd:=hr
 vec:=Yex h.vec (M:=[some rb]) (Yae.one hg fun j _ e=>by rw[e];exact List.mem_singleton.2 rfl) fun j hj hm=>by
  have e:=List.mem_singleton.1 hm;injection e with e;exact(h.ne.2 j hj).2 e
 ne:=h.ne
theorem Ycq.lines (h:Ycq w G rb s p k inter vv vs first):Ycq (w.setCell ⟨G,7,none⟩ (.int .i64 first')) G rb s p k inter vv vs first' where
 blk:=Yau (o:=7) _ h.blk
 rd:=⟨by rw[Below.heap_setCell _ _ _ _ (fun e=>h.ne.1 e.symm)];exact h.rd.1,h.rd.2⟩
 vec:=Yex h.vec (M:=[some G]) (Yae.set _ (List.mem_singleton.2 rfl)) fun j hj hm=>by
  have e:=List.mem_singleton.1 hm;injection e with e;exact(h.ne.2 j hj).1 e
 ne:=h.ne
theorem Ycq.vecs {v:Int×Int}(h:Ycq w G rb s p k inter vv vs first)(hg:w.grownBy z vv.ownBlock)(ho:z.ownsRow 0 73 2 vv' (vs.length+1) (Y6e vs++[.int .i64 v.1,.int .i64 v.2]))(hw:∀j,vv'.ownBlock=some j→vv.ownBlock=some j∨w.heap.size≤j):
  Ycq (z.setCell ⟨G,6,none⟩ vv') G rb s p k inter vv' (vs++[v]) first:=by
 obtain⟨l1,l2,-⟩:=h.lt;have hn:∀j,vv'.ownBlock=some j→j≠G∧j≠rb:=fun j hj=>by
  rcases hw j hj with e|e
  ·exact h.ne.2 j e
  ·omega
 have hG:z.heap[G]? =some (.cells (Qid rb k inter vv first).toArray 157 (0,0)):=(hg.block G l1 fun e=>(h.ne.2 G e.symm).1 rfl).trans h.blk;exact{
  blk:=Yau (o:=6) vv' hG
  rd:=⟨by rw[Below.heap_setCell _ _ _ _ (fun e=>h.ne.1 e.symm),hg.block rb l2 fun e=>(h.ne.2 rb e.symm).2 rfl];exact h.rd.1,h.rd.2⟩
  vec:=by
   rw[List.length_append,Yx9];exact Yex ho (M:=[some G]) (Yae.set _ (List.mem_singleton.2 rfl)) fun j hj hm=>by
    have e:=List.mem_singleton.1 hm;injection e with e;exact(hn j hj).1 e
  ne:=⟨h.ne.1,hn⟩}
end
def Yqb (rb G:Nat)(vv:Value):List (Option Nat):=[some rb,some G,vv.ownBlock]
def Y6s (s:ByteArray)(G rb p:Nat)(k:Int)(inter:Bool)(vv:Value)(vs:List (Int×Int))(first:Int)(w:World)(e:Ending)(w':World):Prop:=
 ∃(c:Cel) (q:Nat) (f g:Int) (sl:Nat→Value),ctk inter (Yad s.data.toList) (Yd3 vs (Yd0 k) first).1 (Yd3 vs (Yd0 k) first).2 p=(c,q,f)∧g=(if f≠0 then f else if Ycm k vs.length c=false then 8 else 0)∧
  e=.returned (.tuple #[.agg (Ybd c sl).toArray,.int .i64 g])∧(∀i,i<6→(sl i).oneCell'=true)∧Yae (Yqb rb G vv) w w'∧(∃q',Yba w' rb s q')∧
  (g=0→∃vv',Ycq w' G rb s q k inter vv' (vs++[(c.mx,c.my)]) first∧(∀j,vv'.ownBlock=some j→vv.ownBlock=some j∨w.heap.size≤j)∧∀L:List (Option Nat),(∀j,some j∈L→j<w.heap.size)→Yk8 (vv'.ownBlock::L) w' c (Ybd c sl))
def Y29 (s:ByteArray)(G rb p:Nat)(k:Int)(inter:Bool)(vv:Value)(vs:List (Int×Int))(first:Int)(i:Nat)(w:World)(e:Ending)(w':World):Prop:=
 ∃(b:Bool) (id qu:Int) (z:Nat) (fs f:Int) (cs:List Cel) (q:Nat) (h g:Int),Yi2 s.data.toList k i p first=(b,id,qu,z,fs,f)∧Ydj ctk s.data.toList inter k fs (Yf6 k).toNat z vs=(cs,q,h)∧g=(if f≠0 then f else h)∧
  ∃rw:List Value,e=.returned (.tuple #[.agg rw.toArray,.int .i64 g])∧(rw.length=4∧∀u∈rw,u.oneCell'=true)∧Yae (Yqb rb G vv) w w'∧(∃q',Yba w' rb s q')∧
  (g=0→∃vv',Ycq w' G rb s q k inter vv' (vs++Ydl cs) fs∧(∀j,vv'.ownBlock=some j→vv.ownBlock=some j∨w.heap.size≤j)∧∀L:List (Option Nat),(∀j,some j∈L→j<w.heap.size)→Yl6 (vv'.ownBlock::L) w' ⟨b,id,qu,cs⟩ rw)
theorem Ydf {rb G:Nat}{vv:Value}{j:Nat}:some j∈Yqb rb G vv↔j=rb∨j=G∨vv.ownBlock=some j:=by
 simp only[Yqb,List.mem_cons,List.not_mem_nil,or_false,Option.some.injEq];constructor
 ·rintro(h|h|h)
  ·exact .inl h
  ·exact .inr (.inl h)
  ·exact .inr (.inr h.symm)
 ·rintro(h|h|h)
  ·exact .inl h
  ·exact .inr (.inl h)
  ·exact .inr (.inr h.symm)
def Y2a (A X n:Nat)(vv cv:Value):List (Option Nat):=vv.ownBlock::some A::some X::cv.ownBlock::Yu3 n
theorem Ycs {A X n j:Nat}{vv cv:Value}:some j∈Y2a A X n vv cv↔vv.ownBlock=some j∨j=A∨j=X∨cv.ownBlock=some j∨j<n:=by
 simp only[Y2a,List.mem_cons,Yfe,Option.some.injEq];constructor
 ·rintro(h|h|h|h|h)
  ·exact .inl h.symm
  ·exact .inr (.inl h)
  ·exact .inr (.inr (.inl h))
  ·exact .inr (.inr (.inr (.inl h.symm)))
  ·exact .inr (.inr (.inr (.inr h)))
 ·rintro(h|h|h|h|h)
  ·exact .inl h.symm
  ·exact .inr (.inl h)
  ·exact .inr (.inr (.inl h))
  ·exact .inr (.inr (.inr (.inl h.symm)))
  ·exact .inr (.inr (.inr (.inr h)))
structure Yyn (w0 w:World) (G rb A X:Nat) (s:ByteArray) (q:Nat) (k:Int) (inter:Bool) (vv0 vv cv:Value) (vz:List (Int×Int)) (fs:Int) (Y:Array Value) (b:Bool) (id qu:Int) (cs:List Cel):Prop where
 rdr:Ycq w G rb s q k inter vv vz fs
 res:w.heap[A]? =some (.cells Y 46 (0,0))
 row:w.heap[X]? =some (.cells [.bool b,.int .i64 id,.int .i64 qu,cv].toArray 46 (0,0))
 cel:Yhk (Y2a A X w0.heap.size vv cv) w cv cs
 ord:w0.heap.size≤A∧A<X∧X<w.heap.size
 low:G<w0.heap.size∧rb<w0.heap.size∧∀j,vv0.ownBlock=some j→j<w0.heap.size
 own:∀j,vv.ownBlock=some j→(vv0.ownBlock=some j∨w0.heap.size≤j)∧j≠A∧j≠X
 cown:∀j,cv.ownBlock=some j→w0.heap.size≤j∧j≠A∧j≠X∧vv.ownBlock≠some j
 grown:Yae (Yqb rb G vv0) w0 w
section
variable {w0 w z:World}{G rb A X q q':Nat}{s:ByteArray}{k:Int}{inter:Bool}{vv0 vv vv' cv cv':Value}{vz vz':List (Int×Int)}{fs:Int}{Y:Array Value}{b:Bool}{id qu:Int}{cs:List Cel}{c:Cel}
theorem Yyn.cell (h:Yyn w0 w G rb A X s q k inter vv0 vv cv vz fs Y b id qu cs)(hr:Ycq z G rb s q' k inter vv' vz' fs)(hg:Yae (Yqb rb G vv) w z)(hw:∀j,vv'.ownBlock=some j→vv.ownBlock=some j∨w.heap.size≤j):
  Yyn w0 z G rb A X s q' k inter vv0 vv' cv vz' fs Y b id qu cs:=by
 obtain⟨o1,o2,o3⟩:=h.ord;obtain⟨l1,l2,-⟩:=h.low;have hcl:=Ydx.lt h.cel;have hnot:∀j,w0.heap.size≤j→vv.ownBlock≠some j→some j∉Yqb rb G vv:=fun j h1 h2 hm=>by
  rcases Ydf.1 hm with e|e|e
  ·omega
  ·omega
  ·exact h2 e
 have hA:some A∉Yqb rb G vv:=hnot A o1 fun e=>(h.own A e).2.1 rfl;have hX:some X∉Yqb rb G vv:=hnot X (by omega) fun e=>(h.own X e).2.2 rfl;have hcel:Yhk (vv'.ownBlock::Y2a A X w0.heap.size vv cv) w cv cs:=h.cel.mono fun j hj hn hm=>by
  rcases List.mem_cons.1 hm with e|e
  ·rcases hw j e.symm with h1|h1
   ·exact hn (Ycs.2 (.inl h1))
   ·omega
  ·exact hn e
 have hcel2:Yhk (vv'.ownBlock::Y2a A X w0.heap.size vv cv) z cv cs:=hcel.keptL hg (fun j hm=>List.mem_cons_of_mem _ (Ycs.2 (by
  rcases Ydf.1 hm with e|e|e
  ·omega
  ·omega
  ·exact .inl e))) fun j hj=>hnot j (h.cown j hj).1 (h.cown j hj).2.2.2
 exact{
  rdr:=hr
  res:=(hg.block A (by omega) hA).trans h.res
  row:=(hg.block X o3 hX).trans h.row
  cel:=hcel2.mono fun j _ hn hm=>hn (by
   rcases Ycs.1 hm with e|e
   ·rw[e];exact List.mem_cons_self ..
   ·exact List.mem_cons_of_mem _ (Ycs.2 (.inr e)))
  ord:=⟨o1,o2,Nat.lt_of_lt_of_le o3 hg.size⟩
  low:=h.low
  own:=fun j hj=>by
   rcases hw j hj with h1|h1
   ·exact h.own j h1
   ·have:=h.grown.size;exact⟨.inr (by omega),by omega,by omega⟩
  cown:=fun j hj=>⟨(h.cown j hj).1,(h.cown j hj).2.1,(h.cown j hj).2.2.1,fun e=>by
   rcases hw j e with h1|h1
   ·exact(h.cown j hj).2.2.2 h1
   ·have:=hcl j hj;omega⟩
  grown:=h.grown.trans hg fun j hj hm=>Ydf.2 (by
   rcases Ydf.1 hm with e|e|e
   ·exact .inl e
   ·exact .inr (.inl e)
   ·rcases (h.own j e).1 with h1|h1
    ·exact .inr (.inr h1)
    ·omega)}
theorem Yyn.below (h:Yyn w0 w G rb A X s q k inter vv0 vv cv vz fs Y b id qu cs)(hb:Below w.heap.size w z):Yyn w0 z G rb A X s q k inter vv0 vv cv vz fs Y b id qu cs:=
 h.cell (h.rdr.below hb) (Yae.below hb) fun _ hj=>.inl hj
theorem Yyn.app (h:Yyn w0 w G rb A X s q k inter vv0 vv cv vz fs Y b id qu cs)(hg:w.grownBy z cv.ownBlock)(ho:Ydx 18 77 (Yk8 (Y2a A X w0.heap.size vv cv) w) z 0 cv' (cs++[c]))(hw:∀j,cv'.ownBlock=some j→cv.ownBlock=some j∨w.heap.size≤j):
  Yyn w0 (z.setCell ⟨X,3,none⟩ cv') G rb A X s q k inter vv0 vv cv' vz fs Y b id qu (cs++[c]):=by
 obtain⟨o1,o2,o3⟩:=h.ord;obtain⟨l1,l2,l3⟩:=h.low;have hz:=hg.size;have hlt:=h.rdr.lt;have hws:=h.grown.size;have hcl:=Ydx.lt h.cel;have gz:Yae [cv.ownBlock] w z:=Yae.one hg fun j _ e=>by rw[e];exact List.mem_singleton.2 rfl
 have gs:Yae [some X] z (z.setCell ⟨X,3,none⟩ cv'):=Yae.set _ (List.mem_singleton.2 rfl);have g2:Yae [cv.ownBlock,some X] w (z.setCell ⟨X,3,none⟩ cv'):=(gz.mono fun j _ hm=>by rw[List.mem_singleton.1 hm];exact List.mem_cons_self ..).trans gs fun j _ hm=>by rw[List.mem_singleton.1 hm];exact List.mem_cons_of_mem _ (List.mem_singleton.2 rfl)
 have mem2:∀j,some j∈[cv.ownBlock,some X]→w0.heap.size≤j∧j≠A∧vv.ownBlock≠some j:=fun j hm=>by
  rcases List.mem_cons.1 hm with e|e
  ·have:=h.cown j e.symm;exact⟨this.1,this.2.1,this.2.2.2⟩
  ·have e:=List.mem_singleton.1 e;injection e with e;subst e;exact⟨by omega,by omega,fun e=>(h.own j e).2.2 rfl⟩
 have hcn:∀j,cv'.ownBlock=some j→w0.heap.size≤j∧j≠A∧j≠X∧vv.ownBlock≠some j:=fun j hj=>by
  rcases hw j hj with h1|h1
  ·exact h.cown j h1
  ·exact⟨by omega,by omega,by omega,fun e=>by have:=hlt.2.2 j e;omega⟩
 have hcel:Ydx 18 77 (Yk8 (Y2a A X w0.heap.size vv cv') (z.setCell ⟨X,3,none⟩ cv')) z 0 cv' (cs++[c]):=Ydx.mono ho fun a vs hv=>by
  have h1:Yk8 (cv'.ownBlock::Y2a A X w0.heap.size vv cv) w a vs:=hv.mono fun j hj hn hm=>by
   rcases List.mem_cons.1 hm with e|e
   ·rcases hw j e.symm with h2|h2
    ·exact hn (Ycs.2 (.inr (.inr (.inr (.inl h2)))))
    ·omega
   ·exact hn e
  have h2:Yk8 (cv'.ownBlock::Y2a A X w0.heap.size vv cv) (z.setCell ⟨X,3,none⟩ cv') a vs:=h1.keptL g2 fun j hm=>by
   refine List.mem_cons_of_mem _ ?_;rcases List.mem_cons.1 hm with e|e
   ·exact Ycs.2 (.inr (.inr (.inr (.inl e.symm))))
   ·have e:=List.mem_singleton.1 e;injection e with e;exact Ycs.2 (.inr (.inr (.inl e)))
  refine h2.mono fun j _ hn hm=>hn ?_;rcases Ycs.1 hm with e|e|e|e|e
  ·exact List.mem_cons_of_mem _ (Ycs.2 (.inl e))
  ·exact List.mem_cons_of_mem _ (Ycs.2 (.inr (.inl e)))
  ·exact List.mem_cons_of_mem _ (Ycs.2 (.inr (.inr (.inl e))))
  ·rw[e];exact List.mem_cons_self ..
  ·exact List.mem_cons_of_mem _ (Ycs.2 (.inr (.inr (.inr (.inr e)))))
 exact{
  rdr:=h.rdr.keptL g2 (fun hm=>by have:=(mem2 G hm).1;omega) (fun hm=>by have:=(mem2 rb hm).1;omega) fun j hj hm=>(mem2 j hm).2.2 hj
  res:=(g2.block A (by omega) fun hm=>(mem2 A hm).2.1 rfl).trans h.res
  row:=Yau (o:=3) cv' ((hg.block X o3 fun e=>(h.cown X e.symm).2.2.1 rfl).trans h.row)
  cel:=Ydx.keptL hcel gs fun j hj hm=>by
   have e:=List.mem_singleton.1 hm;injection e with e;exact(hcn j hj).2.2.1 e
  ord:=⟨o1,o2,by have:=gs.size;omega⟩
  low:=h.low
  own:=h.own
  cown:=hcn
  grown:=h.grown.trans g2 fun j hj hm=>by have:=(mem2 j hm).1;omega}
theorem Yyn.bad (h:Yyn w0 w G rb A X s q k inter vv0 vv cv vz fs Y b id qu cs)(hg:Yae (Yqb rb G vv) w z):z.heap[A]? =some (.cells Y 46 (0,0))∧z.heap[X]? =some (.cells [.bool b,.int .i64 id,.int .i64 qu,cv].toArray 46 (0,0))∧Yae (Yqb rb G vv0) w0 z:=by
 obtain⟨o1,o2,o3⟩:=h.ord;obtain⟨l1,l2,-⟩:=h.low;have hnot:∀j,w0.heap.size≤j→vv.ownBlock≠some j→some j∉Yqb rb G vv:=fun j h1 h2 hm=>by
  rcases Ydf.1 hm with e|e|e
  ·omega
  ·omega
  ·exact h2 e
 refine⟨(hg.block A (by omega) (hnot A o1 fun e=>(h.own A e).2.1 rfl)).trans h.res,(hg.block X o3 (hnot X (by omega) fun e=>(h.own X e).2.2 rfl)).trans h.row,h.grown.trans hg fun j hj hm=>Ydf.2 ?_⟩;rcases Ydf.1 hm with e|e|e
 ·exact .inl e
 ·exact .inr (.inl e)
 ·rcases (h.own j e).1 with h1|h1
  ·exact .inr (.inr h1)
  ·omega
theorem Yyn.done (h:Yyn w0 w G rb A X s q k inter vv0 vv cv vz fs Y b id qu cs)(hl:cs.length≤maxLen)(hg:w.grownBy z (some A)):
  Ycq z G rb s q k inter vv vz fs∧(∀j,vv.ownBlock=some j→vv0.ownBlock=some j∨w0.heap.size≤j)∧Yae (Yqb rb G vv0) w0 z∧∀L:List (Option Nat),(∀j,some j∈L→j<w0.heap.size)→Yl6 (vv.ownBlock::L) z ⟨b,id,qu,cs⟩ [.bool b,.int .i64 id,.int .i64 qu,cv]:=by
 obtain⟨o1,o2,o3⟩:=h.ord;obtain⟨l1,l2,l3⟩:=h.low;have gA:Yae [some A] w z:=Yae.one hg fun j _ e=>by rw[e];exact List.mem_singleton.2 rfl
 have mA:∀j,some j∈[some A]→j=A:=fun j hm=>by have e:=List.mem_singleton.1 hm;injection e with e
 refine⟨h.rdr.keptL gA (fun hm=>by have:=mA G hm;omega) (fun hm=>by have:=mA rb hm;omega) fun j hj hm=>(h.own j hj).2.1 (mA j hm),fun j hj=>(h.own j hj).1,h.grown.trans gA fun j hj hm=>by have:=mA j hm;omega,fun L hL=>?_⟩;have hc:Yhk (Y2a A X w0.heap.size vv cv) z cv cs:=h.cel.keptL gA (fun j hm=>Ycs.2 (.inr (.inl (mA j hm)))) fun j hj hm=>(h.cown j hj).2.1 (mA j hm)
 refine⟨cv,rfl,hc.mono fun j _ hn hm=>hn ?_,hl,fun j hj hm=>?_⟩
 ·rcases List.mem_cons.1 hm with e|e
  ·exact Ycs.2 (.inl e.symm)
  ·exact Ycs.2 (.inr (.inr (.inr (.inr (hL j e)))))
 ·rcases List.mem_cons.1 hm with e|e
  ·exact(h.cown j hj).2.2.2 e.symm
  ·have:=hL j e;have:=(h.cown j hj).1;omega
end
theorem Ydw.keptS {w x:World}{M:List (Option Nat)}{l:List Int}{p:Option Addr}(h:Ydw w p l)(ha:l=[]∨∀y,p=some y→some y.block∉M)(hg:Yae M w x):Ydw x p l:=by
 rcases ha with rfl|ha
 ·exact Ydw.nil _ _
 ·exact h.keptL ha hg
def Yyj (A X G n:Nat)(vv rv:Value):List (Option Nat):=vv.ownBlock::some A::some X::some G::rv.ownBlock::Yu3 n
theorem Ybl {A X G n j:Nat}{vv rv:Value}:some j∈Yyj A X G n vv rv↔vv.ownBlock=some j∨j=A∨j=X∨j=G∨rv.ownBlock=some j∨j<n:=by
 simp only[Yyj,List.mem_cons,Yfe,Option.some.injEq];constructor
 ·rintro(h|h|h|h|h|h)
  ·exact .inl h.symm
  ·exact .inr (.inl h)
  ·exact .inr (.inr (.inl h))
  ·exact .inr (.inr (.inr (.inl h)))
  ·exact .inr (.inr (.inr (.inr (.inl h.symm))))
  ·exact .inr (.inr (.inr (.inr (.inr h))))
 ·rintro(h|h|h|h|h|h)
  ·exact .inl h.symm
  ·exact .inr (.inl h)
  ·exact .inr (.inr (.inl h))
  ·exact .inr (.inr (.inr (.inl h)))
  ·exact .inr (.inr (.inr (.inr (.inl h.symm))))
  ·exact .inr (.inr (.inr (.inr (.inr h))))
structure Yva (w0 w:World) (G rb A X:Nat) (s:ByteArray) (q:Nat) (hd:Shd) (a:Option Addr) (ca:Nat) (vv rv:Value) (vs:List (Int×Int)) (fs:Int) (Y:Array Value) (rs:List RowP):Prop where
 rdr:Ycq w G rb s q hd.fmt hd.inter vv vs fs
 res:w.heap[A]? =some (.cells Y 39 (0,0))
 sht:w.heap[X]? =some (.cells (Ya5 hd (.slice a hd.supp.length ca) rv 0).toArray 39 (0,0))
 row:Yj0 (Yyj A X G w0.heap.size vv rv) w rv rs
 sup:Ydw w a hd.supp
 supn:hd.supp=[]∨∀x,a=some x→x.block<w.heap.size∧some x.block∉Yyj A X G w0.heap.size vv rv
 ord:w0.heap.size≤A∧A<X∧X<G∧G<w.heap.size
 low:rb<w0.heap.size
 own:∀j,vv.ownBlock=some j→w0.heap.size≤j∧j≠A∧j≠X
 rown:∀j,rv.ownBlock=some j→w0.heap.size≤j∧j≠A∧j≠X∧j≠G∧vv.ownBlock≠some j
 grown:Yae [some rb] w0 w
section
variable {w0 w z:World}{G rb A X q q':Nat}{s:ByteArray}{hd:Shd}{a:Option Addr}{ca:Nat}{vv vv' rv rv':Value}{vs vs':List (Int×Int)}{fs fs':Int}{Y:Array Value}{rs:List RowP}{r:RowP}
theorem Yva.call (h:Yva w0 w G rb A X s q hd a ca vv rv vs fs Y rs)(hr:Ycq z G rb s q' hd.fmt hd.inter vv' vs' fs')(hg:Yae (Yqb rb G vv) w z)(hw:∀j,vv'.ownBlock=some j→vv.ownBlock=some j∨w.heap.size≤j):
  Yva w0 z G rb A X s q' hd a ca vv' rv vs' fs' Y rs:=by
 obtain⟨o1,o2,o3,o4⟩:=h.ord;have l2:=h.low;have hcl:=Ydx.lt h.row;have hnot:∀j,w0.heap.size≤j→j≠G→vv.ownBlock≠some j→some j∉Yqb rb G vv:=fun j h1 h3 h2 hm=>by
  rcases Ydf.1 hm with e|e|e
  ·omega
  ·omega
  ·exact h2 e
 have hsub:∀j,some j∈Yqb rb G vv→some j∈Yyj A X G w0.heap.size vv rv:=fun j hm=>Ybl.2 (by
  rcases Ydf.1 hm with e|e|e
  ·omega
  ·omega
  ·exact .inl e)
 have hrow:Yj0 (vv'.ownBlock::Yyj A X G w0.heap.size vv rv) w rv rs:=h.row.mono fun j hj hn hm=>by
  rcases List.mem_cons.1 hm with e|e
  ·rcases hw j e.symm with h1|h1
   ·exact hn (Ybl.2 (.inl h1))
   ·omega
  ·exact hn e
 have hrow2:Yj0 (vv'.ownBlock::Yyj A X G w0.heap.size vv rv) z rv rs:=hrow.keptL hg (fun j hm=>List.mem_cons_of_mem _ (hsub j hm)) fun j hj=>hnot j (h.rown j hj).1 (h.rown j hj).2.2.2.1 (h.rown j hj).2.2.2.2;exact{
  rdr:=hr
  res:=(hg.block A (by omega) (hnot A o1 (by omega) fun e=>(h.own A e).2.1 rfl)).trans h.res
  sht:=(hg.block X (by omega) (hnot X (by omega) (by omega) fun e=>(h.own X e).2.2 rfl)).trans h.sht
  row:=hrow2.mono fun j _ hn hm=>hn (by
   rcases Ybl.1 hm with e|e
   ·rw[e];exact List.mem_cons_self ..
   ·exact List.mem_cons_of_mem _ (Ybl.2 (.inr e)))
  sup:=h.sup.keptS (h.supn.imp id fun h1 x hx hm=>(h1 x hx).2 (hsub _ hm)) hg
  supn:=h.supn.imp id fun h1 x hx=>⟨Nat.lt_of_lt_of_le (h1 x hx).1 hg.size,fun hm=>by
   rcases Ybl.1 hm with e|e
   ·rcases hw _ e with h3|h3
    ·exact(h1 x hx).2 (Ybl.2 (.inl h3))
    ·have:=(h1 x hx).1;omega
   ·exact(h1 x hx).2 (Ybl.2 (.inr e))⟩
  ord:=⟨o1,o2,o3,Nat.lt_of_lt_of_le o4 hg.size⟩
  low:=h.low
  own:=fun j hj=>by
   rcases hw j hj with h1|h1
   ·exact h.own j h1
   ·have:=h.grown.size;exact⟨by omega,by omega,by omega⟩
  rown:=fun j hj=>⟨(h.rown j hj).1,(h.rown j hj).2.1,(h.rown j hj).2.2.1,(h.rown j hj).2.2.2.1,fun e=>by
   rcases hw j e with h1|h1
   ·exact(h.rown j hj).2.2.2.2 h1
   ·have:=hcl j hj;omega⟩
  grown:=h.grown.trans hg fun j hj hm=>by
   rcases Ydf.1 hm with e|e|e
   ·rw[e];exact List.mem_singleton.2 rfl
   ·omega
   ·have:=(h.own j e).1;omega}
theorem Yva.below (h:Yva w0 w G rb A X s q hd a ca vv rv vs fs Y rs)(hb:Below w.heap.size w z):Yva w0 z G rb A X s q hd a ca vv rv vs fs Y rs:=
 h.call (h.rdr.below hb) (Yae.below hb) fun _ hj=>.inl hj
theorem Yva.bad (h:Yva w0 w G rb A X s q hd a ca vv rv vs fs Y rs)(hg:Yae (Yqb rb G vv) w z):z.heap[A]? =some (.cells Y 39 (0,0))∧z.heap[X]? =some (.cells (Ya5 hd (.slice a hd.supp.length ca) rv 0).toArray 39 (0,0))∧Yae [some rb] w0 z:=by
 obtain⟨o1,o2,o3,o4⟩:=h.ord;have l2:=h.low;have hnot:∀j,w0.heap.size≤j→j≠G→vv.ownBlock≠some j→some j∉Yqb rb G vv:=fun j h1 h3 h2 hm=>by
  rcases Ydf.1 hm with e|e|e
  ·omega
  ·omega
  ·exact h2 e
 refine⟨(hg.block A (by omega) (hnot A o1 (by omega) fun e=>(h.own A e).2.1 rfl)).trans h.res,(hg.block X (by omega) (hnot X (by omega) (by omega) fun e=>(h.own X e).2.2 rfl)).trans h.sht,h.grown.trans hg fun j hj hm=>?_⟩;rcases Ydf.1 hm with e|e|e
 ·rw[e];exact List.mem_singleton.2 rfl
 ·omega
 ·have:=(h.own j e).1;omega
theorem Yva.app (h:Yva w0 w G rb A X s q hd a ca vv rv vs fs Y rs)(hg:w.grownBy z rv.ownBlock)(ho:Ydx 4 46 (Yl6 (Yyj A X G w0.heap.size vv rv) w) z 0 rv' (rs++[r]))(hw:∀j,rv'.ownBlock=some j→rv.ownBlock=some j∨w.heap.size≤j):
  Yva w0 (z.setCell ⟨X,6,none⟩ rv') G rb A X s q hd a ca vv rv' vs fs Y (rs++[r]):=by
 obtain⟨o1,o2,o3,o4⟩:=h.ord;have l2:=h.low;have hz:=hg.size;have hlt:=h.rdr.lt;have hws:=h.grown.size;have gz:Yae [rv.ownBlock] w z:=Yae.one hg fun j _ e=>by rw[e];exact List.mem_singleton.2 rfl
 have gs:Yae [some X] z (z.setCell ⟨X,6,none⟩ rv'):=Yae.set _ (List.mem_singleton.2 rfl);have g2:Yae [rv.ownBlock,some X] w (z.setCell ⟨X,6,none⟩ rv'):=(gz.mono fun j _ hm=>by rw[List.mem_singleton.1 hm];exact List.mem_cons_self ..).trans gs fun j _ hm=>by rw[List.mem_singleton.1 hm];exact List.mem_cons_of_mem _ (List.mem_singleton.2 rfl)
 have mem2:∀j,some j∈[rv.ownBlock,some X]→w0.heap.size≤j∧j≠A∧j≠G∧vv.ownBlock≠some j:=fun j hm=>by
  rcases List.mem_cons.1 hm with e|e
  ·have:=h.rown j e.symm;exact⟨this.1,this.2.1,this.2.2.2.1,this.2.2.2.2⟩
  ·have e:=List.mem_singleton.1 e;injection e with e;subst e;exact⟨by omega,by omega,by omega,fun e=>(h.own j e).2.2 rfl⟩
 have sub2:∀j,some j∈[rv.ownBlock,some X]→some j∈Yyj A X G w0.heap.size vv rv:=fun j hm=>Ybl.2 (by
  rcases List.mem_cons.1 hm with e|e
  ·exact .inr (.inr (.inr (.inr (.inl e.symm))))
  ·have e:=List.mem_singleton.1 e;injection e with e;exact .inr (.inr (.inl e)))
 have hcn:∀j,rv'.ownBlock=some j→w0.heap.size≤j∧j≠A∧j≠X∧j≠G∧vv.ownBlock≠some j:=fun j hj=>by
  rcases hw j hj with h1|h1
  ·exact h.rown j h1
  ·exact⟨by omega,by omega,by omega,by omega,fun e=>by have:=hlt.2.2 j e;omega⟩
 have hrow:Ydx 4 46 (Yl6 (Yyj A X G w0.heap.size vv rv') (z.setCell ⟨X,6,none⟩ rv')) z 0 rv' (rs++[r]):=Ydx.mono ho fun a vs hv=>by
  have h1:Yl6 (rv'.ownBlock::Yyj A X G w0.heap.size vv rv) w a vs:=hv.mono fun j hj hn hm=>by
   rcases List.mem_cons.1 hm with e|e
   ·rcases hw j e.symm with h2|h2
    ·exact hn (Ybl.2 (.inr (.inr (.inr (.inr (.inl h2))))))
    ·omega
   ·exact hn e
  have h2:Yl6 (rv'.ownBlock::Yyj A X G w0.heap.size vv rv) (z.setCell ⟨X,6,none⟩ rv') a vs:=h1.keptL g2 fun j hm=>List.mem_cons_of_mem _ (sub2 j hm);refine h2.mono fun j _ hn hm=>hn ?_;rcases Ybl.1 hm with e|e|e|e|e|e
  ·exact List.mem_cons_of_mem _ (Ybl.2 (.inl e))
  ·exact List.mem_cons_of_mem _ (Ybl.2 (.inr (.inl e)))
  ·exact List.mem_cons_of_mem _ (Ybl.2 (.inr (.inr (.inl e))))
  ·exact List.mem_cons_of_mem _ (Ybl.2 (.inr (.inr (.inr (.inl e)))))
  ·rw[e];exact List.mem_cons_self ..
  ·exact List.mem_cons_of_mem _ (Ybl.2 (.inr (.inr (.inr (.inr (.inr e))))))
 exact{
  rdr:=h.rdr.keptL g2 (fun hm=>(mem2 G hm).2.2.1 rfl) (fun hm=>by have:=(mem2 rb hm).1;omega) fun j hj hm=>(mem2 j hm).2.2.2 hj
  res:=(g2.block A (by omega) fun hm=>(mem2 A hm).2.1 rfl).trans h.res
  sht:=Yau (o:=6) rv' ((hg.block X (by omega) fun e=>(h.rown X e.symm).2.2.1 rfl).trans h.sht)
  row:=Ydx.keptL hrow gs fun j hj hm=>by
   have e:=List.mem_singleton.1 hm;injection e with e;exact(hcn j hj).2.2.1 e
  sup:=h.sup.keptS (h.supn.imp id fun h1 x hx hm=>(h1 x hx).2 (sub2 _ hm)) g2
  supn:=h.supn.imp id fun h1 x hx=>⟨Nat.lt_of_lt_of_le (h1 x hx).1 g2.size,fun hm=>by
   rcases Ybl.1 hm with e|e|e|e|e|e
   ·exact(h1 x hx).2 (Ybl.2 (.inl e))
   ·exact(h1 x hx).2 (Ybl.2 (.inr (.inl e)))
   ·exact(h1 x hx).2 (Ybl.2 (.inr (.inr (.inl e))))
   ·exact(h1 x hx).2 (Ybl.2 (.inr (.inr (.inr (.inl e)))))
   ·rcases hw _ e with h2|h2
    ·exact(h1 x hx).2 (Ybl.2 (.inr (.inr (.inr (.inr (.inl h2))))))
    ·have:=(h1 x hx).1;omega
   ·exact(h1 x hx).2 (Ybl.2 (.inr (.inr (.inr (.inr (.inr e))))))⟩
  ord:=⟨o1,o2,o3,by have:=gs.size;omega⟩
  low:=h.low
  own:=h.own
  rown:=hcn
  grown:=h.grown.trans g2 fun j hj hm=>by have:=(mem2 j hm).1;omega}
theorem Yva.lies {S:ShP}{vz:List Value}{M:List (Option Nat)}(h:Yva w0 w G rb A X s q hd a ca vv rv vs fs Y rs)(hg:Yae M w z)(hM:∀j,some j∈M→j=X∨j=A∨j<w0.heap.size)(hS:S.hd=hd∧S.rows=rs)(hv:vz=Ya5 hd (.slice a hd.supp.length ca) rv S.zeros)(hl1:hd.supp.length≤maxLen)(hl2:rs.length≤maxLen):ShV z S vz:=by
 have sub:∀j,some j∈M→some j∈Yyj A X G w0.heap.size vv rv:=fun j hm=>Ybl.2 (by rcases hM j hm with e|e|e <;> omega);have hrow:=h.row.keptL hg sub fun j hj hm=>by
  have:=h.rown j hj;rcases hM j hm with e|e|e <;> omega
 obtain⟨b,cb,hb,hin⟩:=hrow.rows;obtain⟨rfl,rfl⟩:=hS;exact⟨a,b,ca,cb,by rw[hv,hb],hl1,hl2,h.sup.keptS (h.supn.imp id fun h1 x hx hm=>(h1 x hx).2 (sub _ hm)) hg,hin⟩
theorem Yva.done (h:Yva w0 w G rb A X s q hd a ca vv rv vs fs Y rs)(hg:Yae [some rb,some X,some A] w z):w0.grownBy z (some rb):=by
 obtain⟨o1,o2,o3,o4⟩:=h.ord;refine(h.grown.trans hg fun j hj hm=>?_).lone fun j _ hm=>by have e:=List.mem_singleton.1 hm;injection e with e
 rcases List.mem_cons.1 hm with e|hm
 ·rw[e];exact List.mem_singleton.2 rfl
 ·rcases List.mem_cons.1 hm with e|hm
  ·injection e with e;omega
  ·have e:=List.mem_singleton.1 hm;injection e with e;omega
end
end Go.Proofs.YtjjmalchelniiaaGreatDoor