/- StripsWrites, 49. No condition. -/
import Derived.Test.YtjjmalchelniiaaGreatDoorStripsWritesMx
import Derived.Test.YtjjmalchelniiaaGreatDoorStripsWritesMbj
import Derived.Test.YtjjmalchelniiaaGreatDoorStripsWritesMbs
open Go renaming Value->A0,World->A5
namespace Go.Proofs.YtjjmalchelniiaaGreatDoor
open Go.RowKit Go.Lib
def NO (rb:Nat)(k:Int)(inter:Bool)(vv:A0)(first:Int):List A0:=[.pointer (some ⟨rb,0,none⟩),.int .i64 k,.int .i64 (BJ k),.int .i64 (BP k),.int .i64 (B1 k),.bool inter,vv,.int .i64 first]
structure Yde (w:A5) (G rb:Nat) (s:ByteArray) (p:Nat) (k:Int) (inter:Bool) (vv:A0) (vs:List (Int×Int)) (first:Int):Prop where
 blk:w.heap[G]? =some (.cells (NO rb k inter vv first).toArray 157 (0,0))
 rd:AI w rb s p
 vec:w.ownsRow 0 73 2 vv vs.length (GM vs)
 ne:G≠rb/\∀j,vv.ownBlock=some j->j≠G/\j≠rb
section
variable {w z:A5}{G rb p q:Nat}{s:ByteArray}{k:Int}{inter:Bool}{vv vv':A0}{vs:List (Int×Int)}{first first':Int}{M:List (Option Nat)}{row:Option Nat}
theorem Yde.lt (h:Yde w G rb s p k inter vv vs first):G<w.heap.size/\rb<w.heap.size/\∀j,vv.ownBlock=some j->j<w.heap.size:=
 ⟨(Am.1 h.blk).1,h.rd.lt,fun j hj=>(h.vec.lt j hj).2⟩
theorem Yde.cell (h:Yde w G rb s p k inter vv vs first){o:Nat}{v:A0}(hv:(NO rb k inter vv first)[o]? =some v):w.cell? ⟨G,o,none⟩=some v:=AA h.blk hv
theorem Yde.keptL (h:Yde w G rb s p k inter vv vs first)(a:Yai M w z)(b:some G∉M)(hr:some rb∉M)(hv:∀j,vv.ownBlock=some j->some j∉M):Yde z G rb s p k inter vv vs first where
 blk:=(a.block G h.lt.1 b).trans h.blk
 rd:=⟨(a.block rb h.lt.2.1 hr).trans h.rd.1,h.rd.2⟩
 vec:=MM h.vec a hv
 ne:=h.ne
theorem Yde.below (h:Yde w G rb s p k inter vv vs first)(a:Below w.heap.size w z):Yde z G rb s p k inter vv vs first:=
 h.keptL (M:=[]) (Yai.below a) (by simp) (by simp) (by simp)
theorem Yde.reads (h:Yde w G rb s p k inter vv vs first)(a:w.grownBy z (some rb))(hr:AI z rb s q):Yde z G rb s q k inter vv vs first where
 blk:=(a.block G h.lt.1 fun e=>by injection e with e;exact h.ne.1 e).trans h.blk
 rd:=hr
 vec:=MM h.vec (M:=[some rb]) (Yai.one a fun j _ e=>by rw[e];exact Dk.2 rfl) fun j hj hm=>by
  have e:=Dk.1 hm;injection e with e;exact(h.ne.2 j hj).2 e
 ne:=h.ne
theorem Yde.lines (h:Yde w G rb s p k inter vv vs first):Yde (w.setCell ⟨G,7,none⟩ (.int .i64 first')) G rb s p k inter vv vs first' where
 blk:=BF (o:=7) _ h.blk
 rd:=⟨by rw[Ib _ _ _ _ (fun e=>h.ne.1 e.symm)];exact h.rd.1,h.rd.2⟩
 vec:=MM h.vec (M:=[some G]) (Yai.set _ (Dk.2 rfl)) fun j hj hm=>by
  have e:=Dk.1 hm;injection e with e;exact(h.ne.2 j hj).1 e
 ne:=h.ne
theorem Yde.vecs {v:Int×Int}(h:Yde w G rb s p k inter vv vs first)(a:w.grownBy z vv.ownBlock)(ho:z.ownsRow 0 73 2 vv' (vs.length+1) (GM vs++[.int .i64 v.1,.int .i64 v.2]))(b:∀j,vv'.ownBlock=some j->vv.ownBlock=some j\/w.heap.size<=j):
  Yde (z.setCell ⟨G,6,none⟩ vv') G rb s p k inter vv' (vs++[v]) first:=by
 obtain⟨c,d,-⟩:=h.lt;have hn:∀j,vv'.ownBlock=some j->j≠G/\j≠rb:=fun j hj=>by
  rcases b j hj with e|e
  ·exact h.ne.2 j e
  ·omega
 have f:z.heap[G]? =some (.cells (NO rb k inter vv first).toArray 157 (0,0)):=(a.block G c fun e=>(h.ne.2 G e.symm).1 rfl).trans h.blk;exact{
  blk:=BF (o:=6) vv' f
  rd:=⟨by rw[Ib _ _ _ _ (fun e=>h.ne.1 e.symm),a.block rb d fun e=>(h.ne.2 rb e.symm).2 rfl];exact h.rd.1,h.rd.2⟩
  vec:=by
   rw[B9,Sm];exact MM ho (M:=[some G]) (Yai.set _ (Dk.2 rfl)) fun j hj hm=>by
    have e:=Dk.1 hm;injection e with e;exact(hn j hj).1 e
  ne:=⟨h.ne.1,hn⟩}
end
def EX (rb G:Nat)(vv:A0):List (Option Nat):=[some rb,some G,vv.ownBlock]
def qW (s:ByteArray)(G rb p:Nat)(k:Int)(inter:Bool)(vv:A0)(vs:List (Int×Int))(first:Int)(w:A5)(e:Ending)(a:A5):Prop:=
 ∃(c:Cel) (q:Nat) (f g:Int) (sl:Nat->A0),ctk inter (A2 s.data.toList) (DT vs (B1 k) first).1 (DT vs (B1 k) first).2 p=(c,q,f)/\g=(if f≠0 then f else if CP k vs.length c=false then 8 else 0)/\
  e=.returned (.tuple #[.agg (AJ c sl).toArray,.int .i64 g])/\(∀i,i<6->(sl i).oneCell'=true)/\Yai (EX rb G vv) w a/\(∃q',AI a rb s q')/\
  (g=0->∃vv',Yde a G rb s q k inter vv' (vs++[(c.mx,c.my)]) first/\(∀j,vv'.ownBlock=some j->vv.ownBlock=some j\/w.heap.size<=j)/\∀L:List (Option Nat),(∀j,some j∈L->j<w.heap.size)->DW (vv'.ownBlock::L) a c (AJ c sl))
def nX (s:ByteArray)(G rb p:Nat)(k:Int)(inter:Bool)(vv:A0)(vs:List (Int×Int))(first:Int)(i:Nat)(w:A5)(e:Ending)(a:A5):Prop:=
 ∃(b:Bool) (id qu:Int) (z:Nat) (fs f:Int) (cs:List Cel) (q:Nat) (h g:Int),HC s.data.toList k i p first=(b,id,qu,z,fs,f)/\DR ctk s.data.toList inter k fs (BI k).toNat z vs=(cs,q,h)/\g=(if f≠0 then f else h)/\
  ∃rw:List A0,e=.returned (.tuple #[.agg rw.toArray,.int .i64 g])/\(rw.length=4/\∀u∈rw,u.oneCell'=true)/\Yai (EX rb G vv) w a/\(∃q',AI a rb s q')/\
  (g=0->∃vv',Yde a G rb s q k inter vv' (vs++C5 cs) fs/\(∀j,vv'.ownBlock=some j->vv.ownBlock=some j\/w.heap.size<=j)/\∀L:List (Option Nat),(∀j,some j∈L->j<w.heap.size)->E1 (vv'.ownBlock::L) a ⟨b,id,qu,cs⟩ rw)
theorem IW {rb G:Nat}{vv:A0}{j:Nat}:some j∈EX rb G vv↔j=rb\/j=G\/vv.ownBlock=some j:=by
 simp only[EX,Ei,Ej,Eo,Nj];constructor
 ·rintro(h|h|h)
  ·exact .inl h
  ·exact .inr (.inl h)
  ·exact .inr (.inr h.symm)
 ·rintro(h|h|h)
  ·exact .inl h
  ·exact .inr (.inl h)
  ·exact .inr (.inr h.symm)
def ID (A X n:Nat)(vv cv:A0):List (Option Nat):=vv.ownBlock::some A::some X::cv.ownBlock::GF n
theorem HE {A X n j:Nat}{vv cv:A0}:some j∈ID A X n vv cv↔vv.ownBlock=some j\/j=A\/j=X\/cv.ownBlock=some j\/j<n:=by
 simp only[ID,Ei,LN,Nj];constructor
 ·rintro(h|h|h|h|h)
  ·exact .inl h.symm
  ·exact .inr (.inl h)
  ·exact .inr (.inr (.inl h))
  ·exact .inr (.inr (.inr (.inl h.symm)))
  ·exact .inr (.inr (.inr (.inr h)))
 ·rintro(h|h|h|h|h)
  ·exact .inl h.symm
  ·exact .inr (.inl h)
  ·exact .inr (.inr (.inl h))
  ·exact .inr (.inr (.inr (.inl h.symm)))
  ·exact .inr (.inr (.inr (.inr h)))
structure Y2d (w0 w:A5) (G rb A X:Nat) (s:ByteArray) (q:Nat) (k:Int) (inter:Bool) (vv0 vv cv:A0) (vz:List (Int×Int)) (fs:Int) (Y:Array A0) (b:Bool) (id qu:Int) (cs:List Cel):Prop where
 rdr:Yde w G rb s q k inter vv vz fs
 res:w.heap[A]? =some (.cells Y 46 (0,0))
 row:w.heap[X]? =some (.cells [.bool b,.int .i64 id,.int .i64 qu,cv].toArray 46 (0,0))
 cel:GG (ID A X w0.heap.size vv cv) w cv cs
 ord:w0.heap.size<=A/\A<X/\X<w.heap.size
 low:G<w0.heap.size/\rb<w0.heap.size/\∀j,vv0.ownBlock=some j->j<w0.heap.size
 own:∀j,vv.ownBlock=some j->(vv0.ownBlock=some j\/w0.heap.size<=j)/\j≠A/\j≠X
 cown:∀j,cv.ownBlock=some j->w0.heap.size<=j/\j≠A/\j≠X/\vv.ownBlock≠some j
 grown:Yai (EX rb G vv0) w0 w
section
variable {w0 w z:A5}{G rb A X q q':Nat}{s:ByteArray}{k:Int}{inter:Bool}{vv0 vv vv' cv cv':A0}{vz vz':List (Int×Int)}{fs:Int}{Y:Array A0}{b:Bool}{id qu:Int}{cs:List Cel}{c:Cel}
theorem Y2d.cell (h:Y2d w0 w G rb A X s q k inter vv0 vv cv vz fs Y b id qu cs)(hr:Yde z G rb s q' k inter vv' vz' fs)(d:Yai (EX rb G vv) w z)(g:∀j,vv'.ownBlock=some j->vv.ownBlock=some j\/w.heap.size<=j):
  Y2d w0 z G rb A X s q' k inter vv0 vv' cv vz' fs Y b id qu cs:=by
 obtain⟨l,n,m⟩:=h.ord;obtain⟨r,t,-⟩:=h.low;have i:=AX.lt h.cel;have a:∀j,w0.heap.size<=j->vv.ownBlock≠some j->some j∉EX rb G vv:=fun j h1 h2 hm=>by
  rcases IW.1 hm with e|e|e
  ·omega
  ·omega
  ·exact h2 e
 have o:some A∉EX rb G vv:=a A l fun e=>(h.own A e).2.1 rfl;have p:some X∉EX rb G vv:=a X (by omega) fun e=>(h.own X e).2.2 rfl;have f:GG (vv'.ownBlock::ID A X w0.heap.size vv cv) w cv cs:=h.cel.mono fun j hj hn hm=>by
  rcases Ei.1 hm with e|e
  ·rcases g j e.symm with h1|h1
   ·exact hn (HE.2 (.inl h1))
   ·omega
  ·exact hn e
 have c:GG (vv'.ownBlock::ID A X w0.heap.size vv cv) z cv cs:=f.keptL d (fun j hm=>Ez _ (HE.2 (by
  rcases IW.1 hm with e|e|e
  ·omega
  ·omega
  ·exact .inl e))) fun j hj=>a j (h.cown j hj).1 (h.cown j hj).2.2.2
 exact{
  rdr:=hr
  res:=(d.block A (by omega) o).trans h.res
  row:=(d.block X m p).trans h.row
  cel:=c.mono fun j _ hn hm=>hn (by
   rcases HE.1 hm with e|e
   ·rw[e];exact Fa ..
   ·exact Ez _ (HE.2 (.inr e)))
  ord:=⟨l,n,Bg m d.size⟩
  low:=h.low
  own:=fun j hj=>by
   rcases g j hj with h1|h1
   ·exact h.own j h1
   ·have:=h.grown.size;exact⟨.inr (by omega),by omega,by omega⟩
  cown:=fun j hj=>⟨(h.cown j hj).1,(h.cown j hj).2.1,(h.cown j hj).2.2.1,fun e=>by
   rcases g j e with h1|h1
   ·exact(h.cown j hj).2.2.2 h1
   ·have:=i j hj;omega⟩
  grown:=h.grown.trans d fun j hj hm=>IW.2 (by
   rcases IW.1 hm with e|e|e
   ·exact .inl e
   ·exact .inr (.inl e)
   ·rcases (h.own j e).1 with h1|h1
    ·exact .inr (.inr h1)
    ·omega)}
theorem Y2d.below (h:Y2d w0 w G rb A X s q k inter vv0 vv cv vz fs Y b id qu cs)(a:Below w.heap.size w z):Y2d w0 z G rb A X s q k inter vv0 vv cv vz fs Y b id qu cs:=
 h.cell (h.rdr.below a) (Yai.below a) fun _ hj=>.inl hj
theorem Y2d.app (h:Y2d w0 w G rb A X s q k inter vv0 vv cv vz fs Y b id qu cs)(l:w.grownBy z cv.ownBlock)(ho:AX 18 77 (DW (ID A X w0.heap.size vv cv) w) z 0 cv' (cs++[c]))(p:∀j,cv'.ownBlock=some j->cv.ownBlock=some j\/w.heap.size<=j):
  Y2d w0 (z.setCell ⟨X,3,none⟩ cv') G rb A X s q k inter vv0 vv cv' vz fs Y b id qu (cs++[c]):=by
 obtain⟨r,t,u⟩:=h.ord;obtain⟨B,C,D⟩:=h.low;have E:=l.size;have m:=h.rdr.lt;have v:=h.grown.size;have x:=AX.lt h.cel;have y:Yai [cv.ownBlock] w z:=Yai.one l fun j _ e=>by rw[e];exact Dk.2 rfl
 have n:Yai [some X] z (z.setCell ⟨X,3,none⟩ cv'):=Yai.set _ (Dk.2 rfl);have i:Yai [cv.ownBlock,some X] w (z.setCell ⟨X,3,none⟩ cv'):=(y.mono fun j _ hm=>by rw[Dk.1 hm];exact Fa ..).trans n fun j _ hm=>by rw[Dk.1 hm];exact Ez _ (Dk.2 rfl)
 have d:∀j,some j∈[cv.ownBlock,some X]->w0.heap.size<=j/\j≠A/\vv.ownBlock≠some j:=fun j hm=>by
  rcases Ei.1 hm with e|e
  ·have:=h.cown j e.symm;exact⟨this.1,this.2.1,this.2.2.2⟩
  ·have e:=Dk.1 e;injection e with e;subst e;exact⟨by omega,by omega,fun e=>(h.own j e).2.2 rfl⟩
 have f:∀j,cv'.ownBlock=some j->w0.heap.size<=j/\j≠A/\j≠X/\vv.ownBlock≠some j:=fun j hj=>by
  rcases p j hj with h1|h1
  ·exact h.cown j h1
  ·exact⟨by omega,by omega,by omega,fun e=>by have:=m.2.2 j e;omega⟩
 have g:AX 18 77 (DW (ID A X w0.heap.size vv cv') (z.setCell ⟨X,3,none⟩ cv')) z 0 cv' (cs++[c]):=AX.mono ho fun a vs hv=>by
  have h1:DW (cv'.ownBlock::ID A X w0.heap.size vv cv) w a vs:=hv.mono fun j hj hn hm=>by
   rcases Ei.1 hm with e|e
   ·rcases p j e.symm with h2|h2
    ·exact hn (HE.2 (.inr (.inr (.inr (.inl h2)))))
    ·omega
   ·exact hn e
  have h2:DW (cv'.ownBlock::ID A X w0.heap.size vv cv) (z.setCell ⟨X,3,none⟩ cv') a vs:=h1.keptL i fun j hm=>by
   refine Ez _ ?_;rcases Ei.1 hm with e|e
   ·exact HE.2 (.inr (.inr (.inr (.inl e.symm))))
   ·have e:=Dk.1 e;injection e with e;exact HE.2 (.inr (.inr (.inl e)))
  refine h2.mono fun j _ hn hm=>hn ?_;rcases HE.1 hm with e|e|e|e|e
  ·exact Ez _ (HE.2 (.inl e))
  ·exact Ez _ (HE.2 (.inr (.inl e)))
  ·exact Ez _ (HE.2 (.inr (.inr (.inl e))))
  ·rw[e];exact Fa ..
  ·exact Ez _ (HE.2 (.inr (.inr (.inr (.inr e)))))
 exact{
  rdr:=h.rdr.keptL i (fun hm=>by have:=(d G hm).1;omega) (fun hm=>by have:=(d rb hm).1;omega) fun j hj hm=>(d j hm).2.2 hj
  res:=(i.block A (by omega) fun hm=>(d A hm).2.1 rfl).trans h.res
  row:=BF (o:=3) cv' ((l.block X u fun e=>(h.cown X e.symm).2.2.1 rfl).trans h.row)
  cel:=AX.keptL g n fun j hj hm=>by
   have e:=Dk.1 hm;injection e with e;exact(f j hj).2.2.1 e
  ord:=⟨r,t,by have:=n.size;omega⟩
  low:=h.low
  own:=h.own
  cown:=f
  grown:=h.grown.trans i fun j hj hm=>by have:=(d j hm).1;omega}
theorem Y2d.bad (h:Y2d w0 w G rb A X s q k inter vv0 vv cv vz fs Y b id qu cs)(c:Yai (EX rb G vv) w z):z.heap[A]? =some (.cells Y 46 (0,0))/\z.heap[X]? =some (.cells [.bool b,.int .i64 id,.int .i64 qu,cv].toArray 46 (0,0))/\Yai (EX rb G vv0) w0 z:=by
 obtain⟨d,g,f⟩:=h.ord;obtain⟨i,l,-⟩:=h.low;have a:∀j,w0.heap.size<=j->vv.ownBlock≠some j->some j∉EX rb G vv:=fun j h1 h2 hm=>by
  rcases IW.1 hm with e|e|e
  ·omega
  ·omega
  ·exact h2 e
 refine⟨(c.block A (by omega) (a A d fun e=>(h.own A e).2.1 rfl)).trans h.res,(c.block X f (a X (by omega) fun e=>(h.own X e).2.2 rfl)).trans h.row,h.grown.trans c fun j hj hm=>IW.2 ?_⟩;rcases IW.1 hm with e|e|e
 ·exact .inl e
 ·exact .inr (.inl e)
 ·rcases (h.own j e).1 with h1|h1
  ·exact .inr (.inr h1)
  ·omega
theorem Y2d.done (h:Y2d w0 w G rb A X s q k inter vv0 vv cv vz fs Y b id qu cs)(hl:cs.length<=maxLen)(f:w.grownBy z (some A)):
  Yde z G rb s q k inter vv vz fs/\(∀j,vv.ownBlock=some j->vv0.ownBlock=some j\/w0.heap.size<=j)/\Yai (EX rb G vv0) w0 z/\∀L:List (Option Nat),(∀j,some j∈L->j<w0.heap.size)->E1 (vv.ownBlock::L) z ⟨b,id,qu,cs⟩ [.bool b,.int .i64 id,.int .i64 qu,cv]:=by
 obtain⟨g,i,l⟩:=h.ord;obtain⟨m,n,o⟩:=h.low;have c:Yai [some A] w z:=Yai.one f fun j _ e=>by rw[e];exact Dk.2 rfl
 have a:∀j,some j∈[some A]->j=A:=fun j hm=>by have e:=Dk.1 hm;injection e with e
 refine⟨h.rdr.keptL c (fun hm=>by have:=a G hm;omega) (fun hm=>by have:=a rb hm;omega) fun j hj hm=>(h.own j hj).2.1 (a j hm),fun j hj=>(h.own j hj).1,h.grown.trans c fun j hj hm=>by have:=a j hm;omega,fun L d=>?_⟩;have hc:GG (ID A X w0.heap.size vv cv) z cv cs:=h.cel.keptL c (fun j hm=>HE.2 (.inr (.inl (a j hm)))) fun j hj hm=>(h.cown j hj).2.1 (a j hm)
 refine⟨cv,rfl,hc.mono fun j _ hn hm=>hn ?_,hl,fun j hj hm=>?_⟩
 ·rcases Ei.1 hm with e|e
  ·exact HE.2 (.inl e.symm)
  ·exact HE.2 (.inr (.inr (.inr (.inr (d j e)))))
 ·rcases Ei.1 hm with e|e
  ·exact(h.cown j hj).2.2.2 e.symm
  ·have:=d j e;have:=(h.cown j hj).1;omega
end
theorem CA.keptS {w x:A5}{M:List (Option Nat)}{l:List Int}{p:Option Addr}(h:CA w p l)(a:l=[]\/∀y,p=some y->some y.block∉M)(b:Yai M w x):CA x p l:=by
 rcases a with rfl|a
 ·exact CA.nil _ _
 ·exact h.keptL a b
def GW (A X G n:Nat)(vv rv:A0):List (Option Nat):=vv.ownBlock::some A::some X::some G::rv.ownBlock::GF n
theorem EI {A X G n j:Nat}{vv rv:A0}:some j∈GW A X G n vv rv↔vv.ownBlock=some j\/j=A\/j=X\/j=G\/rv.ownBlock=some j\/j<n:=by
 simp only[GW,Ei,LN,Nj];constructor
 ·rintro(h|h|h|h|h|h)
  ·exact .inl h.symm
  ·exact .inr (.inl h)
  ·exact .inr (.inr (.inl h))
  ·exact .inr (.inr (.inr (.inl h)))
  ·exact .inr (.inr (.inr (.inr (.inl h.symm))))
  ·exact .inr (.inr (.inr (.inr (.inr h))))
 ·rintro(h|h|h|h|h|h)
  ·exact .inl h.symm
  ·exact .inr (.inl h)
  ·exact .inr (.inr (.inl h))
  ·exact .inr (.inr (.inr (.inl h)))
  ·exact .inr (.inr (.inr (.inr (.inl h.symm))))
  ·exact .inr (.inr (.inr (.inr (.inr h))))
structure Yyb (w0 w:A5) (G rb A X:Nat) (s:ByteArray) (q:Nat) (hd:Shd) (a:Option Addr) (ca:Nat) (vv rv:A0) (vs:List (Int×Int)) (fs:Int) (Y:Array A0) (rs:List RowP):Prop where
 rdr:Yde w G rb s q hd.fmt hd.inter vv vs fs
 res:w.heap[A]? =some (.cells Y 39 (0,0))
 sht:w.heap[X]? =some (.cells (Bx hd (.slice a hd.supp.length ca) rv 0).toArray 39 (0,0))
 row:HZ (GW A X G w0.heap.size vv rv) w rv rs
 sup:CA w a hd.supp
 supn:hd.supp=[]\/∀x,a=some x->x.block<w.heap.size/\some x.block∉GW A X G w0.heap.size vv rv
 ord:w0.heap.size<=A/\A<X/\X<G/\G<w.heap.size
 low:rb<w0.heap.size
 own:∀j,vv.ownBlock=some j->w0.heap.size<=j/\j≠A/\j≠X
 rown:∀j,rv.ownBlock=some j->w0.heap.size<=j/\j≠A/\j≠X/\j≠G/\vv.ownBlock≠some j
 grown:Yai [some rb] w0 w
section
variable {w0 w z:A5}{G rb A X q q':Nat}{s:ByteArray}{hd:Shd}{a:Option Addr}{ca:Nat}{vv vv' rv rv':A0}{vs vs':List (Int×Int)}{fs fs':Int}{Y:Array A0}{rs:List RowP}{r:RowP}
theorem Yyb.call (h:Yyb w0 w G rb A X s q hd a ca vv rv vs fs Y rs)(hr:Yde z G rb s q' hd.fmt hd.inter vv' vs' fs')(d:Yai (EX rb G vv) w z)(k:∀j,vv'.ownBlock=some j->vv.ownBlock=some j\/w.heap.size<=j):
  Yyb w0 z G rb A X s q' hd a ca vv' rv vs' fs' Y rs:=by
 obtain⟨m,n,o,p⟩:=h.ord;have r:=h.low;have l:=AX.lt h.row;have b:∀j,w0.heap.size<=j->j≠G->vv.ownBlock≠some j->some j∉EX rb G vv:=fun j h1 h3 h2 hm=>by
  rcases IW.1 hm with e|e|e
  ·omega
  ·omega
  ·exact h2 e
 have c:∀j,some j∈EX rb G vv->some j∈GW A X G w0.heap.size vv rv:=fun j hm=>EI.2 (by
  rcases IW.1 hm with e|e|e
  ·omega
  ·omega
  ·exact .inl e)
 have i:HZ (vv'.ownBlock::GW A X G w0.heap.size vv rv) w rv rs:=h.row.mono fun j hj hn hm=>by
  rcases Ei.1 hm with e|e
  ·rcases k j e.symm with h1|h1
   ·exact hn (EI.2 (.inl h1))
   ·omega
  ·exact hn e
 have f:HZ (vv'.ownBlock::GW A X G w0.heap.size vv rv) z rv rs:=i.keptL d (fun j hm=>Ez _ (c j hm)) fun j hj=>b j (h.rown j hj).1 (h.rown j hj).2.2.2.1 (h.rown j hj).2.2.2.2;exact{
  rdr:=hr
  res:=(d.block A (by omega) (b A m (by omega) fun e=>(h.own A e).2.1 rfl)).trans h.res
  sht:=(d.block X (by omega) (b X (by omega) (by omega) fun e=>(h.own X e).2.2 rfl)).trans h.sht
  row:=f.mono fun j _ hn hm=>hn (by
   rcases EI.1 hm with e|e
   ·rw[e];exact Fa ..
   ·exact Ez _ (EI.2 (.inr e)))
  sup:=h.sup.keptS (h.supn.imp id fun h1 x g hm=>(h1 x g).2 (c _ hm)) d
  supn:=h.supn.imp id fun h1 x g=>⟨Bg (h1 x g).1 d.size,fun hm=>by
   rcases EI.1 hm with e|e
   ·rcases k _ e with h3|h3
    ·exact(h1 x g).2 (EI.2 (.inl h3))
    ·have:=(h1 x g).1;omega
   ·exact(h1 x g).2 (EI.2 (.inr e))⟩
  ord:=⟨m,n,o,Bg p d.size⟩
  low:=h.low
  own:=fun j hj=>by
   rcases k j hj with h1|h1
   ·exact h.own j h1
   ·have:=h.grown.size;exact⟨by omega,by omega,by omega⟩
  rown:=fun j hj=>⟨(h.rown j hj).1,(h.rown j hj).2.1,(h.rown j hj).2.2.1,(h.rown j hj).2.2.2.1,fun e=>by
   rcases k j e with h1|h1
   ·exact(h.rown j hj).2.2.2.2 h1
   ·have:=l j hj;omega⟩
  grown:=h.grown.trans d fun j hj hm=>by
   rcases IW.1 hm with e|e|e
   ·rw[e];exact Dk.2 rfl
   ·omega
   ·have:=(h.own j e).1;omega}
theorem Yyb.below (h:Yyb w0 w G rb A X s q hd a ca vv rv vs fs Y rs)(b:Below w.heap.size w z):Yyb w0 z G rb A X s q hd a ca vv rv vs fs Y rs:=
 h.call (h.rdr.below b) (Yai.below b) fun _ hj=>.inl hj
theorem Yyb.bad (h:Yyb w0 w G rb A X s q hd a ca vv rv vs fs Y rs)(c:Yai (EX rb G vv) w z):z.heap[A]? =some (.cells Y 39 (0,0))/\z.heap[X]? =some (.cells (Bx hd (.slice a hd.supp.length ca) rv 0).toArray 39 (0,0))/\Yai [some rb] w0 z:=by
 obtain⟨d,f,g,i⟩:=h.ord;have k:=h.low;have b:∀j,w0.heap.size<=j->j≠G->vv.ownBlock≠some j->some j∉EX rb G vv:=fun j h1 h3 h2 hm=>by
  rcases IW.1 hm with e|e|e
  ·omega
  ·omega
  ·exact h2 e
 refine⟨(c.block A (by omega) (b A d (by omega) fun e=>(h.own A e).2.1 rfl)).trans h.res,(c.block X (by omega) (b X (by omega) (by omega) fun e=>(h.own X e).2.2 rfl)).trans h.sht,h.grown.trans c fun j hj hm=>?_⟩;rcases IW.1 hm with e|e|e
 ·rw[e];exact Dk.2 rfl
 ·omega
 ·have:=(h.own j e).1;omega
theorem Yyb.app (h:Yyb w0 w G rb A X s q hd a ca vv rv vs fs Y rs)(k:w.grownBy z rv.ownBlock)(ho:AX 4 46 (E1 (GW A X G w0.heap.size vv rv) w) z 0 rv' (rs++[r]))(l:∀j,rv'.ownBlock=some j->rv.ownBlock=some j\/w.heap.size<=j):
  Yyb w0 (z.setCell ⟨X,6,none⟩ rv') G rb A X s q hd a ca vv rv' vs fs Y (rs++[r]):=by
 obtain⟨p,t,u,B⟩:=h.ord;have C:=h.low;have D:=k.size;have m:=h.rdr.lt;have v:=h.grown.size;have y:Yai [rv.ownBlock] w z:=Yai.one k fun j _ e=>by rw[e];exact Dk.2 rfl
 have n:Yai [some X] z (z.setCell ⟨X,6,none⟩ rv'):=Yai.set _ (Dk.2 rfl);have f:Yai [rv.ownBlock,some X] w (z.setCell ⟨X,6,none⟩ rv'):=(y.mono fun j _ hm=>by rw[Dk.1 hm];exact Fa ..).trans n fun j _ hm=>by rw[Dk.1 hm];exact Ez _ (Dk.2 rfl)
 have b:∀j,some j∈[rv.ownBlock,some X]->w0.heap.size<=j/\j≠A/\j≠G/\vv.ownBlock≠some j:=fun j hm=>by
  rcases Ei.1 hm with e|e
  ·have:=h.rown j e.symm;exact⟨this.1,this.2.1,this.2.2.2.1,this.2.2.2.2⟩
  ·have e:=Dk.1 e;injection e with e;subst e;exact⟨by omega,by omega,by omega,fun e=>(h.own j e).2.2 rfl⟩
 have d:∀j,some j∈[rv.ownBlock,some X]->some j∈GW A X G w0.heap.size vv rv:=fun j hm=>EI.2 (by
  rcases Ei.1 hm with e|e
  ·exact .inr (.inr (.inr (.inr (.inl e.symm))))
  ·have e:=Dk.1 e;injection e with e;exact .inr (.inr (.inl e)))
 have g:∀j,rv'.ownBlock=some j->w0.heap.size<=j/\j≠A/\j≠X/\j≠G/\vv.ownBlock≠some j:=fun j hj=>by
  rcases l j hj with h1|h1
  ·exact h.rown j h1
  ·exact⟨by omega,by omega,by omega,by omega,fun e=>by have:=m.2.2 j e;omega⟩
 have i:AX 4 46 (E1 (GW A X G w0.heap.size vv rv') (z.setCell ⟨X,6,none⟩ rv')) z 0 rv' (rs++[r]):=AX.mono ho fun a vs hv=>by
  have h1:E1 (rv'.ownBlock::GW A X G w0.heap.size vv rv) w a vs:=hv.mono fun j hj hn hm=>by
   rcases Ei.1 hm with e|e
   ·rcases l j e.symm with h2|h2
    ·exact hn (EI.2 (.inr (.inr (.inr (.inr (.inl h2))))))
    ·omega
   ·exact hn e
  have h2:E1 (rv'.ownBlock::GW A X G w0.heap.size vv rv) (z.setCell ⟨X,6,none⟩ rv') a vs:=h1.keptL f fun j hm=>Ez _ (d j hm);refine h2.mono fun j _ hn hm=>hn ?_;rcases EI.1 hm with e|e|e|e|e|e
  ·exact Ez _ (EI.2 (.inl e))
  ·exact Ez _ (EI.2 (.inr (.inl e)))
  ·exact Ez _ (EI.2 (.inr (.inr (.inl e))))
  ·exact Ez _ (EI.2 (.inr (.inr (.inr (.inl e)))))
  ·rw[e];exact Fa ..
  ·exact Ez _ (EI.2 (.inr (.inr (.inr (.inr (.inr e))))))
 exact{
  rdr:=h.rdr.keptL f (fun hm=>(b G hm).2.2.1 rfl) (fun hm=>by have:=(b rb hm).1;omega) fun j hj hm=>(b j hm).2.2.2 hj
  res:=(f.block A (by omega) fun hm=>(b A hm).2.1 rfl).trans h.res
  sht:=BF (o:=6) rv' ((k.block X (by omega) fun e=>(h.rown X e.symm).2.2.1 rfl).trans h.sht)
  row:=AX.keptL i n fun j hj hm=>by
   have e:=Dk.1 hm;injection e with e;exact(g j hj).2.2.1 e
  sup:=h.sup.keptS (h.supn.imp id fun h1 x c hm=>(h1 x c).2 (d _ hm)) f
  supn:=h.supn.imp id fun h1 x c=>⟨Bg (h1 x c).1 f.size,fun hm=>by
   rcases EI.1 hm with e|e|e|e|e|e
   ·exact(h1 x c).2 (EI.2 (.inl e))
   ·exact(h1 x c).2 (EI.2 (.inr (.inl e)))
   ·exact(h1 x c).2 (EI.2 (.inr (.inr (.inl e))))
   ·exact(h1 x c).2 (EI.2 (.inr (.inr (.inr (.inl e)))))
   ·rcases l _ e with h2|h2
    ·exact(h1 x c).2 (EI.2 (.inr (.inr (.inr (.inr (.inl h2))))))
    ·have:=(h1 x c).1;omega
   ·exact(h1 x c).2 (EI.2 (.inr (.inr (.inr (.inr (.inr e))))))⟩
  ord:=⟨p,t,u,by have:=n.size;omega⟩
  low:=h.low
  own:=h.own
  rown:=g
  grown:=h.grown.trans f fun j hj hm=>by have:=(b j hm).1;omega}
theorem Yyb.lies {S:ShP}{vz:List A0}{M:List (Option Nat)}(h:Yyb w0 w G rb A X s q hd a ca vv rv vs fs Y rs)(k:Yai M w z)(l:∀j,some j∈M->j=X\/j=A\/j<w0.heap.size)(m:S.hd=hd/\S.rows=rs)(hv:vz=Bx hd (.slice a hd.supp.length ca) rv S.zeros)(f:hd.supp.length<=maxLen)(g:rs.length<=maxLen):ShV z S vz:=by
 have c:∀j,some j∈M->some j∈GW A X G w0.heap.size vv rv:=fun j hm=>EI.2 (by rcases l j hm with e|e|e <;> omega);have d:=h.row.keptL k c fun j hj hm=>by
  have:=h.rown j hj;rcases l j hm with e|e|e <;> omega
 obtain⟨b,cb,n,i⟩:=d.rows;obtain⟨rfl,rfl⟩:=m;exact⟨a,b,ca,cb,by rw[hv,n],f,g,h.sup.keptS (h.supn.imp id fun h1 x o hm=>(h1 x o).2 (c _ hm)) k,i⟩
theorem Yyb.done (h:Yyb w0 w G rb A X s q hd a ca vv rv vs fs Y rs)(b:Yai [some rb,some X,some A] w z):w0.grownBy z (some rb):=by
 obtain⟨c,d,f,g⟩:=h.ord;refine(h.grown.trans b fun j hj hm=>?_).lone fun j _ hm=>by have e:=Dk.1 hm;injection e with e
 rcases Ei.1 hm with e|hm
 ·rw[e];exact Dk.2 rfl
 ·rcases Ei.1 hm with e|hm
  ·injection e with e;omega
  ·have e:=Dk.1 hm;injection e with e;omega
end
end Go.Proofs.YtjjmalchelniiaaGreatDoor