/- No condition. -/
import Derived.Test.YtjjmalchelniiaaGreatDoorZpy
import Derived.Test.YtjjmalchelniiaaGreatDoorZpbj
import Derived.Test.YtjjmalchelniiaaGreatDoorZpbr
open Go renaming Value->A0,World->A5
namespace Go.Proofs.YtjjmalchelniiaaGreatDoor
open Go.RowKit Go.Lib
theorem Wfs{p:Prop}(h:p:=by
 rintro(h|h|h)
 ·exact .inl h
 ·exact .inr (.inl h)
 ·exact .inr (.inr h.symm)):p:=h
theorem Wfr{p:Prop}(h:p:=by
 rcases IP.1 hm with e|e|e
 ·omega
 ·omega
 ·exact h2 e):p:=h
theorem Wfq{p:Prop}(h:p:=by
 rintro(h|h|h|h|h)
 ·exact .inl h.symm
 ·exact .inr (.inl h)
 ·exact .inr (.inr (.inl h))
 ·exact .inr (.inr (.inr (.inl h.symm)))
 ·exact .inr (.inr (.inr (.inr h)))):p:=h
theorem Wfp{p:Prop}(h:p:=by
 rintro(h|h|h|h|h|h)
 ·exact .inl h.symm
 ·exact .inr (.inl h)
 ·exact .inr (.inr (.inl h))
 ·exact .inr (.inr (.inr (.inl h)))
 ·exact .inr (.inr (.inr (.inr (.inl h.symm))))
 ·exact .inr (.inr (.inr (.inr (.inr h))))):p:=h
theorem Wam{p:Prop}(h:p:=by rw[e];exact Df.2 rfl):p:=h
theorem Wan{p:Prop}(h:p:=by have e:=Df.1 hm;injection e with e):p:=h
theorem Wao{p:Prop}(h:p:=by rw[Df.1 hm];exact Ez ..):p:=h
theorem Wap{p:Prop}(h:p:=by rw[Df.1 hm];exact Ey _ (Df.2 rfl)):p:=h
def O3 (rb:Nat)(k:Int)(inter:Bool)(vv:A0)(first:Int):List A0:=[.pointer (some ⟨rb,0,none⟩),.int .i64 k,.int .i64 (BE k),.int .i64 (BQ k),.int .i64 (AY k),.bool inter,vv,.int .i64 first]
structure Ydb (w:A5) (G rb:Nat) (s:ByteArray) (p:Nat) (k:Int) (inter:Bool) (vv:A0) (vs:List (Int×Int)) (first:Int):Prop where
 blk:w.heap[G]? =some (.cells (O3 rb k inter vv first).toArray 157 (0,0))
 rd:AE w rb s p
 vec:w.ownsRow 0 73 2 vv vs.length (GY vs)
 ne:G≠rb/\∀j,vv.ownBlock=some j->j≠G/\j≠rb
section
variable {w z:A5}{G rb p q:Nat}{s:ByteArray}{k:Int}{inter:Bool}{vv vv':A0}{vs:List (Int×Int)}{first first':Int}{M:List (Option Nat)}{row:Option Nat}
theorem Ydb.lt (h:Ydb w G rb s p k inter vv vs first):G<w.heap.size/\rb<w.heap.size/\∀j,vv.ownBlock=some j->j<w.heap.size:=
 ⟨(Am.1 h.blk).1,h.rd.lt,fun j hj=>(h.vec.lt j hj).2⟩
theorem Ydb.cell (h:Ydb w G rb s p k inter vv vs first){o:Nat}{v:A0}(hv:(O3 rb k inter vv first)[o]? =some v):w.cell? ⟨G,o,none⟩=some v:=AA h.blk hv
theorem Ydb.keptL (h:Ydb w G rb s p k inter vv vs first)(hg:Yah M w z)(a:some G∉M)(hr:some rb∉M)(hv:∀j,vv.ownBlock=some j->some j∉M):Ydb z G rb s p k inter vv vs first where
 blk:=(hg.block G h.lt.1 a).trans h.blk
 rd:=⟨(hg.block rb h.lt.2.1 hr).trans h.rd.1,h.rd.2⟩
 vec:=MX h.vec hg hv
 ne:=h.ne
theorem Ydb.below (h:Ydb w G rb s p k inter vv vs first)(a:Below w.heap.size w z):Ydb z G rb s p k inter vv vs first:=
 h.keptL (M:=[]) (Yah.below a) sV sV sV
theorem Ydb.reads (h:Ydb w G rb s p k inter vv vs first)(hg:w.grownBy z (some rb))(hr:AE z rb s q):Ydb z G rb s q k inter vv vs first where
 blk:=(hg.block G h.lt.1 fun e=>by injection e with e;exact h.ne.1 e).trans h.blk
 rd:=hr
 vec:=MX h.vec (M:=[some rb]) (Yah.one hg fun j _ e=>Wam) fun j hj hm=>by
  have e:=Df.1 hm;injection e with e;exact(h.ne.2 j hj).2 e
 ne:=h.ne
theorem Ydb.lines (h:Ydb w G rb s p k inter vv vs first):Ydb (w.setCell ⟨G,7,none⟩ (.int .i64 first')) G rb s p k inter vv vs first' where
 blk:=B3 (o:=7) _ h.blk
 rd:=⟨by rw[Ib _ _ _ _ (fun e=>h.ne.1 e.symm)];exact h.rd.1,h.rd.2⟩
 vec:=MX h.vec (M:=[some G]) (Yah.set _ (Df.2 rfl)) fun j hj hm=>by
  have e:=Df.1 hm;injection e with e;exact(h.ne.2 j hj).1 e
 ne:=h.ne
theorem Ydb.vecs {v:Int×Int}(h:Ydb w G rb s p k inter vv vs first)(hg:w.grownBy z vv.ownBlock)(ho:z.ownsRow 0 73 2 vv' (vs.length+1) (GY vs++[.int .i64 v.1,.int .i64 v.2]))(a:∀j,vv'.ownBlock=some j->vv.ownBlock=some j\/w.heap.size<=j):
  Ydb (z.setCell ⟨G,6,none⟩ vv') G rb s p k inter vv' (vs++[v]) first:=by
 obtain⟨b,c,-⟩:=h.lt;have hn:∀j,vv'.ownBlock=some j->j≠G/\j≠rb:=fun j hj=>by
  rcases a j hj with e|e
  ·exact h.ne.2 j e
  ·omega
 have d:z.heap[G]? =some (.cells (O3 rb k inter vv first).toArray 157 (0,0)):=(hg.block G b fun e=>(h.ne.2 G e.symm).1 rfl).trans h.blk;exact{
  blk:=B3 (o:=6) vv' d
  rd:=⟨by rw[Ib _ _ _ _ (fun e=>h.ne.1 e.symm),hg.block rb c fun e=>(h.ne.2 rb e.symm).2 rfl];exact h.rd.1,h.rd.2⟩
  vec:=by
   rw[B8,Wz];exact MX ho (M:=[some G]) (Yah.set _ (Df.2 rfl)) fun j hj hm=>by
    have e:=Df.1 hm;injection e with e;exact(hn j hj).1 e
  ne:=⟨h.ne.1,hn⟩}
end
def EQ (rb G:Nat)(vv:A0):List (Option Nat):=[some rb,some G,vv.ownBlock]
def Qdn (s:ByteArray)(G rb p:Nat)(k:Int)(inter:Bool)(vv:A0)(vs:List (Int×Int))(first:Int)(w:A5)(e:Ending)(a:A5):Prop:=
 ∃(c:Cel) (q:Nat) (f g:Int) (sl:Nat->A0),ctk inter (A2 s.data.toList) (CY vs (AY k) first).1 (CY vs (AY k) first).2 p=(c,q,f)/\g=(if f≠0 then f else if D0 k vs.length c=false then 8 else 0)/\
  e=.returned (.tuple #[.agg (AD c sl).toArray,.int .i64 g])/\(∀i,i<6->(sl i).oneCell'=true)/\Yah (EQ rb G vv) w a/\(∃q',AE a rb s q')/\
  (g=0->∃vv',Ydb a G rb s q k inter vv' (vs++[(c.mx,c.my)]) first/\(∀j,vv'.ownBlock=some j->vv.ownBlock=some j\/w.heap.size<=j)/\∀L:List (Option Nat),(∀j,some j∈L->j<w.heap.size)->CQ (vv'.ownBlock::L) a c (AD c sl))
def Y9u (s:ByteArray)(G rb p:Nat)(k:Int)(inter:Bool)(vv:A0)(vs:List (Int×Int))(first:Int)(i:Nat)(w:A5)(e:Ending)(a:A5):Prop:=
 ∃(b:Bool) (id qu:Int) (z:Nat) (fs f:Int) (cs:List Cel) (q:Nat) (h g:Int),F2 s.data.toList k i p first=(b,id,qu,z,fs,f)/\CG ctk s.data.toList inter k fs (BN k).toNat z vs=(cs,q,h)/\g=(if f≠0 then f else h)/\
  ∃rw:List A0,e=.returned (.tuple #[.agg rw.toArray,.int .i64 g])/\(rw.length=4/\∀u∈rw,u.oneCell'=true)/\Yah (EQ rb G vv) w a/\(∃q',AE a rb s q')/\
  (g=0->∃vv',Ydb a G rb s q k inter vv' (vs++CP cs) fs/\(∀j,vv'.ownBlock=some j->vv.ownBlock=some j\/w.heap.size<=j)/\∀L:List (Option Nat),(∀j,some j∈L->j<w.heap.size)->CT (vv'.ownBlock::L) a ⟨b,id,qu,cs⟩ rw)
theorem IP {rb G:Nat}{vv:A0}{j:Nat}:some j∈EQ rb G vv↔j=rb\/j=G\/vv.ownBlock=some j:=by
 simp only[EQ,Ee,Eg,Ep,Ny];constructor
 ·exact Wfs
 ·exact Wfs
def I2 (A X n:Nat)(vv cv:A0):List (Option Nat):=vv.ownBlock::some A::some X::cv.ownBlock::E8 n
theorem HJ {A X n j:Nat}{vv cv:A0}:some j∈I2 A X n vv cv↔vv.ownBlock=some j\/j=A\/j=X\/cv.ownBlock=some j\/j<n:=by
 simp only[I2,Ee,IK,Ny];constructor
 ·exact Wfq
 ·exact Wfq
structure Y4l (w0 w:A5) (G rb A X:Nat) (s:ByteArray) (q:Nat) (k:Int) (inter:Bool) (vv0 vv cv:A0) (vz:List (Int×Int)) (fs:Int) (Y:Array A0) (b:Bool) (id qu:Int) (cs:List Cel):Prop where
 rdr:Ydb w G rb s q k inter vv vz fs
 res:w.heap[A]? =some (.cells Y 46 (0,0))
 row:w.heap[X]? =some (.cells [.bool b,.int .i64 id,.int .i64 qu,cv].toArray 46 (0,0))
 cel:EU (I2 A X w0.heap.size vv cv) w cv cs
 ord:w0.heap.size<=A/\A<X/\X<w.heap.size
 low:G<w0.heap.size/\rb<w0.heap.size/\∀j,vv0.ownBlock=some j->j<w0.heap.size
 own:∀j,vv.ownBlock=some j->(vv0.ownBlock=some j\/w0.heap.size<=j)/\j≠A/\j≠X
 cown:∀j,cv.ownBlock=some j->w0.heap.size<=j/\j≠A/\j≠X/\vv.ownBlock≠some j
 grown:Yah (EQ rb G vv0) w0 w
section
variable {w0 w z:A5}{G rb A X q q':Nat}{s:ByteArray}{k:Int}{inter:Bool}{vv0 vv vv' cv cv':A0}{vz vz':List (Int×Int)}{fs:Int}{Y:Array A0}{b:Bool}{id qu:Int}{cs:List Cel}{c:Cel}
theorem Y4l.cell (h:Y4l w0 w G rb A X s q k inter vv0 vv cv vz fs Y b id qu cs)(hr:Ydb z G rb s q' k inter vv' vz' fs)(hg:Yah (EQ rb G vv) w z)(f:∀j,vv'.ownBlock=some j->vv.ownBlock=some j\/w.heap.size<=j):
  Y4l w0 z G rb A X s q' k inter vv0 vv' cv vz' fs Y b id qu cs:=by
 obtain⟨i,m,l⟩:=h.ord;obtain⟨p,r,-⟩:=h.low;have g:=AO.lt h.cel;have a:∀j,w0.heap.size<=j->vv.ownBlock≠some j->some j∉EQ rb G vv:=fun j h1 h2 hm=>by
  exact Wfr
 have n:some A∉EQ rb G vv:=a A i fun e=>(h.own A e).2.1 rfl;have o:some X∉EQ rb G vv:=a X sX fun e=>(h.own X e).2.2 rfl;have d:EU (vv'.ownBlock::I2 A X w0.heap.size vv cv) w cv cs:=h.cel.mono fun j hj hn hm=>by
  rcases Ee.1 hm with e|e
  ·rcases f j e.symm with h1|h1
   ·exact hn (HJ.2 (.inl h1))
   ·omega
  ·exact hn e
 have c:EU (vv'.ownBlock::I2 A X w0.heap.size vv cv) z cv cs:=d.keptL hg (fun j hm=>Ey _ (HJ.2 (by
  rcases IP.1 hm with e|e|e
  ·omega
  ·omega
  ·exact .inl e))) fun j hj=>a j (h.cown j hj).1 (h.cown j hj).2.2.2
 exact{
  rdr:=hr
  res:=(hg.block A sX n).trans h.res
  row:=(hg.block X l o).trans h.row
  cel:=c.mono fun j _ hn hm=>hn (by
   rcases HJ.1 hm with e|e
   ·rw[e];exact Ez ..
   ·exact Ey _ (HJ.2 (.inr e)))
  ord:=⟨i,m,Bc l hg.size⟩
  low:=h.low
  own:=fun j hj=>by
   rcases f j hj with h1|h1
   ·exact h.own j h1
   ·have:=h.grown.size;exact⟨.inr sX,sX,sX⟩
  cown:=fun j hj=>⟨(h.cown j hj).1,(h.cown j hj).2.1,(h.cown j hj).2.2.1,fun e=>by
   rcases f j e with h1|h1
   ·exact(h.cown j hj).2.2.2 h1
   ·have:=g j hj;omega⟩
  grown:=h.grown.trans hg fun j hj hm=>IP.2 (by
   rcases IP.1 hm with e|e|e
   ·exact .inl e
   ·exact .inr (.inl e)
   ·rcases (h.own j e).1 with h1|h1
    ·exact .inr (.inr h1)
    ·omega)}
theorem Y4l.below (h:Y4l w0 w G rb A X s q k inter vv0 vv cv vz fs Y b id qu cs)(a:Below w.heap.size w z):Y4l w0 z G rb A X s q k inter vv0 vv cv vz fs Y b id qu cs:=
 h.cell (h.rdr.below a) (Yah.below a) fun _ hj=>.inl hj
theorem Y4l.app (h:Y4l w0 w G rb A X s q k inter vv0 vv cv vz fs Y b id qu cs)(hg:w.grownBy z cv.ownBlock)(ho:AO 18 77 (CQ (I2 A X w0.heap.size vv cv) w) z 0 cv' (cs++[c]))(n:∀j,cv'.ownBlock=some j->cv.ownBlock=some j\/w.heap.size<=j):
  Y4l w0 (z.setCell ⟨X,3,none⟩ cv') G rb A X s q k inter vv0 vv cv' vz fs Y b id qu (cs++[c]):=by
 obtain⟨p,r,t⟩:=h.ord;obtain⟨y,B,C⟩:=h.low;have D:=hg.size;have l:=h.rdr.lt;have u:=h.grown.size;have v:=AO.lt h.cel;have x:Yah [cv.ownBlock] w z:=Yah.one hg fun j _ e=>Wam;have m:Yah [some X] z (z.setCell ⟨X,3,none⟩ cv'):=Yah.set _ (Df.2 rfl);have i:Yah [cv.ownBlock,some X] w (z.setCell ⟨X,3,none⟩ cv'):=(x.mono fun j _ hm=>Wao).trans m fun j _ hm=>Wap;have d:∀j,some j∈[cv.ownBlock,some X]->w0.heap.size<=j/\j≠A/\vv.ownBlock≠some j:=fun j hm=>by
  rcases Ee.1 hm with e|e
  ·have:=h.cown j e.symm;exact⟨this.1,this.2.1,this.2.2.2⟩
  ·have e:=Df.1 e;injection e with e;subst e;exact⟨sX,sX,fun e=>(h.own j e).2.2 rfl⟩
 have f:∀j,cv'.ownBlock=some j->w0.heap.size<=j/\j≠A/\j≠X/\vv.ownBlock≠some j:=fun j hj=>by
  rcases n j hj with h1|h1
  ·exact h.cown j h1
  ·exact⟨sX,sX,sX,fun e=>by have:=l.2.2 j e;omega⟩
 have g:AO 18 77 (CQ (I2 A X w0.heap.size vv cv') (z.setCell ⟨X,3,none⟩ cv')) z 0 cv' (cs++[c]):=AO.mono ho fun a vs hv=>by
  have h1:CQ (cv'.ownBlock::I2 A X w0.heap.size vv cv) w a vs:=hv.mono fun j hj hn hm=>by
   rcases Ee.1 hm with e|e
   ·rcases n j e.symm with h2|h2
    ·exact hn (HJ.2 (.inr (.inr (.inr (.inl h2)))))
    ·omega
   ·exact hn e
  have h2:CQ (cv'.ownBlock::I2 A X w0.heap.size vv cv) (z.setCell ⟨X,3,none⟩ cv') a vs:=h1.keptL i fun j hm=>by
   refine Ey _ ?_;rcases Ee.1 hm with e|e
   ·exact HJ.2 (.inr (.inr (.inr (.inl e.symm))))
   ·have e:=Df.1 e;injection e with e;exact HJ.2 (.inr (.inr (.inl e)))
  refine h2.mono fun j _ hn hm=>hn ?_;rcases HJ.1 hm with e|e|e|e|e
  ·exact Ey _ (HJ.2 (.inl e))
  ·exact Ey _ (HJ.2 (.inr (.inl e)))
  ·exact Ey _ (HJ.2 (.inr (.inr (.inl e))))
  ·rw[e];exact Ez ..
  ·exact Ey _ (HJ.2 (.inr (.inr (.inr (.inr e)))))
 exact{
  rdr:=h.rdr.keptL i (fun hm=>by have:=(d G hm).1;omega) (fun hm=>by have:=(d rb hm).1;omega) fun j hj hm=>(d j hm).2.2 hj
  res:=(i.block A sX fun hm=>(d A hm).2.1 rfl).trans h.res
  row:=B3 (o:=3) cv' ((hg.block X t fun e=>(h.cown X e.symm).2.2.1 rfl).trans h.row)
  cel:=AO.keptL g m fun j hj hm=>by
   have e:=Df.1 hm;injection e with e;exact(f j hj).2.2.1 e
  ord:=⟨p,r,xH⟩
  low:=h.low
  own:=h.own
  cown:=f
  grown:=h.grown.trans i fun j hj hm=>by have:=(d j hm).1;omega}
theorem Y4l.bad (h:Y4l w0 w G rb A X s q k inter vv0 vv cv vz fs Y b id qu cs)(hg:Yah (EQ rb G vv) w z):z.heap[A]? =some (.cells Y 46 (0,0))/\z.heap[X]? =some (.cells [.bool b,.int .i64 id,.int .i64 qu,cv].toArray 46 (0,0))/\Yah (EQ rb G vv0) w0 z:=by
 obtain⟨c,f,d⟩:=h.ord;obtain⟨g,i,-⟩:=h.low;have a:∀j,w0.heap.size<=j->vv.ownBlock≠some j->some j∉EQ rb G vv:=fun j h1 h2 hm=>by
  exact Wfr
 refine⟨(hg.block A sX (a A c fun e=>(h.own A e).2.1 rfl)).trans h.res,(hg.block X d (a X sX fun e=>(h.own X e).2.2 rfl)).trans h.row,h.grown.trans hg fun j hj hm=>IP.2 ?_⟩;rcases IP.1 hm with e|e|e
 ·exact .inl e
 ·exact .inr (.inl e)
 ·rcases (h.own j e).1 with h1|h1
  ·exact .inr (.inr h1)
  ·omega
theorem Y4l.done (h:Y4l w0 w G rb A X s q k inter vv0 vv cv vz fs Y b id qu cs)(hl:cs.length<=maxLen)(hg:w.grownBy z (some A)):
  Ydb z G rb s q k inter vv vz fs/\(∀j,vv.ownBlock=some j->vv0.ownBlock=some j\/w0.heap.size<=j)/\Yah (EQ rb G vv0) w0 z/\∀L:List (Option Nat),(∀j,some j∈L->j<w0.heap.size)->CT (vv.ownBlock::L) z ⟨b,id,qu,cs⟩ [.bool b,.int .i64 id,.int .i64 qu,cv]:=by
 obtain⟨f,g,i⟩:=h.ord;obtain⟨l,m,n⟩:=h.low;have c:Yah [some A] w z:=Yah.one hg fun j _ e=>Wam;have a:∀j,some j∈[some A]->j=A:=fun j hm=>Wan;refine⟨h.rdr.keptL c (fun hm=>by have:=a G hm;omega) (fun hm=>by have:=a rb hm;omega) fun j hj hm=>(h.own j hj).2.1 (a j hm),fun j hj=>(h.own j hj).1,h.grown.trans c fun j hj hm=>by have:=a j hm;omega,fun L d=>?_⟩;have hc:EU (I2 A X w0.heap.size vv cv) z cv cs:=h.cel.keptL c (fun j hm=>HJ.2 (.inr (.inl (a j hm)))) fun j hj hm=>(h.cown j hj).2.1 (a j hm);refine⟨cv,rfl,hc.mono fun j _ hn hm=>hn ?_,hl,fun j hj hm=>?_⟩
 ·rcases Ee.1 hm with e|e
  ·exact HJ.2 (.inl e.symm)
  ·exact HJ.2 (.inr (.inr (.inr (.inr (d j e)))))
 ·rcases Ee.1 hm with e|e
  ·exact(h.cown j hj).2.2.2 e.symm
  ·have:=d j e;have:=(h.cown j hj).1;omega
end
theorem BO.keptS {w x:A5}{M:List (Option Nat)}{l:List Int}{p:Option Addr}(h:BO w p l)(a:l=[]\/∀y,p=some y->some y.block∉M)(hg:Yah M w x):BO x p l:=by
 rcases a with rfl|a
 ·exact BO.nil _ _
 ·exact h.keptL a hg
def HA (A X G n:Nat)(vv rv:A0):List (Option Nat):=vv.ownBlock::some A::some X::some G::rv.ownBlock::E8 n
theorem EG {A X G n j:Nat}{vv rv:A0}:some j∈HA A X G n vv rv↔vv.ownBlock=some j\/j=A\/j=X\/j=G\/rv.ownBlock=some j\/j<n:=by
 simp only[HA,Ee,IK,Ny];constructor
 ·exact Wfp
 ·exact Wfp
structure Y0c (w0 w:A5) (G rb A X:Nat) (s:ByteArray) (q:Nat) (hd:Shd) (a:Option Addr) (ca:Nat) (vv rv:A0) (vs:List (Int×Int)) (fs:Int) (Y:Array A0) (rs:List RowP):Prop where
 rdr:Ydb w G rb s q hd.fmt hd.inter vv vs fs
 res:w.heap[A]? =some (.cells Y 39 (0,0))
 sht:w.heap[X]? =some (.cells (AU hd (.slice a hd.supp.length ca) rv 0).toArray 39 (0,0))
 row:E3 (HA A X G w0.heap.size vv rv) w rv rs
 sup:BO w a hd.supp
 supn:hd.supp=[]\/∀x,a=some x->x.block<w.heap.size/\some x.block∉HA A X G w0.heap.size vv rv
 ord:w0.heap.size<=A/\A<X/\X<G/\G<w.heap.size
 low:rb<w0.heap.size
 own:∀j,vv.ownBlock=some j->w0.heap.size<=j/\j≠A/\j≠X
 rown:∀j,rv.ownBlock=some j->w0.heap.size<=j/\j≠A/\j≠X/\j≠G/\vv.ownBlock≠some j
 grown:Yah [some rb] w0 w
section
variable {w0 w z:A5}{G rb A X q q':Nat}{s:ByteArray}{hd:Shd}{a:Option Addr}{ca:Nat}{vv vv' rv rv':A0}{vs vs':List (Int×Int)}{fs fs':Int}{Y:Array A0}{rs:List RowP}{r:RowP}
theorem Y0c.call (h:Y0c w0 w G rb A X s q hd a ca vv rv vs fs Y rs)(hr:Ydb z G rb s q' hd.fmt hd.inter vv' vs' fs')(hg:Yah (EQ rb G vv) w z)(i:∀j,vv'.ownBlock=some j->vv.ownBlock=some j\/w.heap.size<=j):
  Y0c w0 z G rb A X s q' hd a ca vv' rv vs' fs' Y rs:=by
 obtain⟨l,m,n,o⟩:=h.ord;have p:=h.low;have k:=AO.lt h.row;have b:∀j,w0.heap.size<=j->j≠G->vv.ownBlock≠some j->some j∉EQ rb G vv:=fun j h1 h3 h2 hm=>by
  exact Wfr
 have c:∀j,some j∈EQ rb G vv->some j∈HA A X G w0.heap.size vv rv:=fun j hm=>EG.2 (by
  rcases IP.1 hm with e|e|e
  ·omega
  ·omega
  ·exact .inl e)
 have g:E3 (vv'.ownBlock::HA A X G w0.heap.size vv rv) w rv rs:=h.row.mono fun j hj hn hm=>by
  rcases Ee.1 hm with e|e
  ·rcases i j e.symm with h1|h1
   ·exact hn (EG.2 (.inl h1))
   ·omega
  ·exact hn e
 have d:E3 (vv'.ownBlock::HA A X G w0.heap.size vv rv) z rv rs:=g.keptL hg (fun j hm=>Ey _ (c j hm)) fun j hj=>b j (h.rown j hj).1 (h.rown j hj).2.2.2.1 (h.rown j hj).2.2.2.2;exact{
  rdr:=hr
  res:=(hg.block A sX (b A l sX fun e=>(h.own A e).2.1 rfl)).trans h.res
  sht:=(hg.block X sX (b X sX sX fun e=>(h.own X e).2.2 rfl)).trans h.sht
  row:=d.mono fun j _ hn hm=>hn (by
   rcases EG.1 hm with e|e
   ·rw[e];exact Ez ..
   ·exact Ey _ (EG.2 (.inr e)))
  sup:=h.sup.keptS (h.supn.imp id fun h1 x f hm=>(h1 x f).2 (c _ hm)) hg
  supn:=h.supn.imp id fun h1 x f=>⟨Bc (h1 x f).1 hg.size,fun hm=>by
   rcases EG.1 hm with e|e
   ·rcases i _ e with h3|h3
    ·exact(h1 x f).2 (EG.2 (.inl h3))
    ·have:=(h1 x f).1;omega
   ·exact(h1 x f).2 (EG.2 (.inr e))⟩
  ord:=⟨l,m,n,Bc o hg.size⟩
  low:=h.low
  own:=fun j hj=>by
   rcases i j hj with h1|h1
   ·exact h.own j h1
   ·have:=h.grown.size;exact⟨sX,sX,sX⟩
  rown:=fun j hj=>⟨(h.rown j hj).1,(h.rown j hj).2.1,(h.rown j hj).2.2.1,(h.rown j hj).2.2.2.1,fun e=>by
   rcases i j e with h1|h1
   ·exact(h.rown j hj).2.2.2.2 h1
   ·have:=k j hj;omega⟩
  grown:=h.grown.trans hg fun j hj hm=>by
   rcases IP.1 hm with e|e|e
   ·rw[e];exact Df.2 rfl
   ·omega
   ·have:=(h.own j e).1;omega}
theorem Y0c.below (h:Y0c w0 w G rb A X s q hd a ca vv rv vs fs Y rs)(b:Below w.heap.size w z):Y0c w0 z G rb A X s q hd a ca vv rv vs fs Y rs:=
 h.call (h.rdr.below b) (Yah.below b) fun _ hj=>.inl hj
theorem Y0c.bad (h:Y0c w0 w G rb A X s q hd a ca vv rv vs fs Y rs)(hg:Yah (EQ rb G vv) w z):z.heap[A]? =some (.cells Y 39 (0,0))/\z.heap[X]? =some (.cells (AU hd (.slice a hd.supp.length ca) rv 0).toArray 39 (0,0))/\Yah [some rb] w0 z:=by
 obtain⟨c,d,f,g⟩:=h.ord;have i:=h.low;have b:∀j,w0.heap.size<=j->j≠G->vv.ownBlock≠some j->some j∉EQ rb G vv:=fun j h1 h3 h2 hm=>by
  exact Wfr
 refine⟨(hg.block A sX (b A c sX fun e=>(h.own A e).2.1 rfl)).trans h.res,(hg.block X sX (b X sX sX fun e=>(h.own X e).2.2 rfl)).trans h.sht,h.grown.trans hg fun j hj hm=>?_⟩;rcases IP.1 hm with e|e|e
 ·rw[e];exact Df.2 rfl
 ·omega
 ·have:=(h.own j e).1;omega
theorem Y0c.app (h:Y0c w0 w G rb A X s q hd a ca vv rv vs fs Y rs)(hg:w.grownBy z rv.ownBlock)(ho:AO 4 46 (CT (HA A X G w0.heap.size vv rv) w) z 0 rv' (rs++[r]))(k:∀j,rv'.ownBlock=some j->rv.ownBlock=some j\/w.heap.size<=j):
  Y0c w0 (z.setCell ⟨X,6,none⟩ rv') G rb A X s q hd a ca vv rv' vs fs Y (rs++[r]):=by
 obtain⟨n,p,t,y⟩:=h.ord;have B:=h.low;have C:=hg.size;have l:=h.rdr.lt;have u:=h.grown.size;have v:Yah [rv.ownBlock] w z:=Yah.one hg fun j _ e=>Wam;have m:Yah [some X] z (z.setCell ⟨X,6,none⟩ rv'):=Yah.set _ (Df.2 rfl);have f:Yah [rv.ownBlock,some X] w (z.setCell ⟨X,6,none⟩ rv'):=(v.mono fun j _ hm=>Wao).trans m fun j _ hm=>Wap;have b:∀j,some j∈[rv.ownBlock,some X]->w0.heap.size<=j/\j≠A/\j≠G/\vv.ownBlock≠some j:=fun j hm=>by
  rcases Ee.1 hm with e|e
  ·have:=h.rown j e.symm;exact⟨this.1,this.2.1,this.2.2.2.1,this.2.2.2.2⟩
  ·have e:=Df.1 e;injection e with e;subst e;exact⟨sX,sX,sX,fun e=>(h.own j e).2.2 rfl⟩
 have d:∀j,some j∈[rv.ownBlock,some X]->some j∈HA A X G w0.heap.size vv rv:=fun j hm=>EG.2 (by
  rcases Ee.1 hm with e|e
  ·exact .inr (.inr (.inr (.inr (.inl e.symm))))
  ·have e:=Df.1 e;injection e with e;exact .inr (.inr (.inl e)))
 have g:∀j,rv'.ownBlock=some j->w0.heap.size<=j/\j≠A/\j≠X/\j≠G/\vv.ownBlock≠some j:=fun j hj=>by
  rcases k j hj with h1|h1
  ·exact h.rown j h1
  ·exact⟨sX,sX,sX,sX,fun e=>by have:=l.2.2 j e;omega⟩
 have i:AO 4 46 (CT (HA A X G w0.heap.size vv rv') (z.setCell ⟨X,6,none⟩ rv')) z 0 rv' (rs++[r]):=AO.mono ho fun a vs hv=>by
  have h1:CT (rv'.ownBlock::HA A X G w0.heap.size vv rv) w a vs:=hv.mono fun j hj hn hm=>by
   rcases Ee.1 hm with e|e
   ·rcases k j e.symm with h2|h2
    ·exact hn (EG.2 (.inr (.inr (.inr (.inr (.inl h2))))))
    ·omega
   ·exact hn e
  have h2:CT (rv'.ownBlock::HA A X G w0.heap.size vv rv) (z.setCell ⟨X,6,none⟩ rv') a vs:=h1.keptL f fun j hm=>Ey _ (d j hm);refine h2.mono fun j _ hn hm=>hn ?_;rcases EG.1 hm with e|e|e|e|e|e
  ·exact Ey _ (EG.2 (.inl e))
  ·exact Ey _ (EG.2 (.inr (.inl e)))
  ·exact Ey _ (EG.2 (.inr (.inr (.inl e))))
  ·exact Ey _ (EG.2 (.inr (.inr (.inr (.inl e)))))
  ·rw[e];exact Ez ..
  ·exact Ey _ (EG.2 (.inr (.inr (.inr (.inr (.inr e))))))
 exact{
  rdr:=h.rdr.keptL f (fun hm=>(b G hm).2.2.1 rfl) (fun hm=>by have:=(b rb hm).1;omega) fun j hj hm=>(b j hm).2.2.2 hj
  res:=(f.block A sX fun hm=>(b A hm).2.1 rfl).trans h.res
  sht:=B3 (o:=6) rv' ((hg.block X sX fun e=>(h.rown X e.symm).2.2.1 rfl).trans h.sht)
  row:=AO.keptL i m fun j hj hm=>by
   have e:=Df.1 hm;injection e with e;exact(g j hj).2.2.1 e
  sup:=h.sup.keptS (h.supn.imp id fun h1 x c hm=>(h1 x c).2 (d _ hm)) f
  supn:=h.supn.imp id fun h1 x c=>⟨Bc (h1 x c).1 f.size,fun hm=>by
   rcases EG.1 hm with e|e|e|e|e|e
   ·exact(h1 x c).2 (EG.2 (.inl e))
   ·exact(h1 x c).2 (EG.2 (.inr (.inl e)))
   ·exact(h1 x c).2 (EG.2 (.inr (.inr (.inl e))))
   ·exact(h1 x c).2 (EG.2 (.inr (.inr (.inr (.inl e)))))
   ·rcases k _ e with h2|h2
    ·exact(h1 x c).2 (EG.2 (.inr (.inr (.inr (.inr (.inl h2))))))
    ·have:=(h1 x c).1;omega
   ·exact(h1 x c).2 (EG.2 (.inr (.inr (.inr (.inr (.inr e))))))⟩
  ord:=⟨n,p,t,xH⟩
  low:=h.low
  own:=h.own
  rown:=g
  grown:=h.grown.trans f fun j hj hm=>by have:=(b j hm).1;omega}
theorem Y0c.lies {S:ShP}{vz:List A0}{M:List (Option Nat)}(h:Y0c w0 w G rb A X s q hd a ca vv rv vs fs Y rs)(hg:Yah M w z)(k:∀j,some j∈M->j=X\/j=A\/j<w0.heap.size)(l:S.hd=hd/\S.rows=rs)(hv:vz=AU hd (.slice a hd.supp.length ca) rv S.zeros)(f:hd.supp.length<=maxLen)(g:rs.length<=maxLen):ShV z S vz:=by
 have c:∀j,some j∈M->some j∈HA A X G w0.heap.size vv rv:=fun j hm=>EG.2 (by rcases k j hm with e|e|e <;> omega);have d:=h.row.keptL hg c fun j hj hm=>by
  have:=h.rown j hj;rcases k j hm with e|e|e <;> omega
 obtain⟨b,cb,m,i⟩:=d.rows;obtain⟨rfl,rfl⟩:=l;exact⟨a,b,ca,cb,by rw[hv,m],f,g,h.sup.keptS (h.supn.imp id fun h1 x n hm=>(h1 x n).2 (c _ hm)) hg,i⟩
theorem Y0c.done (h:Y0c w0 w G rb A X s q hd a ca vv rv vs fs Y rs)(hg:Yah [some rb,some X,some A] w z):w0.grownBy z (some rb):=by
 obtain⟨b,c,d,f⟩:=h.ord;refine(h.grown.trans hg fun j hj hm=>?_).lone fun j _ hm=>Wan;rcases Ee.1 hm with e|hm
 ·rw[e];exact Df.2 rfl
 ·rcases Ee.1 hm with e|hm
  ·injection e with e;omega
  ·have e:=Df.1 hm;injection e with e;omega
end
end Go.Proofs.YtjjmalchelniiaaGreatDoor