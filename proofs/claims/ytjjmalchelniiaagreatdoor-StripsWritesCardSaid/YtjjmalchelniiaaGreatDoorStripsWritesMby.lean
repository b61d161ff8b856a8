/- StripsWrites, 51. No condition. -/
import Derived.Test.YtjjmalchelniiaaGreatDoorStripsWritesMa
import Derived.Test.YtjjmalchelniiaaGreatDoorStripsWritesMg
import Derived.Test.YtjjmalchelniiaaGreatDoorStripsWritesMi
import Derived.Test.YtjjmalchelniiaaGreatDoorStripsWritesMj
import Derived.Test.YtjjmalchelniiaaGreatDoorStripsWritesMl
import Derived.Test.YtjjmalchelniiaaGreatDoorStripsWritesMn
import Derived.Test.YtjjmalchelniiaaGreatDoorStripsWritesMp
import Derived.Test.YtjjmalchelniiaaGreatDoorStripsWritesMt
import Derived.Test.YtjjmalchelniiaaGreatDoorStripsWritesMx
import Derived.Test.YtjjmalchelniiaaGreatDoorStripsWritesMy
import Derived.Test.YtjjmalchelniiaaGreatDoorStripsWritesMbj
import Derived.Test.YtjjmalchelniiaaGreatDoorStripsWritesMbq
import Derived.Test.YtjjmalchelniiaaGreatDoorStripsWritesMbr
import Derived.Test.YtjjmalchelniiaaGreatDoorStripsWritesMbs
import Derived.Test.YtjjmalchelniiaaGreatDoorStripsWritesMbu
import Derived.Test.YtjjmalchelniiaaGreatDoorStripsWritesMbv
import Derived.Test.YtjjmalchelniiaaGreatDoorStripsWritesMbw
import Derived.Test.YtjjmalchelniiaaGreatDoorStripsWritesMbx
open Go.Proofs.Tryz
open Go renaming World->A5,Value->A0,Addr->Aa,TypeId->A7,Calls->A9,Oper->A4,Operand->A8,Ending->Ad
set_option maxHeartbeats 8000000
namespace Go.Proofs.YtjjmalchelniiaaGreatDoor
open Go.RowKit Go.Lib
abbrev Ph:=@underlying24
abbrev Pj:=@wpList_buildTo
theorem ShV.shape {w:A5}{S:ShP}{vs:List A0}(h:ShV w S vs):vs.length=8/\∀u∈vs,u.oneCell'=true:=by
 obtain⟨a,b,ca,cb,rfl,-⟩:=h;refine⟨rfl,fun u c=>?_⟩;simp only[Bx,Ei,Ej,Eo] at c;rcases c with rfl|rfl|rfl|rfl|rfl|rfl|rfl|rfl <;> rfl
def HG:A5->Option Aa->List ShP->Prop:=CD 8 ShV
theorem HG.below {w x:A5}{q:Option Aa}{l:List ShP}(h:HG w q l)(a:Below w.heap.size w x):HG x q l:=CD.below h (ShV.below a) a
theorem HG.at_ {w:A5}{q:Option Aa}{l:List ShP}(h:HG w q l)(c:0<l.length):
  ∃b o,q=some ⟨b,o,none⟩/\b<w.heap.size/\∀x,Below w.heap.size w x->∀i,(h:i<l.length)->∃vs,ShV x l[i] vs/\(vs.length=8/\∀u∈vs,u.oneCell'=true)/\∀(j:Nat) v,vs[j]? =some v->x.cell? ⟨b,o+i*8+j,none⟩=some v:=by
 obtain⟨b,o,e,hl,hc⟩:=CD.hold h c;refine⟨b,o,e,hl,fun x a i hi=>?_⟩;obtain⟨vs,h1,h2⟩:=hc x a i hi;exact⟨vs,ShV.below a _ _ h1,h1.shape,h2⟩
def K4 (w:A5)(T:StrP)(vs:List A0):Prop:=∃(q:Option Aa) (cap:Nat),vs=[.slice q T.sheets.length cap,.bool T.fin]/\T.sheets.length<=cap/\T.sheets.length<=maxLen/\HG w q T.sheets
instance:Inhabited ShP:=⟨JV⟩
section
variable {H:Type}{enc:A7×A0->H}{P:Program}
theorem xK {w:A5}{base a:Nat}{f:Nat->Bool}{b:Bool}{t e:A7}{p:Option Aa}{n cap:Nat}{x:DataW H×List MemPlace}(ht:P.underlying t=some (.slice e))(g:DataW.trod enc P w base f b a t [.slice p n cap]=some x):n<=cap:=by
 rcases Gk ht g with ⟨h1,_⟩|⟨h,c,d,m,i,D,j,h1,_,h2,_⟩
 ·injection h1 with h1;injection h1 with _ h2 h3;omega
 ·injection h1 with h1;injection h1 with _ h3 h4;omega
theorem zD {w:A5}{r:Reach}{z base:Nat}{b:Nat->Bool}{a:Bool}{t j c m:A7}{f0 f1:Field}{v:A0}{d:DataW H}{C:List MemPlace}
  (ht:P.underlying t=some (.struct #[f0,f1]))(D:P.underlying j=some .bool)(hs:P.underlying c=some (.slice m))(e:f0.type=c/\f1.type=j)(o:f0.offset=0/\f1.offset=1)
  (cb:P.cellsOf j=1)(cs:P.cellsOf c=1)(E:P.cellsOf m=8)(hc:P.cellsOf t=2)(F:∀k vs y,vs.length=8->DataW.trod enc P w base b a k m vs=some y->∃S,ShV w S vs)
  (f:Value.okWide P w r z t v)(hd:DataW.Trod enc P w base b a t v d C):∃(T:StrP) (vs:List A0),v=.agg vs.toArray/\K4 w T vs:=by
 obtain⟨q,rfl,g,_⟩:∃cs,v=.agg cs/\cs.size=P.cellsOf t/\Row.okWide P w r z t cs:=by
  simpa [Value.okWide,ht] using f
 rw[hc] at g;obtain⟨A,G⟩:=hd;obtain⟨I,k,N,J,_,s,h⟩:=Gh ht G;obtain⟨l⟩:=q
 match l,g,I,s with
 |[u0,u1],_,[y0,y1],_=>
  have u:=h 0 f0 rfl;have B:=h 1 f1 rfl;rw[e.1,o.1,cs] at u;rw[e.2,o.2,cb] at B;obtain⟨p,n,cap,rfl,hl,hr⟩:=LU 8 (fun vs=>∃S,ShV w S vs) hs E (by decide) F (show DataW.trod enc P w base b a k c [u0]=some y0 from u);have i:n<=cap:=xK hs (show DataW.trod enc P w base b a k c [.slice p n cap]=some y0 from u)
  obtain⟨K,x,_⟩:=Gj D (show DataW.trod _ P w base b a k j [u1]=some y1 from B);injection x with x;subst x;obtain⟨L,rfl,M⟩:=SB hr;exact⟨⟨L,K⟩,_,rfl,p,cap,rfl,i,hl,M⟩
end
def ShK (L:List (Option Nat))(w:A5)(S:ShP)(vs:List A0):Prop:=∀x,Yai L w x->ShV x S vs
section
variable {L M L':List (Option Nat)}{w x:A5}{S:ShP}{vs:List A0}
theorem ShK.shV (h:ShK L w S vs):ShV w S vs:=h w (Yai.refl _ _)
theorem ShK.shape (h:ShK L w S vs):vs.length=8/\∀u∈vs,u.oneCell'=true:=h.shV.shape
theorem ShK.mono (h:ShK L w S vs)(a:∀j,j<w.heap.size->some j∈L'->some j∈L):ShK L' w S vs:=fun x b=>h x (b.mono a)
theorem ShK.keptL (h:ShK L w S vs)(a:Yai M w x)(b:∀j,j<w.heap.size->some j∈M->some j∈L):ShK L x S vs:=fun z c=>h z ((a.mono b).trans c fun _ _ hj=>hj)
theorem ShK.below (h:ShK L w S vs)(a:Below w.heap.size w x):ShK L x S vs:=h.keptL (M:=[]) (Yai.below a) (by simp)
theorem ShK.low {n:Nat}(h:∀(z:A5) (K:List (Option Nat)),(∀j,some j∈K->j<n)->Yai K w z->ShV z S vs):ShK (GF n) w S vs:=fun z a=>h z _ (fun _ hj=>LN.1 hj) a
def IH (n:Nat)(w:A5)(v:A0)(l:List ShP):Prop:=AX 8 39 (ShK (v.ownBlock::GF n) w) w n v l
theorem IH.nil (n:Nat)(w:A5):IH n w (.slice none 0 0) []:=AX.nil ..
theorem IH.kept {n:Nat}{v:A0}{l:List ShP}(h:IH n w v l)(a:Yai M w x)(b:∀j,j<w.heap.size->some j∈M->j<n):IH n x v l:=
 AX.mono (AX.keptL h a fun k c hm=>by have h1:=b k (AX.lt h k c) hm;have h2:=AX.fresh h k c;omega) fun _ _ hc=>
  hc.keptL a fun j hj hm=>Ez _ (LN.2 (b j hj hm))
theorem IH.app {n:Nat}{v a:A0}{l:List ShP}(h:AX 8 39 (ShK (v.ownBlock::GF n) w) x n a l)(b:w.grownBy x v.ownBlock)(c:∀k,a.ownBlock=some k->v.ownBlock=some k\/w.heap.size<=k):IH n x a l:=by
 refine AX.mono h fun _ _ hc=>?_;have h1:ShK (a.ownBlock::v.ownBlock::GF n) w _ _:=hc.mono fun j hj hm=>by
  rcases Ei.1 hm with e|hm
  ·rcases c j e.symm with h2|h2
   ·rw[h2];exact Fa ..
   ·omega
  ·exact hm
 have h2:=h1.keptL (M:=[v.ownBlock]) (Yai.one b fun k _ e=>by rw[e];exact Dk.2 rfl) fun j _ hm=>by rw[Dk.1 hm];exact Ez _ (Fa ..)
 refine fun z d=>h2 z (d.mono fun j _ hm=>?_);rcases Ei.1 hm with e|hm
 ·rw[e];exact Fa ..
 ·exact Ez _ (Ez _ hm)
theorem ShK.own {n N:Nat}{v:A0}{l:List ShP}(hl:AX 8 39 (ShK (v.ownBlock::GF n) w) w n v l)(a:w.heap.size<=N)(hn:n<=N)(h:ShK (GF N) x S vs):ShK (v.ownBlock::GF n) x S vs:=
 h.mono fun j _ hm=>by
  rcases Ei.1 hm with e|hm
  ·exact LN.2 (Bg (AX.lt hl j e.symm) a)
  ·exact LN.2 (Bg (LN.1 hm) hn)
theorem IH.ins {n:Nat}{v:A0}{l:List ShP}(h:IH n w v l):v=.slice (slP v) l.length (slC v)/\(slP v=none->slC v=0)/\v.oneCell'=true/\HG w (slP v) l:=by
 obtain⟨a,b,ho⟩:=h;obtain⟨c,d,f⟩:=MA ho;obtain⟨q,cap,e,hm⟩:=AX.many (V':=ShV) ⟨a,b,ho⟩ fun _ _ hc=>ShK.shV hc;exact⟨c,d,f,by rw[e];exact hm⟩
theorem qB {base c n:Nat}{e:A7}{v:A0}{b:List A0}(h:w.ownsRow base e c v n b):n<=slC v:=by
 rcases h.2 with ⟨rfl,hn⟩|⟨g,cap,d,rfl,_,f,a,_⟩
 ·have:=h.1;simp[slC];omega
 ·exact a
theorem IH.strV {n:Nat}{v:A0}{l:List ShP}(h:IH n w v l)(hl:l.length<=maxLen)(f:Bool):K4 w ⟨l,f⟩ [v,.bool f]:=by
 obtain⟨a,c,-,b⟩:=h.ins;obtain⟨d,e,ho⟩:=h;exact⟨slP v,slC v,by rw[<-a],qB ho,hl,b⟩
end
theorem dZ:∃i z,prog.info? 39=some i/\i.zero=some z/\z.cells.size=8/\i.size=8/\i.bytes=96:=by
 have h:(prog.info? 39).map (fun i=>(i.zero.map (·.cells.size),i.size,i.bytes))=some (some 8,8,96):=by kernel_rfl
 generalize prog.info? 39=x at h
 match x,h with
 |some i,h=>
  rw[Lm] at h;injection h with h;injection h with h1 h2;injection h2 with h2 h3;cases hz:i.zero with
  |none=>rw[hz] at h1;cases h1
  |some z=>
   rw[hz] at h1;injection h1 with h1;exact⟨i,z,rfl,hz,h1,h2,h3⟩
theorem Yc (S:ShP):CR (CM []) S = !S.hd.inter:=by unfold CR CM;cases S.hd.inter <;> rfl
theorem bF {l:List ShP}(h:l.length-1<l.length)(S:ShP):CR (CM l) S=(!S.hd.inter || l[l.length-1].hd.fmt==S.hd.fmt):=by
 unfold CR CM;rw[List.getLast?_eq_getElem?,Fj h]
 rfl
theorem ShV.parts {w:A5}{S:ShP}{vs:List A0}(h:ShV w S vs):vs[2]? =some (.int .i64 S.hd.fmt)/\vs[3]? =some (.bool S.hd.inter)/\vs[7]? =some (.int .i64 S.zeros):=by
 obtain⟨p,b,ca,cb,rfl,-⟩:=h;exact⟨rfl,rfl,rfl⟩
set_option maxRecDepth 100000 in
theorem ZU {u w:A5}{S:ShP}{vs:List A0}(q:Option Aa)(cap:Nat)(l:List ShP)(p:ShV u S vs)(hl:HG w q l)(hm:l.length<=maxLen):
  A9 prog 21 #[.slice q l.length cap,.agg vs.toArray] w fun e v=>e=.returned (.bool (CR (CM l) S))/\Below w.heap.size w v:=by
 unfold maxLen at hm;obtain⟨f2,f3,-⟩:=p.parts;rw[<-List.getElem?_toArray] at f2 f3;obtain⟨A,r⟩:=Ah vs.toArray;rw[r] at f2 f3 ⊢;have a:Below w.heap.size w (w.alloc (.cells A 39 (0,0))):=(Dq _ w).alloc (Ba _) _;have f:=Dp a;obtain⟨R,h⟩:=Ah (CR (CM l) S);clear r p;by_cases i:0<l.length
 ·have hF:=bF (l:=l) (by omega) S;obtain⟨b,o,rfl,j,hc⟩:=hl.at_ i;obtain⟨y,s,-,c⟩:=hc _ a (l.length-1) (by omega);have c2:=c 2 _ s.parts.1;obtain⟨E,t⟩:=Ah (l[l.length-1]);obtain⟨n,hn⟩:=Ah l.length;obtain⟨m,g⟩:=Ah (l.length-1);rw[t] at hF c2;rw[g] at c2;have x:IntKind.i64.wrap ((n:Int)-1)=(m:Int):=by rw[CL (by omega)];omega
  have t1:decide ((m:Int)<(n:Int))=true:=by simp;omega
  have t2:m<n:=by omega
  have t0:0<n:=by omega
  rw[h] at hF ⊢;rw[hn];have d:=a.drew;clear h t g hc s c hl a hm j i;generalize E.hd.fmt=f1 at *;generalize S.hd.inter=it at *;generalize S.hd.fmt=k at *;clear hn;cases it with
  |false=>
   have F:=Dp (show R=true by rw[hF];rfl);clear hF c2 x t1 t2 t0
   go_enter func21,ntmps21
   go_wp2
   go_ret
   exact⟨AH F.out.symm,f.out⟩
  |true=>
   have F:=Dp (show R=(f1==k) by rw[hF];rfl);clear hF
   go_enter func21,ntmps21
   go_wp2
   go_region
   go_wp2
   go_ret
   exact⟨AH F.out.symm,d⟩
 ·obtain rfl:l=[]:=Dl (by omega);have hF:=Yc S;rw[h] at hF ⊢;have d:=a.drew;clear h hl a hm i;generalize S.hd.inter=it at *;generalize S.hd.fmt=k at *;cases it with
  |false=>
   have F:=Dp (show R=true by rw[hF];rfl);clear hF
   go_enter func21,ntmps21
   go_wp2
   go_ret
   exact⟨AH F.out.symm,f.out⟩
  |true=>
   have F:=Dp (show R=false by rw[hF];rfl);clear hF
   go_enter func21,ntmps21
   go_wp2
   go_region
   go_wp2
   go_ret
   exact⟨AH F.out.symm,d⟩
def ME (l:List UInt8)(p:Nat):Bool:=(B0 l p).2==0&&(B0 l p).1==31
theorem Xy {l:List UInt8}{p:Nat}:ME l p=true↔(B0 l p).2=0/\(B0 l p).1=31:=by unfold ME;simp
set_option maxRecDepth 100000 in
theorem YK {w:A5}{rb p:Nat}{s:ByteArray}(hr:AI w rb s p)(hs:s.size<=1099511627776):
  A9 prog 30 #[.pointer (some ⟨rb,0,none⟩)] w fun e i=>e=.returned (.bool (ME s.data.toList p))/\Below w.heap.size w i:=by
 have g:=SF w s (p:Int) hs;obtain⟨R,f⟩:=Ah (ME s.data.toList p);have b:=f;unfold ME at b;rw[f];generalize (B0 s.data.toList (p:Int)).1=a at *;generalize (B0 s.data.toList (p:Int)).2=c at *;have F:=Dp b;obtain⟨d1,h1⟩:=Ah (c==0);have h:=Dp h1;clear f b
 go_enter func30,ntmps30
 go_wp2_with fail
 refine(LG _ _ _ _ hr).mono ?_;rintro e u ⟨rfl,rfl⟩
 go_wp2_with fail
 refine(ED _ _ _ _ hr).mono ?_;rintro e u ⟨rfl,rfl⟩
 go_wp2_with fail
 refine g.mono ?_;rintro e j ⟨rfl,d⟩;clear g hr;cases d1 with
 |false=>
  go_wp2
  go_ret
  exact⟨AH (by rw[<-F.out,h.out];rfl),d⟩
 |true=>
  go_wp2
  go_ret
  exact⟨AH (by rw[<-F.out,h.out];rfl),d⟩
theorem jU {a b:ByteArray}(h:a≠b):(a.toList==b.toList)=false:=by
 rw[Fg];intro e;rw[ByteArray.toList_eq,ByteArray.toList_eq] at e;exact h (IU.2 e)
def LJ (r:List UInt8):List UInt8:=DS r 31++List.replicate (gap (DS r 31).length) 48
theorem bY:LJ []=BR 31++[48,48]:=by decide +kernel
theorem Qei (l:List ShP):LJ (DG [] l)=BG l true:=cC l
theorem Y31 (r:List UInt8):(LJ r).length<=r.length+40:=by
 unfold LJ DS;simp only[B9,Bl,GI];unfold gap;omega
theorem Z2 {w:A5}{B b:Nat}{r:List UInt8}(h:AQ w B b r)(hr:r.length<=549755813888)(i:B<=w.heap.size):
  A9 prog 39 #[.pointer (some ⟨b,0,none⟩)] w fun e j=>e=.returned (.tuple #[])/\AQ j B b (LJ r)/\w.grownBy j (some b):=by
 have c1:=Su w B b r 31 (by decide) h (by omega) i;have hl:(DS r 31).length<=r.length+30:=by
  unfold DS;simp only[B9,Bl,GI];unfold gap;omega
 have c2:=fun(x:A5) (k:AQ x B b (DS r 31)) (l:B<=x.heap.size)=>TV x B b (DS r 31) k (by omega) l;rw[show r++List.replicate (gap r.length) 48++BR 31=DS r 31 from rfl] at c1;obtain⟨E,a⟩:=Ah (LJ r);rw[a];unfold LJ at a;rw[a] at c2;generalize DS r 31=R at *;have n:=Dp a;clear a h hl
 go_enter func39,ntmps39
 go_wp2_with fail
 refine c1.mono ?_;rintro e m ⟨rfl,c,d⟩;have c3:=c2 m c (Eg i d.size);clear c1 c2 c
 go_wp2_with fail
 refine c3.mono ?_;rintro e o ⟨rfl,f,g⟩
 go_wp2
 go_end0
 exact⟨rfl,f,AR d g⟩
theorem oV (w:A5):A9 prog 31 #[] w fun e p=>e=.returned (.string ⟨P0.toArray⟩)/\Below w.heap.size w p:=by
 obtain⟨D,g⟩:=Ah w.heap.size;obtain⟨h,a⟩:=Ah (w.alloc GS);have b:AQ h (D+1) D []:=by rw[<-a];exact AQ.fresh g (O4 _)
 have i:Below D w h:=by rw[<-a,<-g];exact(Dq _ w).alloc (Ba _) _
 have k:D+1<=h.heap.size:=by rw[<-a];simp;omega
 have c1:=Z2 b (by simp) k;rw[bY] at c1;obtain⟨P,l⟩:∃P:ByteArray,⟨P0.toArray⟩=P:=⟨_,rfl⟩;have q:Hid ((⟨(BM (BR 31++[48,48])).toArray⟩:ByteArray)=P):=Dp l;rw[l];have m:=Dp a;have o:=Dp g;clear l a g b
 go_enter func31,ntmps31
 go_wp2_with fail
 refine(Ru _).mono ?_;rintro e x ⟨rfl,rfl⟩;rw[m.out,o.out]
 go_wp2_with fail
 refine c1.mono ?_;rintro e r ⟨rfl,c,d⟩;have f:Below D w r:=i.grown d (by omega) (fun j hj=>by injection hj with hj;omega)
 go_wp2_with fail
 refine(WH _ _ _ _ c (by decide)).mono ?_;rintro e s ⟨rfl,n⟩;rw[q.out];have t:Below D w s:=f.trans (n.mono (by have:=f.size;have:=d.size;omega))
 go_wp2
 go_ret
 exact⟨rfl,by rw[o.out];exact t⟩
def aQ (S:ShP):Prop:=S.rows.length<=4611686018427387904/\∀c∈C2 S,∀k,k<6->(c.ev k).length<=1048576
def MZ (u:A5)(T:StrP)(vs:List A0):Prop:=K4 u T vs/\∀S∈T.sheets,aQ S
theorem ShV.ones {w:A5}{S:ShP}{vs:List A0}(h:ShV w S vs):vs.toArray.all (·.oneCell')=true:=by
 rw[G7];exact fun u a=>h.shape.2 u (by simpa using a)
theorem PZ {ops:Array A4}{rest:List A4}{op:A4}{a:Act}{w:A5}{Q:Exit->Act->A5->Prop}(c:op.guard=none)(x:A8)(ho:op.op=.load 39 x)
  (b o:Nat)(d:a.eval x=.pointer (some ⟨b,o,none⟩))(vs:List A0)(hc:w.rangeAt b o vs)(hl:vs.length=8)(h:wpList prog ops Q rest (a.put op.dst (.agg vs.toArray)) w):wpList prog ops Q (op::rest) a w:=
 O8 c _ x ho b o d vs _ hc Oa rfl (by rw[hl];kernel_rfl) h
theorem TB:∃Y:Array A0,Y.size=8/\∀w,(zeroValue 39).run prog w=.ok (.agg Y) w:=⟨#[.int .i64 0,.int .i64 0,.int .i64 0,.bool false,.int .i64 0,.slice none 0 0,.slice none 0 0,.int .i64 0],rfl,MC (by kernel_rfl)⟩
theorem HG.take {w:A5}{q:Option Aa}{l:List ShP}(h:HG w q l)(i:Nat):HG w q (l.take i):=by
 rcases h with rfl|⟨b,o,rfl,hl,hc⟩
 ·exact .inl (by simp)
 ·refine .inr ⟨b,o,rfl,hl,fun j hj=>?_⟩;rw[Bf] at hj;obtain⟨vs,h1,h2⟩:=hc j (by omega);exact⟨vs,by rw[Fp];exact h1,h2⟩
set_option maxRecDepth 100000 in
theorem mA {u w:A5}{T:StrP}{vs:List A0}(hT:MZ u T vs)(ht:Ybw u.heap.size u)(hu:Below u.heap.size u w):
  A9 prog 10 #[.agg vs.toArray] w fun e w'=>e=.returned (.int .i64 (DP T))/\Below w.heap.size w w':=by
 obtain⟨⟨q,cap,rfl,a0,ab,ac⟩,ad⟩:=hT;obtain⟨l,F⟩:=T;dsimp only at *;unfold maxLen at ab;obtain⟨R,hR⟩:=Ah (DP ⟨l,F⟩);rw[hR];obtain⟨D,hD⟩:=Ah w.heap.size;obtain⟨G,g⟩:=Ah (w.alloc (.cells #[.slice q l.length cap,.bool F] 24 (0,0)));have j:Below w.heap.size w G:=by rw[<-g];exact(Dq _ w).alloc (Ba _) _
 have ae:G.heap.size=D+1:=by rw[<-g,<-hD];simp
 have K:G.heap[D]? =some (.cells [Value.slice q l.length cap,.bool F].toArray 24 (0,0)):=by rw[<-g,<-hD];exact heap_alloc_new w _
 have k0:=AA (o:=0) K rfl;have m:Hid (∀x,Below (D+1) G x->x.cell? ⟨D,0,none⟩=some (.slice q l.length cap)/\Below w.heap.size w x/\Below u.heap.size u x):=Dp fun x c=>
  ⟨AA (o:=0) ((c.block D (by omega)).trans K) rfl,j.trans (c.mono (by omega)),hu.trans ((j.trans (c.mono (by omega))).mono hu.size)⟩
 have L:Below (D+1) G G:=Dq _ _;have an:=Dp hR;have t:=Dp g;have ao:=Dp hD;have A:=Dp ae;have B:=Dp ac;have a3:=Dp ht;have ap:=Dp ad;clear hR g j ae K hD ac ad ht;by_cases b:l.length=0\/64<l.length
 ·have a1:=Dp (show R=12 by rw[<-an.out];unfold DP;exact Bc b);have H:=(m.out _ L).2.1;generalize l.length=n at *;by_cases h0:n=0
  ·subst h0;clear b B m
   go_enter func10,ntmps10
   go_wp2_with (rw[t.out,ao.out])
   go_ret
   exact⟨by rw[a1.out];rfl,H⟩
  ·have t0:((n:Int)==0)=false:=by rw[Fg];omega
   have t1:decide (64<(n:Int))=true:=by simp;omega
   have t2:decide (64<n)=true:=by simp;omega
   clear b B m
   go_enter func10,ntmps10
   go_wp2_with (rw[t.out,ao.out])
   go_ret
   exact⟨by rw[a1.out];rfl,H⟩
 have M:=Dp (show R=CZ none l by rw[<-an.out];unfold DP;exact Bb b);obtain⟨n,hn⟩:=Ah l.length;have a2:=Dp hn;rw[hn] at b ab m k0;have t0:((n:Int)==0)=false:=by rw[Fg];omega
 have t1:decide (64<(n:Int))=false:=by simp;omega
 have t2:decide (64<n)=false:=by simp;omega
 obtain⟨Y,aq,a4⟩:=TB;rw[hn] at t;rw[hn];clear hn an hu
 go_enter func10,ntmps10
 go_wp2_with (rw[t.out,ao.out])
 clear k0 t0 t1 t2
 go_loopw [19] (fun z wr=>∃i:Nat,i<=n/\z=.int .i64 (i:Int)/\Hid (CZ none (l.take i)=0)/\Below (D+1) G wr) (fun z _=>n-(intOf z).toNat)
 case atStart=>exact⟨0,Ds _,rfl,Dp rfl,L⟩
 case round=>
  clear L;obtain⟨i,hi,rfl,ha,hb⟩:=hrel;by_cases af:i<n
  ·have t0:decide ((i:Int)<(n:Int))=true:=by simp;omega
   have t1:decide (i<n)=true:=by simpa using af
   have O:i<l.length:=by rw[a2.out];exact af
   obtain⟨-,ar,ag⟩:=m.out _ hb;obtain⟨P,Q,rfl,j,I⟩:=CD.each B.out (by omega);obtain⟨f,p,ah⟩:=I i O;have U:=p.shape.1;have au:=p.ones;have ai:=ap.out l[i] (Bn O);have aj:=V7 O ha.out;obtain⟨C,hC⟩:=Ah wr.heap.size;obtain⟨d,r⟩:=Ah (wr.alloc (.cells f.toArray 39 (0,0)));have av:d.heap.size=C+1:=by rw[<-r,<-hC];simp
   have ak:Below wr.heap.size wr d:=by rw[<-r];exact(Dq _ wr).alloc (Ba _) _
   have J:wr.rangeAt P (Q+i*8) f:=fun k v hk=>ah wr ag k v hk;have V:d.heap[C]? =some (.cells f.toArray 39 (0,0)):=by rw[<-r,<-hC];exact heap_alloc_new wr _
   have a:=hb.trans (ak.mono (by have:=hb.size;have:=A.out;omega));have a5:D+1<=C:=by have h1:=hb.size;have h2:=A.out;omega
   have W:(prog.info? 39).map (·.size)=some f.toArray.size:=by rw[show f.toArray.size=8 from U];kernel_rfl
   have aw:Y.size=f.toArray.size:=by rw[aq];exact U.symm
   have c1:=Xu (u:=u) (w:=d) (S:=l[i]) (vs:=f) ⟨p,ai⟩ a3.out (m.out _ a).2.2;have X:(l.take i).length=i:=by rw[Bf];omega
   have aa:Hid (∀x,Below d.heap.size d x->x.cell? ⟨D,0,none⟩=some (.slice (some ⟨P,Q,none⟩) n cap)/\x.heap[C]? =some (.cells f.toArray 39 (0,0))/\Below (D+1) G x):=Dp fun x c=>
    ⟨(m.out x (a.trans (c.mono (by have:=a.size;have:=A.out;omega)))).1,(c.block C (by omega)).trans V,a.trans (c.mono (by have:=a.size;have:=A.out;omega))⟩
   have a6:=Dp (fun(y:A5) (hy:Below d.heap.size d y)=>(by
    have h:=ZU (w:=y) (some ⟨P,Q,none⟩) cap (l.take i) p ((HG.below B.out (m.out y (aa.out y hy).2.2).2.2).take i) (by rw[X];unfold maxLen;omega);rw[X] at h;exact h.mono fun e z k=>⟨k.1,hy.trans (k.2.mono hy.size)⟩:A9 prog 21 #[.slice (some ⟨P,Q,none⟩) i cap,.agg f.toArray] y fun e z=>e=.returned (.bool (CR (CM (l.take i)) l[i]))/\Below d.heap.size d z))
   have ax:=Dp (fun x (c:Below d.heap.size d x)=>(aa.out x c).2.1);have ay:i<=cap:=by omega
   have tc:decide (i<=cap)=true:=by simpa using ay
   have s:=Vd (l:=l) (i:=i+1);generalize CR (CM (l.take i)) l[i]=fo at *;generalize C4 l[i]=er at *;have Z:=Dp aj;have al:=Dp s;have az:=Dp r;have a7:=Dp hC;clear r hC av ak ah ha aj s X p ai ar ag hb j I a
   go_wp2_with (first|(with_reducible refine PZ rfl _ rfl P (Q+i*8) rfl f J U ?_)|(with_reducible refine DA rfl 39 _ _ rfl f.toArray Y 39 rfl rfl W aw au ?_;rw[az.out,a7.out])|(with_reducible refine Mt rfl 39 _ rfl C rfl 39 f.toArray (0,0) _ V Oa rfl W ?_))
   refine c1.mono ?_;rintro e w2 ⟨rfl,E⟩;clear J V c1;by_cases he:er=0
   case neg=>
    have tn:(er != 0)=true:=by rw[Fl];exact he
    have N:=Dp (show R=er by
     have h1:=Z.out;rw[Bc he] at h1;have h2:=al.out (by rw[h1];exact he);rw[M.out,h2,h1])
    have H:=(m.out _ (aa.out _ E).2.2).2.1;clear he
    go_wp2
    go_ret
    exact⟨by rw[N.out];rfl,H⟩
   subst he;have tn:((0:Int) != 0)=false:=rfl;have k0:=(aa.out _ E).1
   go_wp2
   refine BY (S:=fun x=>Below d.heap.size d x) 7 (by kernel_rfl) (by kernel_rfl) E.drew ?_;simp only[Dt,Bi,Hb,I0];refine AG ?_;simp only[A1];refine AN 22 _ ⟨D,0,none⟩ (.slice (some ⟨P,Q,none⟩) n cap) (by kernel_rfl) rfl rfl (fun x c=>by have c0:=(aa.out x c).1;go_simp) ?_;simp only[A1];refine AG ?_;simp only[A1]
   refine AP (v:=.slice (some ⟨P,Q,none⟩) i cap) (by kernel_rfl) (fun x _=>by go_simp) ?_;simp only[A1];refine IZ 39 _ C 39 f.toArray (0,0) _ (by kernel_rfl) rfl rfl (fun x c=>ax.out x c) Oa rfl W ?_;simp only[A1];refine AS (by kernel_rfl) a6.out (fun _=>by kernel_rfl) ?_;simp only[A1];refine AG ?_;simp only[A1];refine BV fun x c=>?_;clear k0 E
   have am:=(aa.out _ c).2.2;cases fo with
   |false=>
    have N:=Dp (show R=11 by
     have h1:=Z.out;rw[Bb (by decide),Bc rfl] at h1;have h2:=al.out (by rw[h1];decide);rw[M.out,h2,h1])
    have H:=(m.out _ am).2.1
    go_wp2
    go_ret
    exact⟨by rw[N.out];rfl,H⟩
   |true=>
    have N:=Dp (show CZ none (l.take (i+1))=0 by
     have h1:=Z.out;rw[Bb (by decide),Bb (by decide)] at h1;exact h1)
    go_wp2
    go_roundw
    case rel=>exact⟨i+1,by omega,by go_num,N,am⟩
    case measure=>simp[intOf];omega
  ·obtain rfl:i=n:=by omega
   have t0:decide ((i:Int)<(i:Int))=false:=by simp
   have t1:decide (i<i)=false:=by simp
   have N:=Dp (show R=0 by
    have h:=ha.out;rw[Bk (by have:=a2.out;omega)] at h;rw[M.out,h])
   have H:=(m.out _ hb).2.1
   go_wp2
   go_ret
   exact⟨by rw[N.out];rfl,H⟩
def QD (T:StrP):Prop:=T.sheets.length<=70/\∀S∈T.sheets,Yk2 S/\S.zeros<=300000
theorem Yk2.few {S:ShP}(h:Yk2 S):aQ S:=⟨by have:=h.rows;omega,fun c hc k a=>by have:=h.mem c hc k a;omega⟩
theorem QD.lies {u:A5}{T:StrP}{vs:List A0}(h:QD T)(a:K4 u T vs):MZ u T vs:=⟨a,fun S b=>(h.2 S b).1.few⟩
theorem yC {u w:A5}{S:ShP}{vs:List A0}(a:ShV u S vs)(c:Below u.heap.size u w):A9 prog 18 #[.agg vs.toArray] w (LY S w):=by
 obtain⟨p,b,ca,cb,rfl,hl,hn,-,hr⟩:=a;exact Qd2 S p b ca cb w hl hn (hr.below c)
def U1 (T:StrP)(w:A5)(e:Ad)(a:A5):Prop:=(∃y,e=.returned (.bool y)/\(y=true->QD T))/\Below w.heap.size w a
set_option maxRecDepth 100000 in
theorem eU {u w:A5}{T:StrP}{vs:List A0}(hT:K4 u T vs)(hu:Below u.heap.size u w):A9 prog 8 #[.agg vs.toArray] w (U1 T w):=by
 obtain⟨q,cap,rfl,-,U,V⟩:=hT;obtain⟨l,F⟩:=T;dsimp only at *;unfold maxLen at U;obtain⟨D,hD⟩:=Ah w.heap.size;obtain⟨n,hn⟩:=Ah l.length;rw[hn] at U ⊢;obtain⟨p,r⟩:=Ah (w.alloc (.cells #[.slice q n cap,.bool F] 24 (0,0)));have s:Below w.heap.size w p:=by rw[<-r];exact(Dq _ w).alloc (Ba _) _
 have W:p.heap.size=D+1:=by rw[<-r,<-hD];simp
 have X:p.heap[D]? =some (.cells [Value.slice q n cap,.bool F].toArray 24 (0,0)):=by rw[<-r,<-hD];exact heap_alloc_new w _
 have E:Hid (∀x,Below (D+1) p x->x.cell? ⟨D,0,none⟩=some (.slice q n cap)/\Below w.heap.size w x/\Below u.heap.size u x):=Dp fun x t=>
  ⟨AA (o:=0) ((t.block D (by omega)).trans X) rfl,s.trans (t.mono (by omega)),hu.trans ((s.trans (t.mono (by omega))).mono hu.size)⟩
 have A:Below (D+1) p p:=Dq _ _;have ai:=Dp (fun(x:A5) (t:Below (D+1) p x)=>(⟨⟨false,rfl,fun h=>by cases h⟩,(E.out x t).2.1⟩:U1 ⟨l,F⟩ w (.returned (.bool false)) x));obtain⟨I,hE,-⟩:=E.out _ A;have Y:=Dp r;have ay:=Dp hD;have aj:=Dp V;have ak:=Dp hn;have al:=Dp W;clear r s W X hD V hn hu;by_cases J:70<n
 ·have t0:decide (70<(n:Int))=true:=by simp;omega
  have t1:decide (70<n)=true:=by simpa using J
  clear J E
  go_enter func8,ntmps8
  go_wp2_with (rw[Y.out,ay.out])
  go_ret
  exact ai.out _ A
 have t0:decide (70<(n:Int))=false:=by simp;omega
 have t1:decide (70<n)=false:=by simpa using J
 have am:=Dp (fun(y:Bool) (x:A5) (t:Below (D+1) p x) (h:∀j (h:j<l.length),Yk2 l[j]/\l[j].zeros<=300000)=>(⟨⟨y,rfl,fun _=>⟨by show l.length<=70;rw[ak.out];omega,fun S hS=>by
  obtain⟨j,hj,rfl⟩:=Lk.1 hS;exact h j hj⟩⟩,(E.out x t).2.1⟩:U1 ⟨l,F⟩ w (.returned (.bool y)) x))
 go_enter func8,ntmps8
 go_wp2_with (rw[Y.out,ay.out])
 clear I t0 t1 hE
 go_loopw [3,4] (fun a z wr=>∃(c:Int) (i:Nat),a=.int .i64 c/\z=.int .i64 (i:Int)/\i<=n/\Hid (∀j (h:j<l.length),j<i->Yk2 l[j]/\l[j].zeros<=300000)/\Below (D+1) p wr) (fun _ z _=>n-(intOf z).toNat)
 case atStart=>exact⟨0,0,rfl,rfl,Ds _,Dp fun j _ h=>absurd h (Fk j),A⟩
 case round=>
  clear A;obtain⟨c,i,rfl,rfl,hi,ha,Q⟩:=hrel;by_cases Z:i<n
  ·have t0:decide ((i:Int)<(n:Int))=true:=by simp;omega
   have t1:decide (i<n)=true:=by simpa using Z
   have an:i<l.length:=by rw[ak.out];exact Z
   obtain⟨b1,o1,rfl,s,G⟩:=CD.each aj.out (by omega);obtain⟨xs,B,C⟩:=G i an;obtain⟨I,ao,K⟩:=E.out _ Q;have ap:=B.shape.1;have H:wr.rangeAt b1 (o1+i*8) xs:=fun k v hk=>C wr K k v hk;have c1:=yC B K;have R:=fun x t=>C x t 7 _ B.parts.2.2;obtain⟨p2,b2,a2,aq,aa,-,ab,-,f⟩:=B
   have L:=fun x t=>C x t 6 (.slice b2 l[i].rows.length aq) (by rw[aa];rfl);have ah:=Dp (fun(h1:Yk2 l[i]) (h2:l[i].zeros<=300000)=>(fun j h hj=>(by
    by_cases e:j<i
    ·exact ha.out j h e
    ·obtain rfl:j=i:=by omega
     exact⟨h1,h2⟩):∀j (h:j<l.length),j<i+1->Yk2 l[j]/\l[j].zeros<=300000))
   obtain⟨S,hS⟩:=Ah (l[i]);rw[hS] at c1 R L ab f ah;obtain⟨zz,ac⟩:=Ah S.zeros;rw[ac] at R ah;obtain⟨m,hm⟩:=Ah S.rows.length;simp only[hm] at L ab;have az:=Dp hm;have a3:=Dp R;have a0:=Dp L;have ar:=Dp f;clear C ha aa ao K s G R L f hS ac hm
   go_wp2_with (with_reducible refine PZ rfl _ rfl b1 (o1+i*8) rfl xs H ap ?_)
   refine c1.mono ?_;rintro e w2 ⟨⟨y,rfl,hy⟩,ad⟩;have b:Below (D+1) p w2:=Q.trans (ad.mono (by have:=Q.size;have:=al.out;omega));clear c1 H I Q ad;obtain⟨I,-,M⟩:=E.out _ b;cases y with
   |false=>
    go_wp2
    go_ret
    exact ai.out _ b
   |true=>
   have R:=a3.out _ M;by_cases hz:300000<zz
   ·have t3:decide (300000<zz)=true:=I4 hz;clear hz hy
    go_wp2
    go_ret
    exact ai.out _ b
   have t3:decide (300000<zz)=false:=I3 hz;have au:=Dp (ah.out (hy rfl) (by omega));have av:S.rows.length<=30:=(hy rfl).rows;have L:=a0.out _ M;rw[az.out] at av;clear hy hz ah
   go_wp2
   clear t3 L R I M
   go_loopw [3,5] (fun a z wk=>∃(d:Int) (k:Nat),a=.int .i64 d/\z=.int .i64 (k:Int)/\k<=m/\Below (D+1) p wk) (fun _ z _=>m-(intOf z).toNat)
   case atStart=>exact⟨_,0,rfl,rfl,Ds _,b⟩
   case round=>
    clear b;obtain⟨d,k,rfl,rfl,hk,O⟩:=hrel;obtain⟨I,-,P⟩:=E.out _ O;have L:=a0.out _ P;by_cases ae:k<m
    ·have t3:decide ((k:Int)<(m:Int))=true:=by simp;omega
     have t4:decide (k<m)=true:=by simpa using ae
     have aw:k<S.rows.length:=by rw[az.out];exact ae
     obtain⟨b3,o3,rfl,ax,af⟩:=MU ar.out (by omega);obtain⟨r3,a1,-,-,-,ag⟩:=af k aw;obtain⟨-,-,-,c3⟩:=ag _ P;generalize S.rows[k].cels.length=g at c3;clear af ag ax P
     go_wp2
     go_roundw
     case rel=>exact⟨_,k+1,rfl,by go_num,by omega,O⟩
     case measure=>simp[intOf];omega
    ·obtain rfl:k=m:=by omega
     have t3:decide ((k:Int)<(k:Int))=false:=by simp
     have t4:decide (k<k)=false:=by simp
     go_wp2
     go_roundw
     case rel=>exact⟨_,i+1,rfl,by go_num,by omega,au,O⟩
     case measure=>simp[intOf];omega
  ·obtain rfl:i=n:=by omega
   have t0:decide ((i:Int)<(i:Int))=false:=by simp
   have t1:decide (i<i)=false:=by simp
   obtain⟨I,-,-⟩:=E.out _ Q;have N:=Dp (fun j (h:j<l.length)=>ha.out j h (by have:=ak.out;omega))
   go_wp2
   go_ret
   exact am.out _ _ Q N.out
theorem eH (n m:Nat)(w:A5)(hn:n<=1099511627776):A9 prog 160 #[.int .i64 (n:Int),.int .i64 (m:Int)] w fun e d=>e=.returned (.int .i64 (MX n m:Int))/\w=d:=by
 by_cases h1:n=m
 ·have d1:((n:Int)==(m:Int))=true:=by simp[h1]
  have a:MX n m=n / 8:=Bc h1;have b:=Dp a;have f:(n:Int).tdiv 8=((n / 8:Nat):Int):=by rw[It (by omega)];omega
  have g:IntKind.i64.wrap ((n / 8:Nat):Int)=((n / 8:Nat):Int):=CL (by omega);generalize n / 8=u at *;clear h1 a
  go_enter func160,ntmps160
  go_wp2
  go_ret
  exact⟨FT (by rw[b.out]),rfl⟩
 ·have d1:((n:Int)==(m:Int))=false:=by simp;omega
  by_cases h2:n%8=0/\16<=n
  ·have a:MX n m=(n-16) / 8:=by unfold MX;rw[Bb h1,Bc h2]
   have b:=Dp a;have h:(n:Int).tmod 8=0:=by rw[Iu (by omega)];omega
   have d2:decide ((n:Int)>=16)=true:=by simp;omega
   have i:IntKind.i64.wrap ((n:Int)-16)=((n-16:Nat):Int):=by rw[CL (by omega)];omega
   have f:((n-16:Nat):Int).tdiv 8=(((n-16) / 8:Nat):Int):=by rw[It (by omega)];omega
   have g:IntKind.i64.wrap (((n-16) / 8:Nat):Int)=(((n-16) / 8:Nat):Int):=CL (by omega);generalize (n-16) / 8=u at *;generalize n-16=v at *;clear h1 h2 a
   go_enter func160,ntmps160
   go_wp2
   go_ret
   exact⟨FT (by rw[b.out]),rfl⟩
  ·have a:MX n m=0:=by unfold MX;rw[Bb h1,Bb h2]
   have b:=Dp a;by_cases h3:n%8=0
   ·have h:(n:Int).tmod 8=0:=by rw[Iu (by omega)];omega
    have d2:decide ((n:Int)>=16)=false:=by simp;omega
    clear h1 h2 h3 a
    go_enter func160,ntmps160
    go_wp2
    go_ret
    exact⟨FT (by rw[b.out];rfl),rfl⟩
   ·obtain⟨r,hr⟩:=Ah ((n:Int).tmod 8);have c:r≠0:=by rw[<-hr,Iu (by omega)];omega
    have d2:(r==0)=false:=by simpa using c
    clear h1 h2 h3 a c
    go_enter func160,ntmps160
    go_wp2
    go_ret
    exact⟨FT (by rw[b.out];rfl),rfl⟩
theorem zE (c:Cel)(sl:Nat->A0)(w:A5):A9 prog 179 #[.agg (AJ c sl).toArray] w fun e m=>e=.returned (.bool (!AD c.kind))/\Below w.heap.size w m:=by
 obtain⟨A,g⟩:=Ah w.heap.size;obtain⟨i,a⟩:=Ah (w.alloc (.cells (AJ c sl).toArray 77 (0,0)));have d:Below w.heap.size w i:=by rw[<-a];exact(Dq _ w).alloc (Ba _) _
 have n:i.cell? ⟨A,2,none⟩=some (.int .i64 c.kind):=by rw[<-a,<-g];exact AA (heap_alloc_new w _) rfl
 have b:=Dp a;have j:=Dp g;obtain⟨Z,l⟩:=Ah ((AJ c sl).toArray);rw[l] at b ⊢;generalize c.kind=k at *;clear a g l;by_cases h3:k=3
 ·have f:AD k=true:=by rw[h3];rfl
  have h:=Dp f;have d1:(k != 3)=false:=by simp[h3]
  clear h3 f
  go_enter func179,ntmps179
  go_wp2_with (rw[b.out,j.out])
  go_ret
  exact⟨by rw[h.out];rfl,d⟩
 ·have d1:(k != 3)=true:=by simp[h3]
  have f:(!AD k)=(k != 4):=by unfold AD;rw[Fg.2 h3];rfl
  have h:=Dp f;clear h3 f
  go_enter func179,ntmps179
  go_wp2_with (rw[b.out,j.out])
  go_ret
  exact⟨by rw[h.out];rfl,d⟩
section
variable {w:A5}{G rb p:Nat}{s:ByteArray}{k:Int}{inter:Bool}{vv:A0}{vs:List (Int×Int)}{first:Int}
theorem qZ (h:Yde w G rb s p k inter vv vs first)(hs:s.size<=1073741824):A9 prog 176 #[.pointer (some ⟨G,0,none⟩)] w fun e r=>e=.returned (.bool ((BH s.data.toList p).2&&((BH s.data.toList p).1 != 0&&(BH s.data.toList p).1 != 31)))/\Below w.heap.size w r:=by
 have i:=fun(x y:A5) (a:Below w.heap.size w x) (t:Below x.heap.size x y)=>(a.trans (t.mono a.size):Below w.heap.size w y);have d:=Dp (fun(x:A5) (a:Below w.heap.size w x)=>(h.below a).cell (o:=0) rfl)
 have j:=Dp (fun(x:A5) (a:Below w.heap.size w x)=>(LG x rb s p (h.below a).rd).mono fun e y (q:e=.returned (.string s)/\x=y)=>(⟨q.1,q.2▸a⟩:e=.returned (.string s)/\Below w.heap.size w y))
 have l:=Dp (fun(x:A5) (a:Below w.heap.size w x)=>(ED x rb s p (h.below a).rd).mono fun e y (q:e=.returned (.int .i64 (p:Int))/\x=y)=>(⟨q.1,q.2▸a⟩:e=.returned (.int .i64 (p:Int))/\Below w.heap.size w y));have f:=fun(x:A5)=>Xn x s (p:Int) (by omega);obtain⟨⟨m,g⟩,hm⟩:=Ah (BH s.data.toList (p:Int));rw[hm] at f ⊢
 have n:=Dp (fun(x:A5) (a:Below w.heap.size w x)=>(f x).mono fun e y q=>(⟨q.1,i x y a q.2⟩:e=.returned (.tuple #[.int .i64 m,.bool g])/\Below w.heap.size w y));clear i f hm h hs;dsimp only;have b:=Dq w.heap.size w
 go_enter func176,ntmps176
 go_wp2
 refine BY (S:=fun x=>Below w.heap.size w x) 16 (by kernel_rfl) (by kernel_rfl) b.drew ?_;simp only[Dt,Bi,Hb,I0]
 iterate 3 (refine AG ?_;simp only[A1])
 refine AN 54 _ ⟨G,0,none⟩ (.pointer (some ⟨rb,0,none⟩)) (by kernel_rfl) rfl rfl (fun x a=>by have u:=d.out x a;go_simp) ?_;simp only[A1];refine AS (by kernel_rfl) j.out (fun _=>by kernel_rfl) ?_;simp only[A1]
 iterate 3 (refine AG ?_;simp only[A1])
 refine AN 54 _ ⟨G,0,none⟩ (.pointer (some ⟨rb,0,none⟩)) (by kernel_rfl) rfl rfl (fun x a=>by have u:=d.out x a;go_simp) ?_;simp only[A1];refine AS (by kernel_rfl) l.out (fun _=>by kernel_rfl) ?_;simp only[A1];refine AS (by kernel_rfl) n.out (fun _=>by kernel_rfl) ?_;simp only[A1]
 iterate 5 (refine AG ?_;simp only[A1])
 refine BV fun x a=>?_;clear d j l n b;cases g with
 |false=>
  go_wp2
  go_ret
  exact⟨rfl,a⟩
 |true=>
  by_cases c:m=0
  ·have d1:(m != 0)=false:=by simp[c]
   clear c
   go_wp2
   go_ret
   exact⟨by rw[d1];rfl,a⟩
  ·have d1:(m != 0)=true:=by simp[c]
   clear c
   go_wp2
   go_ret
   exact⟨by rw[d1];rfl,a⟩
theorem Yde.ptr (h:Yde w G rb s p k inter vv vs first):w.cell? ⟨G,0,none⟩=some (.pointer (some ⟨rb,0,none⟩)):=h.cell rfl
def PO (l:List UInt8)(p:Nat):Int:=if AE l p (gap p)=0 then 0 else 5
theorem yT (h:Yde w G rb s p k inter vv vs first)(hs:s.size<=1073741824):A9 prog 129 #[.pointer (some ⟨G,0,none⟩)] w fun e P=>
  ∃n:Nat,e=.returned (.tuple #[.int .i64 (n:Int),.int .i64 (PO s.data.toList p)])/\w.grownBy P (some rb)/\(∃q,AI P rb s q)/\(PO s.data.toList p=0->n=IL s.data.toList (p+gap p)/\AI P rb s (p+gap p+8*n)):=by
 have i:s.data.toList.length=s.size:=rfl;have hp:=h.rd.2.1;have k0:=h.cell (o:=0) rfl;have C:=UW w rb s p h.rd;by_cases A:AE s.data.toList p (gap p)=0
 case neg=>
  have D:PO s.data.toList p=5:=Bb A;have E:K2 s.data.toList p=(0,5):=Bb A;have F:MK s.data.toList p=p:=Bb A;rw[E,F] at C;have Q:=Dp D;clear D E F i h
  go_enter func129,ntmps129
  go_wp2_with fail
  refine C.mono ?_;rintro e a ⟨rfl,j,f⟩
  go_wp2
  go_ret2
  rw[Q.out];exact⟨0,rfl,f,⟨p,j⟩,fun h=>by cases h⟩
 case pos=>
  have D:PO s.data.toList p=0:=Bc A;have E:K2 s.data.toList p=(((gap p:Nat):Int),0):=Bc A;have F:MK s.data.toList p=p+gap p:=Bc A;rw[E,F] at C;have R:=aJ hp;obtain⟨q,N⟩:=Ah (p+gap p);have T:q%8=0:=by rw[<-N];unfold gap;omega
  have d:=lR (l:=s.data.toList) (p:=q) (by omega) T;have H:=SE (l:=s.data.toList) (p:=q) (by omega);have m:=(Y0 (l:=s.data.toList) (p:=q) (by omega)).2.1;rw[BO,i] at m;rw[N] at C ⊢;obtain⟨n,hn⟩:=Ah (IL s.data.toList q);obtain⟨u,U⟩:=Ah (CE s.data.toList (q:Int));rw[hn] at m d ⊢;rw[U] at H d;rw[i] at H d;rw[N] at R
  have c2:=fun(x:A5)=>kG x s (q:Int) (by omega);rw[U] at c2;have Q:=Dp D;have ah:=Dp d;clear D E F i hn U N A
  go_enter func129,ntmps129
  go_wp2_with fail
  refine C.mono ?_;rintro e a ⟨rfl,j,f⟩;have h1:=h.reads f j;clear C k0;have V:=fun(x y:A5) (b:Below a.heap.size a x) (hy:Below x.heap.size x y)=>(b.trans (hy.mono b.size):Below a.heap.size a y);have W:=Dp (fun(x:A5) (b:Below a.heap.size a x)=>(h1.below b).cell (o:=0) rfl)
  have aa:=Dp (fun(x:A5) (b:Below a.heap.size a x)=>(LG x rb s q (h1.below b).rd).mono fun e y (z:e=.returned (.string s)/\x=y)=>(⟨z.1,z.2▸b⟩:e=.returned (.string s)/\Below a.heap.size a y))
  have ab:=Dp (fun(x:A5) (b:Below a.heap.size a x)=>(ED x rb s q (h1.below b).rd).mono fun e y (z:e=.returned (.int .i64 (q:Int))/\x=y)=>(⟨z.1,z.2▸b⟩:e=.returned (.int .i64 (q:Int))/\Below a.heap.size a y));have ac:=Dp (fun(x:A5) (b:Below a.heap.size a x)=>(c2 x).mono fun e y z=>(⟨z.1,V x y b z.2⟩:e=.returned (.int .i64 (u:Int))/\Below a.heap.size a y))
  have ad:=Dp (fun(x:A5) (b:Below a.heap.size a x)=>(PR x rb s q (h1.below b).rd).mono fun e y z=>(⟨by rw[z.1,show (8*(s.size:Int)-(q:Int))=((8*s.size-q:Nat):Int) by omega],V x y b z.2⟩:e=.returned (.int .i64 ((8*s.size-q:Nat):Int))/\Below a.heap.size a y))
  have ae:=Dp (fun(x:A5) (b:Below a.heap.size a x)=>(eH u (8*s.size-q) x (by omega)).mono fun e y z=>(⟨by rw[z.1,<-d],z.2▸b⟩:e=.returned (.int .i64 (n:Int))/\Below a.heap.size a y));have X:=Dq a.heap.size a;have af:=Dp h1;have ag:=Dp f;clear V c2 j h d h1 f;generalize 8*s.size-q=left at *
  go_wp2
  refine BY (S:=fun x=>Below a.heap.size a x) 18 (by kernel_rfl) (by kernel_rfl) X.drew ?_;simp only[Dt,Bi,Hb,I0]
  iterate 3 (refine AG ?_;simp only[A1])
  refine AN 54 _ ⟨G,0,none⟩ (.pointer (some ⟨rb,0,none⟩)) (by kernel_rfl) rfl rfl (fun x b=>by have O:=W.out x b;go_simp) ?_;simp only[A1];refine AS (by kernel_rfl) aa.out (fun _=>by kernel_rfl) ?_;simp only[A1]
  iterate 3 (refine AG ?_;simp only[A1])
  refine AN 54 _ ⟨G,0,none⟩ (.pointer (some ⟨rb,0,none⟩)) (by kernel_rfl) rfl rfl (fun x b=>by have O:=W.out x b;go_simp) ?_;simp only[A1];refine AS (by kernel_rfl) ab.out (fun _=>by kernel_rfl) ?_;simp only[A1];refine AS (by kernel_rfl) ac.out (fun _=>by kernel_rfl) ?_;simp only[A1]
  iterate 3 (refine AG ?_;simp only[A1])
  refine AN 54 _ ⟨G,0,none⟩ (.pointer (some ⟨rb,0,none⟩)) (by kernel_rfl) rfl rfl (fun x b=>by have O:=W.out x b;go_simp) ?_;simp only[A1];refine AS (by kernel_rfl) ad.out (fun _=>by kernel_rfl) ?_;simp only[A1];refine AS (by kernel_rfl) ae.out (fun _=>by kernel_rfl) ?_;simp only[A1];refine AG ?_;simp only[A1];refine BV fun x b=>?_
  go_wp2
  have w8:IntKind.i64.wrap (8*(n:Int))=((8*n:Nat):Int):=by rw[CL (by omega)];omega
  have wq:IntKind.i64.wrap ((q:Int)+((8*n:Nat):Int))=((q+8*n:Nat):Int):=by rw[CL (by omega)];omega
  have I:=m;obtain⟨Z,B⟩:=Ah (8*n);rw[B] at w8 wq I;have Y:=Dp B;clear B m;have J:=b.drew;have r:=af.out.below J;have kd:=r.cell (o:=0) rfl;refine Nx (S:=fun x=>x.cell? ⟨G,0,none⟩=some (.pointer (some ⟨rb,0,none⟩))) (by kernel_rfl) kd (fun c=>?_);refine AM 0 (some 35) c ?_
  try simp only[A1]
  refine AM 1 (some 36) c ?_
  try simp only[A1]
  refine AM 2 (some 37) c ?_
  try simp only[A1]
  refine AM 3 (some 38) c ?_
  try simp only[A1]
  refine FV 4 (some 39) (v:=.pointer (some ⟨rb,0,none⟩)) rfl rfl c (by kernel_rfl) (fun x b=>by have O:=(show x.cell? ⟨G,0,none⟩=some (.pointer (some ⟨rb,0,none⟩)) from b);go_simp) ?_
  try simp only[A1]
  refine AM 5 (some 40) c ?_
  try simp only[A1]
  refine AM 6 (some 41) c ?_
  try simp only[A1]
  refine AM 7 (some 42) c ?_
  try simp only[A1]
  refine FV 8 (some 43) (v:=.pointer (some ⟨rb,0,none⟩)) rfl rfl c (by kernel_rfl) (fun x b=>by have O:=(show x.cell? ⟨G,0,none⟩=some (.pointer (some ⟨rb,0,none⟩)) from b);go_simp) ?_
  try simp only[A1]
  refine AM 10 (some 45) c ?_
  try simp only[A1]
  refine AM 11 (some 46) c ?_
  try simp only[A1]
  refine Nw (rs:=[9]) (by kernel_rfl) (by simp) ?_;refine Nu rfl (fun K L=>?_) Nv
  go_simp
  go_wp2_with fail
  refine(ED _ _ _ _ r.rd).mono ?_;rintro e u ⟨rfl,rfl⟩;refine L.out _ _ (kd) (fun g=>?_);clear L K c;have c:=g;clear g
  try simp only[A1]
  refine AM 12 (some 47) c ?_
  try simp only[A1]
  refine Nw (rs:=[13]) (by kernel_rfl) (by simp) ?_;refine Nu rfl (fun K L=>?_) Nv
  go_simp
  go_wp2_with fail
  refine(GH _ _ _ _ _ r.rd (by omega) (by omega)).mono ?_;rintro e w3 ⟨rfl,t,M⟩;have k3:=Yde.ptr (r.reads M t);refine L.out _ _ (k3) (fun g=>?_);clear L K c;have c:=g;clear g
  try simp only[A1]
  refine AM 14 (some 2) c ?_
  try simp only[A1]
  refine AM 15 (some 3) c ?_
  try simp only[A1]
  refine O0 (by kernel_rfl) ?_ _;rw[show ((q:Int)+(Z:Int)).toNat=q+Z by omega] at t
  go_wp2
  go_ret2
  rw[Q.out];exact⟨n,rfl,AR (AR ag.out (BZ J _)) M,⟨_,t⟩,fun _=>⟨rfl,by rw[Y.out];exact t⟩⟩
end
theorem Yde.put {w z:A5}{G rb p A:Nat}{s:ByteArray}{k:Int}{inter:Bool}{vv:A0}{vs:List (Int×Int)}{first:Int}(h:Yde w G rb s p k inter vv vs first)(a:w.grownBy z (some A))(b:G≠A/\rb≠A/\∀j,vv.ownBlock=some j->j≠A):Yde z G rb s p k inter vv vs first:=
 h.keptL (M:=[some A]) (Yai.one a fun j _ e=>by rw[e];exact Dk.2 rfl) (fun hm=>by have e:=Dk.1 hm;injection e with e;omega) (fun hm=>by have e:=Dk.1 hm;injection e with e;omega)
  fun j hj hm=>by have e:=Dk.1 hm;injection e with e;have:=b.2.2 j hj;omega
theorem ZZ {G rb A:Nat}{vv:A0}(h:G<A/\rb<A/\∀j,vv.ownBlock=some j->j<A):G≠A/\rb≠A/\∀j,vv.ownBlock=some j->j≠A:=⟨by omega,by omega,fun j hj=>by have:=h.2.2 j hj;omega⟩
theorem mY (rb:Nat)(hd:Shd)(a b:A0)(z:Int)(w:A5):A9 prog 127 #[.pointer (some ⟨rb,0,none⟩),.agg (Bx hd a b z).toArray] w fun e v=>
  e=.returned (.pointer (some ⟨w.heap.size+1,0,none⟩))/\v.heap[w.heap.size+1]? =some (.cells (NO rb hd.fmt hd.inter (.slice none 0 0) 0).toArray 157 (0,0))/\Below w.heap.size w v:=by
 obtain⟨A,j⟩:=Ah w.heap.size;obtain⟨Z,n⟩:=Ah ((Bx hd a b z).toArray);obtain⟨d,c⟩:=Ah (w.alloc (.cells Z 39 (0,0)));have g:d.heap[A]? =some (.cells (Bx hd a b z).toArray 39 (0,0)):=by rw[n,<-c,<-j];exact heap_alloc_new w _
 have h:Below w.heap.size w d:=by rw[<-c];exact(Dq _ w).alloc (Ba _) _
 have i:d.heap.size=A+1:=by rw[<-c,<-j];simp
 have B:d.cell? ⟨A,2,none⟩=some (.int .i64 hd.fmt):=AA g rfl;have C:d.cell? ⟨A,3,none⟩=some (.bool hd.inter):=AA g rfl;have c1:=fun w=>QI hd.fmt w;have c2:=fun w=>PQ hd.fmt w;obtain⟨R,o⟩:=Ah ((NO rb hd.fmt hd.inter (.slice none 0 0) 0).toArray)
 have l:#[.pointer (some ⟨rb,0,none⟩),.int .i64 hd.fmt,.int .i64 (BJ hd.fmt),.int .i64 (BP hd.fmt),.int .i64 (B1 hd.fmt),.bool hd.inter,.slice none 0 0,.int .i64 0]=R:=o;obtain⟨x,f⟩:=Ah (d.alloc (.cells R 157 (0,0)));have p:x.heap[A+1]? =some (.cells R 157 (0,0)):=by rw[<-f,<-i];exact heap_alloc_new d _
 have m:Below w.heap.size w x:=by rw[<-f];exact h.alloc h.size _
 have q:=Dp c;have y:=Dp j;have r:=Dp l;have s:=Dp f;have t:=Dp i;rw[n,o,j];rw[j] at m;generalize hd.fmt=k at *;generalize hd.inter=inter at *;generalize BJ k=f1 at *;generalize BP k=f2 at *;generalize B1 k=f3 at *;clear c j g h i f n o l
 go_enter func127,ntmps127
 go_wp2_with (rw[q.out,y.out])
 refine(c1 d).mono ?_;rintro e u ⟨rfl,rfl⟩
 go_wp2_with fail
 refine(c2 d).mono ?_;rintro e u ⟨rfl,rfl⟩
 go_wp2_with (with_reducible refine Pj rfl 157 _ rfl (some 29) rfl #[.pointer (some ⟨rb,0,none⟩),.int .i64 k,.int .i64 f1,.int .i64 f2,.int .i64 f3,.bool inter,.slice none 0 0,.int .i64 0] (by kernel_rfl) ?_;rw[r.out])
 rw[s.out,t.out]
 go_ret
 exact⟨rfl,p,m⟩
def bJ (s:ByteArray)(G rb p:Nat)(k:Int)(inter:Bool)(vv:A0)(vs:List (Int×Int))(first:Int)(i:Nat)(w:A5)(e:Ad)(a:A5):Prop:=
 ∃(b:Bool) (id qu:Int) (z:Nat) (fs f:Int),HC s.data.toList k i p first=(b,id,qu,z,fs,f)/\e=.returned (.tuple #[.agg [Value.bool b,.int .i64 id,.int .i64 qu,.slice none 0 0].toArray,.int .i64 f])/\
  Yde a G rb s z k inter vv vs fs/\Yai [some rb,some G] w a
theorem qF {w:A5}{G rb p:Nat}{s:ByteArray}{k:Int}{inter:Bool}{vv:A0}{vs:List (Int×Int)}{first:Int}(i:Nat)(h:Yde w G rb s p k inter vv vs first)(hs:s.size<=1073741824)(hi:i<=1000):
  A9 prog 157 #[.pointer (some ⟨G,0,none⟩),.int .i64 (i:Int)] w (bJ s G rb p k inter vv vs first i w):=by
 have ac:=Uy;obtain⟨Y,B⟩:∃Y:Array A0,[Value.bool false,.int .i64 0,.int .i64 0,.slice none 0 0].toArray=Y:=⟨_,rfl⟩;rw[B] at ac;obtain⟨A,K⟩:=Ah w.heap.size;obtain⟨y,b⟩:=Ah (w.alloc (.cells Y 46 (0,0)));have C:y.heap[A]? =some (.cells Y 46 (0,0)):=by rw[<-b,<-K];exact heap_alloc_new w _
 have m:Below w.heap.size w y:=by rw[<-b];exact(Dq _ w).alloc (Ba _) _
 have c:y.heap.size=A+1:=by rw[<-b,<-K];simp
 have n:G<A/\rb<A/\∀j,vv.ownBlock=some j->j<A:=by rw[<-K];exact h.lt
 have am:=n.1;have an:=n.2.1;have d:=h.below m;have D:(prog.info? 46).map (·.size)=some Y.size:=by rw[<-B];kernel_rfl
 have R:Y.all (·.oneCell')=true:=by rw[<-B];simp[Value.oneCell']
 have S:Yai [some rb,some G] w y:=Yai.below m;have O:=Dp b;have aa:=Dp K;have az:=Dp B;have q:Hid (JJ s.data.toList i p=false->∀I w',Below (A+1) y I->I.grownBy w' (some A)->bJ s G rb p k inter vv vs first i w (.returned (.tuple #[.agg Y,.int .i64 0])) w'):=Dp fun hn I w' a hg=>by
  have J:Below y.heap.size y I:=by rw[c];exact a
  have P:HC s.data.toList k i p first=(false,0,0,p,first,0):=by unfold HC;rw[Bb (by rw[hn];decide)]
  refine⟨false,0,0,p,first,0,P,by rw[B],(d.below J).put hg (ZZ n),?_⟩;refine(S.trans (Yai.below (L:=[]) J) (by simp)).trans (M:=[some A]) (Yai.one hg fun j _ e=>by rw[e];exact Dk.2 rfl) fun j hj hm=>?_;have e:=Dk.1 hm;injection e with e;omega
 by_cases g:i=0
 ·have d0:((i:Int)==0)=true:=by simp[g]
  have N:=Dp (q.out (by unfold JJ;rw[g];rfl) y);have ad:Below (A+1) y y:=Dq _ _;clear g hi q b K B d S c m n
  go_enter func157,ntmps157
  go_wp2_with (first|(with_reducible refine B4 rfl 46 _ _ rfl A Y Y rfl rfl 46 C D rfl R ?_;intro wz r l)|(rw[O.out,aa.out]))
  refine H5 (BQ rfl _ _ A 46 _ (0,0) _ rfl r O6 rfl D) rfl ?_;exact N.out wz ad l
 have d0:((i:Int)==0)=false:=by simp[g]
 have ca:=qZ d hs;rw[c] at ca;have T:JJ s.data.toList i p=((BH s.data.toList p).2&&((BH s.data.toList p).1 != 0&&(BH s.data.toList p).1 != 31)):=by unfold JJ;rw[I4 (by omega:0<i),Gr]
 rw[<-T] at ca;clear T;cases hh:JJ s.data.toList i p with
 |false=>
  rw[hh] at ca;have N:=Dp (q.out hh);clear g hi q b K B d S c m hh
  go_enter func157,ntmps157
  go_wp2_with fail
  rw[O.out,aa.out];refine ca.mono ?_;rintro e I ⟨rfl,a⟩;have E:=(a.block A (by omega)).trans C
  go_wp2_with (with_reducible refine B4 rfl 46 _ _ rfl A Y Y rfl rfl 46 E D rfl R ?_;intro wz r l)
  refine H5 (BQ rfl _ _ A 46 _ (0,0) _ rfl r O6 rfl D) rfl ?_;exact N.out I wz a l
 |true=>
  rw[hh] at ca;have P:HC s.data.toList k i p first=(true,(hdk s.data.toList p i).1,(hdk s.data.toList p i).2.1,(hdk s.data.toList p i).2.2.1,(i:Int)*BP k,(hdk s.data.toList p i).2.2.2):=by unfold HC;rw[Bc (by rw[hh])]
  have ct:=fun x (hx:AI x rb s p)=>vM x rb s p (i:Int) hx (by omega);unfold Sg at ct;obtain⟨⟨id,qu,z,f⟩,hk⟩:=Ah (hdk s.data.toList p (i:Int));rw[hk] at ct P;dsimp only at ct P;obtain⟨ao,ap,ae,al,aq⟩:=O1 k;have wm:IntKind.i64.wrap ((i:Int)*BP k)=(i:Int)*BP k:=by
   have h1:0<=(i:Int)*BP k:=Iz (by omega) ae;have h2:(i:Int)*BP k<=1000*100:=Int.mul_le_mul (by omega) al ae (by omega);exact CL (by omega)
  obtain⟨fs,F⟩:=Ah ((i:Int)*BP k);have a0:=Dp F;rw[F] at wm P;have ar:=Dp P;obtain⟨ab,t⟩:∃Z:Array A0,#[.bool true,.int .i64 id,.int .i64 qu,.slice none 0 0]=Z:=⟨_,rfl⟩;have U:(prog.info? 46).map (·.size)=some ab.size:=by rw[<-t];kernel_rfl
  have af:Y.size=ab.size:=by rw[<-B,<-t];rfl
  have ag:ab.all (·.oneCell')=true:=by rw[<-t];simp[Value.oneCell']
  have V:=Dp t;have au:=Dp S;obtain⟨fl,Q⟩:=Ah (BP k);have av:IntKind.i64.wrap ((i:Int)*fl)=fs:=by rw[<-Q,F];exact wm
  have ah:=Dp Q;clear g hi q b K B m hh hk P t S ao ap ae al aq F wm Q
  go_enter func157,ntmps157
  go_wp2_with fail
  rw[O.out,aa.out];refine ca.mono ?_;rintro e I ⟨rfl,a⟩;have H:=d.below (by rw[c];exact a);have E:=(a.block A (by omega)).trans C;have aw:=a.size;have g2:=Dp (au.out.trans (Yai.below (L:=[]) (by rw[c];exact a)) (by simp));have k0:=H.cell (o:=0) rfl;have W:=ct I H.rd;clear ca a C d ct
  go_wp2_with fail
  refine W.mono ?_;rintro e w3 ⟨rfl,X,u⟩;have v:=H.reads u X;have ai:=(u.block A (by omega) (by simp;omega)).trans E;have k3:=v.cell (o:=3) rfl;rw[ah.out] at k3;have k7:=v.cell (o:=7) rfl;have f7:=AZ (o:=7) v.blk
  have g3:=Dp (g2.out.trans (M:=[some rb]) (L:=[some rb,some G]) (Yai.one u fun j _ e=>by rw[e];exact Dk.2 rfl) fun j _ hm=>by rw[Dk.1 hm];exact Fa ..);have ax:=u.size;clear W X u H E k0;have aj:=Dp (v.lines (first':=fs))
  have ak:(w3.setCell ⟨G,7,none⟩ (.int .i64 fs)).heap[A]? =some (.cells Y 46 (0,0)):=by rw[Ib _ _ _ _ (show A≠G by omega)];exact ai
  have g4:=Dp (g3.out.trans (M:=[some G]) (z:=w3.setCell ⟨G,7,none⟩ (.int .i64 fs)) (Yai.set _ (Dk.2 rfl)) fun j _ hm=>by rw[Dk.1 hm];exact Ez _ (Dk.2 rfl));have ay:(w3.setCell ⟨G,7,none⟩ (.int .i64 fs)).heap.size=w3.heap.size:=by simp
  clear v
  go_wp2_with (first|(with_reducible refine Pj rfl 46 _ rfl (some 38) rfl #[.bool true,.int .i64 id,.int .i64 qu,.slice none 0 0] (by kernel_rfl) ?_;rw[V.out])|(with_reducible refine B4 rfl 46 _ _ rfl A ab Y rfl rfl 46 ak U af ag ?_;intro wz r l))
  refine H5 (BQ rfl _ _ A 46 _ (0,0) _ rfl r O6 rfl U) rfl ?_;refine⟨true,id,qu,z,fs,f,ar.out,by rw[<-V.out];rfl,aj.out.put l (ZZ n),?_⟩;refine g4.out.trans (M:=[some A]) (Yai.one l fun j _ e=>by rw[e];exact Dk.2 rfl) fun j hj hm=>?_;have e:=Dk.1 hm;injection e with e;have:=aa.out;omega
theorem jQ {inter:Bool}{c:Cel}(h:BL inter c=true):(-32<=c.mx/\c.mx<=31)∧-32<=c.my/\c.my<=31:=by
 unfold BL at h;rw[Al] at h;have h:=h.2;by_cases hs:c.skip=true
 ·rw[Bc hs,Al] at h;have h:=h.2;unfold FY at h;simp only[Al,Bm] at h;obtain⟨⟨-,h1,h2⟩,-⟩:=h;rw[h1,h2]
  decide
 ·rw[Bb hs] at h;simp only[Al] at h;have h:=h.2.1;unfold HJ at h;by_cases a:AD c.kind=true
  ·rw[Bc a] at h;simp only[Al,Bm] at h;rw[h.1,h.2]
   decide
  ·rw[Bb a] at h;simp only[Al,Bm] at h;exact⟨Lf.1 h.1,Lf.1 h.2⟩
theorem Xr {n:Int}(h1:-32<=n)(h2:n<=31):(Lit.int .i64 n).wf=true:=by
 unfold Lit.wf;simp only[Al,Au];exact⟨Int.le_trans (by decide) h1,Int.le_trans h2 (by decide)⟩
section
variable {P:Program}
theorem yJ {w:A5}{o:A4}{a:Act}{K:Act->A5->Prop}{Q:Exit->Act->A5->Prop}{s x:A8}{t e:A7}{cap B:Nat}{i:TypeInfo}{z v:A0}{n:Nat}{r:List A0}{y0 y1:Int}
  (ho:o.op=.call {callee:=.builtin .append,args:=#[s,x],argTypes:=#[t,t]})
  (ht:P.underlying t=some (.slice e))(hi:P.info? e=some i)(y:i.zero=some z)(g:z.cells.size=2)(b:i.size=2)(l:i.bytes=16)
  (hs:a.eval s=v)(f:w.ownsRow 0 e 2 v n r)(D:a.eval x=.slice (some ⟨B,0,none⟩) 1 cap)(E:w.cell? ⟨B,0,none⟩=some (.int .i64 y0))(c1:w.cell? ⟨B,1,none⟩=some (.int .i64 y1))(hn:n<=1048576)
  (h:∀(q:Option Aa) (c:Nat) m,m.ownsRow 0 e 2 (.slice q (n+1) c) (n+1) (r++[.int .i64 y0,.int .i64 y1])->w.grownBy m v.ownBlock->(∀k,(Value.slice q (n+1) c).ownBlock=some k->v.ownBlock=some k\/w.heap.size<=k)->K (a.put o.dst (.slice q (n+1) c)) m):o.wp P a w K Q:=by
 have d:∀(j:Nat) u,([.int .i64 y0,.int .i64 y1]:List A0)[j]? =some u->w.cell? ((⟨B,0,none⟩:Aa).add j)=some u:=fun j u hj=>by
  rw[Gc,Ar]
  match j,hj with
  |0,hj=>cases hj;exact E
  |1,hj=>cases hj;exact c1
 have p:∀u∈([.int .i64 y0,.int .i64 y1]:List A0),u.oneCell'=true:=by intro u A;simp only[Ei,Ej,Eo] at A;rcases A with rfl|rfl <;> rfl
 obtain⟨F,m,hr,h2,h3,-⟩:=Og (P:=P) w 0 t o.type e i z 2 16 ht hi y b l g (by decide) v n r f ⟨B,0,none⟩ 1 cap _ rfl d p (by unfold maxLen;omega) (by omega) (Ds _);have h4:=Uu ht hi y b l g (by decide) f rfl d p (by unfold maxLen;omega) (by omega) hr;have C:=(MA h2).1;rw[C] at h2 h4;unfold Oper.wp execOp
 simp only[ho,resolve,invoke,builtin,Aq,Av,Ao,Oh,Cm,Ct,hs,D,hr];have:=h _ _ m h2 h3 h4;rw[<-C] at this;exact this
end
section
variable {w x:A5}{L:List (Option Nat)}
theorem D3.from {B:Nat}{p:Option Aa}{l:List Ev}(h:D3 w p l)(a:EK B p)(c:∀j,some j∈L->j<B):FP L w p l:=by
 refine⟨h,?_⟩;rcases h with h|⟨b,o,e,-,-⟩
 ·exact .inl (by first|exact h|exact Dl h)
 ·refine .inr ⟨b,o,e,fun hm=>?_⟩;have h1:=a _ e;have h2:=c b hm;simp only at h1;omega
theorem FP.below {p:Option Aa}{l:List Ev}(h:FP L w p l)(a:Below w.heap.size w x):FP L x p l:=h.kept (BZ a none) fun k b=>by cases b
end
section
variable {N:Nat}{w:A5}{G rb p:Nat}{s:ByteArray}{k:Int}{inter:Bool}{vv:A0}{vs:List (Int×Int)}{first:Int}
set_option maxRecDepth 100000 in
theorem eD (h:Yde w G rb s p k inter vv vs first)(ht:Ybw N w)(hN:N<=rb)(hn:vs.length<=1048575):
  A9 prog 158 #[.pointer (some ⟨G,0,none⟩)] w (qW s G rb p k inter vv vs first w):=by
 have hp:=h.rd.2.1;obtain⟨Y,a7,c7⟩:=Pr;obtain⟨W,d,cj,bs⟩:=Tg rfl h.vec;subst cj;obtain⟨A,hA⟩:=Ah w.heap.size;obtain⟨r,am⟩:=Ah (w.alloc (.cells Y 77 (0,0)));have bt:r.heap[A]? =some (.cells Y 77 (0,0)):=by rw[<-am,<-hA];exact heap_alloc_new w _
 have an:Below w.heap.size w r:=by rw[<-am];exact(Dq _ w).alloc (Ba _) _
 have c8:r.heap.size=A+1:=by rw[<-am,<-hA];simp
 have a8:G<A/\rb<A/\∀j,(Value.slice W vs.length d).ownBlock=some j->j<A:=by rw[<-hA];exact h.lt
 have c9:=a8.1;have da:=a8.2.1;have ad:=h.below an;have bu:=ht.below (an.mono (by omega:N<=w.heap.size));have bv:=bs.mono an;obtain⟨⟨ae,af⟩,bj⟩:=Ah (DT vs (B1 k) first)
 obtain⟨⟨c,q,f⟩,ag⟩:=Ah (ctk inter (A2 s.data.toList) ae af p);have cl:B1 k<=100:=by have:=(HH k).1;have:=(O1 k).2.2.2.2;omega
 have cm:=Dp (fun(x:A5) (l:Below r.heap.size r x)=>(W5 (fun i=>vs.getD i (0,0)) W vs.length d (B1 k) first x (bv.mono l) (by unfold maxLen;omega) (by omega)).mono fun e y (z:KV _ x e y)=>
  (⟨by rw[z.1,show KU (fun i=>vs.getD i (0,0)) vs.length (B1 k) first=(ae,af) from bj];rfl,z.2⟩:e=.returned (.agg #[.int .i64 ae,.int .i64 af])/\Below x.heap.size x y))
 have cg:=Dp (fun(x:A5) (l:Below r.heap.size r x)=>(dO inter ae af (bu.below (l.mono (by omega))) hN (ad.below l).rd).mono fun e y (z:WU inter s rb ae af p x e y)=>
  (by
   obtain⟨c',q',f',sl,h1,h2,h3,h4,h5⟩:=z;rw[ag] at h1;injection h1 with e1 h1;injection h1 with e2 e3;subst e1 e2 e3;exact⟨sl,h2,h3,h4,h5⟩:∃sl,e=.returned (.tuple #[.agg (AJ c sl).toArray,.int .i64 f])/\(∀i,i<6->E4 y x.heap.size (sl i) (c.ev i))/\AI y rb s q/\x.grownBy y (some rb)))
 have a6:=Dp (fun(x:A5) (l:Below r.heap.size r x)=>(ad.below l).blk);have ac:=Dp (fun(x:A5) (l:Yai [some rb] r x)=>(l.block G (by omega) (fun hm=>by have e:=Dk.1 hm;injection e with e;exact h.ne.1 e)).trans ad.blk);have bw:=Dp ad;have cn:=Dp a8;have bk:=Dp h.ne;have c1:=Dp ad.vec
 have bl:Hid (ctk inter (A2 s.data.toList) (DT vs (B1 k) first).1 (DT vs (B1 k) first).2 p=(c,q,f)):=Dp (by rw[bj];exact ag);have db:=Dp (fun(e:f=0)=>(by
  rw[e] at ag;exact jQ (ZG (KS _) (by rw[BO];exact hp) ag).2:(-32<=c.mx/\c.mx<=31)∧-32<=c.my/\c.my<=31))
 have co:=Dp (fun i=>(by have:=sU inter (A2 s.data.toList) ae af p i;rw[ag] at this;exact this:(c.ev i).length<=65));have cp:=Dp am;have ch:=Dp hA;have cq:=Dp an;clear h ht bs bv ad bu ag bj cl am hA an a8 hp
 go_enter func158,ntmps158
 go_upto_region 1 with fail
 rw[cp.out,ch.out]
 go_cut [4,5] (fun u fv wx=>∃(C:Nat) (sl:Nat->A0),u=.pointer (some ⟨C,0,none⟩)/\fv=.int .i64 f/\wx.heap[C]? =some (.cells (AJ c sl).toArray 77 (0,0))/\r.heap.size<=C/\Yai [some rb] r wx/\AI wx rb s q/\∀i,i<6->∃P cap,sl i=.slice P (c.ev i).length cap/\FP [some C] wx P (c.ev i)/\EK r.heap.size P)
 case first=>
  have X:Below r.heap.size r r.drew:=(Dq _ r).drew;refine Nx (S:=fun x=>x.heap[G]? =some (.cells (NO rb k inter (.slice W vs.length d) first).toArray 157 (0,0))) (by kernel_rfl) (a6.out _ X) (fun g=>?_);refine AM 0 (some 7) g ?_
  try simp only[A1]
  refine AM 1 (some 8) g ?_
  try simp only[A1]
  refine AM 2 (some 9) g ?_
  try simp only[A1]
  refine FV 3 (some 10) (v:=.pointer (some ⟨rb,0,none⟩)) rfl rfl g (by kernel_rfl) (fun x l=>by have c0:=AA (o:=0) l rfl;go_simp) ?_
  try simp only[A1]
  refine AM 4 (some 11) g ?_
  try simp only[A1]
  refine AM 5 (some 12) g ?_
  try simp only[A1]
  refine AM 6 (some 13) g ?_
  try simp only[A1]
  refine FV 7 (some 14) (v:=.bool inter) rfl rfl g (by kernel_rfl) (fun x l=>by have c0:=AA (o:=5) l rfl;go_simp) ?_
  try simp only[A1]
  refine AM 8 (some 15) g ?_
  try simp only[A1]
  refine AM 9 (some 16) g ?_
  try simp only[A1]
  refine AM 10 (some 17) g ?_
  try simp only[A1]
  refine FV 11 (some 18) (v:=.slice W vs.length d) rfl rfl g (by kernel_rfl) (fun x l=>by have c0:=AA (o:=6) l rfl;go_simp) ?_
  try simp only[A1]
  refine AM 12 (some 19) g ?_
  try simp only[A1]
  refine AM 13 (some 20) g ?_
  try simp only[A1]
  refine AM 14 (some 21) g ?_
  try simp only[A1]
  refine FV 15 (some 22) (v:=.int .i64 (B1 k)) rfl rfl g (by kernel_rfl) (fun x l=>by have c0:=AA (o:=4) l rfl;go_simp) ?_
  try simp only[A1]
  refine AM 16 (some 23) g ?_
  try simp only[A1]
  refine AM 17 (some 24) g ?_
  try simp only[A1]
  refine AM 18 (some 25) g ?_
  try simp only[A1]
  refine FV 19 (some 26) (v:=.int .i64 first) rfl rfl g (by kernel_rfl) (fun x l=>by have c0:=AA (o:=7) l rfl;go_simp) ?_
  try simp only[A1]
  generalize r.drew=v0 at g X ⊢;refine Nw (rs:=[20,25]) (by kernel_rfl) (by simp) ?_;refine Nu rfl (fun K m=>?_) (Nu rfl (fun K m=>?_) Nv)
  ·go_simp
   go_wp2_with fail
   refine(cm.out _ X).mono ?_;rintro e v1 ⟨rfl,hb⟩;have D:Below r.heap.size r v1:=X.trans (hb.mono X.size);clear hb;refine m.out _ _ (a6.out _ D) (fun n=>?_);clear m K g n;have g:=(a6.out _ D)
   try simp only[A1]
   refine Nw (rs:=[21,25]) (by kernel_rfl) (by simp) ?_;refine Nu rfl (fun K m=>?_) (Nu rfl (fun K m=>?_) Nv)
   ·go_simp
    go_wp2_with fail
    refine(cg.out _ D).mono ?_;rintro e v2 ⟨sl,rfl,F,a9,T⟩;have ba:Yai [some rb] r v2:=(Yai.below (L:=[some rb]) D).trans (Yai.one (L:=[some rb]) T fun j _ e=>by rw[e];exact Dk.2 rfl) fun j _ h=>h;have ah:∀i,i<6->∃P cap,sl i=.slice P (c.ev i).length cap/\D3 v2 P (c.ev i)/\EK r.heap.size P:=fun i hi=>by
     obtain⟨P,cap,h1,h2,h3⟩:=F i hi;exact⟨P,cap,h1,h2,h3.mono D.size⟩
    clear F;clear T;refine m.out _ _ (ac.out _ ba) (fun n=>?_);clear m K g n;have g:=(ac.out _ ba)
    try simp only[A1]
    refine AM 22 (some 6) g ?_
    try simp only[A1]
    refine AM 23 (some 29) g ?_
    try simp only[A1]
    refine AM 24 (some 30) g ?_
    try simp only[A1]
    refine Nw (rs:=[25]) (by kernel_rfl) (by simp) ?_;refine Nu rfl (fun K m=>?_) Nv
    go_simp
    obtain⟨C,U⟩:=Ah v2.heap.size;obtain⟨v3,bb⟩:=Ah (v2.alloc (.cells Y 77 (0,0)));have gC:v3.heap[C]? =some (.cells Y 77 (0,0)):=by rw[<-bb,<-U];exact heap_alloc_new v2 _
    have ai:r.heap.size<=C:=by rw[<-U];exact ba.size
    have bc:Below v2.heap.size v2 v3:=by rw[<-bb];exact(Dq _ v2).alloc (Ba _) _
    have I:Yai [some rb] r v3:=ba.trans (Yai.below (L:=[]) bc) (by simp);have ao:=a9.below bc;have H:∀i,i<6->∃P cap,sl i=.slice P (c.ev i).length cap/\FP [some C] v3 P (c.ev i)/\EK r.heap.size P:=fun i hi=>by
     obtain⟨P,cap,h1,h2,h3⟩:=ah i hi;refine⟨P,cap,h1,⟨h2.below bc,?_⟩,h3⟩;rcases h2 with h2|⟨b,o,h2,h4,-⟩
     ·exact .inl h2
     ·exact .inr ⟨b,o,h2,fun hm=>by have e:=Dk.1 hm;injection e with e;omega⟩
    clear ah bc;rw[bb,U];clear bb U;refine m.out _ _ (ac.out _ I) (fun n=>?_);clear m K g n;have g:=(ac.out _ I)
    try simp only[A1]
    refine Nw (rs:=[26]) (by kernel_rfl) (by simp) ?_;refine Nu rfl (fun K m=>?_) Nv;refine(Bc (by kernel_rfl)).mpr ?_;have ap:(prog.info? 77).map (·.size)=some (AJ c sl).toArray.size:=by rw[show (AJ c sl).toArray.size=18 from rfl];kernel_rfl
    have aq:Y.size=(AJ c sl).toArray.size:=by rw[a7];rfl
    have ar:(AJ c sl).toArray.all (·.oneCell')=true:=P5 _ _ fun i hi=>by obtain⟨P,cap,h1,-,-⟩:=H i hi;rw[h1];rfl
    refine Ov 77 _ _ rfl C (AJ c sl).toArray (by kernel_rfl) (by kernel_rfl) 77 Y gC ap aq ar ?_;obtain⟨vS,E⟩:=Ah (v3.setRow C (AJ c sl).toArray);have eS:vS.heap[C]? =some (.cells (AJ c sl).toArray 77 (0,0)):=by rw[<-E];exact Et _ _ _ _ _ _ gC
    have J:v3.grownBy vS (some C):=by rw[<-E];exact⟨rfl,rfl,rfl,by simp,fun k _ hk=>Es _ _ _ _ (by intro e;exact hk (by rw[e]))⟩
    have t:Yai [some rb] r vS:=I.trans (Yai.one (L:=[some C]) J fun j _ e=>by rw[e];exact Dk.2 rfl) fun j hj h=>by have e:=Dk.1 h;injection e with e;omega
    have au:AI vS rb s q:=ao.grown J (by omega);rw[E];clear E;refine m.out _ _ (ac.out _ t) (fun n=>?_);clear m K g n;have g:=(ac.out _ t)
    try simp only[Act.put,Ap]
    refine AM 27 (some 5) g ?_
    try simp only[Act.put]
    refine O0 (by kernel_rfl) ?_ _
    go_wp2
    go_meet
    case rel=>
     refine⟨C,sl,rfl,rfl,eS,ai,t,au,fun i hi=>?_⟩;obtain⟨P,cap,h1,h2,h3⟩:=H i hi;exact⟨P,cap,h1,(h2.kept J fun k hk=>by injection hk with hk;rw[hk];exact Dk.2 rfl),h3⟩
   ·go_simp
    obtain⟨C,U⟩:=Ah v1.heap.size;obtain⟨v2,hn2⟩:=Ah (v1.alloc (.cells Y 77 (0,0)));have gC:v2.heap[C]? =some (.cells Y 77 (0,0)):=by rw[<-hn2,<-U];exact heap_alloc_new v1 _
    have ai:r.heap.size<=C:=by rw[<-U];exact D.size
    have O:Below r.heap.size r v2:=by rw[<-hn2];exact D.alloc D.size _
    rw[hn2,U];clear hn2 U;refine m.out _ _ (a6.out _ O) (fun n=>?_);clear m K g n;have g:=(a6.out _ O)
    try simp only[A1]
    refine Nw (rs:=[21]) (by kernel_rfl) (by simp) ?_;refine Nu rfl (fun K m=>?_) Nv
    go_simp
    go_wp2_with fail
    refine(cg.out _ O).mono ?_;rintro e v3 ⟨sl,rfl,F,ao,T⟩;have I:Yai [some rb] r v3:=(Yai.below (L:=[some rb]) O).trans (Yai.one (L:=[some rb]) T fun j _ e=>by rw[e];exact Dk.2 rfl) fun j _ h=>h;have av:=(Am.1 gC).1;have gC:=(T.block C av (by simp;omega)).trans gC
    have H:∀i,i<6->∃P cap,sl i=.slice P (c.ev i).length cap/\FP [some C] v3 P (c.ev i)/\EK r.heap.size P:=fun i hi=>by
     obtain⟨P,cap,h1,h2,h3⟩:=F i hi;refine⟨P,cap,h1,⟨h2,?_⟩,h3.mono O.size⟩;rcases h2 with h2|⟨b,o,h2,h4,-⟩
     ·exact .inl h2
     ·exact .inr ⟨b,o,h2,fun hm=>by have e:=Dk.1 hm;injection e with e;have h5:=h3 _ h2;simp only at h5;omega⟩
    clear F av;clear T;refine m.out _ _ (ac.out _ I) (fun n=>?_);clear m K g n;have g:=(ac.out _ I)
    try simp only[A1]
    refine AM 22 (some 6) g ?_
    try simp only[A1]
    refine AM 23 (some 29) g ?_
    try simp only[A1]
    refine AM 24 (some 30) g ?_
    try simp only[A1]
    refine Nw (rs:=[26]) (by kernel_rfl) (by simp) ?_;refine Nu rfl (fun K m=>?_) Nv;refine(Bc (by kernel_rfl)).mpr ?_;have ap:(prog.info? 77).map (·.size)=some (AJ c sl).toArray.size:=by rw[show (AJ c sl).toArray.size=18 from rfl];kernel_rfl
    have aq:Y.size=(AJ c sl).toArray.size:=by rw[a7];rfl
    have ar:(AJ c sl).toArray.all (·.oneCell')=true:=P5 _ _ fun i hi=>by obtain⟨P,cap,h1,-,-⟩:=H i hi;rw[h1];rfl
    refine Ov 77 _ _ rfl C (AJ c sl).toArray (by kernel_rfl) (by kernel_rfl) 77 Y gC ap aq ar ?_;obtain⟨vS,E⟩:=Ah (v3.setRow C (AJ c sl).toArray);have eS:vS.heap[C]? =some (.cells (AJ c sl).toArray 77 (0,0)):=by rw[<-E];exact Et _ _ _ _ _ _ gC
    have J:v3.grownBy vS (some C):=by rw[<-E];exact⟨rfl,rfl,rfl,by simp,fun k _ hk=>Es _ _ _ _ (by intro e;exact hk (by rw[e]))⟩
    have t:Yai [some rb] r vS:=I.trans (Yai.one (L:=[some C]) J fun j _ e=>by rw[e];exact Dk.2 rfl) fun j hj h=>by have e:=Dk.1 h;injection e with e;omega
    have au:AI vS rb s q:=ao.grown J (by omega);rw[E];clear E;refine m.out _ _ (ac.out _ t) (fun n=>?_);clear m K g n;have g:=(ac.out _ t)
    try simp only[Act.put,Ap]
    refine AM 27 (some 5) g ?_
    try simp only[Act.put]
    refine O0 (by kernel_rfl) ?_ _
    go_wp2
    go_meet
    case rel=>
     refine⟨C,sl,rfl,rfl,eS,ai,t,au,fun i hi=>?_⟩;obtain⟨P,cap,h1,h2,h3⟩:=H i hi;exact⟨P,cap,h1,(h2.kept J fun k hk=>by injection hk with hk;rw[hk];exact Dk.2 rfl),h3⟩
  ·go_simp
   obtain⟨C,U⟩:=Ah v0.heap.size;obtain⟨v1,bd⟩:=Ah (v0.alloc (.cells Y 77 (0,0)));have gC:v1.heap[C]? =some (.cells Y 77 (0,0)):=by rw[<-bd,<-U];exact heap_alloc_new v0 _
   have ai:r.heap.size<=C:=by rw[<-U];exact X.size
   have D:Below r.heap.size r v1:=by rw[<-bd];exact X.alloc X.size _
   rw[bd,U];clear bd U;refine m.out _ _ (a6.out _ D) (fun n=>?_);clear m K g n;have g:=(a6.out _ D)
   try simp only[A1]
   refine Nw (rs:=[20]) (by kernel_rfl) (by simp) ?_;refine Nu rfl (fun K m=>?_) Nv
   go_simp
   go_wp2_with fail
   refine(cm.out _ D).mono ?_;rintro e v2 ⟨rfl,hb⟩;have O:Below r.heap.size r v2:=D.trans (hb.mono D.size);have gC:=(hb.block C (Am.1 gC).1).trans gC;clear hb;refine m.out _ _ (a6.out _ O) (fun n=>?_);clear m K g n;have g:=(a6.out _ O)
   try simp only[A1]
   refine Nw (rs:=[21]) (by kernel_rfl) (by simp) ?_;refine Nu rfl (fun K m=>?_) Nv
   go_simp
   go_wp2_with fail
   refine(cg.out _ O).mono ?_;rintro e v3 ⟨sl,rfl,F,ao,T⟩;have I:Yai [some rb] r v3:=(Yai.below (L:=[some rb]) O).trans (Yai.one (L:=[some rb]) T fun j _ e=>by rw[e];exact Dk.2 rfl) fun j _ h=>h;have av:=(Am.1 gC).1;have gC:=(T.block C av (by simp;omega)).trans gC
   have H:∀i,i<6->∃P cap,sl i=.slice P (c.ev i).length cap/\FP [some C] v3 P (c.ev i)/\EK r.heap.size P:=fun i hi=>by
    obtain⟨P,cap,h1,h2,h3⟩:=F i hi;refine⟨P,cap,h1,⟨h2,?_⟩,h3.mono O.size⟩;rcases h2 with h2|⟨b,o,h2,h4,-⟩
    ·exact .inl h2
    ·exact .inr ⟨b,o,h2,fun hm=>by have e:=Dk.1 hm;injection e with e;have h5:=h3 _ h2;simp only at h5;omega⟩
   clear F av;clear T;refine m.out _ _ (ac.out _ I) (fun n=>?_);clear m K g n;have g:=(ac.out _ I)
   try simp only[A1]
   refine AM 22 (some 6) g ?_
   try simp only[A1]
   refine AM 23 (some 29) g ?_
   try simp only[A1]
   refine AM 24 (some 30) g ?_
   try simp only[A1]
   refine Nw (rs:=[26]) (by kernel_rfl) (by simp) ?_;refine Nu rfl (fun K m=>?_) Nv;refine(Bc (by kernel_rfl)).mpr ?_;have ap:(prog.info? 77).map (·.size)=some (AJ c sl).toArray.size:=by rw[show (AJ c sl).toArray.size=18 from rfl];kernel_rfl
   have aq:Y.size=(AJ c sl).toArray.size:=by rw[a7];rfl
   have ar:(AJ c sl).toArray.all (·.oneCell')=true:=P5 _ _ fun i hi=>by obtain⟨P,cap,h1,-,-⟩:=H i hi;rw[h1];rfl
   refine Ov 77 _ _ rfl C (AJ c sl).toArray (by kernel_rfl) (by kernel_rfl) 77 Y gC ap aq ar ?_;obtain⟨vS,E⟩:=Ah (v3.setRow C (AJ c sl).toArray);have eS:vS.heap[C]? =some (.cells (AJ c sl).toArray 77 (0,0)):=by rw[<-E];exact Et _ _ _ _ _ _ gC
   have J:v3.grownBy vS (some C):=by rw[<-E];exact⟨rfl,rfl,rfl,by simp,fun k _ hk=>Es _ _ _ _ (by intro e;exact hk (by rw[e]))⟩
   have t:Yai [some rb] r vS:=I.trans (Yai.one (L:=[some C]) J fun j _ e=>by rw[e];exact Dk.2 rfl) fun j hj h=>by have e:=Dk.1 h;injection e with e;omega
   have au:AI vS rb s q:=ao.grown J (by omega);rw[E];clear E;refine m.out _ _ (ac.out _ t) (fun n=>?_);clear m K g n;have g:=(ac.out _ t)
   try simp only[Act.put,Ap]
   refine AM 27 (some 5) g ?_
   try simp only[Act.put]
   refine O0 (by kernel_rfl) ?_ _
   go_wp2
   go_meet
   case rel=>
    refine⟨C,sl,rfl,rfl,eS,ai,t,au,fun i hi=>?_⟩;obtain⟨P,cap,h1,h2,h3⟩:=H i hi;exact⟨P,cap,h1,(h2.kept J fun k hk=>by injection hk with hk;rw[hk];exact Dk.2 rfl),h3⟩
 case rest=>
  clear cm cg a6 ac;obtain⟨C,sl,rfl,rfl,U,ai,aj,bx,ah⟩:=hcut;obtain⟨B,rfl⟩:∃x,x=wc:=⟨_,rfl⟩;have aw:∀i,i<6->(sl i).oneCell'=true:=fun i hi=>by obtain⟨P,cap,h1,-,-⟩:=ah i hi;rw[h1];rfl
  obtain⟨Z,hZ⟩:=Ah ((AJ c sl).toArray);have Q:(prog.info? 77).map (·.size)=some Z.size:=by rw[<-hZ,show (AJ c sl).toArray.size=18 from rfl];kernel_rfl
  have bm:Y.size=Z.size:=by rw[a7,<-hZ];rfl
  have bn:Z.all (·.oneCell')=true:=hZ▸P5 _ _ aw;have bz:B.heap[C]? =some (.cells Z 77 (0,0)):=by rw[<-hZ];exact U
  have b0:=(aj.block A (by omega) (fun hm=>by have e:=Dk.1 hm;injection e with e;omega)).trans bt;have ci:=Dp hZ;have cr:=Dp ah;have ax:=Dp aw;have dc:=aj.size;have b1:C<B.heap.size:=(Am.1 U).1;have ay:Yde B G rb s q k inter (.slice W vs.length d) vs first:={
   blk:=(aj.block G (by omega) (fun hm=>by have e:=Dk.1 hm;injection e with e;exact bk.out.1 e)).trans bw.out.blk
   rd:=bx
   vec:=MM bw.out.vec aj fun j hj hm=>by have e:=Dk.1 hm;injection e with e;exact(bk.out.2 j hj).2 e
   ne:=bk.out}
  have c2:Hid (Yai (EX rb G (.slice W vs.length d)) w B):=Dp ((Yai.below cq.out).trans aj fun j _ hm=>by rw[Dk.1 hm];exact Fa ..);have ck:=AA (o:=2) U rfl;clear hZ ah aw aj bx bt;by_cases hf:f=0
  case neg=>
   have tf:(f != 0)=true:=by rw[Fl];exact hf
   have b2:=Dp hf;clear hf ck
   go_wp2_with (first|(with_reducible refine Mt rfl 77 _ rfl C rfl 77 Z (0,0) _ bz Mu rfl Q ?_)|(with_reducible refine B4 rfl 77 _ _ rfl A Z Y rfl rfl 77 b0 Q bm bn ?_;intro wz az V))
   refine H5 (BQ rfl _ _ A 77 _ (0,0) _ rfl az Mu rfl Q) rfl ?_;refine⟨c,q,f,f,sl,bl.out,by rw[Bc b2.out],by rw[ci.out];rfl,ax.out,?_,⟨q,ay.rd.grown V (by omega)⟩,fun e=>absurd e b2.out⟩
   exact c2.out.trans (Yai.one (L:=[some A]) V fun j _ e=>by rw[e];exact Dk.2 rfl) fun j hj hm=>by have e:=Dk.1 hm;injection e with e;have:=ch.out;omega
  have tf:(f != 0)=false:=by rw[hf];rfl
  have hm:=db.out hf;have b2:=Dp hf;have a9:B.rangeAt C 4 [.int .i64 c.mx,.int .i64 c.my]:=fun j v hj=>by
   match j,hj with
   |0,hj=>injection hj with hj;subst hj;exact AA (o:=4) U rfl
   |1,hj=>injection hj with hj;subst hj;exact AA (o:=5) U rfl
  have cs:=fun(x y:A5) (l:Below B.heap.size B x) (hy:Below x.heap.size x y)=>(l.trans (hy.mono l.size):Below B.heap.size B y);have bf:=Dp (fun(x:A5) (l:Below B.heap.size B x)=>((fun j v hj=>(G3 (a:=⟨C,4+j,none⟩) (l.block C b1)).trans (a9 j v hj)):x.rangeAt C 4 [.int .i64 c.mx,.int .i64 c.my]))
  have a0:=Dp (fun(x:A5) (l:Below B.heap.size B x)=>((l.block C b1).trans bz));have c3:=Dp (fun(x:A5) (l:Below B.heap.size B x)=>(ay.below l).cell (o:=1) rfl);have c4:=Dp (fun(x:A5) (l:Below B.heap.size B x)=>(ay.below l).cell (o:=6) rfl)
  have b3:=Dp (fun(x:A5) (l:Below B.heap.size B x)=>(by rw[<-ci.out];exact(zE c sl x).mono fun e y z=>⟨z.1,cs x y l z.2⟩:A9 prog 179 #[.agg Z] x fun e y=>e=.returned (.bool (!AD c.kind))/\Below B.heap.size B y))
  have c5:=Dp (fun(x:A5) (l:Below B.heap.size B x)=>((Zm k (vs.length:Int) c.mx c.my x).mono fun e y z=>⟨z.1,cs x y l z.2⟩:A9 prog 84 #[.int .i64 k,.int .i64 (vs.length:Int),.agg #[.int .i64 c.mx,.int .i64 c.my]] x fun e y=>e=.returned (.bool (GJ k (vs.length:Int) c.mx c.my))/\Below B.heap.size B y));have ak:=Dq B.heap.size B
  have aa:CP k vs.length c=(AD c.kind || GJ k (vs.length:Int) c.mx c.my):=rfl;obtain⟨bo,a1⟩:=Ah (CP k vs.length c);rw[a1] at aa;have b4:=Dp a1;have ct:=Dp ay;clear hf cs a9 ay a1
  go_upto_region 4 with fail
  go_cut [51] (fun v wx=>v=.bool (!bo)/\Below B.heap.size B wx)
  case first=>
   cases hik:AD c.kind with
   |true=>
    rw[hik] at aa b3;have cu:Hid (bo=true):=Dp (by rw[aa];rfl);clear hik aa;refine BY (S:=fun x=>Below B.heap.size B x) 17 (by kernel_rfl) (by kernel_rfl) ak.drew ?_;simp only[Dt,Bi,Hb,I0];refine IZ 77 _ C 77 Z (0,0) _ (by kernel_rfl) rfl rfl (fun x l=>a0.out x l) Mu rfl Q ?_;simp only[A1]
    refine AS (by kernel_rfl) b3.out (fun _=>by kernel_rfl) ?_;simp only[A1];refine AG ?_;simp only[A1]
    iterate 13 (refine EA (by kernel_rfl) ?_;simp only[A1])
    refine AG ?_;simp only[A1];refine BV fun x l=>?_
    go_wp2
    go_meet
    case rel=>exact⟨(by rw[cu.out];first|done|rfl),l⟩
   |false=>
    rw[hik] at aa b3;have cu:=Dp (aa.trans (Bool.false_or _));clear hik aa;generalize GJ k (vs.length:Int) c.mx c.my=mv at *;refine BY (S:=fun x=>Below B.heap.size B x) 17 (by kernel_rfl) (by kernel_rfl) ak.drew ?_;simp only[Dt,Bi,Hb,I0]
    refine IZ 77 _ C 77 Z (0,0) _ (by kernel_rfl) rfl rfl (fun x l=>a0.out x l) Mu rfl Q ?_;simp only[A1];refine AS (by kernel_rfl) b3.out (fun _=>by kernel_rfl) ?_;simp only[A1]
    iterate 4 (refine AG ?_;simp only[A1])
    refine AN 3 _ ⟨G,1,none⟩ (.int .i64 k) (by kernel_rfl) rfl rfl (fun x l=>by have c0:=c3.out x l;go_simp) ?_;simp only[A1]
    iterate 3 (refine AG ?_;simp only[A1])
    refine AN 98 _ ⟨G,6,none⟩ (.slice W vs.length d) (by kernel_rfl) rfl rfl (fun x l=>by have c0:=c4.out x l;go_simp) ?_;simp only[A1]
    iterate 2 (refine AG ?_;simp only[A1])
    refine Vh 73 _ C 4 [.int .i64 c.mx,.int .i64 c.my] _ (by kernel_rfl) rfl rfl (fun x l=>bf.out x l) Gq rfl (by kernel_rfl) ?_;simp only[A1];refine AS (by kernel_rfl) c5.out (fun _=>by kernel_rfl) ?_;simp only[A1]
    iterate 2 (refine AG ?_;simp only[A1])
    refine BV fun x l=>?_
    go_wp2
    go_meet
    case rel=>exact⟨(by rw[cu.out];first|done|rfl),l⟩
  case rest=>
   obtain⟨rfl,R⟩:=hcut;clear ak b3 c5 c3 c4 aa;have b5:=a0.out _ R;have b6:=(R.block A (by omega)).trans b0;have a2:=ct.out.below R;have b7:=bf.out _ R;have c6:Hid (Yai (EX rb G (.slice W vs.length d)) w wc):=Dp (c2.out.trans (Yai.below (L:=[]) R) (by simp));have cv:=Dp R;have dd:=R.size;cases bo with
   |false=>
    clear a0 bf R
    go_wp2_with (first|(with_reducible refine Mt rfl 77 _ rfl C rfl 77 Z (0,0) _ b5 Mu rfl Q ?_)|(with_reducible refine B4 rfl 77 _ _ rfl A Z Y rfl rfl 77 b6 Q bm bn ?_;intro wz az V))
    refine H5 (BQ rfl _ _ A 77 _ (0,0) _ rfl az Mu rfl Q) rfl ?_;refine⟨c,q,f,8,sl,bl.out,by rw[Bb (fun h=>h b2.out),Bc b4.out],by rw[ci.out];rfl,ax.out,?_,⟨q,a2.rd.grown V (by omega)⟩,fun e=>by cases e⟩
    exact c6.out.trans (Yai.one (L:=[some A]) V fun j _ e=>by rw[e];exact Dk.2 rfl) fun j hj hm=>by have e:=Dk.1 hm;injection e with e;have:=ch.out;omega
   |true=>
    clear a0 bf R;have hl:=a2.lt;have de:r.heap.size<=C/\A+1<=C:=by omega
    have k6:=a2.cell (o:=6) rfl;obtain⟨ti,j0,j1,j2,j3⟩:=UJ;have ak:Below wc.heap.size wc wc.drew:=(Dq _ wc).drew;have bp:=(a2.below ak).cell (o:=6) rfl;have bi:wc.drew.rangeAt C 4 [.int .i64 c.mx,.int .i64 c.my]:=b7
    go_wp2
    refine Hp (by kernel_rfl) ?_;change wpAny _ _ _ _ _ _ _ (World.drew _);refine EG 0 (some 53) (v:=?_) rfl rfl (by kernel_rfl) (by kernel_rfl) (by kernel_rfl) (fun _ _ _ h=>h) (Or.inl ⟨by kernel_rfl,?_⟩) ?_
    rotate_left
    ·(intro x;go_simp;try with_reducible rfl)
    rotate_right
    try simp only[A1]
    refine EG 1 (some 54) (v:=?_) rfl rfl (by kernel_rfl) (by kernel_rfl) (by kernel_rfl) (fun _ _ _ h=>h) (Or.inl ⟨by kernel_rfl,?_⟩) ?_
    rotate_left
    ·(intro x;go_simp;try with_reducible rfl)
    rotate_right
    try simp only[A1]
    refine EG 2 (some 55) (v:=?_) rfl rfl (by kernel_rfl) (by kernel_rfl) (by kernel_rfl) (fun _ _ _ h=>h) (Or.inl ⟨by kernel_rfl,?_⟩) ?_
    rotate_left
    ·(intro x;go_simp;try with_reducible rfl)
    rotate_right
    try simp only[A1]
    refine EG 3 (some 56) (v:=?_) rfl rfl (by kernel_rfl) (by kernel_rfl) (by kernel_rfl) (fun _ _ _ h=>h) (Or.inl ⟨by kernel_rfl,?_⟩) ?_
    rotate_left
    ·(intro x;go_simp;try with_reducible rfl)
    rotate_right
    try simp only[A1]
    refine EG 5 (some 58) (v:=?_) rfl rfl (by kernel_rfl) (by kernel_rfl) (by kernel_rfl) (fun _ _ _ h=>h) (Or.inl ⟨by kernel_rfl,?_⟩) ?_
    rotate_left
    ·(intro x;go_simp;try with_reducible rfl)
    rotate_right
    try simp only[A1]
    refine Zo (S:=fun x=>x.cell? ⟨G,6,none⟩=some (.slice W vs.length d)) 4 6 7 (some 57) (v:=.slice W vs.length d) rfl rfl rfl rfl (by kernel_rfl) (by kernel_rfl) (by kernel_rfl) (fun _ _ _ h=>h) (by kernel_rfl) (by kernel_rfl) (by kernel_rfl) (by kernel_rfl) (by kernel_rfl) (by decide) (by decide) bp (Or.inl ⟨by kernel_rfl,?_⟩) ?_
    ·(intro x l;have c0:=(show x.cell? ⟨G,6,none⟩=some (.slice W vs.length d) from l);go_simp)
    try simp only[A1]
    refine wpOp_step rfl (fun K m=>?_);have b8:=Dp m;clear m;refine(Bc (by kernel_rfl)).mpr ?_;refine wp_load_mid 73 _ rfl C 4 rfl [.int .i64 c.mx,.int .i64 c.my] _ bi Gq rfl (by kernel_rfl) ?_;refine b8.out _ _ ⟨bp,?_⟩;clear b8 K
    try simp only[Act.put,Ap]
    refine wpOp_step rfl (fun K m=>?_);have b8:=Dp m;clear m
    go_simp
    obtain⟨wP,bg⟩:=Ah ((wc.alloc (.cells #[.int .i64 c.mx,.int .i64 c.my] 73 (0,0))).drew);have a3:Below wc.heap.size wc wP:=by rw[<-bg];exact((Dq _ wc).alloc (Ba _) _).drew
    have bq:wP.heap[wc.heap.size]? =some (.cells ([Value.int .i64 c.mx,.int .i64 c.my]:List A0).toArray 73 (0,0)):=by rw[<-bg];exact heap_alloc_new wc _
    have a4:=a2.below a3;have b9:=AA (o:=0) bq rfl;have ca:=AA (o:=1) bq rfl;have df:=a3.size;rw[bg];refine b8.out _ _ ⟨a4.cell (o:=6) rfl,?_⟩;clear b8 K bg bp bi ak k6;refine Pg (rs:=[8]) (by kernel_rfl) (by simp) ?_;refine Pd rfl (fun K m=>?_) Pf;refine(Bc (by kernel_rfl)).mpr ?_
    refine yJ (v:=.slice W vs.length d) rfl underlying98 j0 j1 rfl j2 j3 rfl a4.vec rfl b9 ca (by omega) ?_;intro q8 ab w8 cw al bh;refine m _ _ ?_;clear m K b9 ca bq j0 j1 j2 j3;have cb:=a4.vecs (v:=(c.mx,c.my)) al cw bh;have dg:=al.size
    have br:w8.heap[G]? =some (.cells (NO rb k inter (.slice W vs.length d) first).toArray 157 (0,0)):=(al.block G (by omega) fun e=>(a4.ne.2 G e.symm).1 rfl).trans a4.blk;have k6:=AA (o:=6) br rfl;have f6:=AZ (o:=6) br;have a5:=cn.out.2.2
    have cc:w8.heap[C]? =some (.cells Z 77 (0,0)):=(al.block C (by omega) fun e=>by have:=a5 C e.symm;omega).trans ((a3.block C (by omega)).trans b5);have cd:w8.heap[A]? =some (.cells Y 77 (0,0)):=(al.block A (by omega) fun e=>by have:=a5 A e.symm;omega).trans ((a3.block A (by omega)).trans b6)
    have cx:(w8.setCell ⟨G,6,none⟩ (.slice q8 (vs.length+1) ab)).heap[C]? =some (.cells Z 77 (0,0)):=by rw[Ib _ _ _ _ (show C≠G by omega)];exact cc
    have cy:(w8.setCell ⟨G,6,none⟩ (.slice q8 (vs.length+1) ab)).heap[A]? =some (.cells Y 77 (0,0)):=by rw[Ib _ _ _ _ (show A≠G by omega)];exact cd
    have g9:=Yai.set (w:=w8) (p:=⟨G,6,none⟩) (L:=[some G]) (.slice q8 (vs.length+1) ab) (Dk.2 rfl);clear br cc cd;refine EG 9 (some 62) (v:=?_) rfl rfl (by kernel_rfl) (by kernel_rfl) (by kernel_rfl) (fun _ _ _ h=>h) (Or.inl ⟨by kernel_rfl,?_⟩) ?_
    rotate_left
    ·(intro x;go_simp;try with_reducible rfl)
    rotate_right
    try simp only[Act.put,Ap]
    refine EG 10 (some 63) (v:=?_) rfl rfl (by kernel_rfl) (by kernel_rfl) (by kernel_rfl) (fun _ _ _ h=>h) (Or.inl ⟨by kernel_rfl,?_⟩) ?_
    rotate_left
    ·(intro x;go_simp;try with_reducible rfl)
    rotate_right
    try simp only[Act.put]
    refine Pg (rs:=[11]) (by kernel_rfl) (by simp) ?_;refine Pd rfl (fun K m=>?_) Pf
    go_simp
    generalize w8.setCell ⟨G,6,none⟩ (.slice q8 (vs.length+1) ab)=w9 at *;refine m _ _ ?_;clear m K k6 f6;refine wpAny_done (by kernel_rfl) ?_ _
    go_wp2_with (first|(with_reducible refine Mt rfl 77 _ rfl C rfl 77 Z (0,0) _ cx Mu rfl Q ?_)|(with_reducible refine B4 rfl 77 _ _ rfl A Z Y rfl rfl 77 cy Q bm bn ?_;intro wz az V))
    refine H5 (BQ rfl _ _ A 77 _ (0,0) _ rfl az Mu rfl Q) rfl ?_;have dh:=ch.out;have gM:Yai [(Value.slice W vs.length d).ownBlock,some G,some A] wc wz:=by
     have g1:Yai [(Value.slice W vs.length d).ownBlock,some G,some A] wc wP:=Yai.below a3;have g2:=g1.trans (M:=[(Value.slice W vs.length d).ownBlock]) (Yai.one al fun j _ e=>by rw[e];exact Dk.2 rfl) fun j _ hm=>by rw[Dk.1 hm];exact Fa ..
     have g3:=g2.trans g9 fun j _ hm=>by rw[Dk.1 hm];exact Ez _ (Fa ..)
     exact g3.trans (M:=[some A]) (Yai.one V fun j _ e=>by rw[e];exact Dk.2 rfl) fun j _ hm=>by rw[Dk.1 hm];exact Ez _ (Ez _ (Fa ..))
    have cz:∀j,some j∈[(Value.slice W vs.length d).ownBlock,some G,some A]->j<A+1:=fun j hm=>by
     rcases Ei.1 hm with e|hm
     ·have:=a5 j e.symm;omega
     ·rcases Ei.1 hm with e|hm
      ·injection e with e;omega
      ·have e:=Dk.1 hm;injection e with e;omega
    refine⟨c,q,f,0,sl,bl.out,by rw[Bb (fun h=>h b2.out),Bb (by rw[b4.out];decide)],by rw[ci.out];rfl,ax.out,?_,⟨q,cb.rd.grown V (by omega)⟩,fun _=>⟨.slice q8 (vs.length+1) ab,cb.put V ⟨by omega,by omega,fun j hj=>?_⟩,fun j hj=>?_,fun L hL=>?_⟩⟩
    ·refine c6.out.trans gM fun j hj hm=>?_;rcases Ei.1 hm with e|hm
     ·rw[e];exact Ez _ (Ez _ (Fa ..))
     ·rcases Ei.1 hm with e|hm
      ·rw[e];exact Ez _ (Fa ..)
      ·have e:=Dk.1 hm;injection e with e;omega
    ·rcases bh j hj with h2|h2
     ·have:=a5 j h2;omega
     ·omega
    ·rcases bh j hj with h2|h2
     ·exact .inl h2
     ·exact .inr (by omega)
    ·obtain⟨pf,cf,ce⟩:=Qj0 cr.out;have R:=cv.out;refine⟨pf,cf,Qie fun i hi=>(ce i hi).1,⟨Xr hm.1.1 hm.1.2,Xr hm.2.1 hm.2.2⟩,fun i hi=>⟨by have:=co.out i;unfold maxLen;omega,?_⟩⟩;obtain⟨-,h2,h3⟩:=ce i hi;obtain⟨h4,h5⟩:=h2.1.from (L:=[(Value.slice W vs.length d).ownBlock,some G,some A]) h3 fun j hm=>by have:=cz j hm;omega
     have h6:=(FP.below ⟨h4,h5⟩ R).keptL gM fun j h=>h;refine⟨h6.1,?_⟩;rcases h4 with h4|⟨b,o,e,di,-⟩
     ·exact .inl (by first|exact h4|exact Dl h4)
     ·refine .inr ⟨b,o,e,fun hm=>?_⟩;have h7:=h3 _ e;simp only at h7;rcases Ei.1 hm with e2|e2
      ·rcases bh b e2.symm with h8|h8
       ·have:=a5 b h8;omega
       ·omega
      ·have:=hL b e2;omega
end
section
variable {N:Nat}{w:A5}{G rb p:Nat}{s:ByteArray}{k:Int}{inter:Bool}{vv:A0}{vs:List (Int×Int)}{first:Int}
set_option maxRecDepth 100000 in
theorem uI (i:Nat)(h:Yde w G rb s p k inter vv vs first)(ht:Ybw N w)(hN:N<=rb)(b9:N<=G)(bh:∀j,vv.ownBlock=some j->N<=j)(hn:vs.length<=1000000)(hs:s.size<=1073741824)(hi:i<=1000):
  A9 prog 128 #[.pointer (some ⟨G,0,none⟩),.int .i64 (i:Int)] w (nX s G rb p k inter vv vs first i w):=by
 have ca:=Uy;obtain⟨Y,hY⟩:∃Y:Array A0,[Value.bool false,.int .i64 0,.int .i64 0,.slice none 0 0].toArray=Y:=⟨_,rfl⟩;rw[hY] at ca;obtain⟨cb,cd,dc⟩:=Pr;obtain⟨A,hA⟩:=Ah w.heap.size;obtain⟨wA,T⟩:=Ah (w.alloc (.cells Y 46 (0,0)));have bi:wA.heap[A]? =some (.cells Y 46 (0,0)):=by rw[<-T,<-hA];exact heap_alloc_new w _
 have ax:Below w.heap.size w wA:=by rw[<-T];exact(Dq _ w).alloc (Ba _) _
 have dd:wA.heap.size=A+1:=by rw[<-T,<-hA];simp
 have ay:=h.lt;have ch:=qF i (h.below ax) hs hi;have ce:Hid (∀x,Yai (EX rb G vv) w x->Ybw N x):=Dp fun x hx=>ht.below (hx.under (by omega) fun j hj=>by
  rcases IW.1 hj with e|e|e
  ·omega
  ·omega
  ·exact bh j e)
 have bj:Y.size=4:=by rw[<-hY];rfl
 have cf:=Dp T;have bk:=Dp hA;have bl:=Dp ay;have cg:=Dp ax;have de:G<A/\rb<A:=⟨by omega,by omega⟩;clear T hA h ht bh ay ax b9 hi hY
 go_enter func128,ntmps128
 go_wp2_with fail
 rw[cf.out,bk.out];refine ch.mono ?_;rintro e w1 ⟨b,id,qu,z,fs,f,bm,rfl,bn,ai⟩;have bo:=(ai.block A (by omega) (fun hm=>by
  rcases Ei.1 hm with e|e
  ·injection e with e;omega
  ·have e:=Dk.1 e;injection e with e;omega)).trans bi
 have df:=ai.size;obtain⟨X,hX⟩:=Ah w1.heap.size;obtain⟨Z,hZ⟩:=Ah ([Value.bool b,.int .i64 id,.int .i64 qu,.slice none 0 0].toArray);have n:#[Value.bool b,.int .i64 id,.int .i64 qu,.slice none 0 0]=Z:=hZ;rw[n];obtain⟨I,U⟩:=Ah (w1.alloc (.cells Z 46 (0,0)));have B:Below w1.heap.size w1 I:=by rw[<-U];exact(Dq _ w1).alloc (Ba _) _
 have az:I.heap[X]? =some (.cells Z 46 (0,0)):=by rw[<-U,<-hX];exact heap_alloc_new w1 _
 have ci:I.heap.size=X+1:=by rw[<-U,<-hX];simp
 have a0:=(B.block A (by omega)).trans bo;have d:(prog.info? 46).map (·.size)=some Z.size:=by rw[<-hZ];kernel_rfl
 have O:Y.size=Z.size:=by rw[bj,<-hZ];rfl
 have P:Z.all (·.oneCell')=true:=by rw[<-hZ];simp[Value.oneCell']
 have cj:Hid (Yai (EX rb G vv) w I):=Dp (((Yai.below cg.out).trans ai fun j _ hm=>by
  rcases Ei.1 hm with e|e
  ·rw[e];exact Fa ..
  ·rw[Dk.1 e];exact Ez _ (Fa ..)).trans (Yai.below (L:=[]) B) (by simp))
 have W:=bn.below B;obtain⟨⟨bg,Eq,a1⟩,hE⟩:=Ah (DR ctk s.data.toList inter k fs (BI k).toNat z vs);have bp:=Dp hX;have c5:=Dp hZ;have a2:=Dp U;have a3:=Dp bm;have b8:=Dp hE;clear hX hZ n U bm hE ai bn bo bi ch;by_cases hf:f=0
 case neg=>
  have tf:(f != 0)=true:=by rw[Fl];exact hf
  have c8:=Dp hf;clear hf
  go_wp2_with (first|(with_reducible refine DA rfl 46 _ _ rfl Z Y 46 rfl rfl d O P ?_;rw[a2.out,bp.out])|(with_reducible refine Mt rfl 46 _ rfl X rfl 46 Z (0,0) _ az O6 rfl d ?_)|(with_reducible refine B4 rfl 46 _ _ rfl A Z Y rfl rfl 46 a0 d O P ?_;intro wz aa D))
  refine H5 (BQ rfl _ _ A 46 _ (0,0) _ rfl aa O6 rfl d) rfl ?_;refine⟨b,id,qu,z,fs,f,bg,Eq,a1,f,a3.out,b8.out,by rw[Bc c8.out],_,by rw[c5.out];rfl,⟨rfl,fun u hu=>?_⟩,?_,⟨_,W.rd.grown D (by omega)⟩,fun e=>absurd e c8.out⟩
  ·simp only[Ei,Ej,Eo] at hu;rcases hu with rfl|rfl|rfl|rfl <;> rfl
  ·exact cj.out.trans (Yai.one (L:=[some A]) D fun j _ e=>by rw[e];exact Dk.2 rfl) fun j hj hm=>by have e:=Dk.1 hm;injection e with e;have:=bk.out;omega
 subst hf;have tf:((0:Int) != 0)=false:=rfl;have an:Y2d w I G rb A X s z k inter vv vv (.slice none 0 0) vs fs Y b id qu []:={
  rdr:=W
  res:=a0
  row:=by rw[c5.out];exact az
  cel:=GG.nil _ _
  ord:=by have:=bk.out;have:=bp.out;omega
  low:=bl.out
  own:=fun j hj=>⟨.inl hj,by have:=bl.out.2.2 j hj;have:=bk.out;have:=bp.out;omega⟩
  cown:=fun j hj=>by cases hj
  grown:=cj.out}
 have k3:=Dp (fun(x:A5) (hx:Below I.heap.size I x)=>(W.below hx).cell (o:=3) rfl);have k4:=Dp (fun(x:A5) (hx:Below I.heap.size I x)=>(W.below hx).cell (o:=4) rfl);obtain⟨M,hM⟩:∃M:Nat,(BI k).toNat=M:=⟨_,rfl⟩;have a4:BI k=(M:Int)/\M<=10000:=by have:=Pw k;have:=(YX k).1;omega
 have wm:IntKind.i64.wrap (BP k*B1 k)=(M:Int):=by
  rw[show BP k*B1 k=BI k from Int.mul_comm _ _,a4.1];exact CL (by omega)
 have dg:=a4.2;have c9:Hid (E7 (bg,Eq,a1) [] (DR ctk s.data.toList inter k fs M z vs)):=Dp (by rw[<-hM,b8.out];exact E7.start _);have bq:Below I.heap.size I I:=Dq _ _;clear hM a4 W az a0 ci B;generalize BP k=fl at *;generalize B1 k=fa at *
 go_upto_region 4 with (with_reducible refine DA rfl 46 _ _ rfl Z Y 46 rfl rfl d O P ?_;rw[a2.out,bp.out])
 refine BY (S:=fun x=>Below I.heap.size I x) 10 (by kernel_rfl) (by kernel_rfl) bq.drew ?_;simp only[Dt,Bi,Hb,I0]
 iterate 3 (refine AG ?_;simp only[A1])
 refine AN 3 _ ⟨G,3,none⟩ (.int .i64 fl) (by kernel_rfl) rfl rfl (fun x hx=>by have c0:=k3.out x hx;go_simp) ?_;simp only[A1]
 iterate 3 (refine AG ?_;simp only[A1])
 refine AN 3 _ ⟨G,4,none⟩ (.int .i64 fa) (by kernel_rfl) rfl rfl (fun x hx=>by have c0:=k4.out x hx;go_simp) ?_;simp only[A1]
 iterate 2 (refine AG ?_;simp only[A1])
 refine BV fun w3 ab=>?_;have ao:=an.below ab;clear an ab bq k3 k4 a2 bp cj wm
 go_wp2
 go_loopw [29] (fun t wx=>∃(j q2:Nat) (cs:List Cel) (a5 cv:A0) (vz:List (Int×Int)),t=.int .i64 (j:Int)/\j<=M/\Y2d w wx G rb A X s q2 k inter vv a5 cv vz fs Y b id qu cs/\Hid (cs.length=j)/\Hid (vz=vs++C5 cs)/\Hid (E7 (bg,Eq,a1) cs (DR ctk s.data.toList inter k fs (M-j) q2 vz))) (fun t _=>M-(intOf t).toNat)
 case atStart=>exact⟨0,z,[],vv,_,vs,rfl,Ds _,ao,Dp rfl,Dp (by simp[C5]),c9⟩
 case round=>
  clear ao c9;obtain⟨j,q2,cs,a5,cv,vz,rfl,hj,a,ac,aj,hT⟩:=hrel;have br:Hid ((prog.info? 46).map (·.size)=some ([Value.bool b,.int .i64 id,.int .i64 qu,cv]:List A0).toArray.size):=Dp (by kernel_rfl);have ap:cv.oneCell'=true:=(MA a.cel.choose_spec.2).2.2;obtain⟨a6,n⟩:=Ah (([Value.bool b,.int .i64 id,.int .i64 qu,cv]:List A0).toArray)
  have d:(prog.info? 46).map (·.size)=some a6.size:=by rw[<-n];exact br.out
  have O:Y.size=a6.size:=by rw[bj,<-n];rfl
  have E:∀u∈([Value.bool b,.int .i64 id,.int .i64 qu,cv]:List A0),u.oneCell'=true:=by
   intro u hu;simp only[Ei,Ej,Eo] at hu;rcases hu with rfl|rfl|rfl|rfl
   ·rfl
   ·rfl
   ·rfl
   ·exact ap
  have P:a6.all (·.oneCell')=true:=by
   rw[<-n,G7];exact fun v hv=>E v (by simpa using hv)
  have ak:=Dp n;have bs:=Dp E;clear n E ap br;by_cases ay:j<M
  ·have t1:decide ((j:Int)<(M:Int))=true:=by simp;omega
   have a7:vz.length<=1048575:=by rw[aj.out,B9];unfold C5;rw[G9,ac.out];omega
   have cc:=eD a.rdr (ce.out _ a.grown) hN a7
   go_wp2_with fail
   refine cc.mono ?_;rintro e w4 ⟨c,q3,f3,g,sl,ad,J,rfl,aq,ae,⟨q',a8⟩,a9⟩;clear cc;obtain⟨C,hC⟩:=Ah w4.heap.size;obtain⟨ba,R⟩:=Ah ((AJ c sl).toArray);rw[R];obtain⟨w5,al⟩:=Ah (w4.alloc (.cells ba 77 (0,0)));have F:Below w4.heap.size w4 w5:=by rw[<-al];exact(Dq _ w4).alloc (Ba _) _
   have ck:w5.heap[C]? =some (.cells ba 77 (0,0)):=by rw[<-al,<-hC];exact heap_alloc_new w4 _
   have bb:(prog.info? 77).map (·.size)=some ba.size:=by rw[<-R,show (AJ c sl).toArray.size=18 from rfl];kernel_rfl
   have ar:cb.size=ba.size:=by rw[cd,<-R];rfl
   have bt:ba.all (·.oneCell')=true:=R▸P5 _ _ aq;have da:=Dp hC;have bu:=Dp R;have bv:=Dp al;have hb:=a.bad ae;have dh:=ae.size;have ho:=a.ord;clear hC R al aq;by_cases m:g=0
   case neg=>
    have tg:(g != 0)=true:=by rw[Fl];exact m
    obtain⟨bw,B,ab⟩:=hb;have bc:=(F.block A (by omega)).trans bw;have q:=(F.block X (by omega)).trans B;rw[ak.out] at q;have di:Hid (a1=g):=Dp (by
     have h1:=hT.out;rw[show M-j=(M-j-1)+1 by omega] at h1;by_cases r:f3=0
     ·rw[Bb (fun h=>h r)] at J;by_cases hv:CP k vz.length c=false
      ·rw[Bc hv] at J;rw[J];exact uD h1 (by rw[ad,r]) hv
      ·rw[Bb hv] at J;exact absurd J m
     ·rw[Bc r] at J;rw[J];exact Qcl h1 ad r)
    have dj:=Dp (ab.trans (Yai.below (L:=[]) F) (by simp));have cl:=a8.below F;have cm:=Dp m;have dk:=F.size;clear m J a9 a hT ac aj ad bw B ab a8 ae a7
    go_wp2_with (first|(with_reducible refine DA rfl 77 _ _ rfl ba cb 77 rfl rfl bb ar bt ?_;rw[bv.out,da.out])|(with_reducible refine Mt rfl 46 _ rfl X rfl 46 a6 (0,0) _ q O6 rfl d ?_)|(with_reducible refine B4 rfl 46 _ _ rfl A a6 Y rfl rfl 46 bc d O P ?_;intro wz aa D))
    refine H5 (BQ rfl _ _ A 46 _ (0,0) _ rfl aa O6 rfl d) rfl ?_;refine⟨b,id,qu,z,fs,0,bg,Eq,a1,g,a3.out,b8.out,by rw[Bb (fun h=>h rfl),di.out],_,by rw[ak.out];rfl,⟨rfl,bs.out⟩,?_,⟨_,cl.grown D (by omega)⟩,fun e=>absurd e cm.out⟩
    exact dj.out.trans (Yai.one (L:=[some A]) D fun j _ e=>by rw[e];exact Dk.2 rfl) fun j hj hm=>by have e:=Dk.1 hm;injection e with e;have:=bk.out;omega
   have tg:(g != 0)=false:=by rw[m];rfl
   have r:f3=0:=by
    by_cases h1:f3=0
    ·exact h1
    ·rw[Bc h1] at J;exact absurd (J.symm.trans m) h1
   have bx:CP k vz.length c=true:=by
    rw[Bb (fun h=>h r)] at J;cases hv:CP k vz.length c with
    |true=>rfl
    |false=>rw[Bc hv,m] at J;cases J
   obtain⟨af,bd,bz,b0⟩:=a9 m;have cn:Hid (E7 (bg,Eq,a1) (cs++[c]) (DR ctk s.data.toList inter k fs (M-(j+1)) q3 (vz++[(c.mx,c.my)]))):=Dp (by
    have h1:=hT.out;rw[show M-j=(M-(j+1))+1 by omega] at h1;exact eJ h1 (by rw[ad,r]) bx)
   have au:=a.cell bd ae bz;have ag:=au.below F;have av:DW (ID A X w.heap.size af cv) w4 c (AJ c sl):=b0 (some A::some X::cv.ownBlock::GF w.heap.size) fun j hm=>by
    have dl:=a.grown.size;rcases Ei.1 hm with e|hm
    ·injection e with e;omega
    ·rcases Ei.1 hm with e|hm
     ·injection e with e;omega
     ·rcases Ei.1 hm with e|hm
      ·exact AX.lt a.cel j e.symm
      ·have:=LN.1 hm;omega
   have aw:DW (ID A X w.heap.size af cv) w5 c (AJ c sl):=av.kept (BZ F none) fun j hj=>by cases hj
   obtain⟨wQ,am⟩:=Ah (w5.alloc (.cells (AJ c sl).toArray 77 (0,0)));obtain⟨Q,hQ⟩:=Ah w5.heap.size;have bf:Below w5.heap.size w5 wQ:=by rw[<-am];exact(Dq _ w5).alloc (Ba _) _
   have b1:wQ.heap[Q]? =some (.cells (AJ c sl).toArray 77 (0,0)):=by rw[<-am,<-hQ];exact heap_alloc_new w5 _
   have b2:=ag.below bf;have H:DW (ID A X w.heap.size af cv) wQ c (AJ c sl):=aw.kept (BZ bf none) fun j hj=>by cases hj
   have co:=(DW.shape H).2;have cp:=(DW.shape H).1;have b3:∀(j:Nat) u,(AJ c sl)[j]? =some u->wQ.cell? ⟨Q,j,none⟩=some u:=fun j u hu=>AA b1 hu;have q:=ag.row;have dm:=AA (o:=3) q rfl;obtain⟨ri,rz,j0,j1,j2,j3,j4⟩:=X4;have cq:cs.length<=10000:=by have:=ac.out;omega
   have cr:w5.heap[C]? =some (.cells (AJ c sl).toArray 77 (0,0)):=by rw[bu.out];exact ck
   have ct:(prog.info? 77).map (·.size)=some (AJ c sl).toArray.size:=by rw[bu.out];exact bb
   have cu:=Dp am;have dn:=Dp hQ;have cw:=Dp b3;have ah:=Dp b2;have dp:=Dp bd.rd;clear am hQ b3 bf b1 a au ag av aw b0 a9 ae a8 hb J ad hT m r bx bz bd q a7
   go_wp2_with (first|(with_reducible refine DA rfl 77 _ _ rfl ba cb 77 rfl rfl bb ar bt ?_;rw[bv.out,da.out])|(with_reducible refine Mt rfl 77 _ rfl C (by kernel_rfl) 77 (AJ c sl).toArray (0,0) _ cr Mu rfl ct ?_)|(with_reducible refine Ytj rfl _ rfl c sl (by kernel_rfl) ?_;rw[cu.out,dn.out])|(at_builtin;refine S1 (V:=DW (ID A X w.heap.size af cv) wQ) (w:=wQ) (c:=18) (bytes:=240) (base:=0) (v:=cv) (l:=cs) (y:=c) (vs:=AJ c sl) (K:=Q) (cap:=1) rfl rfl Oe j0 j1 j2 j3 j4 (by decide) ?d1 ?d2 ah.out.cel H cp co cw.out ?d3 ?d4 (Ds _) ?_;(case d1=>kernel_rfl);(case d2=>kernel_rfl);(case d3=>(unfold maxLen;omega));(case d4=>omega);intro q9 db w9 cx b4 cy;have b5:=ah.out.app b4 cx cy;have b6:=(b4.block X ah.out.ord.2.2 fun e=>(ah.out.cown X e.symm).2.2.1 rfl).trans ah.out.row;have c6:=AA (o:=3) b6 rfl;have c7:=AZ (o:=3) b6))
   go_roundw
   case rel=>exact⟨j+1,q3,cs++[c],af,_,vz++[(c.mx,c.my)],by go_num,by omega,b5,Dp (by rw[B9,ac.out];rfl),Dp (by rw[aj.out];simp[C5]),cn⟩
   case measure=>simp[intOf];omega
  ·have t1:decide ((j:Int)<(M:Int))=false:=by simp;omega
   obtain rfl:M=j:=by omega
   have cz:Hid (bg=cs/\Eq=q2/\a1=0):=Dp (by
    have h1:=hT.out;rw[Ci] at h1;have h2:=h1.done;injection h2 with e1 h2;injection h2 with e2 e3;exact⟨e1,e2,e3⟩)
   have bc:=a.res;have q:=a.row;rw[ak.out] at q;have c1:=Dp a;have cq:cs.length<=10000:=by have:=ac.out;omega
   clear a hT
   go_wp2_with (first|(with_reducible refine Mt rfl 46 _ rfl X rfl 46 a6 (0,0) _ q O6 rfl d ?_)|(with_reducible refine B4 rfl 46 _ _ rfl A a6 Y rfl rfl 46 bc d O P ?_;intro wz aa D))
   refine H5 (BQ rfl _ _ A 46 _ (0,0) _ rfl aa O6 rfl d) rfl ?_;obtain⟨b7,c2,c3,c4⟩:=c1.out.done (by unfold maxLen;omega) D;obtain⟨rfl,rfl,rfl⟩:=cz.out;refine⟨b,id,qu,z,fs,0,_,_,0,0,a3.out,b8.out,rfl,_,by rw[ak.out];rfl,⟨rfl,bs.out⟩,c3,⟨_,b7.rd⟩,fun _=>⟨a5,?_,c2,c4⟩⟩;rw[<-aj.out];exact b7
end
theorem wV (l:List UInt8):QX ctk (A2 l):=fun _ _ _ _ _ _ a h=>ZG (KS _) a h
theorem Xl {ct:CelT}{l:List UInt8}{inter:Bool}{k first:Int}:∀(n p:Nat) (vs:List (Int×Int)) (cs:List Cel) (q:Nat),DR ct l inter k first n p vs=(cs,q,0)->cs.length=n
 |0,p,vs,cs,q,h=>by
  rw[DR] at h;injection h with e1 _;subst e1
  rfl
 |n+1,p,vs,cs,q,h=>by
  rw[DR] at h;obtain⟨⟨c,z,f⟩,hc⟩:=Ah (ct inter (A2 l) (DT vs (B1 k) first).1 (DT vs (B1 k) first).2 p);rw[hc] at h;simp only at h;by_cases b:f=0
  case neg=>
   rw[Bc b] at h;injection h with _ h;injection h with _ h;exact absurd h b
  rw[Bb (fun x=>x b)] at h;cases hv:CP k vs.length c with
  |false=>rw[hv,Bc rfl] at h;cases h
  |true=>
   rw[hv,Bb (by decide)] at h;obtain⟨⟨d,y,g⟩,hr⟩:=Ah (DR ct l inter k first n z (vs++[(c.mx,c.my)]))
   rw[hr] at h;simp only at h;by_cases a:g=0
   case neg=>
    rw[Bc a] at h;injection h with _ h;injection h with _ h;exact absurd h a
   rw[Bb (fun x=>x a)] at h;subst a;injection h with e1 h;subst e1;rw[An,Xl n z _ d y hr]
def aK (s:ByteArray)(rb p:Nat)(w:A5)(e:Ad)(a:A5):Prop:=
 ∃vs:List A0,e=.returned (.tuple #[.agg vs.toArray,.int .i64 (wtk ctk s.data.toList p).2.2])/\(vs.length=8/\∀u∈vs,u.oneCell'=true)/\w.grownBy a (some rb)/\(∃q,AI a rb s q)/\
  ((wtk ctk s.data.toList p).2.2=0->(∀(z:A5) (M:List (Option Nat)),(∀j,some j∈M->j<w.heap.size)->Yai M a z->ShV z (wtk ctk s.data.toList p).1 vs)/\AI a rb s (wtk ctk s.data.toList p).2.1)
theorem sW:∃Y:Array A0,Y.size=8/\∀w,(zeroValue 39).run prog w=.ok (.agg Y) w:=⟨#[.int .i64 0,.int .i64 0,.int .i64 0,.bool false,.int .i64 0,.slice none 0 0,.slice none 0 0,.int .i64 0],rfl,MC (by kernel_rfl)⟩
theorem UO {hd:Shd}{a:Option Aa}{n ca:Nat}{rv:A0}{z:Int}(h:rv.oneCell'=true):∀u∈Bx hd (.slice a n ca) rv z,u.oneCell'=true:=by
 intro u b;simp only[Bx,Ei,Ej,Eo] at b;rcases b with rfl|rfl|rfl|rfl|rfl|rfl|rfl|rfl
 all_goals first|rfl|exact h
theorem OD {vs:List A0}(h:∀u∈vs,u.oneCell'=true):vs.toArray.all (·.oneCell')=true:=by
 rw[G7];exact fun v hv=>h v (by simpa using hv)
section
variable {N:Nat}{w:A5}{rb p:Nat}{s:ByteArray}
set_option maxRecDepth 100000 in
theorem tX (hr:AI w rb s p)(ht:Ybw N w)(hN:N<=rb)(hs:s.size<=1073741824):
  A9 prog 93 #[.pointer (some ⟨rb,0,none⟩)] w (aK s rb p w):=by
 obtain⟨Y,bi,eh⟩:=sW;have bj:=Uy;obtain⟨c0,bk⟩:∃Z:Array A0,[Value.bool false,.int .i64 0,.int .i64 0,.slice none 0 0].toArray=Z:=⟨_,rfl⟩;have c3:c0.size=4:=by rw[<-bk];rfl
 rw[bk] at bj;obtain⟨A,hA⟩:=Ah w.heap.size;obtain⟨wA,ac⟩:=Ah (w.alloc (.cells Y 39 (0,0)));have bv:wA.heap[A]? =some (.cells Y 39 (0,0)):=by rw[<-ac,<-hA];exact heap_alloc_new w _
 have bl:Below w.heap.size w wA:=by rw[<-ac];exact(Dq _ w).alloc (Ba _) _
 have c4:wA.heap.size=A+1:=by rw[<-ac,<-hA];simp
 have ec:rb<A:=by rw[<-hA];exact hr.lt
 have ad:=mL wA rb s p (hr.below bl) (by omega);have c5:Hid (∀x,Yai [some rb] w x->Ybw N x):=Dp fun x hx=>ht.below (hx.under (by omega) fun j hj=>by
  have e:=Dk.1 hj;injection e with e;omega)
 unfold Zb at ad;obtain⟨⟨hd,z0,f⟩,hk⟩:=Ah (shk s.data.toList p);rw[hk] at ad;dsimp only at ad;have bw:=Dp hk;have c8:=Dp ac;have bm:=Dp hA;have c9:=Dp bl;clear ac hA bl hr ht hk bk
 go_enter func93,ntmps93
 go_wp2_with fail
 rw[c8.out,bm.out];refine ad.mono ?_;rintro e w1 ⟨a,ca,rfl,ae,bx,bz,az⟩;clear ad;obtain⟨X,hX⟩:=Ah w1.heap.size;obtain⟨zs,k⟩:=Ah (Bx hd (.slice a hd.supp.length ca) (.slice none 0 0) 0);obtain⟨w2,af⟩:=Ah (w1.alloc (.cells zs.toArray 39 (0,0)));have E:Below w1.heap.size w1 w2:=by rw[<-af];exact(Dq _ w1).alloc (Ba _) _
 have da:w2.heap.size=X+1:=by rw[<-af,<-hX];simp
 have a0:w2.heap[X]? =some (.cells zs.toArray 39 (0,0)):=by rw[<-af,<-hX];exact heap_alloc_new w1 _
 have db:=az.size;have bn:=(E.block A (by omega)).trans ((az.block A (by omega) (by simp;omega)).trans bv);have bo:=bz.below E;have dc:Hid (Yai [some rb] w w2):=Dp (((Yai.below c9.out).trans (Yai.one (L:=[some rb]) az fun j _ e=>by rw[e];exact Dk.2 rfl) fun j _ hm=>hm).trans (Yai.below (L:=[]) E) (by simp))
 have r:(prog.info? 39).map (·.size)=some zs.toArray.size:=by rw[show zs.toArray.size=8 by rw[<-k];rfl];kernel_rfl
 have R:Y.size=zs.toArray.size:=by rw[bi,<-k];rfl
 have I:∀u∈zs,u.oneCell'=true:=by rw[<-k];exact UO rfl
 have T:=OD I;have b0:zs.length=8:=by rw[<-k];rfl
 have U:=Dp I;have b1:=Dp hX;have bp:=Dp af;have J:=Dp k;rw[k];clear af k hX bv I;by_cases hf:f=0
 case neg=>
  have tf:(f != 0)=true:=by rw[Fl];exact hf
  have ab:=Dp (uY (ct:=ctk) bw.out hf);have ei:=Dp hf;clear hf
  go_wp2_with (first|(with_reducible refine DA rfl 39 _ _ rfl zs.toArray Y 39 rfl rfl r R T ?_;rw[bp.out,b1.out])|(with_reducible refine Mt rfl 39 _ rfl X rfl 39 zs.toArray (0,0) _ a0 Oa rfl r ?_)|(with_reducible refine B4 rfl 39 _ _ rfl A zs.toArray Y rfl rfl 39 bn r R T ?_;intro wz ag F))
  refine H5 (BQ rfl _ _ A 39 _ (0,0) _ rfl ag Oa rfl r) rfl ?_;refine⟨zs,by rw[ab.out];rfl,⟨b0,U.out⟩,?_,⟨_,bo.grown F (by omega)⟩,fun e=>absurd (by rw[ab.out] at e;exact e) ei.out⟩
  exact(dc.out.trans (Yai.one (L:=[some A]) F fun j _ e=>by rw[e];exact Dk.2 rfl) fun j hj hm=>by have e:=Dk.1 hm;injection e with e;have:=bm.out;omega).lone fun j _ hm=>by have e:=Dk.1 hm;injection e with e
 subst hf;have tf:((0:Int) != 0)=false:=rfl;have cb:=mY rb hd (.slice a hd.supp.length ca) (.slice none 0 0) 0 w2;rw[J.out] at cb
 go_wp2_with (first|(with_reducible refine DA rfl 39 _ _ rfl zs.toArray Y 39 rfl rfl r R T ?_;rw[bp.out,b1.out])|(with_reducible refine Mt rfl 39 _ rfl X rfl 39 zs.toArray (0,0) _ a0 Oa rfl r ?_))
 refine cb.mono ?_;rintro e w3 ⟨rfl,a1,B⟩;obtain⟨G,hG⟩:=Ah (w2.heap.size+1);rw[hG] at a1 ⊢;have dd:G<w3.heap.size:=(Am.1 a1).1;have a9:∀x,a=some x->A<x.block:=fun x hx=>by have:=bx x hx;rw[c4] at this;exact this
 have de:=b1.out;have df:=B.size;have d:Yyb w w3 G rb A X s z0 hd a ca (.slice none 0 0) (.slice none 0 0) [] 0 Y []:={
  rdr:={
   blk:=a1
   rd:=bo.below B
   vec:=Dn ..
   ne:=⟨by have:=bm.out;omega,fun j hj=>by cases hj⟩}
  res:=(B.block A (by omega)).trans bn
  sht:=by rw[J.out];exact(B.block X (by omega)).trans a0
  row:=HZ.nil _ _
  sup:=(ae.below E).below B
  supn:=by
   rcases ae with h|⟨b,o,e,dg,_⟩
   ·exact .inl (Dl h)
   ·refine .inr fun x hx=>?_;rw[e] at hx;injection hx with hx;have h1:=a9 _ e;subst hx;refine⟨by simp only;omega,fun hm=>?_⟩;have ej:=bm.out;rcases EI.1 hm with e|e|e|e|e|e
    ·cases e
    ·simp only at h1 e;omega
    ·simp only at e;omega
    ·simp only at e;omega
    ·cases e
    ·simp only at h1 e;omega
  ord:=by have:=bm.out;have:=b1.out;omega
  low:=by have:=bm.out;omega
  own:=fun j hj=>by cases hj
  rown:=fun j hj=>by cases hj
  grown:=dc.out.trans (Yai.below (L:=[]) B) (by simp)}
 obtain⟨H,b2⟩:∃n:Nat,(BJ hd.fmt).toNat=n:=⟨_,rfl⟩;obtain⟨ek,el,-,-,-⟩:=O1 hd.fmt;have b3:BJ hd.fmt=(H:Int):=by omega
 have k2:=d.rdr.cell (o:=2) rfl;rw[b3] at k2;obtain⟨⟨c1,Eq,c2⟩,hE⟩:=Ah (DJ ctk s.data.toList hd.inter hd.fmt H 0 z0 [] 0);have ed:Hid (E7 (c1,Eq,c2) [] (DJ ctk s.data.toList hd.inter hd.fmt H 0 z0 [] 0)):=Dp (by rw[hE];exact E7.start _);have dh:Hid (DJ ctk s.data.toList hd.inter hd.fmt (BJ hd.fmt).toNat 0 z0 [] 0=(c1,Eq,c2)):=Dp (by rw[b2];exact hE)
 have di:H<=100:=by omega
 have em:=(JX.1 (VT bw.out).2.1).2.2.1;have dj:=bm.out;clear cb bz bo az E B da a0 bn bx a9 ae db de df a1 dd hG r R T b0 U J bp b1 b2 ek el b3 hE dc
 go_wp2
 go_loopw [26] (fun t wx=>∃(i q:Nat) (rs:List RowP) (rv vv:A0) (vs:List (Int×Int)) (fs:Int),t=.int .i64 (i:Int)/\i<=H/\Yyb w wx G rb A X s q hd a ca vv rv vs fs Y rs/\Hid (rs.length=i)/\Hid (vs.length<=i*10000)/\Hid (E7 (c1,Eq,c2) rs (DJ ctk s.data.toList hd.inter hd.fmt (H-i) i q vs fs))) (fun t _=>H-(intOf t).toNat)
 case atStart=>exact⟨0,z0,[],_,_,[],0,rfl,Ds _,d,Dp rfl,Dp (Ds _),ed⟩
 case round=>
  clear d ed k2;obtain⟨i,q,rs,rv,vv,vs,fs,rfl,hi,d,a2,ah,hT⟩:=hrel;have ba:rv.oneCell'=true:=(MA d.row.choose_spec.2).2.2;have I:∀(z:Int),∀u∈Bx hd (.slice a hd.supp.length ca) rv z,u.oneCell'=true:=fun z=>UO ba;obtain⟨zs,k⟩:=Ah (Bx hd (.slice a hd.supp.length ca) rv 0)
  have r:(prog.info? 39).map (·.size)=some zs.toArray.size:=by rw[show zs.toArray.size=8 by rw[<-k];rfl];kernel_rfl
  have R:Y.size=zs.toArray.size:=by rw[bi,<-k];rfl
  have T:zs.toArray.all (·.oneCell')=true:=by rw[<-k];exact OD (I 0)
  have U:=Dp I;have J:=Dp k;clear k I ba;by_cases dg:i<H
  ·have t1:decide ((i:Int)<(H:Int))=true:=by simp;omega
   have ho:=d.ord;have ai:vs.length<=1000000:=by
    have:=ah.out;have:i*10000<=1000000:=by omega
    omega
   have cc:=uI i d.rdr (c5.out _ d.grown) hN (by omega) (fun j hj=>by have:=(d.own j hj).1;omega) ai hs (by omega)
   go_wp2_with fail
   refine cc.mono ?_;rintro e O ⟨b,id,qu,z,b4,f,cs,q2,h,g,aj,ak,hg,dk,rfl,⟨al,am⟩,an,⟨q',W⟩,bq⟩;clear cc;obtain⟨D,hD⟩:=Ah O.heap.size;obtain⟨bb,ao⟩:=Ah dk.toArray;rw[ao];obtain⟨w5,a3⟩:=Ah (O.alloc (.cells bb 46 (0,0)));have P:Below O.heap.size O w5:=by rw[<-a3];exact(Dq _ O).alloc (Ba _) _
   have dl:w5.heap[D]? =some (.cells bb 46 (0,0)):=by rw[<-a3,<-hD];exact heap_alloc_new O _
   have a4:bb.size=4:=by rw[<-ao];simpa using al
   have b5:(prog.info? 46).map (·.size)=some bb.size:=by rw[a4];kernel_rfl
   have bc:c0.size=bb.size:=by rw[c3,a4]
   have b6:bb.all (·.oneCell')=true:=by rw[<-ao];exact OD am
   have ee:=Dp hD;have b7:=Dp a3;have hb:=d.bad an;have en:=an.size;clear hD a3 am;by_cases C:g=0
   case neg=>
    have tg:(g != 0)=true:=by rw[Fl];exact C
    obtain⟨b8,E,B⟩:=hb;have dm:=(P.block A (by omega)).trans b8;have b9:=(P.block X (by omega)).trans E;rw[J.out] at b9;have ab:Hid (wtk ctk s.data.toList p=(JV,p,g)):=Dp (iN bw.out (by
     rw[dh.out];have h1:=hT.out;rw[show H-i=(H-i-1)+1 by omega] at h1;by_cases hf:f=0
     ·rw[Bb (fun x=>x hf)] at hg;subst hf hg;exact zC h1 aj ak C
     ·rw[Bc hf] at hg;subst hg;exact gY h1 aj hf) C)
    have eo:=Dp (B.trans (Yai.below (L:=[]) P) (by simp));have dn:=W.below P;have dp:=Dp C;have ep:=P.size;clear C hg bq d hT a2 ah aj ak b8 E B W an ai ao a4 al
    go_wp2_with (first|(with_reducible refine DA rfl 46 _ _ rfl bb c0 46 rfl rfl b5 bc b6 ?_;rw[b7.out,ee.out])|(with_reducible refine Mt rfl 39 _ rfl X rfl 39 zs.toArray (0,0) _ b9 Oa rfl r ?_)|(with_reducible refine B4 rfl 39 _ _ rfl A zs.toArray Y rfl rfl 39 dm r R T ?_;intro wz ag F))
    refine H5 (BQ rfl _ _ A 39 _ (0,0) _ rfl ag Oa rfl r) rfl ?_;refine⟨zs,by rw[ab.out];rfl,⟨by rw[<-J.out];rfl,by rw[<-J.out];exact U.out 0⟩,?_,⟨_,dn.grown F (by omega)⟩,fun e=>absurd (by rw[ab.out] at e;exact e) dp.out⟩
    exact(eo.out.trans (Yai.one (L:=[some A]) F fun j _ e=>by rw[e];exact Dk.2 rfl) fun j hj hm=>by have e:=Dk.1 hm;injection e with e;omega).lone fun j _ hm=>by have e:=Dk.1 hm;injection e with e
   have tg:(g != 0)=false:=by rw[C];rfl
   have cd:f=0:=by
    by_cases h1:f=0
    ·exact h1
    ·rw[Bc h1] at hg;exact absurd (hg.symm.trans C) h1
   have dq:h=0:=by
    rw[Bb (fun x=>x cd)] at hg;exact hg.symm.trans C
   subst cd dq;obtain⟨a5,ce,cf,hF⟩:=bq C;obtain⟨sl,cg,-⟩:=hF [] (fun j hj=>by cases hj);subst cg;have ap:=Xl _ _ _ _ _ ak;have dr:Hid (E7 (c1,Eq,c2) (rs++[⟨b,id,qu,cs⟩]) (DJ ctk s.data.toList hd.inter hd.fmt (H-(i+1)) (i+1) q2 (vs++C5 cs) b4)):=Dp (by
    have h1:=hT.out;rw[show H-i=(H-(i+1))+1 by omega] at h1;exact vP h1 aj ak)
   have bd:=d.call ce an cf;have aq:=bd.below P;have eq:=d.grown.size;have ar:=hF (some A::some X::some G::rv.ownBlock::GF w.heap.size) fun j hm=>by
    rcases Ei.1 hm with e|hm
    ·injection e with e;omega
    ·rcases Ei.1 hm with e|hm
     ·injection e with e;omega
     ·rcases Ei.1 hm with e|hm
      ·injection e with e;omega
      ·rcases Ei.1 hm with e|hm
       ·exact AX.lt d.row j e.symm
       ·have:=LN.1 hm;omega
   have au:E1 (GW A X G w.heap.size a5 rv) w5 ⟨b,id,qu,cs⟩ [.bool b,.int .i64 id,.int .i64 qu,sl]:=E1.kept ar (BZ P none) fun j hj=>by cases hj
   obtain⟨wQ,a6⟩:=Ah (w5.alloc (.cells #[.bool b,.int .i64 id,.int .i64 qu,sl] 46 (0,0)));obtain⟨Q,hQ⟩:=Ah w5.heap.size;have br:Below w5.heap.size w5 wQ:=by rw[<-a6];exact(Dq _ w5).alloc (Ba _) _
   have ch:wQ.heap[Q]? =some (.cells ([Value.bool b,.int .i64 id,.int .i64 qu,sl]:List A0).toArray 46 (0,0)):=by rw[<-a6,<-hQ];exact heap_alloc_new w5 _
   have bf:=aq.below br;have av:E1 (GW A X G w.heap.size a5 rv) wQ ⟨b,id,qu,cs⟩ [.bool b,.int .i64 id,.int .i64 qu,sl]:=au.kept (BZ br none) fun j hj=>by cases hj
   have ds:=(E1.shape av).2;have ci:∀(j:Nat) u,([Value.bool b,.int .i64 id,.int .i64 qu,sl]:List A0)[j]? =some u->wQ.cell? ⟨Q,j,none⟩=some u:=fun j u hu=>AA ch hu;have er:=AA (o:=6) aq.sht rfl;have dt:w5.heap[D]? =some (.cells ([Value.bool b,.int .i64 id,.int .i64 qu,sl]:List A0).toArray 46 (0,0)):=by rw[ao];exact dl
   have du:(prog.info? 46).map (·.size)=some ([Value.bool b,.int .i64 id,.int .i64 qu,sl]:List A0).toArray.size:=by kernel_rfl
   obtain⟨ri,rz,j0,j1,j2,j3,j4⟩:=uC;have ef:rs.length<=100:=by have:=a2.out;omega
   have bg:(vs++C5 cs).length<=(i+1)*10000:=by
    rw[B9];unfold C5;rw[G9,ap];have:=ah.out;have:=Pw hd.fmt;omega
   have dv:=Dp a6;have es:=Dp hQ;have dw:=Dp ci;have aw:=Dp bf;have dx:=Dp bg;clear a6 hQ ci br ch d bd aq ar au hF bq an W hb hg aj ak hT C cf ce ai ah ap bf bg a4 al
   go_wp2_with (first|(with_reducible refine DA rfl 46 _ _ rfl bb c0 46 rfl rfl b5 bc b6 ?_;rw[b7.out,ee.out])|(with_reducible refine Mt rfl 46 _ rfl D rfl 46 ([Value.bool b,.int .i64 id,.int .i64 qu,sl]:List A0).toArray (0,0) _ dt O6 rfl du ?_)|(with_reducible refine Yx1 rfl _ rfl (.bool b) (.int .i64 id) (.int .i64 qu) sl rfl ?_;rw[dv.out,es.out])|(at_builtin;refine S1 (V:=E1 (GW A X G w.heap.size a5 rv) wQ) (w:=wQ) (c:=4) (bytes:=48) (base:=0) (v:=rv) (l:=rs) (y:=⟨b,id,qu,cs⟩) (vs:=[Value.bool b,.int .i64 id,.int .i64 qu,sl]) (K:=Q) (cap:=1) rfl rfl underlying37 j0 j1 j2 j3 j4 (by decide) ?d1 ?d2 aw.out.row av rfl ds dw.out ?d3 ?d4 (Ds _) ?_;(case d1=>kernel_rfl);(case d2=>kernel_rfl);(case d3=>(unfold maxLen;omega));(case d4=>omega);intro q9 eg w9 dy cj dz;have ck:=aw.out.app cj dy dz;have cl:=(cj.block X (by have:=aw.out.ord;omega) fun e=>(aw.out.rown X e.symm).2.2.1 rfl).trans aw.out.sht;have c6:=AA (o:=6) cl rfl;have c7:=AZ (o:=6) cl))
   go_roundw
   case rel=>exact⟨i+1,q2,rs++[⟨b,id,qu,cs⟩],_,a5,_,b4,by go_num,by omega,ck,Dp (by rw[B9,a2.out];rfl),dx,dr⟩
   case measure=>simp[intOf];omega
  ·have t1:decide ((i:Int)<(H:Int))=false:=by simp;omega
   obtain rfl:H=i:=by omega
   have cm:Hid (DJ ctk s.data.toList hd.inter hd.fmt (BJ hd.fmt).toNat 0 z0 [] 0=(rs,q,0)):=Dp (by
    have h1:=hT.out;rw[Ci] at h1;rw[dh.out];exact h1.done)
   have cz:=yT d.rdr hs;have ho:=d.ord;have et:=d.low;have cn:=Dp d;clear hT dh ah
   go_wp2_with fail
   refine cz.mono ?_;rintro e O ⟨n,rfl,a7,⟨q',W⟩,hz⟩;have a8:=(a7.block X (by omega) (by simp;omega)).trans d.sht;have co:=(a7.block A (by omega) (by simp;omega)).trans d.res;have c7:=AA (o:=7) a8 rfl;have f7:=AZ (o:=7) a8;obtain⟨m,aa⟩:=Ah (Bx hd (.slice a hd.supp.length ca) rv (n:Int))
   have d0:(O.setCell ⟨X,7,none⟩ (.int .i64 (n:Int))).heap[X]? =some (.cells m.toArray 39 (0,0)):=by rw[<-aa];exact BF (o:=7) _ a8
   have d5:(O.setCell ⟨X,7,none⟩ (.int .i64 (n:Int))).heap[A]? =some (.cells Y 39 (0,0)):=by rw[Ib _ _ _ _ (show A≠X by omega)];exact co
   have cp:∀y,AI O rb s y->AI (O.setCell ⟨X,7,none⟩ (.int .i64 (n:Int))) rb s y:=fun y h=>⟨by rw[Ib _ _ _ _ (show rb≠X by omega)];exact h.1,h.2⟩;have cq:=Yai.set (w:=O) (p:=⟨X,7,none⟩) (L:=[some X]) (.int .i64 (n:Int)) (Dk.2 rfl);have ax:(prog.info? 39).map (·.size)=some m.toArray.size:=by rw[show m.toArray.size=8 by rw[<-aa];rfl];kernel_rfl
   have cr:Y.size=m.toArray.size:=by rw[bi,<-aa];rfl
   have cu:m.toArray.all (·.oneCell')=true:=by rw[<-aa];exact OD (U.out n)
   have bs:=Dp aa;have d6:=Dp a7;have d7:=Dp cq;have d8:=Dp cp;have d9:=Dp hz;have cv:=Dp W;obtain⟨fE,bt⟩:=Ah (PO s.data.toList q);rw[bt];have cw:=Dp bt;clear a8 co aa a7 cq cp hz W d cz bt
   go_upto_region 14 with fail
   generalize O.setCell ⟨X,7,none⟩ (.int .i64 (n:Int))=w7 at *;clear c7 f7
   go_wp2_with (first|(with_reducible refine Mt rfl 39 _ rfl X rfl 39 m.toArray (0,0) _ d0 Oa rfl ax ?_)|(with_reducible refine B4 rfl 39 _ _ rfl A m.toArray Y rfl rfl 39 d5 ax cr cu ?_;intro wz ag F))
   refine H5 (BQ rfl _ _ A 39 _ (0,0) _ rfl ag Oa rfl ax) rfl ?_;have cx:Yai [some rb,some X,some A] wr wz:=by
    have g1:Yai [some rb,some X,some A] wr O:=Yai.one d6.out fun j _ e=>by rw[e];exact Fa ..
    have g2:=g1.trans d7.out fun j _ hm=>by rw[Dk.1 hm];exact Ez _ (Fa ..)
    exact g2.trans (Yai.one (L:=[some A]) F fun j _ e=>by rw[e];exact Dk.2 rfl) fun j _ hm=>by rw[Dk.1 hm];exact Ez _ (Ez _ (Fa ..))
   have cy:=cn.out.done cx;have ea:∀(z:A5) (M:List (Option Nat)),(∀j,some j∈M->j<w.heap.size)->Yai M wz z->ShV z ⟨hd,rs,(n:Int)⟩ m:=fun z M hM hz=>by
    refine cn.out.lies (S:=⟨hd,rs,(n:Int)⟩) (M:=some X::some A::some rb::M) ((cx.mono fun j _ hm=>?_).trans hz fun j _ hm=>?_) (fun j hm=>?_) ⟨rfl,rfl⟩ bs.out.symm (by unfold maxLen;omega) (by have:=a2.out;unfold maxLen;omega)
    ·simp only[Ei,Ej,Eo] at hm ⊢;rcases hm with e|e|e
     ·exact .inr (.inr (.inl e))
     ·exact .inl e
     ·exact .inr (.inl e)
    ·exact Ez _ (Ez _ (Ez _ hm))
    ·simp only[Ei,Nj] at hm;rcases hm with e|e|e|e
     ·exact .inl e
     ·exact .inr (.inl e)
     ·exact .inr (.inr (by omega))
     ·exact .inr (.inr (hM j e))
   have bh:m.length=8/\∀u∈m,u.oneCell'=true:=⟨by rw[<-bs.out];rfl,by rw[<-bs.out];exact U.out n⟩;have bu:∀y,AI O rb s y->AI wz rb s y:=fun y h=>(d8.out y h).grown F (by omega);by_cases h0:AE s.data.toList q (gap q)=0
   ·have ay:fE=0:=by rw[<-cw.out];exact Bc h0
    obtain⟨eb,bj⟩:=d9.out (Bc h0);have ab:=mT (ct:=ctk) bw.out cm.out h0;rw[<-eb] at ab;refine⟨m,by rw[ab,ay];rfl,bh,cy,⟨_,bu _ cv.out⟩,fun _=>?_⟩;rw[ab];exact⟨ea,bu _ bj⟩
   ·have ay:fE=5:=by rw[<-cw.out];exact Bb h0
    have ab:=tW (ct:=ctk) bw.out cm.out h0;exact⟨m,by rw[ab,ay];rfl,bh,cy,⟨_,bu _ cv.out⟩,fun e=>by rw[ab] at e;cases e⟩
end
def zeroS:List A0:=Bx FK (.slice none 0 0) (.slice none 0 0) 0
theorem oK (w:A5):ShV w JV zeroS:=⟨none,none,0,0,rfl,Ds _,Ds _,CA.nil _ _,.inl rfl⟩
theorem mK {ct:CelT}{l:List UInt8}{p:Nat}(h:(wtk ct l p).2.2≠0):wtk ct l p=(JV,p,(wtk ct l p).2.2):=by
 unfold wtk at h ⊢;obtain⟨⟨hd,q,f⟩,d⟩:=Ah (shk l p);rw[d] at h ⊢;simp only at h ⊢;by_cases a:f=0
 ·rw[Bb (fun x=>x a)] at h ⊢;obtain⟨⟨rs,z,g⟩,hr⟩:=Ah (DJ ct l hd.inter hd.fmt (BJ hd.fmt).toNat 0 q [] 0);rw[hr] at h ⊢;simp only at h ⊢;by_cases b:g=0
  ·rw[Bb (fun x=>x b)] at h ⊢;by_cases c:AE l z (gap z)=0
   ·rw[Bb (fun x=>x c)] at h;exact absurd rfl h
   ·rw[Bc c]
  ·rw[Bc b]
 ·rw[Bc a]
def UY (s:ByteArray)(rb p:Nat)(w:A5)(e:Ad)(a:A5):Prop:=
 ∃vs:List A0,e=.returned (.tuple #[.agg vs.toArray,.int .i64 (wtk ctk s.data.toList p).2.2])/\(∀(x:A5) (L:List (Option Nat)),(∀j,some j∈L->j<w.heap.size)->Yai L a x->ShV x (wtk ctk s.data.toList p).1 vs)/\AI a rb s (wtk ctk s.data.toList p).2.1/\w.grownBy a (some rb)
theorem Wi:∀w,(zeroValue 39).run prog w=.ok (.agg zeroS.toArray) w:=MC (by kernel_rfl)
set_option maxRecDepth 100000 in
theorem lC {N:Nat}{w:A5}{rb p:Nat}{s:ByteArray}(hr:AI w rb s p)(ht:Ybw N w)(hN:N<=rb)(hs:s.size<=1073741824):
  A9 prog 61 #[.pointer (some ⟨rb,0,none⟩)] w (UY s rb p w):=by
 have hp:=hr.2.1;obtain⟨Y,D⟩:=Ah zeroS.toArray;have ab:=Wi;rw[D] at ab;have E:Y.size=8:=by rw[<-D];rfl
 have F:(prog.info? 39).map (·.size)=some Y.size:=by rw[E];kernel_rfl
 have ac:Y.all (·.oneCell')=true:=by rw[<-D];exact OD (UO rfl)
 obtain⟨A,G⟩:=Ah w.heap.size;obtain⟨wA,c⟩:=Ah (w.alloc (.cells Y 39 (0,0)));have H:wA.heap[A]? =some (.cells Y 39 (0,0)):=by rw[<-c,<-G];exact heap_alloc_new w _
 have h:Below w.heap.size w wA:=by rw[<-c];exact(Dq _ w).alloc (Ba _) _
 have al:wA.heap.size=A+1:=by rw[<-c,<-G];simp
 have ai:rb<A:=by rw[<-G];exact hr.lt
 have m:=hr.below h;have ct:=tX m (ht.below (h.mono (by omega))) hN hs;have a:=mK (ct:=ctk) (l:=s.data.toList) (p:=p);unfold aK at ct;unfold UY;obtain⟨⟨S,q,f⟩,hk⟩:=Ah (wtk ctk s.data.toList p);rw[hk] at ct a ⊢;dsimp only at ct a ⊢;have ad:=Dp c;have aa:=Dp G;have ae:=Dp h;have am:=Dp D;have I:=Dp a
 clear c G h hr ht hk D a
 go_enter func61,ntmps61
 go_wp2_with fail
 rw[ad.out,aa.out];refine(ED _ _ _ _ m).mono ?_;rintro e u ⟨rfl,rfl⟩
 go_wp2_with fail
 refine ct.mono ?_;rintro e C ⟨vs,rfl,⟨J,K⟩,i,⟨q',M⟩,n⟩;clear ct;obtain⟨Z,O⟩:=Ah vs.toArray;rw[O];have o:Z.size=8:=by rw[<-O];simpa using J
 have d:(prog.info? 39).map (·.size)=some Z.size:=by rw[o];kernel_rfl
 have r:Y.size=Z.size:=by rw[E,o]
 have t:Z.all (·.oneCell')=true:=by rw[<-O];exact OD K
 obtain⟨X,hX⟩:=Ah C.heap.size;obtain⟨w2,k⟩:=Ah (C.alloc (.cells Z 39 (0,0)));have b:Below C.heap.size C w2:=by rw[<-k];exact(Dq _ C).alloc (Ba _) _
 have P:w2.heap[X]? =some (.cells Z 39 (0,0)):=by rw[<-k,<-hX];exact heap_alloc_new C _
 have an:=i.size;have v:=(b.block A (by omega)).trans ((i.block A (by omega) (by simp;omega)).trans H);have Q:=M.below b;have aj:Hid (Yai [some rb] w w2):=Dp (((Yai.below ae.out).trans (Yai.one (L:=[some rb]) i fun j _ e=>by rw[e];exact Dk.2 rfl) fun j _ hm=>hm).trans (Yai.below (L:=[]) b) (by simp));have ak:=Dp hX;have ao:=Dp O
 have R:=Dp k;clear hX O k o J K H m M i;by_cases y:f=0
 ·have tf:(f != 0)=false:=by rw[y];rfl
  obtain⟨T,U⟩:=n y;have V:=U.below b;have ap:=Dp y;have af:=Dp b;have ag:=Dp T;clear n y b T U
  go_wp2_with (first|(with_reducible refine DA rfl 39 _ _ rfl Z Y 39 rfl rfl d r t ?_;rw[R.out,ak.out])|(with_reducible refine Mt rfl 39 _ rfl X rfl 39 Z (0,0) _ P Oa rfl d ?_)|(with_reducible refine B4 rfl 39 _ _ rfl A Z Y rfl rfl 39 v d r t ?_;intro wz z g))
  refine H5 (BQ rfl _ _ A 39 _ (0,0) _ rfl z Oa rfl d) rfl ?_;have gA:Yai [some A] w2 wz:=Yai.one g fun j _ e=>by rw[e];exact Dk.2 rfl
  refine⟨vs,by rw[ap.out,ao.out];rfl,(fun x L hL hx=>ag.out x (some A::L) (fun j hm=>by
   rcases Ei.1 hm with e|hm
   ·injection e with e;omega
   ·have:=hL j hm;have:=aa.out;omega) (((Yai.below af.out).trans gA fun j _ hm=>by rw[Dk.1 hm];exact Fa ..).trans hx fun j _ hm=>Ez _ hm)),V.grown g (by omega),?_⟩
  exact(aj.out.trans gA fun j hj hm=>by have e:=Dk.1 hm;injection e with e;have:=aa.out;omega).lone fun j _ hm=>by have e:=Dk.1 hm;injection e with e
 ·have tf:(f != 0)=true:=by rw[Fl];exact y
  have a:=I.out y;have aq:=Dp a;have ar:=b.size;clear n y b a
  go_wp2_with (with_reducible refine DA rfl 39 _ _ rfl Z Y 39 rfl rfl d r t ?_;rw[R.out,ak.out])
  refine(GH _ _ _ _ (p:Int) Q (by omega) (by omega)).mono ?_;rintro e w3 ⟨rfl,W,B⟩;rw[Dr] at W;have ah:=(B.block A (by omega) (by simp;omega)).trans v;have au:=B.size;clear P v Q
  go_wp2_with (with_reducible refine B4 rfl 39 _ _ rfl A Y Y rfl rfl 39 ah F rfl ac ?_;intro wz z g)
  refine H5 (BQ rfl _ _ A 39 _ (0,0) _ rfl z Oa rfl F) rfl ?_;have hq:=aq.out;injection hq with e1 e2;injection e2 with e2 _;subst e1 e2;refine⟨zeroS,by rw[am.out];rfl,fun x _ _ _=>oK x,W.grown g (by omega),?_⟩
  refine((aj.out.trans (Yai.one (L:=[some rb]) B fun j _ e=>by rw[e];exact Dk.2 rfl) fun j _ hm=>hm).trans (Yai.one (L:=[some A]) g fun j _ e=>by rw[e];exact Dk.2 rfl) fun j hj hm=>?_).lone fun j _ hm=>by have e:=Dk.1 hm;injection e with e
  have e:=Dk.1 hm;injection e with e;have:=aa.out;omega
def UQ (s:ByteArray)(rb p:Nat)(done:List ShP)(w:A5)(e:Ad)(a:A5):Prop:=
 ∃vs:List A0,e=.returned (.tuple #[.agg vs.toArray,.int .i64 (KA (wtk ctk s.data.toList p).2.2 done.length (CR (CM done) (wtk ctk s.data.toList p).1))])/\ShK (GF w.heap.size) a (wtk ctk s.data.toList p).1 vs/\AI a rb s (wtk ctk s.data.toList p).2.1/\w.grownBy a (some rb)
set_option maxRecDepth 100000 in
theorem iX {N:Nat}{w:A5}{rb p:Nat}{s:ByteArray}{done:List ShP}{q:Option Aa}{cap:Nat}(hr:AI w rb s p)(ht:Ybw N w)(hN:N<=rb)(hs:s.size<=1073741824)(hd:∀x,w.grownBy x (some rb)->HG x q done)(hl:done.length<=64):
  A9 prog 32 #[.pointer (some ⟨rb,0,none⟩),.slice q done.length cap] w (UQ s rb p done w):=by
 obtain⟨Y,hY⟩:=Ah zeroS.toArray;have ac:=Wi;rw[hY] at ac;have ad:Y.size=8:=by rw[<-hY];rfl
 obtain⟨A,O⟩:=Ah w.heap.size;obtain⟨wA,m⟩:=Ah (w.alloc (.cells Y 39 (0,0)));have P:wA.heap[A]? =some (.cells Y 39 (0,0)):=by rw[<-m,<-O];exact heap_alloc_new w _
 have t:Below w.heap.size w wA:=by rw[<-m];exact(Dq _ w).alloc (Ba _) _
 have an:wA.heap.size=A+1:=by rw[<-m,<-O];simp
 have am:rb<A:=by rw[<-O];exact hr.lt
 have ct:=lC (hr.below t) (ht.below (t.mono (by omega))) hN hs;unfold UY at ct;unfold UQ;obtain⟨⟨S,q2,f⟩,hk⟩:=Ah (wtk ctk s.data.toList p);rw[hk] at ct ⊢;dsimp only at ct ⊢;obtain⟨R,hR⟩:=Ah (KA f done.length (CR (CM done) S));rw[hR];have aa:=Dp hR;have ae:=Dp m;have af:=Dp O;have ag:=Dp t;have ah:=Dp hd;clear m O hr ht hk hY hd t hR
 go_enter func32,ntmps32
 go_wp2_with fail
 rw[ae.out,af.out];refine ct.mono ?_;rintro e u ⟨vs,rfl,c,Q,v⟩;clear ct;have y:=c u [] (by simp) (Yai.refl _ _);have G:=y.shape.1;have d:=y.ones;obtain⟨X,hX⟩:=Ah u.heap.size;obtain⟨l,o⟩:=Ah (u.alloc (.cells vs.toArray 39 (0,0)));have g:Below u.heap.size u l:=by rw[<-o];exact(Dq _ u).alloc (Ba _) _
 have ai:l.heap.size=X+1:=by rw[<-o,<-hX];simp
 have r:l.heap[X]? =some (.cells vs.toArray 39 (0,0)):=by rw[<-o,<-hX];exact heap_alloc_new u _
 have ao:=v.size;have B:=(g.block A (by omega)).trans ((v.block A (by omega) (by simp;omega)).trans P);have T:=Q.below g;have U:=ShV.below g _ _ y;have aj:Yai [some rb] w l:=((Yai.below ag.out).trans (Yai.one (L:=[some rb]) v fun j _ e=>by rw[e];exact Dk.2 rfl) fun j _ hm=>hm).trans (Yai.below (L:=[]) g) (by simp)
 have ak:=Dp (fun(z:A5) (V:Below l.heap.size l z)=>((aj.trans (Yai.below (L:=[]) V) (by simp)).lone fun j _ hm=>(by have e:=Dk.1 hm;injection e with e):w.grownBy z (some rb)));have C:=Dp (fun(z D:A5) (V:Below l.heap.size l z) (b:z.grownBy D (some A))=>(by
  have gA:Yai [some A] z D:=Yai.one b fun j _ e=>by rw[e];exact Dk.2 rfl
  have al:Below u.heap.size u z:=g.trans (V.mono g.size);refine⟨ShK.low fun x L hL hx=>c x (some A::L) (fun j hm=>?_) (((Yai.below (L:=some A::L) al).trans gA fun j _ hm=>by rw[Dk.1 hm];exact Fa ..).trans hx fun j _ hm=>Ez _ hm),(T.below V).grown b (by simp;omega),?_⟩
  ·rcases Ei.1 hm with e|e
   ·injection e with e;omega
   ·have:=hL j e;have:=af.out;omega
  ·exact((aj.trans (Yai.below (L:=[]) V) (by simp)).trans gA fun j hj hm=>(by have e:=Dk.1 hm;injection e with e;have:=af.out;omega)).lone fun j _ hm=>(by have e:=Dk.1 hm;injection e with e):ShK (GF w.heap.size) D S vs/\AI D rb s q2/\w.grownBy D (some rb)))
 have a:(prog.info? 39).map (·.size)=some vs.toArray.size:=by rw[show vs.toArray.size=8 from G];kernel_rfl
 have i:Y.size=vs.toArray.size:=by rw[ad];exact G.symm
 have ab:=Dp hX;have H:=Dp o;have E:Below l.heap.size l l:=Dq _ _;clear hX o c Q v y g aj T P G hs;by_cases hf:f=0
 case neg=>
  have tf:(f != 0)=true:=by rw[Fl];exact hf
  have I:=Dp (show R=f by rw[<-aa.out];exact Bc hf);clear hf
  go_wp2_with (first|(with_reducible refine DA rfl 39 _ _ rfl vs.toArray Y 39 rfl rfl a i d ?_;rw[H.out,ab.out])|(with_reducible refine Mt rfl 39 _ rfl X rfl 39 vs.toArray (0,0) _ r Oa rfl a ?_)|(with_reducible refine B4 rfl 39 _ _ rfl A vs.toArray Y rfl rfl 39 B a i d ?_;intro D k b))
  refine H5 (BQ rfl _ _ A 39 _ (0,0) _ rfl k Oa rfl a) rfl ?_;exact⟨vs,by rw[I.out];rfl,C.out _ _ E b⟩
 subst hf;have tf:((0:Int) != 0)=false:=rfl;by_cases J:done.length=64
 ·have I:=Dp (show R=13 by rw[<-aa.out];unfold KA;rw[Bb (by decide),Bc (by omega)]);rw[J];clear J hl ah ak
  go_wp2_with (first|(with_reducible refine DA rfl 39 _ _ rfl vs.toArray Y 39 rfl rfl a i d ?_;rw[H.out,ab.out])|(with_reducible refine Mt rfl 39 _ rfl X rfl 39 vs.toArray (0,0) _ r Oa rfl a ?_)|(with_reducible refine B4 rfl 39 _ _ rfl A vs.toArray Y rfl rfl 39 B a i d ?_;intro D k b))
  refine H5 (BQ rfl _ _ A 39 _ (0,0) _ rfl k Oa rfl a) rfl ?_;exact⟨vs,by rw[I.out];rfl,C.out _ _ E b⟩
 have cf:=ZU (w:=l) q cap done U (ah.out _ (ak.out _ E)) (by unfold maxLen;omega);have K:=Dp (show CR (CM done) S=false->R=11 from fun h=>by rw[<-aa.out];unfold KA;rw[Bb (by decide),Bb (by omega),Bc h]);have M:=Dp (show CR (CM done) S=true->R=0 from fun h=>by rw[<-aa.out];unfold KA;rw[Bb (by decide),Bb (by omega),Bb (by rw[h];decide)])
 generalize CR (CM done) S=fo at *;generalize done.length=n at *;have t64:((n:Int)==64)=false:=by rw[Fg];omega
 clear J hl ah ak U
 go_wp2_with (first|(with_reducible refine DA rfl 39 _ _ rfl vs.toArray Y 39 rfl rfl a i d ?_;rw[H.out,ab.out])|(with_reducible refine Mt rfl 39 _ rfl X rfl 39 vs.toArray (0,0) _ r Oa rfl a ?_))
 refine cf.mono ?_;rintro e w3 ⟨rfl,F⟩;have W:=(F.block A (by have:=ab.out;omega)).trans B;have Z:=(F.block X (by omega)).trans r;clear cf B r E ai;cases fo with
 |false=>
  have I:=Dp (K.out rfl);clear K M
  go_wp2_with (first|(with_reducible refine Mt rfl 39 _ rfl X rfl 39 vs.toArray (0,0) _ Z Oa rfl a ?_)|(with_reducible refine B4 rfl 39 _ _ rfl A vs.toArray Y rfl rfl 39 W a i d ?_;intro D k b))
  refine H5 (BQ rfl _ _ A 39 _ (0,0) _ rfl k Oa rfl a) rfl ?_;exact⟨vs,by rw[I.out];rfl,C.out _ _ F b⟩
 |true=>
  have I:=Dp (M.out rfl);clear K M
  go_wp2_with (first|(with_reducible refine Mt rfl 39 _ rfl X rfl 39 vs.toArray (0,0) _ Z Oa rfl a ?_)|(with_reducible refine B4 rfl 39 _ _ rfl A vs.toArray Y rfl rfl 39 W a i d ?_;intro D k b))
  refine H5 (BQ rfl _ _ A 39 _ (0,0) _ rfl k Oa rfl a) rfl ?_;exact⟨vs,by rw[I.out];rfl,C.out _ _ F b⟩
structure Y2e (w0 w:A5) (A n:Nat) (v:A0) (done:List ShP):Prop where
 ord:w0.heap.size=A/\A+2<=n/\n<=w.heap.size
 low:Below A w0 w
 res:w.heap[A]? =some (.cells [.slice none 0 0,.bool false].toArray 24 (0,0))
 loc:w.heap[A+1]? =some (.cells [v,.bool false].toArray 24 (0,0))
 own:IH n w v done
section
variable {w0 w z:A5}{A n:Nat}{v:A0}{done:List ShP}
theorem Y2e.turn {row:Option Nat}(h:Y2e w0 w A n v done)(a:w.grownBy z row)(hr:∀k,row=some k->A+2<=k/\k<n):Y2e w0 z A n v done:=by
 obtain⟨⟨b,c,d⟩,h2,h3,h4,f⟩:=h;refine⟨⟨b,c,Eg d a.size⟩,h2.grown a (by omega) (fun j hj=>by have:=hr j hj;omega),(a.block A (by omega) (fun e=>by have:=hr A e.symm;omega)).trans h3,(a.block (A+1) (by omega) (fun e=>by have:=hr _ e.symm;omega)).trans h4,?_⟩
 exact f.kept (M:=[row]) (Yai.one a fun k _ e=>by rw[e];exact Dk.2 rfl) fun j _ hm=>(hr j (Dk.1 hm).symm).2
theorem Y2e.below (h:Y2e w0 w A n v done)(a:Below w.heap.size w z):Y2e w0 z A n v done:=h.turn (BZ a none) fun k e=>by cases e
theorem Y2e.app {a:A0}{S:ShP}(h:Y2e w0 w A n v done)(ho:AX 8 39 (ShK (v.ownBlock::GF n) w) z n a (done++[S]))(b:w.grownBy z v.ownBlock)(g:∀k,a.ownBlock=some k->v.ownBlock=some k\/w.heap.size<=k):
  Y2e w0 (z.setCell ⟨A+1,0,none⟩ a) A n a (done++[S])/\Yai [v.ownBlock,some (A+1)] w (z.setCell ⟨A+1,0,none⟩ a):=by
 obtain⟨⟨i,l,m⟩,h2,h3,h4,d⟩:=h;have c:∀k,k<n->some k≠v.ownBlock:=fun k f e=>by have:=AX.fresh d k e.symm;omega
 have q:=(b.block (A+1) (by omega) (c _ (by omega))).trans h4;have hs:=Yai.set (w:=z) (p:=⟨A+1,0,none⟩) (L:=[some (A+1)]) a (Dk.2 rfl);refine⟨⟨⟨i,l,Eg m (Eg b.size hs.size)⟩,?_,?_,BF (o:=0) a q,?_⟩,?_⟩
 ·have r:Below A w0 z:=h2.grown b (by omega) (fun j hj=>by have:=AX.fresh d j hj;omega);exact r.trans (hs.under (by have:=b.size;omega) fun k f=>by have e:=Dk.1 f;injection e with e;omega)
 ·rw[Ib _ _ _ _ (show A≠A+1 by omega)];exact(b.block A (by omega) (c A (by omega))).trans h3
 ·exact(IH.app ho b g).kept hs fun j _ hm=>by have e:=Dk.1 hm;injection e with e;omega
 ·exact(Yai.one (L:=[v.ownBlock,some (A+1)]) b fun k _ e=>by rw[e];exact Fa ..).trans hs fun j _ hm=>Ez _ hm
theorem Y2e.fin (h:Y2e w0 w A n v done)(F:Bool)(a:Yai [some A,some (A+1)] w z)(hl:done.length<=64):K4 z ⟨done,F⟩ [v,.bool F]/\Below w0.heap.size w0 z:=by
 obtain⟨⟨b,f,g⟩,h2,h3,h4,c⟩:=h;have hm:∀j,some j∈[some A,some (A+1)]->A<=j/\j<n:=fun j hj=>by
  rcases Ei.1 hj with e|e
  ·injection e with e;omega
  ·have e:=Dk.1 e;injection e with e;omega
 exact⟨(c.kept a fun j _ hj=>(hm j hj).2).strV (by unfold maxLen;omega) F,by rw[b];exact h2.trans (a.under (by omega) fun k d=>(hm k d).1)⟩
theorem Y2e.bad (h:Y2e w0 w A n v done)(a:w.grownBy z (some A)):Below w0.heap.size w0 z:=by
 rw[h.ord.1];exact h.low.grown a (by have:=h.ord;omega) fun j hj=>by injection hj with hj;omega
end
theorem WE {w:A5}{ops:Array A4}{rest:List A4}{o:A4}{a:Act}{Q:Exit->Act->A5->Prop}(e:o.guard=none)(x:A8)(ho:o.op=.buildSlice 22 1 #[(0,x)])(vs:List A0)(hl:vs.length=8)
  (f:a.eval x=.agg vs.toArray)(h:wpList prog ops Q rest (a.put o.dst (.slice (some ⟨w.heap.size,0,none⟩) 1 1)) (w.alloc (.cells vs.toArray 39 (0,0)))):wpList prog ops Q (o::rest) a w:=by
 match vs,hl with
 |[u0,u1,u2,u3,u4,u5,u6,u7],_=>
  have b:(match prog.info? 39 with
   |some c=>(match c.zero with
    |some z=>if c.size=8 then Instr.fill (fun i=>some (i*c.size,c.size)) ((Array.range (1*c.size)).map (z.cells[· % z.cells.size]!)) [(0,.agg #[u0,u1,u2,u3,u4,u5,u6,u7])] else none
    |none=>none)
   |none=>none)=some #[u0,u1,u2,u3,u4,u5,u6,u7]:=by kernel_rfl
  cases hi:prog.info? 39 with
  |none=>rw[hi] at b;cases b
  |some c=>
   rw[hi] at b;cases hz:c.zero with
   |none=>simp only[hz] at b;cases b
   |some z=>
    simp only[hz] at b;by_cases d:c.size=8
    ·rw[Bc d] at b;exact Of e _ _ 1 _ ho _ c z underlying22 hi hz (by rw[d];decide) (by rw[d];decide) (by simpa [f] using b) h
    ·rw[Bb d] at b;cases b
def lV:Option A0->Nat
 |some (.slice _ n _)=>n
 |_=>0
def Rv (l:List UInt8)(w:A5)(e:Ad)(a:A5):Prop:=
 ∃vs:List A0,e=.returned (.tuple #[.agg vs.toArray,.int .i64 ((JU ctk l).2.1:Int),.int .i64 (JU ctk l).2.2])/\K4 a (JU ctk l).1 vs/\Below w.heap.size w a
theorem uG (w:A5):K4 w EU [.slice none 0 0,.bool false]:=⟨none,0,rfl,Ds _,Ds _,.inl rfl⟩
theorem Sa:∀w,(zeroValue 24).run prog w=.ok (.agg #[.slice none 0 0,.bool false]) w:=MC (by kernel_rfl)
set_option maxRecDepth 100000 in
theorem WG {w:A5}{s:ByteArray}(ht:Ybw w.heap.size w)(hs:s.size<=140737488355328):A9 prog 14 #[.string s] w (Rv s.data.toList w):=by
 obtain⟨A,hA⟩:=Ah w.heap.size;have di:=Sa;have a4:=uG;obtain⟨wA,F⟩:=Ah (w.alloc (.cells #[.slice none 0 0,.bool false] 24 (0,0)));have bl:wA.heap[A]? =some (.cells [.slice none 0 0,.bool false].toArray 24 (0,0)):=by rw[<-F,<-hA];exact heap_alloc_new w _
 have R:Below w.heap.size w wA:=by rw[<-F];exact(Dq _ w).alloc (Ba _) _
 have a5:wA.heap.size=A+1:=by rw[<-F,<-hA];simp
 unfold Rv;have a6:s.data.toList.length=s.size:=rfl;by_cases av:262144<s.size
 ·have hE:JU ctk s.data.toList=(EU,0,13):=by unfold JU;exact Bc (by omega)
  rw[hE];have t0:decide (262144<(s.size:Int))=true:=by simp;omega
  have t1:decide (262144<s.size)=true:=by simp;omega
  have bm:=Dp F;have cj:=Dp hA;have dj:=Dp R;clear F av hE hs a6 ht hA R a5
  go_enter func14,ntmps14
  go_wp2
  go_step3
  go_wp2
  rw[La];exact H5 (Qh rfl _ _ w.heap.size 24 _ (0,0) _ rfl (heap_alloc_new w _) Ph rfl (by kernel_rfl)) rfl ⟨_,rfl,a4 _,(Dq _ w).alloc (Ba _) _⟩
 have ci:s.size<=262144:=by omega
 have t0:decide (262144<(s.size:Int))=false:=by simp;omega
 have t1:decide (262144<s.size)=false:=by simp;omega
 obtain⟨E,hE⟩:=Ah (JU ctk s.data.toList);rw[hE];have bn:F6 ctk s.data.toList 65 0 []=E:=by rw[<-hE];unfold JU;rw[Bb (by omega)]
 obtain⟨wX,T⟩:=Ah (wA.alloc (.cells #[.slice none 0 0,.bool false] 24 (0,0)));have bo:wX.heap[A+1]? =some (.cells [.slice none 0 0,.bool false].toArray 24 (0,0)):=by rw[<-T,<-a5];exact heap_alloc_new wA _
 have aj:Below wA.heap.size wA wX:=by rw[<-T];exact(Dq _ wA).alloc (Ba _) _
 obtain⟨rb,U⟩:=Ah wX.heap.size;have ck:rb=A+2:=by rw[<-U,<-T];simp;omega
 obtain⟨wR,W⟩:=Ah (wX.alloc (KX s 0));have ak:Below wX.heap.size wX wR:=by rw[<-W];exact(Dq _ wX).alloc (Ba _) _
 have cm:wR.heap.size=rb+1:=by rw[<-W,<-U];simp
 obtain⟨n,hn⟩:=Ah (rb+1);have bp:AI wR rb s 0:=by rw[<-W];exact AI.fresh U hs
 have aw:Below A w wR:=hA▸(R.trans ((aj.trans (ak.mono aj.size)).mono R.size));have ax:Y2e w wR A n (.slice none 0 0) []:=⟨⟨hA,by omega,by omega⟩,aw,(ak.block A (by omega)).trans ((aj.block A (by omega)).trans bl),(ak.block (A+1) (by omega)).trans bo,IH.nil n wR⟩;have de:Hid (F6 ctk s.data.toList (65-([]:List ShP).length) 0 []=E):=Dp bn
 have dk:=Dp (fun(x:A5) (r:Below A w x)=>(ht.below (hA.symm▸r):Ybw w.heap.size x));have bm:=Dp F;have cj:=Dp hA;have cn:=Dp T;have co:=Dp U;have cp:=Dp W;have bq:=Dp (show rb=A+2/\n=A+3 by omega);have aa:=Dp a6;have br:=Dp a4;obtain⟨Y,cq,dl⟩:=TB
 have al:(prog.info? 24).map (·.size)=some (#[.slice none 0 0,.bool false]:Array A0).size:=by kernel_rfl
 have bs:(#[.slice none 0 0,.bool false]:Array A0).all (·.oneCell')=true:=by simp[Value.oneCell']
 clear F hA T U W hE bn bl R a5 bo aj ck ak cm hn aw ht a6 a4 av hs
 go_enter func14,ntmps14
 go_wp2
 go_step3
 go_wp2_with fail
 rw[bm.out,cj.out,cn.out];refine(Pq _ _).mono ?_;rintro e u ⟨rfl,rfl⟩;rw[cp.out,co.out]
 go_wp2
 go_step3
 go_wp2
 clear t0 t1
 go_loopw [7] (fun z wr=>∃(p:Nat) (v:A0) (done:List ShP),Y2e w wr A n v done/\AI wr rb s p/\done.length<=64/\p<=8*s.size/\p%8=0/\Hid (F6 ctk s.data.toList (65-done.length) p done=E)) (fun _ wr=>65-lV (wr.cell? ⟨A+1,0,none⟩))
 case atStart=>exact⟨0,_,[],ax,bp,Ds _,Ds _,rfl,de⟩
 case round=>
  clear ax bp de;obtain⟨p,v,done,g,hr,a7,dm,bt,hT⟩:=hrel;have e1:=g.own.ins.1;obtain⟨q,cap,hv⟩:∃q cap,v=.slice q done.length cap:=⟨_,_,e1⟩;subst hv;obtain⟨a,ha⟩:=Ah (p / 8);have dv:(p:Int).tdiv 8=(a:Int):=by rw[It (by omega)];omega
  have wa:IntKind.i64.wrap (a:Int)=(a:Int):=CL (by omega);have k0:=AA (o:=0) g.loc rfl;have dn:=Dp k0;obtain⟨Z,hZ⟩:=Ah ([Value.slice q done.length cap,.bool false].toArray);have i:=g.loc;have m:=g.res;rw[hZ] at i;have a8:(prog.info? 24).map (·.size)=some Z.size:=by rw[<-hZ];kernel_rfl
  have cr:(#[.slice none 0 0,.bool false]:Array A0).size=Z.size:=by rw[<-hZ];rfl
  have cs:Z.all (·.oneCell')=true:=by rw[<-hZ];simp[Value.oneCell']
  have df:=Dp hZ;have ab:=Dp (show p=8*a by omega);have dp:=Dp bt;have dg:=g.ord;clear e1 ha hZ bt
  go_wp2_with fail
  refine(ED _ _ _ _ hr).mono ?_;rintro e u ⟨rfl,rfl⟩;have cl:=PR wr rb s p hr;by_cases hq:done.length≠0/\p=8*s.size
  case pos=>
   obtain⟨G,ac⟩:=hq;have t0:((done.length:Int)==0)=false:=by rw[Fg];omega
   rw[show 8*(s.size:Int)-(p:Int)=0 by omega] at cl;have a9:Hid (E=(⟨done,false⟩,0,0)):=Dp (by
    rw[<-hT.out,show 65-done.length=(64-done.length)+1 by omega];exact tT _ (by rw[aa.out];exact ac) G)
   clear G ac hT
   go_wp2_with fail
   refine cl.mono ?_;rintro e w3 ⟨rfl,b⟩;have cu:=(b.block (A+1) (by omega)).trans i;have cv:=(b.block A (by omega)).trans m;clear cl k0 i m
   go_wp2_with (first|(with_reducible refine Mt rfl 24 _ rfl (A+1) rfl 24 Z (0,0) _ cu Ph rfl a8 ?_)|(with_reducible refine B4 rfl 24 _ _ rfl A Z _ rfl rfl 24 cv a8 cr cs ?_;intro wz H I))
   rw[La];refine H5 (Qh rfl _ _ A 24 _ (0,0) _ rfl H Ph rfl a8) rfl ?_;have hf:=(g.below b).fin false (Yai.one (L:=[some A,some (A+1)]) I fun j _ e=>by rw[e];exact Fa ..) a7;rw[a9.out];exact⟨_,by rw[df.out];rfl,hf⟩
  obtain⟨L,hL⟩:=Ah (8*(s.size:Int)-(p:Int));rw[hL] at cl;by_cases hm:done.length≠0/\ME s.data.toList p=true
  case pos=>
   obtain⟨G,ba⟩:=hm;have t0:((done.length:Int)==0)=false:=by rw[Fg];omega
   have tL:(L==0)=false:=by rw[Fg];intro h;exact hq ⟨G,by omega⟩
   have bb:=Xy.1 ba;have ac:p≠8*s.data.toList.length:=fun e=>hq ⟨G,by rw[aa.out] at e;exact e⟩;have ad:=tR (ct:=ctk) (l:=s.data.toList) (p:=p) (done:=done) (64-done.length) ac ⟨by omega,bb⟩;rw[show (64-done.length)+1=65-done.length by omega,hT.out] at ad;have bc:a<=s.size:=by have:=ab.out;omega
   have cw:=Dp bc;have ae:=vY (l:=s.data.toList) (a:=a) (by rw[aa.out];exact bc) (by rw[<-ab.out];exact bb);rw[<-ab.out] at ae;obtain⟨X,hX⟩:=Ah (s.extract a s.size);have bu:X.data.toList=s.data.toList.drop a:=by
    rw[<-hX,ByteArray.data_extract,Array.toList_extract];exact Bk (by rw[Bj];exact Ba _)
   obtain⟨P,hP⟩:∃P:ByteArray,⟨P0.toArray⟩=P:=⟨_,rfl⟩;have am:X=P↔8*s.data.toList.length=p+24/\AE s.data.toList (p+22) 2=0:=by
    rw[<-ae,<-bu,IU,<-hP]
   have cx:=Dp (fun(x:A5) (r:Below wr.heap.size wr x)=>(by
    have h:=oV x;rw[hP] at h;exact h.mono fun e y h=>⟨h.1,r.trans (h.2.mono r.size)⟩:A9 prog 31 #[] x fun e y=>e=.returned (.string P)/\Below wr.heap.size wr y))
   have dq:=Dp hX;have N:=fun(x:A5) (r:AI x rb s p)=>YK r (by omega);rw[ba] at N;have af:=Dp N;clear ba bb ac bc ae hX bu hP G hL hq hT
   go_wp2_with fail
   refine cl.mono ?_;rintro e w3 ⟨rfl,b⟩;have c3:=af.out _ (hr.below b);clear cl
   go_wp2_with fail
   refine c3.mono ?_;rintro e w4 ⟨rfl,t⟩;have J:Below wr.heap.size wr w4:=b.trans (t.mono b.size);clear c3 t b k0 af
   go_wp2
   refine BY (S:=fun x=>Below wr.heap.size wr x) 5 (by kernel_rfl) (by kernel_rfl) J.drew ?_;simp only[Dt,Bi,Hb,I0]
   iterate 2 (refine AG ?_;simp only[A1])
   refine AP (v:=.string X) (by kernel_rfl) (fun x _=>by go_simp;rw[Bc cw.out,dq.out]) ?_;simp only[A1];refine AS (by kernel_rfl) cx.out (fun _=>by kernel_rfl) ?_;simp only[A1];by_cases hb:X=P
   ·have a9:Hid (E=(⟨done,true⟩,0,0)):=Dp (by rw[ad,Bc (am.1 hb)]);subst hb;refine AP (v:=.bool false) (by kernel_rfl) (fun x _=>by go_simp) ?_;simp only[A1];refine BV fun x r=>?_;have ag:=(r.block (A+1) (by omega)).trans i;have an:=(r.block A (by omega)).trans m;rw[<-df.out] at ag;have k1:=AA (o:=1) ag rfl;have f1:=AZ (o:=1) ag;have bv:=BF (o:=1) (.bool true) ag
    have bd:(x.setCell ⟨A+1,1,none⟩ (.bool true)).heap[A]? =_:=(Ib _ _ _ _ (show A≠A+1 by omega)).trans an;have bw:=Yai.set (w:=x) (p:=⟨A+1,1,none⟩) (L:=[some A,some (A+1)]) (.bool true) (Ez _ (Dk.2 rfl));obtain⟨bx,O⟩:=Ah (([Value.slice q done.length cap,.bool false].set 1 (.bool true)).toArray);rw[O] at bv
    have ah:(prog.info? 24).map (·.size)=some bx.size:=by rw[<-O];kernel_rfl
    have bz:(#[.slice none 0 0,.bool false]:Array A0).size=bx.size:=by rw[<-O];rfl
    have b0:bx.all (·.oneCell')=true:=by rw[<-O];simp[Value.oneCell']
    have cy:=Dp O;have cz:=Dp bw;clear ag an i m O bw ad am J cx
    go_wp2_with (first|(with_reducible refine Mt rfl 24 _ rfl (A+1) rfl 24 bx (0,0) _ bv Ph rfl ah ?_)|(with_reducible refine B4 rfl 24 _ _ rfl A bx _ rfl rfl 24 bd ah bz b0 ?_;intro wz H I))
    rw[La];refine H5 (Qh rfl _ _ A 24 _ (0,0) _ rfl H Ph rfl ah) rfl ?_;have hf:=(g.below r).fin true (cz.out.trans (Yai.one (L:=[some A,some (A+1)]) I fun j _ e=>by rw[e];exact Fa ..) fun j _ h=>h) a7;rw[a9.out];exact⟨_,by rw[<-cy.out];rfl,hf⟩
   ·have a9:Hid (E=(EU,a,5)):=Dp (by rw[ad,Bb (fun h=>hb (am.2 h)),show p / 8=a by have:=ab.out;omega]);have tb:=jU hb;refine AP (v:=.bool true) (by kernel_rfl) (fun x _=>by go_simp;try (rw[tb];rfl)) ?_;simp only[A1];refine BV fun x r=>?_;have an:=(r.block A (by omega)).trans m;clear i m ad am J cx hb
    go_wp2_with (with_reducible refine B4 rfl 24 _ _ rfl A _ _ rfl rfl 24 an al rfl bs ?_;intro wz H I)
    rw[La];refine H5 (Qh rfl _ _ A 24 _ (0,0) _ rfl H Ph rfl al) rfl ?_;rw[a9.out];exact⟨_,rfl,br.out _,(g.below r).bad I⟩
  have ay:done.length≠0->p≠8*s.data.toList.length/\¬ ((B0 s.data.toList p).2=0/\(B0 s.data.toList p).1=31):=fun G=>⟨fun e=>hq ⟨G,by rw[aa.out] at e;exact e⟩,fun e=>hm ⟨G,Xy.2 e⟩⟩;obtain⟨⟨S,q2,f⟩,hk⟩:=Ah (wtk ctk s.data.toList p);have bf:=qT (64-done.length) ay hk;rw[show (64-done.length)+1=65-done.length by omega,hT.out] at bf;have ao:=Dp bf;have c0:=Dp hk
  clear ay bf hk hT;by_cases G:done.length=0
  case' pos=>
   have t0:((done.length:Int)==0)=true:=by rw[G];rfl
   have d:=g;have bg:=hr;clear G hq hm hL cl hr
   go_wp2_with fail
  case' neg=>
   have t0:((done.length:Int)==0)=false:=by rw[Fg];omega
   have tL:(L==0)=false:=by rw[Fg];intro h;exact hq ⟨G,by omega⟩
   have N:=fun(x:A5) (r:AI x rb s p)=>YK r (by omega);rw[show ME s.data.toList p=false by cases h:ME s.data.toList p with|false=>rfl|true=>exact absurd ⟨G,h⟩ hm] at N;have af:=Dp N;clear G hq hm hL N
   go_wp2_with fail
   refine cl.mono ?_;rintro e w3 ⟨rfl,b⟩;have c3:=af.out _ (hr.below b);clear cl af k0
   go_wp2_with fail
   refine c3.mono ?_;rintro e w4 ⟨rfl,t⟩;have J:Below wr.heap.size wr w4:=b.trans (t.mono b.size);have d:=g.below J;have bg:=hr.below J;have k0:=AA (o:=0) d.loc rfl;clear c3 t b J hr
   go_wp2_with fail
  all_goals
   have ct:=iX (q:=q) (cap:=cap) bg (dk.out _ d.low) (by have:=bq.out;have:=cj.out;omega) (by omega) (fun x r=>((d.turn r (fun k e=>by injection e with e;have:=bq.out;omega)).own.ins).2.2.2) a7;unfold UQ at ct;rw[c0.out] at ct;dsimp only at ct;have az:=xD (f:=f) (n:=done.length) (fo:=CR (CM done) S);generalize KA f done.length (CR (CM done) S)=c at *;have b1:=Dp az
   clear az;refine ct.mono ?_;rintro e w5 ⟨M,rfl,b2,bh,b3⟩;have a0:=d.turn b3 (fun k e=>by injection e with e;have:=bq.out;omega);have hK:ShK ((Value.slice q done.length cap).ownBlock::GF n) w5 S M:=ShK.own d.own (Ba _) d.ord.2.2 b2;obtain⟨D,hD⟩:=Ah w5.heap.size;obtain⟨w6,ai⟩:=Ah (w5.alloc (.cells M.toArray 39 (0,0)))
   have ap:Below w5.heap.size w5 w6:=by rw[<-ai];exact(Dq _ w5).alloc (Ba _) _
   have b4:w6.heap[D]? =some (.cells M.toArray 39 (0,0)):=by rw[<-ai,<-hD];exact heap_alloc_new w5 _
   have B:=a0.below ap;have aq:=hK.shape.1;have c1:=hK.shape.2;have b5:=hK.shV.ones;have bi:(prog.info? 39).map (·.size)=some M.toArray.size:=by rw[show M.toArray.size=8 from aq];kernel_rfl
   have b6:Y.size=M.toArray.size:=by rw[cq];exact aq.symm
   have b7:=Dp ai;have dh:=Dp hD;by_cases hc:c=0
   case neg=>
    have tc:(c != 0)=true:=by rw[Fl];exact hc
    have a9:Hid (E=(EU,a,c)):=Dp (by rw[ao.out,Bc hc,show p / 8=a by have:=ab.out;omega]);have bd:=B.res;clear hc b4 hK bh ct ai hD ao
    go_wp2_with (first|(with_reducible refine DA rfl 39 _ _ rfl M.toArray Y 39 rfl rfl bi b6 b5 ?_;rw[b7.out,dh.out])|(with_reducible refine B4 rfl 24 _ _ rfl A _ _ rfl rfl 24 bd al rfl bs ?_;intro wz H I))
    rw[La];refine H5 (Qh rfl _ _ A 24 _ (0,0) _ rfl H Ph rfl al) rfl ?_;rw[a9.out];exact⟨_,rfl,br.out _,B.bad I⟩
   subst hc;have tc:((0:Int) != 0)=false:=rfl;obtain⟨b8,a1,-⟩:=b1.out rfl;have hk:=c0.out;rw[b8] at hk;have b9:=Z9 hk;have bj:=(kN (wV s.data.toList) hk).2.2.2.2.2.2.1;rw[BO,aa.out] at bj;have c2:Hid (F6 ctk s.data.toList (65-(done++[S]).length) q2 (done++[S])=E):=Dp (by
    rw[ao.out,Bb (by decide),B9,show 65-(done.length + [S].length)=64-done.length by simp])
   have ca:=bh.below ap;obtain⟨Q,hQ⟩:=Ah w6.heap.size;obtain⟨wQ,ar⟩:=Ah (w6.alloc (.cells M.toArray 39 (0,0)));have au:Below w6.heap.size w6 wQ:=by rw[<-ar];exact(Dq _ w6).alloc (Ba _) _
   have cb:wQ.heap[Q]? =some (.cells M.toArray 39 (0,0)):=by rw[<-ar,<-hQ];exact heap_alloc_new w6 _
   have a2:=B.below au;have cc:=ca.below au;have c4:=(hK.below ap).below au;have cd:∀(j:Nat) u,M[j]? =some u->wQ.cell? ⟨Q,j,none⟩=some u:=fun j u hu=>AA cb hu;have k6:=AA (o:=0) B.loc rfl;obtain⟨ri,rz,j0,j1,j2,j3,j4⟩:=dZ;have C:=Dp a2;have bk:=Dp cc;have dr:=Dp hQ;have c5:=Dp ar;have c6:=Dp cd;have c7:=Dp b9;have c8:=Dp bj
   have ce:=Dp a1;clear b8 hk b9 bj bh ca ap hQ ar au cb a2 cc cd ct ai hD ao c0 hK B a0 d g b3 bg b2 i m a1 k0
   go_wp2_with (first|(with_reducible refine DA rfl 39 _ _ rfl M.toArray Y 39 rfl rfl bi b6 b5 ?_;rw[b7.out,dh.out])|(with_reducible refine Mt rfl 39 _ rfl D rfl 39 M.toArray (0,0) _ b4 Oa rfl bi ?_)|(with_reducible refine WE rfl _ rfl M aq rfl ?_;rw[c5.out,dr.out])|(at_builtin;refine S1 (V:=ShK ((Value.slice q done.length cap).ownBlock::GF n) wQ) (w:=wQ) (c:=8) (bytes:=96) (base:=n) (v:=.slice q done.length cap) (l:=done) (y:=S) (vs:=M) (K:=Q) (cap:=1) rfl rfl underlying22 j0 j1 j2 j3 j4 (by decide) ?d1 ?d2 C.out.own c4 aq c1 c6.out ?d3 ?d4 C.out.ord.2.2 ?_;(case d1=>kernel_rfl);(case d2=>kernel_rfl);(case d3=>(unfold maxLen;omega));(case d4=>omega);intro q9 cf w9 da cg db;have ch:=(cg.block (A+1) (by have:=C.out.ord;omega) fun e=>by have:=AX.fresh C.out.own _ e.symm;have:=C.out.ord;omega).trans C.out.loc;have c9:=AA (o:=0) ch rfl;have f9:=AZ (o:=0) ch))
   obtain⟨a3,dc⟩:=C.out.app da cg db;have dd:AI _ rb s q2:=⟨(dc.block rb bk.out.lt (fun hm=>by
    rcases Ei.1 hm with e|e
    ·have:=AX.fresh C.out.own _ e.symm;have:=bq.out;omega
    ·have e:=Dk.1 e;injection e with e;have:=bq.out;omega)).trans bk.out.1,bk.out.2⟩
   have kZ:=AA (o:=0) a3.loc rfl
   go_roundw
   case rel=>exact⟨q2,.slice q9 (done.length+1) cf,done++[S],a3,dd,by rw[B9];have:=ce.out;simp;omega,c8.out,c7.out,c2⟩
   case measure=>
    rw[dn.out,kZ];show 65-(done.length+1)<65-done.length;have:=ce.out;omega
theorem pF {l:List ShP}{i:Nat}(hi:i<l.length):DG [] (l.take (i+1))=DI (DG [] (l.take i)) l[i]:=by rw[Be hi,yZ]
theorem pJ {l:List ShP}{F:Bool}(i:Nat)(h:2097152<(DG [] (l.take i)).length):2097152<(BG l F).length:=by
 have h1:=lL (l.take i) (l.drop i) F;rw[Bs] at h1;omega
theorem wT (l:List ShP)(F:Bool):(if F then LJ (DG [] l) else DG [] l)=BG l F:=by
 cases F with
 |false=>exact S9 l
 |true=>exact Qei l
set_option maxRecDepth 100000 in
theorem aU {u w:A5}{T:StrP}{vs:List A0}(hT:MZ u T vs)(ht:Ybw u.heap.size u)(hu:Below u.heap.size u w):
  A9 prog 16 #[.agg vs.toArray] w fun e w'=>e=.returned (.tuple #[.string ⟨(IQ T).1.toArray⟩,.int .i64 (IQ T).2])/\Below w.heap.size w w':=by
 have ap:=fun(x:A5) (hx:Below u.heap.size u x)=>mA hT ht hx;have p:=bP (T:=T);have a:=Qgk (T:=T);have f:=XW (T:=T);have s:=VU (T:=T);obtain⟨⟨q,cap,rfl,aq,ar,au⟩,av⟩:=hT;obtain⟨l,F⟩:=T;dsimp only at *;unfold maxLen at ar;obtain⟨D,hD⟩:=Ah w.heap.size;obtain⟨A,hA⟩:=Ah ([Value.slice q l.length cap,.bool F].toArray)
 obtain⟨t,y⟩:=Ah (w.alloc (.cells A 24 (0,0)));have E:Below w.heap.size w t:=by rw[<-y];exact(Dq _ w).alloc (Ba _) _
 have aw:t.heap.size=D+1:=by rw[<-y,<-hD];simp
 have ag:t.heap[D]? =some (.cells A 24 (0,0)):=by rw[<-y,<-hD];exact heap_alloc_new w _
 have O:Hid (∀x,Below (D+1) t x->x.heap[D]? =some (.cells A 24 (0,0))/\x.cell? ⟨D,0,none⟩=some (.slice q l.length cap)/\x.cell? ⟨D,1,none⟩=some (.bool F)/\Below w.heap.size w x/\Below u.heap.size u x):=Dp fun x hx=>by
  have h1:=(hx.block D (by omega)).trans ag;have h2:=h1;rw[<-hA] at h2;exact⟨h1,AA (o:=0) h2 rfl,AA (o:=1) h2 rfl,E.trans (hx.mono (by omega)),hu.trans ((E.trans (hx.mono (by omega))).mono hu.size)⟩
 have bi:(prog.info? 24).map (·.size)=some A.size:=by rw[<-hA];kernel_rfl
 have ax:Below (D+1) t t:=Dq _ _;have c1:=ap t (O.out _ ax).2.2.2.2;rw[hA] at c1 ⊢;obtain⟨er,ay⟩:=Ah (DP ⟨l,F⟩);rw[ay] at c1 p a f s;obtain⟨b7,az⟩:=Ah (IQ ⟨l,F⟩);rw[az] at p a f ⊢;have bj:=Dp y;have b4:=Dp hD;have P:=Dp aw;have Z:=Dp p;have G:=Dp a;have bk:=Dp f
 have aa:=Dp s;have bl:=Dp au;have b8:=Dp ht;have bm:=Dp av;have b9:=Dp hu.size;clear y hD E aw p a f s au ht av ay az hA ap hu
 go_enter func16,ntmps16
 go_wp2_with (rw[bj.out,b4.out];with_reducible refine Mt rfl 24 _ rfl D rfl 24 A (0,0) _ ag Ph rfl bi ?_)
 refine c1.mono ?_;rintro e w2 ⟨rfl,ah⟩;have g:Below (D+1) t w2:=ah.mono (by have:=P.out;omega);clear c1 ag ax;by_cases he:er=0
 case neg=>
  have tn:(er != 0)=true:=by rw[Fl];exact he
  have N:=Dp (Z.out he);have hE:=(O.out _ g).2.2.2.1;clear he ah
  go_wp2
  go_ret2
  exact⟨by rw[N.out];rfl,hE⟩
 subst he;have tn:((0:Int) != 0)=false:=rfl;obtain⟨⟨bn,a0⟩,a1⟩:=aa.out (by trivial);have a2:=Dp (SV a1);obtain⟨b,L⟩:=Ah w2.heap.size;obtain⟨w3,H⟩:=Ah (w2.alloc GS);have ab:AQ w3 (b+1) b []:=by rw[<-H];exact AQ.fresh L (O4 _)
 have ac:Below w2.heap.size w2 w3:=by rw[<-H];exact(Dq _ w2).alloc (Ba _) _
 have bo:w3.heap.size=b+1:=by rw[<-H,<-L];simp
 have ca:D+1<=b:=by have h1:=g.size;have h2:=P.out;omega
 have bp:u.heap.size<=b:=by have:=(O.out _ g).2.2.2.2.size;omega
 have I:Below (D+1) t w3:=g.trans (ac.mono (by omega));have k0:=(O.out _ I).2.1;obtain⟨n,hn⟩:=Ah l.length;have b5:=Dp hn;rw[hn] at O k0 bn a0;have bq:=Dp H;have cb:=Dp L;obtain⟨Y,br,cc⟩:=TB;clear H L ac hn ah g aa Z a1 ar aq
 go_wp2_with fail
 refine(Ru _).mono ?_;rintro e x ⟨rfl,rfl⟩;rw[bq.out,cb.out]
 go_wp2
 clear k0 tn
 go_loopw [17] (fun z wr=>∃i:Nat,i<=n/\z=.int .i64 (i:Int)/\AQ wr (b+1) b (DG [] (l.take i))/\(DG [] (l.take i)).length<=2097152/\b+1<=wr.heap.size/\Below (D+1) t wr) (fun z _=>n-(intOf z).toNat)
 case atStart=>exact⟨0,Ds _,rfl,ab,Ds _,by omega,I⟩
 case round=>
  clear ab I bo;obtain⟨i,hi,rfl,m,ad,hz,L⟩:=hrel;by_cases a3:i<n
  ·have t0:decide ((i:Int)<(n:Int))=true:=by simp;omega
   have t1:decide (i<n)=true:=by simpa using a3
   have Q:i<l.length:=by rw[b5.out];exact a3
   obtain⟨-,-,-,-,a4⟩:=O.out _ L;obtain⟨b1,o1,rfl,E,ae⟩:=CD.each bl.out (by omega);obtain⟨M,U,a5⟩:=ae i Q;have ai:=U.shape.1;have bs:=U.ones;have a6:=bm.out l[i] (Bn Q);have a7:=a2.out l[i] (Bn Q);obtain⟨C,hC⟩:=Ah wr.heap.size;obtain⟨wC,J⟩:=Ah (wr.alloc (.cells M.toArray 39 (0,0)))
   have bt:wC.heap.size=C+1:=by rw[<-J,<-hC];simp
   have aj:Below wr.heap.size wr wC:=by rw[<-J];exact(Dq _ wr).alloc (Ba _) _
   have af:wr.rangeAt b1 (o1+i*8) M:=fun k v hk=>a5 wr a4 k v hk;have a8:wC.heap[C]? =some (.cells M.toArray 39 (0,0)):=by rw[<-J,<-hC];exact heap_alloc_new wr _
   have r:=L.trans (aj.mono (by have:=L.size;have:=P.out;omega));have a9:(prog.info? 39).map (·.size)=some M.toArray.size:=by rw[show M.toArray.size=8 from ai];kernel_rfl
   have bu:Y.size=M.toArray.size:=by rw[br];exact ai.symm
   have c2:=kR (u:=u) (w:=wC) (B:=b+1) (b:=b) (S:=l[i]) (vs:=M) ⟨U,a6⟩ b8.out (O.out _ r).2.2.2.2 bp (by omega) (m.below aj) (by omega) a7;rw[<-pF Q] at c2;obtain⟨ao,V⟩:=Ah (DG [] (l.take (i+1)));rw[V] at c2;have ak:=Dp (fun(h:2097152<ao.length)=>(G.out (by trivial) (pJ (F:=F) (i+1) (by rw[V];exact h)):b7=([],13)));have ba:=Dp V
   have bv:=Dp J;have b6:=Dp hC;clear J hC a5 U a6 a7 a4 E ae m ad V aj
   go_wp2_with (first|(with_reducible refine PZ rfl _ rfl b1 (o1+i*8) rfl M af ai ?_)|(with_reducible refine DA rfl 39 _ _ rfl M.toArray Y 39 rfl rfl a9 bu bs ?_;rw[bv.out,b6.out])|(with_reducible refine Mt rfl 39 _ rfl C rfl 39 M.toArray (0,0) _ a8 Oa rfl a9 ?_))
   refine c2.mono ?_;rintro e w4 ⟨rfl,K,al⟩;have bb:Below (D+1) t w4:=r.grown al (by have:=r.size;have:=P.out;omega) (fun j hj=>by injection hj with hj;omega);have bw:b+1<=w4.heap.size:=by have:=al.size;have:=b6.out;omega
   clear c2 al a8 af r bt hz L
   go_wp2_with fail
   refine(WM _ _ _ _ K).mono ?_;rintro e x ⟨rfl,rfl⟩;by_cases c:2097152<ao.length
   ·have t3:decide (2097152<(ao.length:Int))=true:=by simp;omega
    have t4:decide (2097152<ao.length)=true:=by simpa using c
    have N:=Dp (ak.out c);have hE:=(O.out _ bb).2.2.2.1;clear c ak
    go_wp2
    go_ret2
    exact⟨by rw[N.out];rfl,hE⟩
   ·have t3:decide (2097152<(ao.length:Int))=false:=by simp;omega
    have t4:decide (2097152<ao.length)=false:=by simpa using c
    have bc:(DG [] (l.take (i+1))).length<=2097152:=by rw[ba.out];omega
    have bx:AQ w4 (b+1) b (DG [] (l.take (i+1))):=by rw[ba.out];exact K
    have bz:=Dp bc;clear c ak K bc
    go_wp2
    go_roundw
    case rel=>exact⟨i+1,by omega,by go_num,bx,bz.out,bw,bb⟩
    case measure=>simp[intOf];omega
  ·obtain rfl:i=n:=by omega
   have t0:decide ((i:Int)<(i:Int))=false:=by simp
   have t1:decide (i<i)=false:=by simp
   have bd:l.take i=l:=Bk (by have:=b5.out;omega);rw[bd] at m ad;obtain⟨-,-,k1,hE,-⟩:=O.out _ L;have d:=wT l F;obtain⟨R,hR⟩:=Ah (BG l F);have a:=G.out (by trivial);have f:=bk.out (by trivial);rw[hR] at d a f;have bf:R.length<=3000000:=by
    rw[<-d];have:=Y31 (DG [] l);cases F <;> simp <;> omega
   have am:=Dp a;have b0:=Dp f;have W:=Dp d;have b2:=Dp bf;clear a f hR bd d bf;cases F
   case' false=>
    have an:AQ wr (b+1) b R:=by
     have h:DG [] l=R:=W.out;rw[<-h];exact m
    have X:=hE;clear m W
    go_wp2_with fail
   case' true=>
    have bg:LJ (DG [] l)=R:=W.out;have c3:=Z2 m (by omega) hz;rw[bg] at c3;clear m W bg
    go_wp2_with fail
    refine c3.mono ?_;rintro e w5 ⟨rfl,an,bh⟩;have X:Below w.heap.size w w5:=hE.grown bh hE.size (fun j hj=>by injection hj with hj;have:=b4.out;omega);clear c3 bh
    go_wp2_with fail
   all_goals
    refine(WM _ _ _ _ an).mono ?_;rintro e x ⟨rfl,rfl⟩;by_cases c:2097152<R.length
    ·have t3:decide (2097152<(R.length:Int))=true:=by simp;omega
     have t4:decide (2097152<R.length)=true:=by simpa using c
     have N:=Dp (am.out c);clear c am b0
     go_wp2
     go_ret2
     exact⟨by rw[N.out];rfl,X⟩
    ·have t3:decide (2097152<(R.length:Int))=false:=by simp;omega
     have t4:decide (2097152<R.length)=false:=by simpa using c
     have N:=Dp (b0.out (by omega));clear c am b0
     go_wp2_with fail
     refine(WH _ _ _ _ an (by have:=b2.out;omega)).mono ?_;rintro e w6 ⟨rfl,b3⟩
     go_wp2
     go_ret2
     exact⟨by rw[N.out];rfl,X.trans (b3.mono X.size)⟩
theorem jH (ct:CelT):JU ct []=(EU,0,2):=by
 unfold JU;rw[Bb (by decide)];exact Td 64 rfl
def GR:StrP:=⟨[exS1],true⟩
theorem nT:DP GR=0/\(BG GR.sheets GR.fin).length<=2097152:=by decide +kernel
set_option maxRecDepth 100000 in
theorem zQ (w:A5):A9 prog 19 #[] w fun e w'=>∃vs:List A0,e=.returned (.agg vs.toArray)/\MZ w' GR vs/\Below w.heap.size w w':=by
 obtain⟨N,hN⟩:=Ah w.heap.size;obtain⟨Y,ac,a2⟩:=Pr;obtain⟨a0,I,a3⟩:=UC;have ad:=Sa;obtain⟨A,J⟩:=Ah ((AJ exSA nilS).toArray);obtain⟨Z,hZ⟩:∃Z:Array A0,#[.slice none 0 0,.bool false]=Z:=⟨_,rfl⟩;obtain⟨wz,K,g,r,s⟩:=OX w (.cells Z 24 (0,0));obtain⟨w0,L,b,M,t⟩:=OX wz (.cells A 77 (0,0))
 obtain⟨w1,O,d,u,y⟩:=OX w0 (.cells (AJ exSA nilS++AJ exSA nilS).toArray 77 (0,0));rw[hN] at g r s;rw[g] at b M t;rw[b] at d u y;have b:w0.heap.size=N+2:=b;have d:w1.heap.size=N+3:=d;obtain⟨w2,P,f,Q,z⟩:=OX w1 (.cells #[.bool false,.int .i64 0,.int .i64 0,.slice (some ⟨N+2,0,none⟩) 2 2] 46 (0,0))
 obtain⟨w3,R,a,B,C⟩:=OX w2 (.cells #[.bool false,.int .i64 0,.int .i64 0,.slice (some ⟨N+2,0,none⟩) 2 2,.bool false,.int .i64 0,.int .i64 0,.slice (some ⟨N+2,0,none⟩) 2 2] 46 (0,0));obtain⟨zs,l⟩:∃zs:List A0,[.int .i64 0,.int .i64 0,.int .i64 6,.bool false,.int .i64 5,.slice none 0 0,.slice (some ⟨N+4,0,none⟩) 2 2,.int .i64 0]=zs:=⟨_,rfl⟩
 obtain⟨m,T,n,D,E⟩:=OX w3 (.cells zs.toArray 39 (0,0));rw[d] at f Q z;rw[f] at a B C;rw[a] at n D E;have f:w2.heap.size=N+4:=f;have a:w3.heap.size=N+5:=a;have n:m.heap.size=N+6:=n;have F:Below (N+5) w3 m:=E;have U:Below (N+4) w2 m:=C.trans (F.mono (by omega));have G:Below (N+3) w1 m:=z.trans (U.mono (by omega))
 have V:Below (N+2) w0 m:=y.trans (G.mono (by omega));have H:Below (N+1) wz m:=t.trans (V.mono (by omega));have W:Below N w m:=s.trans (H.mono (by omega));have ae:=(H.block N (by omega)).trans r;have p:(Lit.int .i64 exSA.mx).wf=true/\(Lit.int .i64 exSA.my).wf=true:=by decide
 have af:=Dp (fun(x:A5) (hx:m.grownBy x (some N))=>(by
  have blk:∀k,k<N+6->k≠N->x.heap[k]? =m.heap[k]?:=fun k hk hn=>hx.block k (by omega) (fun e=>by injection e with e;exact hn e);have hC:LS x (some ⟨N+2,0,none⟩) [exSA,exSA]:=bZ p p (fun _ _=>rfl) (fun _ _=>rfl) ((blk (N+2) (by omega) (by omega)).trans ((G.block (N+2) (by omega)).trans u))
  have ag:H0 x (some ⟨N+4,0,none⟩) exS1.rows:=gL ((blk (N+4) (by omega) (by omega)).trans ((F.block (N+4) (by omega)).trans B)) rfl rfl hC hC;have h5:x.heap[N+5]? =some (.cells zs.toArray 39 (0,0)):=(blk (N+5) (by omega) (by omega)).trans D;have hV:ShV x exS1 zs:=⟨none,some ⟨N+4,0,none⟩,0,2,l.symm,Ds _,(by decide),CA.nil _ _,ag⟩
  refine⟨⟨⟨some ⟨N+5,0,none⟩,1,rfl,Ba _,(by decide),.inr ⟨N+5,0,rfl,by have:=hx.size;omega,fun i hi=>?_⟩⟩,fun S hS=>?_⟩,W.grown hx (by omega) (fun j hj=>by injection hj with hj;omega)⟩
  ·obtain rfl:i=0:=by simpa [GR] using hi
   exact⟨zs,hV,fun j v hj=>by have h:=AA (o:=j) h5 hj;simpa using h⟩
  ·obtain rfl:S=exS1:=by simpa [GR] using hS
   refine⟨by decide,fun c hc k _=>?_⟩;have:c=exSA:=by simpa [C2,exS1] using hc
   subst this;exact Ds _:MZ x GR [.slice (some ⟨N+5,0,none⟩) 1 1,.bool true]/\Below N w x))
 have X:(prog.info? 77).map (·.size)=some A.size:=by rw[<-J];exact Ql _ _
 have ah:Y.size=A.size:=by rw[ac,<-J];rfl
 have ai:A.all (·.oneCell')=true:=by rw[<-J];exact QP (T6 w exSA p fun _ _=>rfl)
 have aa:(prog.info? 46).map (·.size)=some (#[.bool false,.int .i64 0,.int .i64 0,.slice (some ⟨N+2,0,none⟩) 2 2]:Array A0).size:=by kernel_rfl
 have aj:a0.size=(#[.bool false,.int .i64 0,.int .i64 0,.slice (some ⟨N+2,0,none⟩) 2 2]:Array A0).size:=by rw[I];rfl
 have ak:(#[.bool false,.int .i64 0,.int .i64 0,.slice (some ⟨N+2,0,none⟩) 2 2]:Array A0).all (·.oneCell')=true:=by simp[Value.oneCell']
 have ab:(prog.info? 24).map (·.size)=some (#[.slice (some ⟨N+5,0,none⟩) 1 1,.bool true]:Array A0).size:=by kernel_rfl
 have al:Z.size=(#[.slice (some ⟨N+5,0,none⟩) 1 1,.bool true]:Array A0).size:=by rw[<-hZ];rfl
 have am:(#[.slice (some ⟨N+5,0,none⟩) 1 1,.bool true]:Array A0).all (·.oneCell')=true:=by simp[Value.oneCell']
 have an:zs.length=8:=by rw[<-l];rfl
 rw[hZ] at ad;have ao:=Dp J;have a1:=Dp hN;have ap:Hid ((#[.int .i64 0,.int .i64 0,.int .i64 6,.bool false,.int .i64 5,.slice none 0 0,.slice (some ⟨N+4,0,none⟩) 2 2,.int .i64 0]:Array A0)=zs.toArray):=Dp (by rw[<-l]);have aq:=Dp K;have ar:=Dp L;have au:=Dp O;have av:=Dp P;have aw:=Dp R;have ax:=Dp T;have a4:=Dp g
 have a5:=Dp d;have a6:=Dp a;clear J hN l K L O P R T u B D t y z C E F U G V H W p r s hZ f n g a
 go_enter func19,ntmps19
 go_wp2_with (first
  |(with_reducible refine Pj rfl 77 _ rfl (some 4) rfl (AJ exSA nilS).toArray (by kernel_rfl) ?_;rw[ao.out,aq.out])
  |(with_reducible refine DA rfl 77 _ _ rfl A Y 77 rfl rfl X ah ai ?_;rw[ar.out,a4.out,a1.out])
  |(with_reducible refine Mt rfl 77 _ rfl (N+1) rfl 77 A (0,0) _ M Mu rfl X ?_)
  |(with_reducible refine qS rfl _ _ rfl exSA exSA nilS nilS (N+2) b 7 rfl ?d1 ?d2 ?_;(case d1=>(rw[ao.out];kernel_rfl));(case d2=>(rw[ao.out];kernel_rfl));rw[au.out])
  |(with_reducible refine Pj rfl 46 _ rfl (some 8) rfl #[.bool false,.int .i64 0,.int .i64 0,.slice (some ⟨N+2,0,none⟩) 2 2] (by kernel_rfl) ?_)
  |(with_reducible refine Ys0 rfl 46 _ _ rfl #[.bool false,.int .i64 0,.int .i64 0,.slice (some ⟨N+2,0,none⟩) 2 2] a0 46 (N+3) a5.out rfl rfl aa aj ak ?_;rw[av.out])
  |(with_reducible refine Mt rfl 46 _ rfl (N+3) rfl 46 #[.bool false,.int .i64 0,.int .i64 0,.slice (some ⟨N+2,0,none⟩) 2 2] (0,0) _ Q O6 rfl aa ?_)
  |(with_reducible refine Pj rfl 39 _ rfl (some 12) rfl #[.int .i64 0,.int .i64 0,.int .i64 6,.bool false,.int .i64 5,.slice none 0 0,.slice (some ⟨N+4,0,none⟩) 2 2,.int .i64 0] (by kernel_rfl) ?_;rw[ap.out,aw.out])
  |(with_reducible refine WE rfl _ rfl zs an rfl ?_;rw[ax.out,a6.out])
  |(with_reducible refine Pj rfl 24 _ rfl (some 14) rfl #[.slice (some ⟨N+5,0,none⟩) 1 1,.bool true] (by kernel_rfl) ?_)
  |(with_reducible refine B4 rfl 24 _ _ rfl N (#[.slice (some ⟨N+5,0,none⟩) 1 1,.bool true]) Z rfl rfl 24 ae ab al am ?_;intro wq ay az))
 have q:=af.out _ az;exact H5 (H6 rfl _ _ N 24 _ (0,0) _ rfl ay Ph rfl ab) rfl ⟨_,rfl,q.1,by rw[a1.out];exact q.2⟩
set_option maxRecDepth 100000 in
theorem qA (w:A5)(ht:Ybw w.heap.size w):A9 prog 9 #[] w fun e G=>e=.returned (.bool true)/\Below w.heap.size w G:=by
 have H:=Sa;have z:=Dp (fun(x:A5) (b:Below w.heap.size w x)=>(by
  have h:=ht.below b;exact Ybw.here h.pats h.mvd h.steps h.tcoef:Ybw x.heap.size x))
 have c1:=WG (s:=⟨#[]⟩) (z.out w (Dq _ _)) (by decide);unfold Rv at c1;rw[show ((⟨#[]⟩:ByteArray).data.toList)=[] from rfl,show JU ctk []=(EU,0,2) from jH ctk] at c1;obtain⟨B,c⟩:=nT;have F:=XW B c;have C:=Q6 GR.sheets GR.fin;obtain⟨T,f,g⟩:=iD (l:=BM (BG GR.sheets GR.fin)) (cX _) B (by omega) aX;obtain⟨i,j⟩:=yN g
 obtain⟨P,A⟩:∃P:ByteArray,⟨(BM (BG GR.sheets GR.fin)).toArray⟩=P:=⟨_,rfl⟩;have k:P.data.toList=BM (BG GR.sheets GR.fin):=by rw[<-A]
 have m:P.size<=140737488355328:=by rw[<-A,HX];omega
 have I:=Dp (fun(x:A5) (b:Below w.heap.size w x) (vs:List A0) (hv:MZ x GR vs)=>(by
  have h:=aU hv (z.out x b) (Dq _ x);rw[F] at h;dsimp only at h;rw[A] at h;exact h:A9 prog 16 #[.agg vs.toArray] x fun e y=>e=.returned (.tuple #[.string P,.int .i64 0])/\Below x.heap.size x y))
 have J:=Dp (fun(x:A5) (b:Below w.heap.size w x)=>(by
  have h:=WG (s:=P) (z.out x b) m;unfold Rv at h;rw[k,f] at h;refine h.mono fun e y h=>?_;obtain⟨vs,K,⟨q,cap,n,-⟩,L⟩:=h;rw[i,j] at n;exact⟨q,cap,by rw[K,n];rfl,L⟩:A9 prog 14 #[.string P] x fun e y=>∃(q:Option Aa) (cap:Nat),e=.returned (.tuple #[.agg #[.slice q 1 cap,.bool true],.int .i64 0,.int .i64 0])/\Below x.heap.size x y))
 have o:=Dp (fun(x y:A5) (b:Below w.heap.size w x) (M:Below x.heap.size x y)=>(b.trans (M.mono b.size):Below w.heap.size w y));clear ht F C f g i j A k m B c z
 go_enter func9,ntmps9
 go_wp2_with fail
 refine c1.mono ?_;rintro e N ⟨vs,rfl,⟨q,cap,rfl,-⟩,D⟩;clear c1;have p:=o.out _ _ D ((Dq _ N).alloc (Ba _) (.cells #[.slice q 0 cap,.bool false] 24 (0,0)))
 go_wp2_with fail
 refine(zQ _).mono ?_;rintro e U ⟨O,rfl,r,t⟩;have a:=o.out _ _ p t;clear p t;have c2:=I.out _ a O r
 go_wp2_with fail
 refine c2.mono ?_;rintro e V ⟨rfl,u⟩;have d:=o.out _ _ a u;clear c2 a u r
 go_wp2_with fail
 refine(J.out _ d).mono ?_;rintro e Q ⟨R,v,rfl,E⟩;have S:=o.out _ _ (o.out _ _ d E) ((Dq _ Q).alloc (Ba _) (.cells #[.slice R 1 v,.bool true] 24 (0,0)))
 go_wp2
 go_ret
 exact⟨rfl,S⟩
theorem K4.size {w:A5}{T:StrP}{vs:List A0}(h:K4 w T vs):(prog.info? 24).map (·.size)=some vs.toArray.size:=by
 obtain⟨q,cap,rfl,-⟩:=h
 kernel_rfl
set_option maxRecDepth 100000 in
theorem fV (q:Option Aa)(cap:Nat)(l:List ShP)(i:Nat)(hi:i<l.length)(w:A5)(hl:HG w q l)(hm:l.length<=maxLen):
  A9 prog 23 #[.slice q l.length cap,.int .i64 (i:Int)] w fun e D=>e=.returned (.bool (CR (CM (l.take i)) l[i]))/\Below w.heap.size w D:=by
 unfold maxLen at hm;obtain⟨R,v⟩:=Ah (CR (CM (l.take i)) l[i]);have f:i≠0->(h:i-1<l.length)->R=(!l[i].hd.inter || l[i-1].hd.fmt==l[i].hd.fmt):=fun r h=>by
  have x:(l.take i).length=i:=by rw[Bf];omega
  have h1:=bF (l:=l.take i) (by omega) l[i];rw[v] at h1;rw[h1];simp only[x,Fp]
 have g:i=0->R = !l[i].hd.inter:=fun h=>by rw[<-v];subst h;exact Yc _
 rw[v];clear v;obtain⟨b,o,rfl,s,hc⟩:=hl.at_ (by omega);have d:Below w.heap.size w w:=Dq _ _;obtain⟨I,y,-,a⟩:=hc _ d i hi;obtain⟨z,A,-⟩:=y.parts;have c3:=a 3 _ A;have c2:=a 2 _ z;have t1:decide ((i:Int)<(l.length:Int))=true:=by simp;omega
 have t2:i<l.length:=hi;by_cases r:i=0
 ·have hF:=g r;subst r;generalize (l[0]).hd.inter=it at hF c3;clear hc y a hl hm g f z A s c2;generalize l.length=n at *;cases it with
  |false=>
   have F:=Dp (show R=true by rw[hF];rfl);clear hF
   go_enter func23,ntmps23
   go_wp2
   go_ret
   exact⟨AH F.out.symm,d⟩
  |true=>
   have F:=Dp (show R=false by rw[hF];rfl);have j:=d.drew;clear hF
   go_enter func23,ntmps23
   go_wp2
   go_region
   go_wp2
   go_ret
   exact⟨AH F.out.symm,j⟩
 ·obtain⟨G,t,-,c⟩:=hc _ d (i-1) (by omega);have B:=c 2 _ t.parts.1;have hF:=f r (by omega);obtain⟨m,u⟩:=Ah (i-1);have J:IntKind.i64.wrap ((i:Int)-1)=(m:Int):=by rw[CL (by omega)];omega
  have t3:decide ((m:Int)<(l.length:Int))=true:=by simp;omega
  have t4:m<l.length:=by omega
  have t0:0<i:=by omega
  have t5:decide (0<i)=true:=by simpa using t0
  obtain⟨H,p⟩:=Ah (l[i-1]'(by omega));obtain⟨E,C⟩:=Ah (l[i]);rw[p,C] at hF;rw[p,u] at B;rw[C] at c2 c3;clear C p u hc y t a c hl hm s z A g f;generalize H.hd.fmt=f1 at *;generalize E.hd.inter=it at *;generalize E.hd.fmt=k at *;generalize l.length=n at *;clear hi r;cases it with
  |false=>
   have F:=Dp (show R=true by rw[hF];rfl);clear hF
   go_enter func23,ntmps23
   go_wp2
   go_ret
   exact⟨AH F.out.symm,d⟩
  |true=>
   have F:=Dp (show R=(f1==k) by rw[hF];rfl);have j:=d.drew;clear hF
   go_enter func23,ntmps23
   go_wp2
   go_region
   go_wp2
   go_ret
   exact⟨AH F.out.symm,j⟩
theorem pV {u w:A5}{S:ShP}{vs:List A0}(c:OG u S vs)(hm:(C2 S).length<=1048576)(b:Below u.heap.size u w):A9 prog 22 #[.agg vs.toArray] w fun e d=>e=.returned (.int .i64 (C4 S))/\Below w.heap.size w d:=by
 obtain⟨⟨p,q,ca,cb,rfl,hl,hn,hs,hr⟩,-,a⟩:=c;exact yD S p q ca cb w hl hn (hs.below b) (hr.below b) hm a
set_option maxRecDepth 100000 in
theorem rK {u w:A5}{T:StrP}{vs:List A0}(hT:MZ u T vs)(hm:∀S∈T.sheets,(C2 S).length<=1048576)(hu:Below u.heap.size u w):
  A9 prog 11 #[.agg vs.toArray] w fun e w'=>e=.returned (.int .i64 (DP T))/\Below w.heap.size w w':=by
 obtain⟨⟨q,cap,rfl,-,E,M⟩,O⟩:=hT;obtain⟨l,F⟩:=T;dsimp only at *;have s:=E;unfold maxLen at E;obtain⟨R,hR⟩:=Ah (DP ⟨l,F⟩);rw[hR];obtain⟨D,Z⟩:=Ah w.heap.size;obtain⟨g,c⟩:=Ah (w.alloc (.cells #[.slice q l.length cap,.bool F] 24 (0,0)));have d:Below w.heap.size w g:=by rw[<-c];exact(Dq _ w).alloc (Ba _) _
 have aa:g.heap.size=D+1:=by rw[<-c,<-Z];simp
 have P:g.heap[D]? =some (.cells [Value.slice q l.length cap,.bool F].toArray 24 (0,0)):=by rw[<-c,<-Z];exact heap_alloc_new w _
 have j:Hid (∀x,Below (D+1) g x->x.cell? ⟨D,0,none⟩=some (.slice q l.length cap)/\Below w.heap.size w x/\Below u.heap.size u x):=Dp fun x t=>
  ⟨AA (o:=0) ((t.block D (by omega)).trans P) rfl,d.trans (t.mono (by omega)),hu.trans ((d.trans (t.mono (by omega))).mono hu.size)⟩
 have ai:=Dp (fun(x y:A5) (t:Below (D+1) g x) (hy:Below x.heap.size x y)=>(t.trans (hy.mono (by have:=t.size;omega)):Below (D+1) g y));have G:Below (D+1) g g:=Dq _ _;obtain⟨H,m,-⟩:=j.out _ G;have ab:=Dp hR;have p:=Dp c;have ac:=Dp Z;have r:=Dp M;have ad:=Dp O;have al:=Dp hm;have ae:=Dp s
 clear hR c d aa P Z M O hm s hu;by_cases a:l.length=0\/64<l.length
 ·have aj:=Dp (show R=12 by rw[<-ab.out];unfold DP;exact Bc a);generalize l.length=n at *;by_cases h0:n=0
  ·subst h0;clear a r j
   go_enter func11,ntmps11
   go_wp2_with (rw[p.out,ac.out])
   go_ret
   exact⟨by rw[aj.out];rfl,m⟩
  ·have t0:((n:Int)==0)=false:=by rw[Fg];omega
   have t1:decide (64<(n:Int))=true:=by simp;omega
   have t2:decide (64<n)=true:=by simp;omega
   clear a r j
   go_enter func11,ntmps11
   go_wp2_with (rw[p.out,ac.out])
   go_ret
   exact⟨by rw[aj.out];rfl,m⟩
 have I:=Dp (show R=CZ none l by rw[<-ab.out];unfold DP;exact Bb a);obtain⟨n,hn⟩:=Ah l.length;have af:=Dp hn;rw[hn] at a E j H;have t0:((n:Int)==0)=false:=by rw[Fg];omega
 have t1:decide (64<(n:Int))=false:=by simp;omega
 have t2:decide (64<n)=false:=by simp;omega
 rw[hn] at p;rw[hn];clear hn ab m
 go_enter func11,ntmps11
 go_wp2_with (rw[p.out,ac.out])
 clear H t0 t1 t2
 go_loopw [3] (fun z wr=>∃i:Nat,i<=n/\z=.int .i64 (i:Int)/\Hid (CZ none (l.take i)=0)/\Below (D+1) g wr) (fun z _=>n-(intOf z).toNat)
 case atStart=>exact⟨0,Ds _,rfl,Dp rfl,G⟩
 case round=>
  clear G;obtain⟨i,hi,rfl,ha,hb⟩:=hrel;by_cases Q:i<n
  ·have t0:decide ((i:Int)<(n:Int))=true:=by simp;omega
   have t1:decide (i<n)=true:=by simpa using Q
   have f:i<l.length:=by rw[af.out];exact Q
   obtain⟨b1,o1,rfl,d,A⟩:=CD.each r.out (by omega);obtain⟨xs,J,U⟩:=A i f;obtain⟨H,ag,K⟩:=j.out _ hb;have ah:=J.shape.1;have B:wr.rangeAt b1 (o1+i*8) xs:=fun k v hk=>U wr K k v hk;have c1:=pV (w:=wr) ⟨J,ad.out l[i] (Bn f)⟩ (al.out l[i] (Bn f)) K;have ak:=Dp (fun(x:A5) (t:Below (D+1) g x)=>(by
    have h:=fV (some ⟨b1,o1,none⟩) cap l i f x (HG.below r.out (j.out x t).2.2) ae.out;rw[af.out] at h;exact h:A9 prog 23 #[.slice (some ⟨b1,o1,none⟩) n cap,.int .i64 (i:Int)] x fun e y=>e=.returned (.bool (CR (CM (l.take i)) l[i]))/\Below x.heap.size x y))
   have L:=Dp (V7 f ha.out);have V:=Dp (Vd (l:=l) (i:=i+1));generalize CR (CM (l.take i)) l[i]=fo at *;generalize C4 l[i]=er at *;clear U ha J ag K d A
   go_wp2_with (with_reducible refine PZ rfl _ rfl b1 (o1+i*8) rfl xs B ah ?_)
   refine c1.mono ?_;rintro e w2 ⟨rfl,W⟩;have b:=ai.out _ _ hb W;clear B c1 H;by_cases X:er=0
   case neg=>
    have tn:(er != 0)=true:=by rw[Fl];exact X
    have N:=Dp (show R=er by
     have h1:=L.out;rw[Bc X] at h1;have h2:=V.out (by rw[h1];exact X);rw[I.out,h2,h1])
    have m:=(j.out _ b).2.1;clear X
    go_wp2
    go_ret
    exact⟨by rw[N.out];rfl,m⟩
   subst X;have tn:((0:Int) != 0)=false:=rfl;have H:=(j.out _ b).1
   go_wp2_with fail
   refine(ak.out _ b).mono ?_;rintro e w3 ⟨rfl,Y⟩;have C:=ai.out _ _ b Y;clear H W Y ak;cases fo with
   |false=>
    have N:=Dp (show R=11 by
     have h1:=L.out;rw[Bb (by decide),Bc rfl] at h1;have h2:=V.out (by rw[h1];decide);rw[I.out,h2,h1])
    have m:=(j.out _ C).2.1
    go_wp2
    go_ret
    exact⟨by rw[N.out];rfl,m⟩
   |true=>
    have N:=Dp (show CZ none (l.take (i+1))=0 by
     have h1:=L.out;rw[Bb (by decide),Bb (by decide)] at h1;exact h1)
    go_wp2
    go_roundw
    case rel=>exact⟨i+1,by omega,by go_num,N,C⟩
    case measure=>simp[intOf];omega
  ·obtain rfl:i=n:=by omega
   have t0:decide ((i:Int)<(i:Int))=false:=by simp
   have t1:decide (i<i)=false:=by simp
   have N:=Dp (show R=0 by
    have h:=ha.out;rw[Bk (by have:=af.out;omega)] at h;rw[I.out,h])
   obtain⟨H,m,-⟩:=j.out _ hb
   go_wp2
   go_ret
   exact⟨by rw[N.out];rfl,m⟩
def NN (l:List ShP):List UInt8:=l.flatMap fun S=>BM (DI [] S)
theorem rS {l:List ShP}{i:Nat}(hi:i<l.length):NN (l.take (i+1))=NN (l.take i)++BM (DI [] l[i]):=by
 unfold NN;rw[Be hi,Oc];simp
theorem pB {r:List UInt8}:(BM r).length<=r.length / 8+1:=by
 rw[QY];omega
theorem uV (S:ShP):GX 0++CV (0+gap 0) S=DI [] S:=rfl
theorem bC (a b:ByteArray):(a++b).data.toList=a.data.toList++b.data.toList:=by rw[ByteArray.data_append,Array.toList_append]
set_option maxRecDepth 100000 in
theorem oC {u w:A5}{T:StrP}{vs:List A0}(hT:MZ u T vs)(h0:DP T=0)(hu:Below u.heap.size u w):
  A9 prog 17 #[.agg vs.toArray] w fun e w'=>e=.returned (.string ⟨(BM (BG T.sheets T.fin)).toArray⟩)/\Below w.heap.size w w':=by
 obtain⟨⟨ai,Q⟩,R⟩:=VU h0;have t:=SV R;obtain⟨⟨q,cap,rfl,-,aj,U⟩,V⟩:=hT;obtain⟨l,F⟩:=T;dsimp only at *;have b:=WX l F;obtain⟨aw,W⟩:=Ah (BM (BG l F));rw[W] at b ⊢;obtain⟨D,hD⟩:=Ah w.heap.size;obtain⟨n,hn⟩:=Ah l.length;rw[hn] at ai Q ⊢;obtain⟨g,c⟩:=Ah (w.alloc (.cells #[.slice q n cap,.bool F] 24 (0,0)))
 have d:Below w.heap.size w g:=by rw[<-c];exact(Dq _ w).alloc (Ba _) _
 have ak:g.heap.size=D+1:=by rw[<-c,<-hD];simp
 have G:g.heap[D]? =some (.cells [Value.slice q n cap,.bool F].toArray 24 (0,0)):=by rw[<-c,<-hD];exact heap_alloc_new w _
 have ax:Hid (∀x,Below (D+1) g x->x.cell? ⟨D,0,none⟩=some (.slice q n cap)/\x.cell? ⟨D,1,none⟩=some (.bool F)/\Below w.heap.size w x/\Below u.heap.size u x):=Dp fun x H=>
  ⟨AA (o:=0) ((H.block D (by omega)).trans G) rfl,AA (o:=1) ((H.block D (by omega)).trans G) rfl,d.trans (H.mono (by omega)),hu.trans ((d.trans (H.mono (by omega))).mono hu.size)⟩
 have ay:=Dp (fun(x y:A5) (H:Below (D+1) g x) (hy:Below x.heap.size x y)=>(H.trans (hy.mono (by have:=H.size;omega)):Below (D+1) g y));have I:Below (D+1) g g:=Dq _ _;have k0:=(ax.out _ I).1;have al:=Dp c;have a0:=Dp hD;have am:=Dp U;have az:=Dp hn;have an:=Dp V;have ao:=Dp t;have A:=Dp b
 clear c d ak G hD U hn V t b W R hu h0 aj
 go_enter func17,ntmps17
 go_wp2_with (rw[al.out,a0.out])
 clear k0
 go_loopw [3,4] (fun a z wr=>∃(i:Nat) (O:ByteArray),a=.string O/\z=.int .i64 (i:Int)/\i<=n/\Hid (O.data.toList=NN (l.take i))/\O.size<=i*20000000/\Below (D+1) g wr) (fun _ z _=>n-(intOf z).toNat)
 case atStart=>exact⟨0,⟨#[]⟩,rfl,rfl,Ds _,Dp rfl,Ds _,I⟩
 case round=>
  clear I;obtain⟨i,O,rfl,rfl,hi,hO,a1,hb⟩:=hrel;obtain⟨k0,k1,j,J⟩:=ax.out _ hb;by_cases X:i<n
  ·have t0:decide ((i:Int)<(n:Int))=true:=by simp;omega
   have t1:decide (i<n)=true:=by simpa using X
   have m:i<l.length:=by rw[az.out];exact X
   obtain⟨b1,o1,rfl,d,B⟩:=CD.each am.out (by omega);obtain⟨xs,K,Y⟩:=B i m;have ap:=K.shape.1;have C:wr.rangeAt b1 (o1+i*8) xs:=fun k v hk=>Y wr J k v hk;have L:=ao.out l[i] (Bn m);have c1:=Qaf 0 ⟨K,an.out l[i] (Bn m)⟩ J L (by omega);rw[uV] at c1;have hm:=SN L [];have hr:=mH (r:=[]) rfl l[i];have M:=rS m
   obtain⟨r,aa⟩:=Ah (DI [] l[i]);rw[aa] at c1 hm hr M;have c2:=fun(x:A5)=>ZR (AV r) (by rw[H8];simp at hm;omega) hr x;have aq:=pB (r:=r);have ab:BM (AV r).data.toList=BM r:=rfl;rw[ab] at c2;obtain⟨P,p⟩:∃P:ByteArray,⟨(BM r).toArray⟩=P:=⟨_,rfl⟩;have ac:P.size=(BM r).length:=by rw[<-p];exact HX _
   have f:P.data.toList=BM r:=by rw[<-p]
   have a2:P.size<=20000000:=by simp at hm;omega
   have ar:Hid ((O++P).data.toList=NN (l.take (i+1))):=Dp (by rw[bC,hO.out,f,M]);have ad:(O++P).size<=(i+1)*20000000:=by rw[ByteArray.size_append];omega
   have ae:O.size+P.size<=2000000000:=by omega
   obtain⟨Z,hZ⟩:=Ah (AV r);rw[hZ] at c1 c2;rw[p] at c2;have au:=Dp ad;clear Y K L hm hr M aa aq ab p ac f hO j J d B hZ ad
   go_wp2_with (with_reducible refine PZ rfl _ rfl b1 (o1+i*8) rfl xs C ap ?_)
   refine c1.mono ?_;rintro e w2 ⟨rfl,af⟩;have E:=ay.out _ _ hb af;clear c1 C k0 hb af
   go_wp2_with fail
   refine(c2 _).mono ?_;rintro e w3 ⟨rfl,s⟩;have ag:=ay.out _ _ E s;clear c2 E s
   go_wp2
   go_roundw
   case rel=>exact⟨i+1,O++P,by first|rfl|go_num,by go_num,by omega,ar,au.out,ag⟩
   case measure=>simp[intOf];omega
  ·obtain rfl:i=n:=by omega
   have t0:decide ((i:Int)<(i:Int))=false:=by simp
   have t1:decide (i<i)=false:=by simp
   have ah:O.data.toList=NN l:=by rw[hO.out,Bk (by have:=az.out;omega)]
   have b:=A.out;rw[show (l.flatMap fun S=>BM (DI [] S))=NN l from rfl,<-ah] at b;have av:=Dp b;clear hO ah A b;cases F with
   |false=>
    have N:Hid (O=⟨aw.toArray⟩):=Dp (IU.2 (by have h:=av.out;rw[Bb (by decide),Fb] at h;exact h.symm))
    go_wp2
    go_ret
    exact⟨by rw[<-N.out];rfl,j⟩
   |true=>
    have c2:=fun(x:A5)=>ZR (AO (BR 31)) (by decide +kernel) (by decide +kernel) x;obtain⟨P,p⟩:∃P:ByteArray,⟨(BM (AO (BR 31)).data.toList).toArray⟩=P:=⟨_,rfl⟩;have f:P.data.toList=BM (BR 31):=by rw[<-p];rfl
    have ac:P.size=3:=by rw[<-p];decide +kernel
    have N:Hid (O++P=⟨aw.toArray⟩):=Dp (IU.2 (by have h:=av.out;rw[Bc rfl] at h;rw[bC,f];exact h.symm));have ae:O.size+P.size<=2000000000:=by omega
    rw[p] at c2;clear p f av
    go_wp2_with fail
    refine(Se 31 (by decide) _).mono ?_;rintro e x ⟨rfl,rfl⟩
    go_wp2_with fail
    refine(c2 _).mono ?_;rintro e w3 ⟨rfl,s⟩;have hE:=j.trans (s.mono j.size)
    go_wp2
    go_ret
    exact⟨by rw[<-N.out];rfl,hE⟩
set_option maxRecDepth 100000 in
theorem gE (T:StrP)(vs:List A0)(w:A5)(hT:K4 w T vs)(ht:Ybw w.heap.size w):
  A9 prog 5 #[.agg vs.toArray] w fun e w'=>e=.returned (.bool true)/\Below w.heap.size w w':=by
 have r:=hT.size;obtain⟨A,hA⟩:=Ah w.heap.size;obtain⟨d,s⟩:=Ah (w.alloc (.cells vs.toArray 24 (0,0)));have O:Below w.heap.size w d:=by rw[<-s];exact(Dq _ w).alloc (Ba _) _
 have Q:d.heap[A]? =some (.cells vs.toArray 24 (0,0)):=by rw[<-s,<-hA];exact heap_alloc_new w _
 have af:d.heap.size=A+1:=by rw[<-s,<-hA];simp
 have K:=fun(x y:A5) (b:Below (A+1) d x) (hy:Below x.heap.size x y)=>(b.trans (hy.mono (by have:=b.size;omega)):Below (A+1) d y);have p:=Dp (fun(x:A5) (b:Below (A+1) d x)=>(O.trans (b.mono (by omega)):Below w.heap.size w x));have ag:=Dp (fun(x:A5) (b:Below (A+1) d x)=>(by
  have h:=ht.below (p.out x b);exact Ybw.here h.pats h.mvd h.steps h.tcoef:Ybw x.heap.size x))
 have R:=Dp (fun(x:A5) (b:Below (A+1) d x)=>((b.block A (by omega)).trans Q:x.heap[A]? =some (.cells vs.toArray 24 (0,0))));have an:=Dp (fun(x:A5) (b:Below (A+1) d x)=>((eU hT (p.out x b)).mono fun e y h=>⟨h.1,K x y b h.2⟩:A9 prog 8 #[.agg vs.toArray] x fun e y=>(∃y,e=.returned (.bool y)/\(y=true->QD T))/\Below (A+1) d y))
 have l:=Dp (fun(x:A5) (b:Below (A+1) d x)=>((qA x (ag.out x b)).mono fun e y z=>⟨z.1,K x y b z.2⟩:A9 prog 9 #[] x fun e y=>e=.returned (.bool true)/\Below (A+1) d y));have ar:=Dp hT;have au:=Dp ht;have av:=Dp hA;have ah:=Dp s;have ai:=Dp K;have aj:Below (A+1) d d:=Dq _ _;obtain⟨q,cap,H,U,W,X⟩:=hT;unfold maxLen at W
 obtain⟨n,hn⟩:=Ah T.sheets.length;have aw:=Dp hn;rw[hn] at H W;have ao:=Dp (fun(x:A5) (b:Below (A+1) d x)=>(AA (o:=0) (R.out x b) (show vs[0]? =some (.slice q n cap) by rw[H];rfl):x.cell? ⟨A,0,none⟩=some (.slice q n cap)));have ak:=Dp X;clear ht hA s af Q O K H U X hn
 go_enter func5,ntmps5
 go_wp2_with (with_reducible refine Mt rfl 24 _ rfl _ rfl 24 vs.toArray (0,0) _ (heap_alloc_new w _) Ph rfl r ?_)
 rw[ah.out];refine(an.out _ aj).mono ?_;rintro e w1 ⟨⟨y1,rfl,h1⟩,k⟩;rw[av.out];clear an;cases y1 with
 |false=>
  go_wp2_with fail
  refine(l.out _ k).mono ?_;rintro e w2 ⟨rfl,t⟩
  go_wp2
  go_ret
  exact⟨rfl,p.out _ t⟩
 |true=>
  have hP:=h1 rfl;have I:=Dp (hP.lies ar.out);obtain⟨⟨P,c⟩,hW⟩:=Ah (IQ T);have ap:=Dp (fun(x:A5) (b:Below (A+1) d x)=>(by
   have h:=aU I.out au.out (p.out x b);rw[hW] at h;exact h.mono fun e y h=>⟨h.1,ai.out x y b h.2⟩:A9 prog 16 #[.agg vs.toArray] x fun e y=>e=.returned (.tuple #[.string ⟨P.toArray⟩,.int .i64 c])/\Below (A+1) d y))
  have g:=R.out _ k;have Y:∀S∈T.sheets,(C2 S).length<=1048576:=fun S hS=>by have:=(hP.2 S hS).1.all;omega
  have aq:=Dp (fun(x:A5) (b:Below (A+1) d x)=>((rK I.out Y (p.out x b)).mono fun e y h=>⟨h.1,ai.out x y b h.2⟩:A9 prog 11 #[.agg vs.toArray] x fun e y=>e=.returned (.int .i64 (DP T))/\Below (A+1) d y))
  have u:=Dp (fun(h0:DP T=0) (x:A5) (b:Below (A+1) d x)=>((oC I.out h0 (p.out x b)).mono fun e y h=>⟨h.1,ai.out x y b h.2⟩:A9 prog 17 #[.agg vs.toArray] x fun e y=>e=.returned (.string ⟨(BM (BG T.sheets T.fin)).toArray⟩)/\Below (A+1) d y));have k0:=ao.out _ k;have E:=Dp hW;clear h1 hP Y hW g
  go_wp2
  clear k0
  go_loopw [3,4] (fun a z wr=>∃(m:Int) (i:Nat),a=.int .i64 m/\z=.int .i64 (i:Int)/\i<=n/\Hid (262144<=m->∃S∈T.sheets,262144<=S.zeros)/\Below (A+1) d wr) (fun _ z _=>n-(intOf z).toNat)
  case atStart=>exact⟨0,0,rfl,rfl,Ds _,Dp fun h=>absurd h (by decide),k⟩
  case round=>
   clear k;obtain⟨m,i,rfl,rfl,hi,hm,F⟩:=hrel;have k0:=ao.out _ F;by_cases J:i<n
   ·have t0:decide ((i:Int)<(n:Int))=true:=by simp;omega
    have t1:decide (i<n)=true:=by simpa using J
    have Z:i<T.sheets.length:=by rw[aw.out];exact J
    obtain⟨b1,o1,rfl,k,G⟩:=CD.each ak.out (by omega);obtain⟨xs,aa,ab⟩:=G i Z;have z7:=ab _ (p.out _ F) 7 _ aa.parts.2.2;have ac:=Bn Z;obtain⟨L,M⟩:=Ah (T.sheets[i].zeros);rw[M] at z7;have al:Hid (262144<=max m L->∃S∈T.sheets,262144<=S.zeros):=Dp (fun h=>by
     by_cases h1:262144<=m
     ·exact hm.out h1
     ·exact⟨_,ac,by rw[M];omega⟩)
    clear ab aa G k hm ac M;by_cases h2:2000<L
    ·have t2:decide (2000<L)=true:=I4 h2;by_cases h3:L<262144
     ·have t3:decide (L<262144)=true:=I4 h3;clear h2 h3 al
      go_wp2_with fail
      refine(l.out _ F).mono ?_;rintro e wL ⟨rfl,j⟩
      go_wp2
      go_ret
      exact⟨rfl,p.out _ j⟩
     ·have t3:decide (L<262144)=false:=I3 h3;clear h2 h3
      go_wp2
      go_roundw
      case rel=>exact⟨_,i+1,rfl,by go_num,by omega,al,F⟩
      case measure=>simp[intOf];omega
    ·have t2:decide (2000<L)=false:=I3 h2;clear h2
     go_wp2
     go_roundw
     case rel=>exact⟨_,i+1,rfl,by go_num,by omega,al,F⟩
     case measure=>simp[intOf];omega
   ·obtain rfl:i=n:=by omega
    have t0:decide ((i:Int)<(i:Int))=false:=by simp
    have t1:decide (i<i)=false:=by simp
    have g:=R.out _ F;clear J hi
    go_wp2_with (with_reducible refine Mt rfl 24 _ rfl A rfl 24 vs.toArray (0,0) _ g Ph rfl r ?_)
    refine(ap.out _ F).mono ?_;rintro e w2 ⟨rfl,t⟩;have g:=R.out _ t;clear k0 F
    go_wp2_with (with_reducible refine Mt rfl 24 _ rfl A rfl 24 vs.toArray (0,0) _ g Ph rfl r ?_)
    refine(aq.out _ t).mono ?_;rintro e w3 ⟨rfl,v⟩;have g:=R.out _ v;clear t ap aq;by_cases B:DP T=0
    case neg=>
     have te:(DP T != 0)=true:=by rw[Fl];exact B
     have C:=E.out;rw[bP B] at C;injection C with e1 e2;subst e1 e2;generalize DP T=f at *;clear B E u hm g
     go_wp2_with fail
     refine(l.out _ v).mono ?_;rintro e wL ⟨rfl,j⟩
     go_wp2
     go_ret
     exact⟨rfl,p.out _ j⟩
    have te:((0:Int) != 0)=false:=rfl;have D:=u.out B;rw[B];by_cases h4:262144<=m
    ·have t4:decide (262144<=m)=true:=I4 h4;obtain⟨S,hS,ad⟩:=hm.out h4;have C:=E.out;rw[YC B (Qgu T.fin hS ad)] at C;injection C with e1 e2;subst e1 e2;clear B E u D hm g h4 hS ad
     go_wp2_with fail
     refine(l.out _ v).mono ?_;rintro e wL ⟨rfl,j⟩
     go_wp2
     go_ret
     exact⟨rfl,p.out _ j⟩
    have t4:decide (262144<=m)=false:=I3 h4;obtain⟨V,hV⟩:∃V:ByteArray,⟨(BM (BG T.sheets T.fin)).toArray⟩=V:=⟨_,rfl⟩;have ae:V.size=(BM (BG T.sheets T.fin)).length:=by rw[<-hV];exact HX _
    rw[hV] at D;by_cases h5:262144<(BM (BG T.sheets T.fin)).length
    ·have t5:decide (262144<(V.size:Int))=true:=by simp;omega
     have am:decide (262144<V.size)=true:=by simp;omega
     have C:=E.out;rw[YC B h5] at C;injection C with e1 e2;subst e1 e2;clear B E u hm h4 h5 hV ae
     go_wp2_with (with_reducible refine Mt rfl 24 _ rfl A rfl 24 vs.toArray (0,0) _ g Ph rfl r ?_)
     refine(D _ v).mono ?_;rintro e w4 ⟨rfl,N⟩
     go_wp2_with fail
     refine(l.out _ N).mono ?_;rintro e wL ⟨rfl,j⟩
     go_wp2
     go_ret
     exact⟨rfl,p.out _ j⟩
    have t5:decide (262144<(V.size:Int))=false:=by simp;omega
    have am:decide (262144<V.size)=false:=by simp;omega
    have C:=E.out;rw[lT B h5] at C;injection C with e1 e2;subst e1 e2;rw[hV];clear B E u hm h4 h5 hV ae
    go_wp2_with (with_reducible refine Mt rfl 24 _ rfl A rfl 24 vs.toArray (0,0) _ g Ph rfl r ?_)
    refine(D _ v).mono ?_;rintro e w4 ⟨rfl,N⟩
    go_wp2_with fail
    refine(l.out _ N).mono ?_;rintro e wL ⟨rfl,j⟩
    go_wp2
    go_ret
    exact⟨rfl,p.out _ j⟩
end Go.Proofs.YtjjmalchelniiaaGreatDoor