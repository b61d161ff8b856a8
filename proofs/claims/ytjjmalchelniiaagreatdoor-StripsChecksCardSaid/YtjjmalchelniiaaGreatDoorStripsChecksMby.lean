/- StripsChecks, 51. No condition. -/
import Derived.Test.YtjjmalchelniiaaGreatDoorStripsChecksMa
import Derived.Test.YtjjmalchelniiaaGreatDoorStripsChecksMg
import Derived.Test.YtjjmalchelniiaaGreatDoorStripsChecksMj
import Derived.Test.YtjjmalchelniiaaGreatDoorStripsChecksMk
import Derived.Test.YtjjmalchelniiaaGreatDoorStripsChecksMn
import Derived.Test.YtjjmalchelniiaaGreatDoorStripsChecksMp
import Derived.Test.YtjjmalchelniiaaGreatDoorStripsChecksMr
import Derived.Test.YtjjmalchelniiaaGreatDoorStripsChecksMv
import Derived.Test.YtjjmalchelniiaaGreatDoorStripsChecksMy
import Derived.Test.YtjjmalchelniiaaGreatDoorStripsChecksMz
import Derived.Test.YtjjmalchelniiaaGreatDoorStripsChecksMbk
import Derived.Test.YtjjmalchelniiaaGreatDoorStripsChecksMbl
import Derived.Test.YtjjmalchelniiaaGreatDoorStripsChecksMbr
import Derived.Test.YtjjmalchelniiaaGreatDoorStripsChecksMbs
import Derived.Test.YtjjmalchelniiaaGreatDoorStripsChecksMbt
import Derived.Test.YtjjmalchelniiaaGreatDoorStripsChecksMbu
import Derived.Test.YtjjmalchelniiaaGreatDoorStripsChecksMbv
import Derived.Test.YtjjmalchelniiaaGreatDoorStripsChecksMbw
import Derived.Test.YtjjmalchelniiaaGreatDoorStripsChecksMbx
open Go.Proofs.Tryz
open Go renaming World->A5,Value->A0,Addr->Aa,TypeId->A7,Calls->A9,Oper->A4,Operand->A8,Ending->Ae
set_option maxHeartbeats 8000000
namespace Go.Proofs.YtjjmalchelniiaaGreatDoor
open Go.RowKit Go.Lib
abbrev Ou:=@underlying24
abbrev Ov:=@wpList_buildTo
abbrev Ow:=@underlying22
theorem ShV.shape {w:A5}{S:ShP}{vs:List A0}(h:ShV w S vs):vs.length=8/\∀u∈vs,u.oneCell'=true:=by
 obtain⟨a,b,ca,cb,rfl,-⟩:=h;refine⟨rfl,fun u c=>?_⟩;simp only[AQ,Eb,Ed,Ek] at c;rcases c with rfl|rfl|rfl|rfl|rfl|rfl|rfl|rfl <;> rfl
def GF:A5->Option Aa->List ShP->Prop:=BO 8 ShV
theorem GF.below {w x:A5}{q:Option Aa}{l:List ShP}(h:GF w q l)(a:Below w.heap.size w x):GF x q l:=BO.below h (ShV.below a) a
theorem GF.at_ {w:A5}{q:Option Aa}{l:List ShP}(h:GF w q l)(c:0<l.length):
  ∃b o,q=some ⟨b,o,none⟩/\b<w.heap.size/\∀x,Below w.heap.size w x->∀i,(h:i<l.length)->∃vs,ShV x l[i] vs/\(vs.length=8/\∀u∈vs,u.oneCell'=true)/\∀(j:Nat) v,vs[j]? =some v->x.cell? ⟨b,o+i*8+j,none⟩=some v:=by
 obtain⟨b,o,e,hl,hc⟩:=BO.hold h c;refine⟨b,o,e,hl,fun x a i hi=>?_⟩;obtain⟨vs,h1,h2⟩:=hc x a i hi;exact⟨vs,ShV.below a _ _ h1,h1.shape,h2⟩
def IC (w:A5)(T:StrP)(vs:List A0):Prop:=∃(q:Option Aa) (cap:Nat),vs=[.slice q T.sheets.length cap,.bool T.fin]/\T.sheets.length<=cap/\T.sheets.length<=maxLen/\GF w q T.sheets
instance:Inhabited ShP:=⟨JK⟩
section
variable {H:Type}{enc:A7×A0->H}{P:Program}
theorem qO {w:A5}{base a:Nat}{f:Nat->Bool}{b:Bool}{t e:A7}{p:Option Aa}{n cap:Nat}{x:DataW H×List MemPlace}(ht:P.underlying t=some (.slice e))(g:DataW.trod enc P w base f b a t [.slice p n cap]=some x):n<=cap:=by
 rcases Gm ht g with ⟨h1,_⟩|⟨h,c,d,m,i,D,j,h1,_,h2,_⟩
 ·injection h1 with h1;injection h1 with _ h2 h3;omega
 ·injection h1 with h1;injection h1 with _ h3 h4;omega
theorem Xz {w:A5}{r:Reach}{z base:Nat}{b:Nat->Bool}{a:Bool}{t j c m:A7}{f0 f1:Field}{v:A0}{d:DataW H}{C:List MemPlace}
  (ht:P.underlying t=some (.struct #[f0,f1]))(D:P.underlying j=some .bool)(hs:P.underlying c=some (.slice m))(e:f0.type=c/\f1.type=j)(o:f0.offset=0/\f1.offset=1)
  (cb:P.cellsOf j=1)(cs:P.cellsOf c=1)(E:P.cellsOf m=8)(hc:P.cellsOf t=2)(F:∀k vs y,vs.length=8->DataW.trod enc P w base b a k m vs=some y->∃S,ShV w S vs)
  (f:Value.okWide P w r z t v)(hd:DataW.Trod enc P w base b a t v d C):∃(T:StrP) (vs:List A0),v=.agg vs.toArray/\IC w T vs:=by
 obtain⟨q,rfl,g,_⟩:∃cs,v=.agg cs/\cs.size=P.cellsOf t/\Row.okWide P w r z t cs:=by
  simpa [Value.okWide,ht] using f
 rw[hc] at g;obtain⟨A,G⟩:=hd;obtain⟨I,k,N,J,_,s,h⟩:=Gi ht G;obtain⟨l⟩:=q
 match l,g,I,s with
 |[u0,u1],_,[y0,y1],_=>
  have u:=h 0 f0 rfl;have B:=h 1 f1 rfl;rw[e.1,o.1,cs] at u;rw[e.2,o.2,cb] at B;obtain⟨p,n,cap,rfl,hl,hr⟩:=LB 8 (fun vs=>∃S,ShV w S vs) hs E (by decide) F (show DataW.trod enc P w base b a k c [u0]=some y0 from u);have i:n<=cap:=qO hs (show DataW.trod enc P w base b a k c [.slice p n cap]=some y0 from u)
  obtain⟨K,x,_⟩:=Gk D (show DataW.trod _ P w base b a k j [u1]=some y1 from B);injection x with x;subst x;obtain⟨L,rfl,M⟩:=TK hr;exact⟨⟨L,K⟩,_,rfl,p,cap,rfl,i,hl,M⟩
end
def ShK (L:List (Option Nat))(w:A5)(S:ShP)(vs:List A0):Prop:=∀x,Yae L w x->ShV x S vs
section
variable {L M L':List (Option Nat)}{w x:A5}{S:ShP}{vs:List A0}
theorem ShK.shV (h:ShK L w S vs):ShV w S vs:=h w (Yae.refl _ _)
theorem ShK.shape (h:ShK L w S vs):vs.length=8/\∀u∈vs,u.oneCell'=true:=h.shV.shape
theorem ShK.mono (h:ShK L w S vs)(a:∀j,j<w.heap.size->some j∈L'->some j∈L):ShK L' w S vs:=fun x b=>h x (b.mono a)
theorem ShK.keptL (h:ShK L w S vs)(a:Yae M w x)(b:∀j,j<w.heap.size->some j∈M->some j∈L):ShK L x S vs:=fun z c=>h z ((a.mono b).trans c fun _ _ hj=>hj)
theorem ShK.below (h:ShK L w S vs)(a:Below w.heap.size w x):ShK L x S vs:=h.keptL (M:=[]) (Yae.below a) (by simp)
theorem ShK.low {n:Nat}(h:∀(z:A5) (K:List (Option Nat)),(∀j,some j∈K->j<n)->Yae K w z->ShV z S vs):ShK (FS n) w S vs:=fun z a=>h z _ (fun _ hj=>KO.1 hj) a
def HI (n:Nat)(w:A5)(v:A0)(l:List ShP):Prop:=AV 8 39 (ShK (v.ownBlock::FS n) w) w n v l
theorem HI.nil (n:Nat)(w:A5):HI n w (.slice none 0 0) []:=AV.nil ..
theorem HI.kept {n:Nat}{v:A0}{l:List ShP}(h:HI n w v l)(a:Yae M w x)(b:∀j,j<w.heap.size->some j∈M->j<n):HI n x v l:=
 AV.mono (AV.keptL h a fun k c hm=>by have h1:=b k (AV.lt h k c) hm;have h2:=AV.fresh h k c;omega) fun _ _ hc=>
  hc.keptL a fun j hj hm=>Et _ (KO.2 (b j hj hm))
theorem HI.app {n:Nat}{v a:A0}{l:List ShP}(h:AV 8 39 (ShK (v.ownBlock::FS n) w) x n a l)(b:w.grownBy x v.ownBlock)(c:∀k,a.ownBlock=some k->v.ownBlock=some k\/w.heap.size<=k):HI n x a l:=by
 refine AV.mono h fun _ _ hc=>?_;have h1:ShK (a.ownBlock::v.ownBlock::FS n) w _ _:=hc.mono fun j hj hm=>by
  rcases Eb.1 hm with e|hm
  ·rcases c j e.symm with h2|h2
   ·rw[h2];exact Eu ..
   ·omega
  ·exact hm
 have h2:=h1.keptL (M:=[v.ownBlock]) (Yae.one b fun k _ e=>by rw[e];exact Df.2 rfl) fun j _ hm=>by rw[Df.1 hm];exact Et _ (Eu ..)
 refine fun z d=>h2 z (d.mono fun j _ hm=>?_);rcases Eb.1 hm with e|hm
 ·rw[e];exact Eu ..
 ·exact Et _ (Et _ hm)
theorem ShK.own {n N:Nat}{v:A0}{l:List ShP}(hl:AV 8 39 (ShK (v.ownBlock::FS n) w) w n v l)(a:w.heap.size<=N)(hn:n<=N)(h:ShK (FS N) x S vs):ShK (v.ownBlock::FS n) x S vs:=
 h.mono fun j _ hm=>by
  rcases Eb.1 hm with e|hm
  ·exact KO.2 (Bg (AV.lt hl j e.symm) a)
  ·exact KO.2 (Bg (KO.1 hm) hn)
theorem HI.ins {n:Nat}{v:A0}{l:List ShP}(h:HI n w v l):v=.slice (slP v) l.length (slC v)/\(slP v=none->slC v=0)/\v.oneCell'=true/\GF w (slP v) l:=by
 obtain⟨a,b,ho⟩:=h;obtain⟨c,d,f⟩:=LL ho;obtain⟨q,cap,e,hm⟩:=AV.many (V':=ShV) ⟨a,b,ho⟩ fun _ _ hc=>ShK.shV hc;exact⟨c,d,f,by rw[e];exact hm⟩
theorem lY {base c n:Nat}{e:A7}{v:A0}{b:List A0}(h:w.ownsRow base e c v n b):n<=slC v:=by
 rcases h.2 with ⟨rfl,hn⟩|⟨g,cap,d,rfl,_,f,a,_⟩
 ·have:=h.1;simp[slC];omega
 ·exact a
theorem HI.strV {n:Nat}{v:A0}{l:List ShP}(h:HI n w v l)(hl:l.length<=maxLen)(f:Bool):IC w ⟨l,f⟩ [v,.bool f]:=by
 obtain⟨a,c,-,b⟩:=h.ins;obtain⟨d,e,ho⟩:=h;exact⟨slP v,slC v,by rw[<-a],lY ho,hl,b⟩
end
theorem gK:∃i z,prog.info? 39=some i/\i.zero=some z/\z.cells.size=8/\i.size=8/\i.bytes=96:=by
 have h:(prog.info? 39).map (fun i=>(i.zero.map (·.cells.size),i.size,i.bytes))=some (some 8,8,96):=by kernel_rfl
 generalize prog.info? 39=x at h
 match x,h with
 |some i,h=>
  rw[Ld] at h;injection h with h;injection h with h1 h2;injection h2 with h2 h3;cases hz:i.zero with
  |none=>rw[hz] at h1;cases h1
  |some z=>
   rw[hz] at h1;injection h1 with h1;exact⟨i,z,rfl,hz,h1,h2,h3⟩
theorem XG (S:ShP):CD (CA []) S = !S.hd.inter:=by unfold CD CA;cases S.hd.inter <;> rfl
theorem W8 {l:List ShP}(h:l.length-1<l.length)(S:ShP):CD (CA l) S=(!S.hd.inter || l[l.length-1].hd.fmt==S.hd.fmt):=by
 unfold CD CA;rw[List.getLast?_eq_getElem?,Fe h]
 rfl
theorem ShV.parts {w:A5}{S:ShP}{vs:List A0}(h:ShV w S vs):vs[2]? =some (.int .i64 S.hd.fmt)/\vs[3]? =some (.bool S.hd.inter)/\vs[7]? =some (.int .i64 S.zeros):=by
 obtain⟨p,b,ca,cb,rfl,-⟩:=h;exact⟨rfl,rfl,rfl⟩
set_option maxRecDepth 100000 in
theorem Yy {u w:A5}{S:ShP}{vs:List A0}(q:Option Aa)(cap:Nat)(l:List ShP)(p:ShV u S vs)(hl:GF w q l)(hm:l.length<=maxLen):
  A9 prog 21 #[.slice q l.length cap,.agg vs.toArray] w fun e v=>e=.returned (.bool (CD (CA l) S))/\Below w.heap.size w v:=by
 unfold maxLen at hm;obtain⟨f2,f3,-⟩:=p.parts;rw[<-List.getElem?_toArray] at f2 f3;obtain⟨A,r⟩:=Ai vs.toArray;rw[r] at f2 f3 ⊢;have a:Below w.heap.size w (w.alloc (.cells A 39 (0,0))):=(Dm _ w).alloc (Ba _) _;have f:=Dl a;obtain⟨R,h⟩:=Ai (CD (CA l) S);clear r p;by_cases i:0<l.length
 ·have hF:=W8 (l:=l) (by omega) S;obtain⟨b,o,rfl,j,hc⟩:=hl.at_ i;obtain⟨y,s,-,c⟩:=hc _ a (l.length-1) (by omega);have c2:=c 2 _ s.parts.1;obtain⟨E,t⟩:=Ai (l[l.length-1]);obtain⟨n,hn⟩:=Ai l.length;obtain⟨m,g⟩:=Ai (l.length-1);rw[t] at hF c2;rw[g] at c2;have x:IntKind.i64.wrap ((n:Int)-1)=(m:Int):=by rw[DA (by omega)];omega
  have t1:decide ((m:Int)<(n:Int))=true:=by simp;omega
  have t2:m<n:=by omega
  have t0:0<n:=by omega
  rw[h] at hF ⊢;rw[hn];have d:=a.drew;clear h t g hc s c hl a hm j i;generalize E.hd.fmt=f1 at *;generalize S.hd.inter=it at *;generalize S.hd.fmt=k at *;clear hn;cases it with
  |false=>
   have F:=Dl (show R=true by rw[hF];rfl);clear hF c2 x t1 t2 t0
   go_enter func21,ntmps21
   go_wp2
   go_ret
   exact⟨AB F.out.symm,f.out⟩
  |true=>
   have F:=Dl (show R=(f1==k) by rw[hF];rfl);clear hF
   go_enter func21,ntmps21
   go_wp2
   go_region
   go_wp2
   go_ret
   exact⟨AB F.out.symm,d⟩
 ·obtain rfl:l=[]:=Dh (by omega);have hF:=XG S;rw[h] at hF ⊢;have d:=a.drew;clear h hl a hm i;generalize S.hd.inter=it at *;generalize S.hd.fmt=k at *;cases it with
  |false=>
   have F:=Dl (show R=true by rw[hF];rfl);clear hF
   go_enter func21,ntmps21
   go_wp2
   go_ret
   exact⟨AB F.out.symm,f.out⟩
  |true=>
   have F:=Dl (show R=false by rw[hF];rfl);clear hF
   go_enter func21,ntmps21
   go_wp2
   go_region
   go_wp2
   go_ret
   exact⟨AB F.out.symm,d⟩
def LI (l:List UInt8)(p:Nat):Bool:=(AX l p).2==0&&(AX l p).1==31
theorem U1 {l:List UInt8}{p:Nat}:LI l p=true↔(AX l p).2=0/\(AX l p).1=31:=by unfold LI;simp
set_option maxRecDepth 100000 in
theorem W9 {w:A5}{rb p:Nat}{s:ByteArray}(hr:AG w rb s p)(hs:s.size<=1099511627776):
  A9 prog 30 #[.pointer (some ⟨rb,0,none⟩)] w fun e i=>e=.returned (.bool (LI s.data.toList p))/\Below w.heap.size w i:=by
 have g:=RQ w s (p:Int) hs;obtain⟨R,f⟩:=Ai (LI s.data.toList p);have b:=f;unfold LI at b;rw[f];generalize (AX s.data.toList (p:Int)).1=a at *;generalize (AX s.data.toList (p:Int)).2=c at *;have F:=Dl b;obtain⟨d1,h1⟩:=Ai (c==0);have h:=Dl h1;clear f b
 go_enter func30,ntmps30
 go_wp2_with fail
 refine(KK _ _ _ _ hr).mono ?_;rintro e u ⟨rfl,rfl⟩
 go_wp2_with fail
 refine(E1 _ _ _ _ hr).mono ?_;rintro e u ⟨rfl,rfl⟩
 go_wp2_with fail
 refine g.mono ?_;rintro e j ⟨rfl,d⟩;clear g hr;cases d1 with
 |false=>
  go_wp2
  go_ret
  exact⟨AB (by rw[<-F.out,h.out];rfl),d⟩
 |true=>
  go_wp2
  go_ret
  exact⟨AB (by rw[<-F.out,h.out];rfl),d⟩
theorem eT {a b:ByteArray}(h:a≠b):(a.toList==b.toList)=false:=by
 rw[Ez];intro e;rw[ByteArray.toList_eq,ByteArray.toList_eq] at e;exact h (PM.2 e)
def L5 (r:List UInt8):List UInt8:=E2 r 31++List.replicate (gap (E2 r 31).length) 48
theorem mT:L5 []=D5 31++[48,48]:=by decide +kernel
theorem sO (l:List ShP):L5 (CZ [] l)=C3 l true:=iX l
theorem oR (r:List UInt8):(L5 r).length<=r.length+40:=by
 unfold L5 E2;simp only[B9,Bp,IB];unfold gap;omega
theorem VG {w:A5}{B b:Nat}{r:List UInt8}(h:AN w B b r)(hr:r.length<=549755813888)(i:B<=w.heap.size):
  A9 prog 39 #[.pointer (some ⟨b,0,none⟩)] w fun e j=>e=.returned (.tuple #[])/\AN j B b (L5 r)/\w.grownBy j (some b):=by
 have c1:=R3 w B b r 31 (by decide) h (by omega) i;have hl:(E2 r 31).length<=r.length+30:=by
  unfold E2;simp only[B9,Bp,IB];unfold gap;omega
 have c2:=fun(x:A5) (k:AN x B b (E2 r 31)) (l:B<=x.heap.size)=>Sf x B b (E2 r 31) k (by omega) l;rw[show r++List.replicate (gap r.length) 48++D5 31=E2 r 31 from rfl] at c1;obtain⟨E,a⟩:=Ai (L5 r);rw[a];unfold L5 at a;rw[a] at c2;generalize E2 r 31=R at *;have n:=Dl a;clear a h hl
 go_enter func39,ntmps39
 go_wp2_with fail
 refine c1.mono ?_;rintro e m ⟨rfl,c,d⟩;have c3:=c2 m c (Ea i d.size);clear c1 c2 c
 go_wp2_with fail
 refine c3.mono ?_;rintro e o ⟨rfl,f,g⟩
 go_wp2
 go_end0
 exact⟨rfl,f,AO d g⟩
theorem xY (w:A5):A9 prog 31 #[] w fun e p=>e=.returned (.string ⟨NJ.toArray⟩)/\Below w.heap.size w p:=by
 obtain⟨D,g⟩:=Ai w.heap.size;obtain⟨h,a⟩:=Ai (w.alloc GN);have b:AN h (D+1) D []:=by rw[<-a];exact AN.fresh g (Np _)
 have i:Below D w h:=by rw[<-a,<-g];exact(Dm _ w).alloc (Ba _) _
 have k:D+1<=h.heap.size:=by rw[<-a];simp;omega
 have c1:=VG b (by simp) k;rw[mT] at c1;obtain⟨P,l⟩:∃P:ByteArray,⟨NJ.toArray⟩=P:=⟨_,rfl⟩;have q:Hid ((⟨(FF (D5 31++[48,48])).toArray⟩:ByteArray)=P):=Dl l;rw[l];have m:=Dl a;have o:=Dl g;clear l a g b
 go_enter func31,ntmps31
 go_wp2_with fail
 refine(Qf _).mono ?_;rintro e x ⟨rfl,rfl⟩;rw[m.out,o.out]
 go_wp2_with fail
 refine c1.mono ?_;rintro e r ⟨rfl,c,d⟩;have f:Below D w r:=i.grown d (by omega) (fun j hj=>by injection hj with hj;omega)
 go_wp2_with fail
 refine(WT _ _ _ _ c (by decide)).mono ?_;rintro e s ⟨rfl,n⟩;rw[q.out];have t:Below D w s:=f.trans (n.mono (by have:=f.size;have:=d.size;omega))
 go_wp2
 go_ret
 exact⟨rfl,by rw[o.out];exact t⟩
def Qq (S:ShP):Prop:=S.rows.length<=4611686018427387904/\∀c∈BI S,∀k,k<6->(c.ev k).length<=1048576
def JP (u:A5)(T:StrP)(vs:List A0):Prop:=IC u T vs/\∀S∈T.sheets,Qq S
theorem ShV.ones {w:A5}{S:ShP}{vs:List A0}(h:ShV w S vs):vs.toArray.all (·.oneCell')=true:=by
 rw[G6];exact fun u a=>h.shape.2 u (by simpa using a)
theorem NP {ops:Array A4}{rest:List A4}{op:A4}{a:Act}{w:A5}{Q:Exit->Act->A5->Prop}(c:op.guard=none)(x:A8)(ho:op.op=.load 39 x)
  (b o:Nat)(d:a.eval x=.pointer (some ⟨b,o,none⟩))(vs:List A0)(hc:w.rangeAt b o vs)(hl:vs.length=8)(h:wpList prog ops Q rest (a.put op.dst (.agg vs.toArray)) w):wpList prog ops Q (op::rest) a w:=
 J5 c _ x ho b o d vs _ hc Nv rfl (by rw[hl];kernel_rfl) h
theorem QT:∃Y:Array A0,Y.size=8/\∀w,(zeroValue 39).run prog w=.ok (.agg Y) w:=⟨#[.int .i64 0,.int .i64 0,.int .i64 0,.bool false,.int .i64 0,.slice none 0 0,.slice none 0 0,.int .i64 0],rfl,LG (by kernel_rfl)⟩
set_option maxRecDepth 100000 in
theorem nI (p q:Option Aa)(l m:List ShP)(c c':Nat)(w:A5)(hp:GF w p l)(hq:GF w q m)(hm:l.length<=maxLen)(ad:∀S∈l,Qq S)(ae:∀S∈m,Qq S):
  A9 prog 24 #[.slice p l.length c,.slice q m.length c',.func (.func 25) #[] #[]] w fun e w'=>e=.returned (.bool (decide (l.length=m.length)&&(l.zip m).all fun p=>shB p.1 p.2))/\Below w.heap.size w w':=by
 unfold maxLen at hm;obtain⟨R,L⟩:=Ai ((decide (l.length=m.length)&&(l.zip m).all fun p=>shB p.1 p.2));rw[L];by_cases hl:l.length=m.length
 case neg=>
  have F:=Dl (show R=false by rw[<-L,Gp hl];rfl);have g0:((l.length:Int) != (m.length:Int))=true:=by rw[Ff];omega
  clear hp hq L;generalize l.length=n1 at hl g0 hm ⊢;generalize m.length=n2 at hl g0 ⊢
  go_enter func24,ntmps24
  go_wp2
  go_ret
  exact⟨AB F.out.symm,Dm _ _⟩
 have ar:=Dl (show R=(l.zip m).all (fun p=>shB p.1 p.2) by rw[<-L,Gq hl];rfl);have au:=Dl hl;obtain⟨n,hn⟩:=Ai l.length;have af:=Dl hn;rw[<-hl,hn];rw[hn] at hm;have av:=Dl hp;have aw:=Dl hq;obtain⟨Y,M,ax⟩:=QT;clear hl hn L hp hq
 go_enter func24,ntmps24
 go_wp2
 go_loopw [17] (fun z wr=>∃i:Nat,i<=n/\z=.int .i64 i/\Hid ((((l.take i).zip (m.take i)).all fun p=>shB p.1 p.2)=true)/\Below w.heap.size w wr) (fun z _=>n-(intOf z).toNat)
 case atStart=>exact⟨0,Dn _,rfl,Dl rfl,Dm _ _⟩
 case round=>
  obtain⟨i,hi,rfl,ha,J⟩:=hrel;by_cases O:i<n
  ·have t0:decide ((i:Int)<(n:Int))=true:=by simp;omega
   have t1:decide (i<n)=true:=by simpa using O
   have b:i<l.length:=by rw[af.out];exact O
   have j:i<m.length:=by rw[<-au.out];exact b
   obtain⟨b1,o1,rfl,ay,B⟩:=BO.each av.out (by omega);obtain⟨o,r,P⟩:=B i b;have G:=r.shape.1;have ag:=r.ones;have Q:=ad l[i] (Bl b);clear B;obtain⟨b2,o2,rfl,az,D⟩:=BO.each aw.out (by omega);obtain⟨s,t,T⟩:=D i j;have H:=t.shape.1;have ah:=t.ones;have U:=ae m[i] (Bl j);clear D
   have ai:=Dl (fun h=>ND (f:=shB) b j ha.out h);have aj:=Dl (fun h=>NF (f:=shB) b j h);obtain⟨C,hC⟩:=Ai wr.heap.size;obtain⟨K,d⟩:=Ai (wr.alloc (.cells o.toArray 39 (0,0)));obtain⟨wD,g⟩:=Ai (K.alloc (.cells s.toArray 39 (0,0)));have I:K.heap.size=C+1:=by rw[<-d,<-hC];simp
   have A:Below wr.heap.size wr K:=by rw[<-d];exact(Dm _ wr).alloc (Ba _) _
   have V:Below wr.heap.size wr wD:=by rw[<-g];exact A.alloc A.size _
   have W:K.rangeAt b2 (o2+i*8) s:=fun k v hk=>T K (J.trans (A.mono J.size)) k v hk;have X:wr.rangeAt b1 (o1+i*8) o:=fun k v hk=>P wr J k v hk;have ak:wD.heap[C]? =some (.cells o.toArray 39 (0,0)):=by rw[<-g];refine CH ?_;rw[<-d,<-hC];exact heap_alloc_new wr _
   have al:wD.heap[C+1]? =some (.cells s.toArray 39 (0,0)):=by rw[<-g,<-I];exact heap_alloc_new K _
   have a:=J.trans (V.mono J.size);have Z:(prog.info? 39).map (·.size)=some o.toArray.size:=by rw[show o.toArray.size=8 from G];kernel_rfl
   have aa:(prog.info? 39).map (·.size)=some s.toArray.size:=by rw[show s.toArray.size=8 from H];kernel_rfl
   have am:Y.size=o.toArray.size:=by rw[M];exact G.symm
   have an:Y.size=s.toArray.size:=by rw[M];exact H.symm
   have ab:=jJ (u:=w) (x:=w) (w:=wD) ⟨t,U⟩ ⟨r,Q⟩ a a;clear r t Q U;have ao:=Dl d;have ap:=Dl g;have a0:=Dl hC;have aq:=Dl I;clear d g hC I A V P T ha;generalize shB l[i] m[i]=y at *
   go_wp2_with (first|(with_reducible refine NP rfl _ rfl b1 (o1+i*8) rfl o X G ?_)|(with_reducible refine NP rfl _ rfl b2 (o2+i*8) rfl s W H ?_)|(with_reducible refine BZ rfl 39 _ _ rfl o.toArray Y 39 rfl rfl Z am ag ?_;rw[ao.out,a0.out])|(with_reducible refine BZ rfl 39 _ _ rfl s.toArray Y 39 rfl rfl aa an ah ?_;rw[ap.out,aq.out])|(with_reducible refine Mo rfl 39 _ rfl C rfl 39 o.toArray (0,0) _ ak Nv rfl Z ?_)|(with_reducible refine Mo rfl 39 _ rfl (C+1) rfl 39 s.toArray (0,0) _ al Nv rfl aa ?_))
   refine ab.mono ?_;rintro e w2 ⟨rfl,ac⟩;have E:=a.trans (ac.mono a.size);cases y with
   |true=>
    have N:=Dl (ai.out rfl);clear ai aj
    go_wp2
    go_roundw
    case rel=>exact⟨i+1,by omega,by go_num,N,E⟩
    case measure=>simp[intOf];omega
   |false=>
    have N:=Dl (aj.out rfl);clear ai aj
    go_wp2
    go_ret
    exact⟨AB (by rw[ar.out,N.out]),E⟩
  ·obtain rfl:i=n:=by omega
   have t0:decide ((i:Int)<(i:Int))=false:=by simp
   have t1:decide (i<i)=false:=by simp
   have N:=Dl (show (l.zip m).all (fun p=>shB p.1 p.2)=true by
    have h:=ha.out;rw[Bh (by have:=af.out;omega),Bh (by have:=af.out;have:=au.out;omega)] at h;exact h)
   go_wp2
   go_ret
   exact⟨AB (by rw[ar.out,N.out]),J⟩
set_option maxRecDepth 100000 in
theorem UN {u x w:A5}{T r:StrP}{vs vs':List A0}(E:JP u T vs)(s:JP x r vs')(t:Below u.heap.size u w)(v:Below x.heap.size x w):
  A9 prog 12 #[.agg vs.toArray,.agg vs'.toArray] w fun e G=>e=.returned (.bool (H2 T r))/\Below w.heap.size w G:=by
 obtain⟨⟨q,cap,rfl,B,i,j⟩,k⟩:=E;obtain⟨⟨q',d,rfl,-,-,f⟩,g⟩:=s;have a:=fun y (C:Below w.heap.size w y)=>nI q q' T.sheets r.sheets cap d y (j.below (t.trans (C.mono t.size))) (f.below (v.trans (C.mono v.size))) i k g;obtain⟨l,F⟩:=T;obtain⟨m,h⟩:=r;dsimp only at *
 have b:H2 ⟨l,F⟩ ⟨m,h⟩=(F==h&&(decide (l.length=m.length)&&(l.zip m).all fun p=>shB p.1 p.2)):=rfl;generalize (decide (l.length=m.length)&&(l.zip m).all fun p=>shB p.1 p.2)=H at *;obtain⟨R,D⟩:=Ai (H2 ⟨l,F⟩ ⟨m,h⟩);rw[D] at b ⊢
 have n:Below w.heap.size w ((w.alloc (.cells #[.slice q l.length cap,.bool F] 24 (0,0))).alloc (.cells #[.slice q' m.length d,.bool h] 24 (0,0))):=((Dm _ w).alloc (Ba _) _).alloc (by simp) _;have c:=Dl n;clear D j f n t v k g i;generalize l.length=J at *;generalize m.length=K at *;have I:h=F\/h = !F:=by cases F <;> cases h <;> simp
 rcases I with rfl|rfl
 case inr=>
  have N:=Dl (show R=false by rw[b];cases F <;> rfl);clear b a;cases F <;>
  (go_enter func12,ntmps12
   go_wp2
   go_ret
   exact⟨AB N.out.symm,c.out⟩)
 have N:=Dl (show R=H by rw[b];simp);have z:=Dl (a _ c.out);clear a b;cases h <;>
 (go_enter func12,ntmps12
  go_wp2_with fail
  refine z.out.mono ?_;rintro e L ⟨rfl,A⟩;have o:=c.out.trans (A.mono c.out.size)
  go_wp2
  go_ret
  exact⟨AB N.out.symm,o⟩)
theorem GF.take {w:A5}{q:Option Aa}{l:List ShP}(h:GF w q l)(i:Nat):GF w q (l.take i):=by
 rcases h with rfl|⟨b,o,rfl,hl,hc⟩
 ·exact .inl (by simp)
 ·refine .inr ⟨b,o,rfl,hl,fun j hj=>?_⟩;rw[Be] at hj;obtain⟨vs,h1,h2⟩:=hc j (by omega);exact⟨vs,by rw[Fh];exact h1,h2⟩
set_option maxRecDepth 100000 in
theorem Zb {u w:A5}{T:StrP}{vs:List A0}(hT:JP u T vs)(ht:Ybq u.heap.size u)(hu:Below u.heap.size u w):
  A9 prog 10 #[.agg vs.toArray] w fun e w'=>e=.returned (.int .i64 (E5 T))/\Below w.heap.size w w':=by
 obtain⟨⟨q,cap,rfl,a0,ab,ac⟩,ad⟩:=hT;obtain⟨l,F⟩:=T;dsimp only at *;unfold maxLen at ab;obtain⟨R,hR⟩:=Ai (E5 ⟨l,F⟩);rw[hR];obtain⟨D,hD⟩:=Ai w.heap.size;obtain⟨G,g⟩:=Ai (w.alloc (.cells #[.slice q l.length cap,.bool F] 24 (0,0)));have j:Below w.heap.size w G:=by rw[<-g];exact(Dm _ w).alloc (Ba _) _
 have ae:G.heap.size=D+1:=by rw[<-g,<-hD];simp
 have K:G.heap[D]? =some (.cells [Value.slice q l.length cap,.bool F].toArray 24 (0,0)):=by rw[<-g,<-hD];exact heap_alloc_new w _
 have k0:=A2 (o:=0) K rfl;have m:Hid (∀x,Below (D+1) G x->x.cell? ⟨D,0,none⟩=some (.slice q l.length cap)/\Below w.heap.size w x/\Below u.heap.size u x):=Dl fun x c=>
  ⟨A2 (o:=0) ((c.block D (by omega)).trans K) rfl,j.trans (c.mono (by omega)),hu.trans ((j.trans (c.mono (by omega))).mono hu.size)⟩
 have L:Below (D+1) G G:=Dm _ _;have an:=Dl hR;have t:=Dl g;have ao:=Dl hD;have A:=Dl ae;have B:=Dl ac;have a3:=Dl ht;have ap:=Dl ad;clear hR g j ae K hD ac ad ht;by_cases b:l.length=0\/64<l.length
 ·have a1:=Dl (show R=12 by rw[<-an.out];unfold E5;exact Bc b);have H:=(m.out _ L).2.1;generalize l.length=n at *;by_cases h0:n=0
  ·subst h0;clear b B m
   go_enter func10,ntmps10
   go_wp2_with (rw[t.out,ao.out])
   go_ret
   exact⟨by rw[a1.out];rfl,H⟩
  ·have t0:((n:Int)==0)=false:=by rw[Ez];omega
   have t1:decide (64<(n:Int))=true:=by simp;omega
   have t2:decide (64<n)=true:=by simp;omega
   clear b B m
   go_enter func10,ntmps10
   go_wp2_with (rw[t.out,ao.out])
   go_ret
   exact⟨by rw[a1.out];rfl,H⟩
 have M:=Dl (show R=CR none l by rw[<-an.out];unfold E5;exact Bb b);obtain⟨n,hn⟩:=Ai l.length;have a2:=Dl hn;rw[hn] at b ab m k0;have t0:((n:Int)==0)=false:=by rw[Ez];omega
 have t1:decide (64<(n:Int))=false:=by simp;omega
 have t2:decide (64<n)=false:=by simp;omega
 obtain⟨Y,aq,a4⟩:=QT;rw[hn] at t;rw[hn];clear hn an hu
 go_enter func10,ntmps10
 go_wp2_with (rw[t.out,ao.out])
 clear k0 t0 t1 t2
 go_loopw [19] (fun z wr=>∃i:Nat,i<=n/\z=.int .i64 (i:Int)/\Hid (CR none (l.take i)=0)/\Below (D+1) G wr) (fun z _=>n-(intOf z).toNat)
 case atStart=>exact⟨0,Dn _,rfl,Dl rfl,L⟩
 case round=>
  clear L;obtain⟨i,hi,rfl,ha,hb⟩:=hrel;by_cases af:i<n
  ·have t0:decide ((i:Int)<(n:Int))=true:=by simp;omega
   have t1:decide (i<n)=true:=by simpa using af
   have O:i<l.length:=by rw[a2.out];exact af
   obtain⟨-,ar,ag⟩:=m.out _ hb;obtain⟨P,Q,rfl,j,I⟩:=BO.each B.out (by omega);obtain⟨f,p,ah⟩:=I i O;have U:=p.shape.1;have au:=p.ones;have ai:=ap.out l[i] (Bl O);have aj:=W1 O ha.out;obtain⟨C,hC⟩:=Ai wr.heap.size;obtain⟨d,r⟩:=Ai (wr.alloc (.cells f.toArray 39 (0,0)));have av:d.heap.size=C+1:=by rw[<-r,<-hC];simp
   have ak:Below wr.heap.size wr d:=by rw[<-r];exact(Dm _ wr).alloc (Ba _) _
   have J:wr.rangeAt P (Q+i*8) f:=fun k v hk=>ah wr ag k v hk;have V:d.heap[C]? =some (.cells f.toArray 39 (0,0)):=by rw[<-r,<-hC];exact heap_alloc_new wr _
   have a:=hb.trans (ak.mono (by have:=hb.size;have:=A.out;omega));have a5:D+1<=C:=by have h1:=hb.size;have h2:=A.out;omega
   have W:(prog.info? 39).map (·.size)=some f.toArray.size:=by rw[show f.toArray.size=8 from U];kernel_rfl
   have aw:Y.size=f.toArray.size:=by rw[aq];exact U.symm
   have c1:=UA (u:=u) (w:=d) (S:=l[i]) (vs:=f) ⟨p,ai⟩ a3.out (m.out _ a).2.2;have X:(l.take i).length=i:=by rw[Be];omega
   have aa:Hid (∀x,Below d.heap.size d x->x.cell? ⟨D,0,none⟩=some (.slice (some ⟨P,Q,none⟩) n cap)/\x.heap[C]? =some (.cells f.toArray 39 (0,0))/\Below (D+1) G x):=Dl fun x c=>
    ⟨(m.out x (a.trans (c.mono (by have:=a.size;have:=A.out;omega)))).1,(c.block C (by omega)).trans V,a.trans (c.mono (by have:=a.size;have:=A.out;omega))⟩
   have a6:=Dl (fun(y:A5) (hy:Below d.heap.size d y)=>(by
    have h:=Yy (w:=y) (some ⟨P,Q,none⟩) cap (l.take i) p ((GF.below B.out (m.out y (aa.out y hy).2.2).2.2).take i) (by rw[X];unfold maxLen;omega);rw[X] at h;exact h.mono fun e z k=>⟨k.1,hy.trans (k.2.mono hy.size)⟩:A9 prog 21 #[.slice (some ⟨P,Q,none⟩) i cap,.agg f.toArray] y fun e z=>e=.returned (.bool (CD (CA (l.take i)) l[i]))/\Below d.heap.size d z))
   have ax:=Dl (fun x (c:Below d.heap.size d x)=>(aa.out x c).2.1);have ay:i<=cap:=by omega
   have tc:decide (i<=cap)=true:=by simpa using ay
   have s:=WH (l:=l) (i:=i+1);generalize CD (CA (l.take i)) l[i]=fo at *;generalize BT l[i]=er at *;have Z:=Dl aj;have al:=Dl s;have az:=Dl r;have a7:=Dl hC;clear r hC av ak ah ha aj s X p ai ar ag hb j I a
   go_wp2_with (first|(with_reducible refine NP rfl _ rfl P (Q+i*8) rfl f J U ?_)|(with_reducible refine BZ rfl 39 _ _ rfl f.toArray Y 39 rfl rfl W aw au ?_;rw[az.out,a7.out])|(with_reducible refine Mo rfl 39 _ rfl C rfl 39 f.toArray (0,0) _ V Nv rfl W ?_))
   refine c1.mono ?_;rintro e w2 ⟨rfl,E⟩;clear J V c1;by_cases he:er=0
   case neg=>
    have tn:(er != 0)=true:=by rw[Ff];exact he
    have N:=Dl (show R=er by
     have h1:=Z.out;rw[Bc he] at h1;have h2:=al.out (by rw[h1];exact he);rw[M.out,h2,h1])
    have H:=(m.out _ (aa.out _ E).2.2).2.1;clear he
    go_wp2
    go_ret
    exact⟨by rw[N.out];rfl,H⟩
   subst he;have tn:((0:Int) != 0)=false:=rfl;have k0:=(aa.out _ E).1
   go_wp2
   refine BU (S:=fun x=>Below d.heap.size d x) 7 (by kernel_rfl) (by kernel_rfl) E.drew ?_;simp only[Dp,Bk,Gs,Gt];refine AJ ?_;simp only[A1];refine AR 22 _ ⟨D,0,none⟩ (.slice (some ⟨P,Q,none⟩) n cap) (by kernel_rfl) rfl rfl (fun x c=>by have c0:=(aa.out x c).1;go_simp) ?_;simp only[A1];refine AJ ?_;simp only[A1]
   refine AT (v:=.slice (some ⟨P,Q,none⟩) i cap) (by kernel_rfl) (fun x _=>by go_simp) ?_;simp only[A1];refine FJ 39 _ C 39 f.toArray (0,0) _ (by kernel_rfl) rfl rfl (fun x c=>ax.out x c) Nv rfl W ?_;simp only[A1];refine AY (by kernel_rfl) a6.out (fun _=>by kernel_rfl) ?_;simp only[A1];refine AJ ?_;simp only[A1];refine BS fun x c=>?_;clear k0 E
   have am:=(aa.out _ c).2.2;cases fo with
   |false=>
    have N:=Dl (show R=11 by
     have h1:=Z.out;rw[Bb (by decide),Bc rfl] at h1;have h2:=al.out (by rw[h1];decide);rw[M.out,h2,h1])
    have H:=(m.out _ am).2.1
    go_wp2
    go_ret
    exact⟨by rw[N.out];rfl,H⟩
   |true=>
    have N:=Dl (show CR none (l.take (i+1))=0 by
     have h1:=Z.out;rw[Bb (by decide),Bb (by decide)] at h1;exact h1)
    go_wp2
    go_roundw
    case rel=>exact⟨i+1,by omega,by go_num,N,am⟩
    case measure=>simp[intOf];omega
  ·obtain rfl:i=n:=by omega
   have t0:decide ((i:Int)<(i:Int))=false:=by simp
   have t1:decide (i<i)=false:=by simp
   have N:=Dl (show R=0 by
    have h:=ha.out;rw[Bh (by have:=a2.out;omega)] at h;rw[M.out,h])
   have H:=(m.out _ hb).2.1
   go_wp2
   go_ret
   exact⟨by rw[N.out];rfl,H⟩
def Pp (T:StrP):Prop:=T.sheets.length<=70/\∀S∈T.sheets,Yj4 S/\S.zeros<=300000
theorem Yj4.few {S:ShP}(h:Yj4 S):Qq S:=⟨by have:=h.rows;omega,fun c hc k a=>by have:=h.mem c hc k a;omega⟩
theorem Pp.lies {u:A5}{T:StrP}{vs:List A0}(h:Pp T)(a:IC u T vs):JP u T vs:=⟨a,fun S b=>(h.2 S b).1.few⟩
theorem jX {u w:A5}{S:ShP}{vs:List A0}(a:ShV u S vs)(c:Below u.heap.size u w):A9 prog 18 #[.agg vs.toArray] w (KG S w):=by
 obtain⟨p,b,ca,cb,rfl,hl,hn,-,hr⟩:=a;exact mQ S p b ca cb w hl hn (hr.below c)
def TJ (T:StrP)(w:A5)(e:Ae)(a:A5):Prop:=(∃y,e=.returned (.bool y)/\(y=true->Pp T))/\Below w.heap.size w a
set_option maxRecDepth 100000 in
theorem Ww {u w:A5}{T:StrP}{vs:List A0}(hT:IC u T vs)(hu:Below u.heap.size u w):A9 prog 8 #[.agg vs.toArray] w (TJ T w):=by
 obtain⟨q,cap,rfl,-,U,V⟩:=hT;obtain⟨l,F⟩:=T;dsimp only at *;unfold maxLen at U;obtain⟨D,hD⟩:=Ai w.heap.size;obtain⟨n,hn⟩:=Ai l.length;rw[hn] at U ⊢;obtain⟨p,r⟩:=Ai (w.alloc (.cells #[.slice q n cap,.bool F] 24 (0,0)));have s:Below w.heap.size w p:=by rw[<-r];exact(Dm _ w).alloc (Ba _) _
 have W:p.heap.size=D+1:=by rw[<-r,<-hD];simp
 have X:p.heap[D]? =some (.cells [Value.slice q n cap,.bool F].toArray 24 (0,0)):=by rw[<-r,<-hD];exact heap_alloc_new w _
 have E:Hid (∀x,Below (D+1) p x->x.cell? ⟨D,0,none⟩=some (.slice q n cap)/\Below w.heap.size w x/\Below u.heap.size u x):=Dl fun x t=>
  ⟨A2 (o:=0) ((t.block D (by omega)).trans X) rfl,s.trans (t.mono (by omega)),hu.trans ((s.trans (t.mono (by omega))).mono hu.size)⟩
 have A:Below (D+1) p p:=Dm _ _;have ai:=Dl (fun(x:A5) (t:Below (D+1) p x)=>(⟨⟨false,rfl,fun h=>by cases h⟩,(E.out x t).2.1⟩:TJ ⟨l,F⟩ w (.returned (.bool false)) x));obtain⟨I,hE,-⟩:=E.out _ A;have Y:=Dl r;have ay:=Dl hD;have aj:=Dl V;have ak:=Dl hn;have al:=Dl W;clear r s W X hD V hn hu;by_cases J:70<n
 ·have t0:decide (70<(n:Int))=true:=by simp;omega
  have t1:decide (70<n)=true:=by simpa using J
  clear J E
  go_enter func8,ntmps8
  go_wp2_with (rw[Y.out,ay.out])
  go_ret
  exact ai.out _ A
 have t0:decide (70<(n:Int))=false:=by simp;omega
 have t1:decide (70<n)=false:=by simpa using J
 have am:=Dl (fun(y:Bool) (x:A5) (t:Below (D+1) p x) (h:∀j (h:j<l.length),Yj4 l[j]/\l[j].zeros<=300000)=>(⟨⟨y,rfl,fun _=>⟨by show l.length<=70;rw[ak.out];omega,fun S hS=>by
  obtain⟨j,hj,rfl⟩:=J4.1 hS;exact h j hj⟩⟩,(E.out x t).2.1⟩:TJ ⟨l,F⟩ w (.returned (.bool y)) x))
 go_enter func8,ntmps8
 go_wp2_with (rw[Y.out,ay.out])
 clear I t0 t1 hE
 go_loopw [3,4] (fun a z wr=>∃(c:Int) (i:Nat),a=.int .i64 c/\z=.int .i64 (i:Int)/\i<=n/\Hid (∀j (h:j<l.length),j<i->Yj4 l[j]/\l[j].zeros<=300000)/\Below (D+1) p wr) (fun _ z _=>n-(intOf z).toNat)
 case atStart=>exact⟨0,0,rfl,rfl,Dn _,Dl fun j _ h=>absurd h (Fc j),A⟩
 case round=>
  clear A;obtain⟨c,i,rfl,rfl,hi,ha,Q⟩:=hrel;by_cases Z:i<n
  ·have t0:decide ((i:Int)<(n:Int))=true:=by simp;omega
   have t1:decide (i<n)=true:=by simpa using Z
   have an:i<l.length:=by rw[ak.out];exact Z
   obtain⟨b1,o1,rfl,s,G⟩:=BO.each aj.out (by omega);obtain⟨xs,B,C⟩:=G i an;obtain⟨I,ao,K⟩:=E.out _ Q;have ap:=B.shape.1;have H:wr.rangeAt b1 (o1+i*8) xs:=fun k v hk=>C wr K k v hk;have c1:=jX B K;have R:=fun x t=>C x t 7 _ B.parts.2.2;obtain⟨p2,b2,a2,aq,aa,-,ab,-,f⟩:=B
   have L:=fun x t=>C x t 6 (.slice b2 l[i].rows.length aq) (by rw[aa];rfl);have ah:=Dl (fun(h1:Yj4 l[i]) (h2:l[i].zeros<=300000)=>(fun j h hj=>(by
    by_cases e:j<i
    ·exact ha.out j h e
    ·obtain rfl:j=i:=by omega
     exact⟨h1,h2⟩):∀j (h:j<l.length),j<i+1->Yj4 l[j]/\l[j].zeros<=300000))
   obtain⟨S,hS⟩:=Ai (l[i]);rw[hS] at c1 R L ab f ah;obtain⟨zz,ac⟩:=Ai S.zeros;rw[ac] at R ah;obtain⟨m,hm⟩:=Ai S.rows.length;simp only[hm] at L ab;have az:=Dl hm;have a3:=Dl R;have a0:=Dl L;have ar:=Dl f;clear C ha aa ao K s G R L f hS ac hm
   go_wp2_with (with_reducible refine NP rfl _ rfl b1 (o1+i*8) rfl xs H ap ?_)
   refine c1.mono ?_;rintro e w2 ⟨⟨y,rfl,hy⟩,ad⟩;have b:Below (D+1) p w2:=Q.trans (ad.mono (by have:=Q.size;have:=al.out;omega));clear c1 H I Q ad;obtain⟨I,-,M⟩:=E.out _ b;cases y with
   |false=>
    go_wp2
    go_ret
    exact ai.out _ b
   |true=>
   have R:=a3.out _ M;by_cases hz:300000<zz
   ·have t3:decide (300000<zz)=true:=Gq hz;clear hz hy
    go_wp2
    go_ret
    exact ai.out _ b
   have t3:decide (300000<zz)=false:=Gp hz;have au:=Dl (ah.out (hy rfl) (by omega));have av:S.rows.length<=30:=(hy rfl).rows;have L:=a0.out _ M;rw[az.out] at av;clear hy hz ah
   go_wp2
   clear t3 L R I M
   go_loopw [3,5] (fun a z wk=>∃(d:Int) (k:Nat),a=.int .i64 d/\z=.int .i64 (k:Int)/\k<=m/\Below (D+1) p wk) (fun _ z _=>m-(intOf z).toNat)
   case atStart=>exact⟨_,0,rfl,rfl,Dn _,b⟩
   case round=>
    clear b;obtain⟨d,k,rfl,rfl,hk,O⟩:=hrel;obtain⟨I,-,P⟩:=E.out _ O;have L:=a0.out _ P;by_cases ae:k<m
    ·have t3:decide ((k:Int)<(m:Int))=true:=by simp;omega
     have t4:decide (k<m)=true:=by simpa using ae
     have aw:k<S.rows.length:=by rw[az.out];exact ae
     obtain⟨b3,o3,rfl,ax,af⟩:=JM ar.out (by omega);obtain⟨r3,a1,-,-,-,ag⟩:=af k aw;obtain⟨-,-,-,c3⟩:=ag _ P;generalize S.rows[k].cels.length=g at c3;clear af ag ax P
     go_wp2
     go_roundw
     case rel=>exact⟨_,k+1,rfl,by go_num,by omega,O⟩
     case measure=>simp[intOf];omega
    ·obtain rfl:k=m:=by omega
     have t3:decide ((k:Int)<(k:Int))=false:=by simp
     have t4:decide (k<k)=false:=by simp
     go_wp2
     go_roundw
     case rel=>exact⟨_,i+1,rfl,by go_num,by omega,au,O⟩
     case measure=>simp[intOf];omega
  ·obtain rfl:i=n:=by omega
   have t0:decide ((i:Int)<(i:Int))=false:=by simp
   have t1:decide (i<i)=false:=by simp
   obtain⟨I,-,-⟩:=E.out _ Q;have N:=Dl (fun j (h:j<l.length)=>ha.out j h (by have:=ak.out;omega))
   go_wp2
   go_ret
   exact am.out _ _ Q N.out
theorem vY (n m:Nat)(w:A5)(hn:n<=1099511627776):A9 prog 160 #[.int .i64 (n:Int),.int .i64 (m:Int)] w fun e d=>e=.returned (.int .i64 (LS n m:Int))/\w=d:=by
 by_cases h1:n=m
 ·have d1:((n:Int)==(m:Int))=true:=by simp[h1]
  have a:LS n m=n / 8:=Bc h1;have b:=Dl a;have f:(n:Int).tdiv 8=((n / 8:Nat):Int):=by rw[Is (by omega)];omega
  have g:IntKind.i64.wrap ((n / 8:Nat):Int)=((n / 8:Nat):Int):=DA (by omega);generalize n / 8=u at *;clear h1 a
  go_enter func160,ntmps160
  go_wp2
  go_ret
  exact⟨H0 (by rw[b.out]),rfl⟩
 ·have d1:((n:Int)==(m:Int))=false:=by simp;omega
  by_cases h2:n%8=0/\16<=n
  ·have a:LS n m=(n-16) / 8:=by unfold LS;rw[Bb h1,Bc h2]
   have b:=Dl a;have h:(n:Int).tmod 8=0:=by rw[It (by omega)];omega
   have d2:decide ((n:Int)>=16)=true:=by simp;omega
   have i:IntKind.i64.wrap ((n:Int)-16)=((n-16:Nat):Int):=by rw[DA (by omega)];omega
   have f:((n-16:Nat):Int).tdiv 8=(((n-16) / 8:Nat):Int):=by rw[Is (by omega)];omega
   have g:IntKind.i64.wrap (((n-16) / 8:Nat):Int)=(((n-16) / 8:Nat):Int):=DA (by omega);generalize (n-16) / 8=u at *;generalize n-16=v at *;clear h1 h2 a
   go_enter func160,ntmps160
   go_wp2
   go_ret
   exact⟨H0 (by rw[b.out]),rfl⟩
  ·have a:LS n m=0:=by unfold LS;rw[Bb h1,Bb h2]
   have b:=Dl a;by_cases h3:n%8=0
   ·have h:(n:Int).tmod 8=0:=by rw[It (by omega)];omega
    have d2:decide ((n:Int)>=16)=false:=by simp;omega
    clear h1 h2 h3 a
    go_enter func160,ntmps160
    go_wp2
    go_ret
    exact⟨H0 (by rw[b.out];rfl),rfl⟩
   ·obtain⟨r,hr⟩:=Ai ((n:Int).tmod 8);have c:r≠0:=by rw[<-hr,It (by omega)];omega
    have d2:(r==0)=false:=by simpa using c
    clear h1 h2 h3 a c
    go_enter func160,ntmps160
    go_wp2
    go_ret
    exact⟨H0 (by rw[b.out];rfl),rfl⟩
theorem wZ (c:Cel)(sl:Nat->A0)(w:A5):A9 prog 179 #[.agg (AF c sl).toArray] w fun e m=>e=.returned (.bool (!AE c.kind))/\Below w.heap.size w m:=by
 obtain⟨A,g⟩:=Ai w.heap.size;obtain⟨i,a⟩:=Ai (w.alloc (.cells (AF c sl).toArray 77 (0,0)));have d:Below w.heap.size w i:=by rw[<-a];exact(Dm _ w).alloc (Ba _) _
 have n:i.cell? ⟨A,2,none⟩=some (.int .i64 c.kind):=by rw[<-a,<-g];exact A2 (heap_alloc_new w _) rfl
 have b:=Dl a;have j:=Dl g;obtain⟨Z,l⟩:=Ai ((AF c sl).toArray);rw[l] at b ⊢;generalize c.kind=k at *;clear a g l;by_cases h3:k=3
 ·have f:AE k=true:=by rw[h3];rfl
  have h:=Dl f;have d1:(k != 3)=false:=by simp[h3]
  clear h3 f
  go_enter func179,ntmps179
  go_wp2_with (rw[b.out,j.out])
  go_ret
  exact⟨by rw[h.out];rfl,d⟩
 ·have d1:(k != 3)=true:=by simp[h3]
  have f:(!AE k)=(k != 4):=by unfold AE;rw[Ez.2 h3];rfl
  have h:=Dl f;clear h3 f
  go_enter func179,ntmps179
  go_wp2_with (rw[b.out,j.out])
  go_ret
  exact⟨by rw[h.out];rfl,d⟩
section
variable {w:A5}{G rb p:Nat}{s:ByteArray}{k:Int}{inter:Bool}{vv:A0}{vs:List (Int×Int)}{first:Int}
theorem yJ (h:Ycy w G rb s p k inter vv vs first)(hs:s.size<=1073741824):A9 prog 176 #[.pointer (some ⟨G,0,none⟩)] w fun e r=>e=.returned (.bool ((B4 s.data.toList p).2&&((B4 s.data.toList p).1 != 0&&(B4 s.data.toList p).1 != 31)))/\Below w.heap.size w r:=by
 have i:=fun(x y:A5) (a:Below w.heap.size w x) (t:Below x.heap.size x y)=>(a.trans (t.mono a.size):Below w.heap.size w y);have d:=Dl (fun(x:A5) (a:Below w.heap.size w x)=>(h.below a).cell (o:=0) rfl)
 have j:=Dl (fun(x:A5) (a:Below w.heap.size w x)=>(KK x rb s p (h.below a).rd).mono fun e y (q:e=.returned (.string s)/\x=y)=>(⟨q.1,q.2▸a⟩:e=.returned (.string s)/\Below w.heap.size w y))
 have l:=Dl (fun(x:A5) (a:Below w.heap.size w x)=>(E1 x rb s p (h.below a).rd).mono fun e y (q:e=.returned (.int .i64 (p:Int))/\x=y)=>(⟨q.1,q.2▸a⟩:e=.returned (.int .i64 (p:Int))/\Below w.heap.size w y));have f:=fun(x:A5)=>UB x s (p:Int) (by omega);obtain⟨⟨m,g⟩,hm⟩:=Ai (B4 s.data.toList (p:Int));rw[hm] at f ⊢
 have n:=Dl (fun(x:A5) (a:Below w.heap.size w x)=>(f x).mono fun e y q=>(⟨q.1,i x y a q.2⟩:e=.returned (.tuple #[.int .i64 m,.bool g])/\Below w.heap.size w y));clear i f hm h hs;dsimp only;have b:=Dm w.heap.size w
 go_enter func176,ntmps176
 go_wp2
 refine BU (S:=fun x=>Below w.heap.size w x) 16 (by kernel_rfl) (by kernel_rfl) b.drew ?_;simp only[Dp,Bk,Gs,Gt]
 iterate 3 (refine AJ ?_;simp only[A1])
 refine AR 54 _ ⟨G,0,none⟩ (.pointer (some ⟨rb,0,none⟩)) (by kernel_rfl) rfl rfl (fun x a=>by have u:=d.out x a;go_simp) ?_;simp only[A1];refine AY (by kernel_rfl) j.out (fun _=>by kernel_rfl) ?_;simp only[A1]
 iterate 3 (refine AJ ?_;simp only[A1])
 refine AR 54 _ ⟨G,0,none⟩ (.pointer (some ⟨rb,0,none⟩)) (by kernel_rfl) rfl rfl (fun x a=>by have u:=d.out x a;go_simp) ?_;simp only[A1];refine AY (by kernel_rfl) l.out (fun _=>by kernel_rfl) ?_;simp only[A1];refine AY (by kernel_rfl) n.out (fun _=>by kernel_rfl) ?_;simp only[A1]
 iterate 5 (refine AJ ?_;simp only[A1])
 refine BS fun x a=>?_;clear d j l n b;cases g with
 |false=>
  go_wp2
  go_ret
  exact⟨rfl,a⟩
 |true=>
  by_cases c:m=0
  ·have d1:(m != 0)=false:=by simp[c]
   clear c
   go_wp2
   go_ret
   exact⟨by rw[d1];rfl,a⟩
  ·have d1:(m != 0)=true:=by simp[c]
   clear c
   go_wp2
   go_ret
   exact⟨by rw[d1];rfl,a⟩
theorem Ycy.ptr (h:Ycy w G rb s p k inter vv vs first):w.cell? ⟨G,0,none⟩=some (.pointer (some ⟨rb,0,none⟩)):=h.cell rfl
def P8 (l:List UInt8)(p:Nat):Int:=if AD l p (gap p)=0 then 0 else 5
theorem iL (h:Ycy w G rb s p k inter vv vs first)(hs:s.size<=1073741824):A9 prog 129 #[.pointer (some ⟨G,0,none⟩)] w fun e P=>
  ∃n:Nat,e=.returned (.tuple #[.int .i64 (n:Int),.int .i64 (P8 s.data.toList p)])/\w.grownBy P (some rb)/\(∃q,AG P rb s q)/\(P8 s.data.toList p=0->n=HW s.data.toList (p+gap p)/\AG P rb s (p+gap p+8*n)):=by
 have i:s.data.toList.length=s.size:=rfl;have hp:=h.rd.2.1;have k0:=h.cell (o:=0) rfl;have C:=TM w rb s p h.rd;by_cases A:AD s.data.toList p (gap p)=0
 case neg=>
  have D:P8 s.data.toList p=5:=Bb A;have E:JB s.data.toList p=(0,5):=Bb A;have F:MC s.data.toList p=p:=Bb A;rw[E,F] at C;have Q:=Dl D;clear D E F i h
  go_enter func129,ntmps129
  go_wp2_with fail
  refine C.mono ?_;rintro e a ⟨rfl,j,f⟩
  go_wp2
  go_ret2
  rw[Q.out];exact⟨0,rfl,f,⟨p,j⟩,fun h=>by cases h⟩
 case pos=>
  have D:P8 s.data.toList p=0:=Bc A;have E:JB s.data.toList p=(((gap p:Nat):Int),0):=Bc A;have F:MC s.data.toList p=p+gap p:=Bc A;rw[E,F] at C;have R:=Vl hp;obtain⟨q,N⟩:=Ai (p+gap p);have T:q%8=0:=by rw[<-N];unfold gap;omega
  have d:=oI (l:=s.data.toList) (p:=q) (by omega) T;have H:=SD (l:=s.data.toList) (p:=q) (by omega);have m:=(W7 (l:=s.data.toList) (p:=q) (by omega)).2.1;rw[BB,i] at m;rw[N] at C ⊢;obtain⟨n,hn⟩:=Ai (HW s.data.toList q);obtain⟨u,U⟩:=Ai (C0 s.data.toList (q:Int));rw[hn] at m d ⊢;rw[U] at H d;rw[i] at H d;rw[N] at R
  have c2:=fun(x:A5)=>mO x s (q:Int) (by omega);rw[U] at c2;have Q:=Dl D;have ah:=Dl d;clear D E F i hn U N A
  go_enter func129,ntmps129
  go_wp2_with fail
  refine C.mono ?_;rintro e a ⟨rfl,j,f⟩;have h1:=h.reads f j;clear C k0;have V:=fun(x y:A5) (b:Below a.heap.size a x) (hy:Below x.heap.size x y)=>(b.trans (hy.mono b.size):Below a.heap.size a y);have W:=Dl (fun(x:A5) (b:Below a.heap.size a x)=>(h1.below b).cell (o:=0) rfl)
  have aa:=Dl (fun(x:A5) (b:Below a.heap.size a x)=>(KK x rb s q (h1.below b).rd).mono fun e y (z:e=.returned (.string s)/\x=y)=>(⟨z.1,z.2▸b⟩:e=.returned (.string s)/\Below a.heap.size a y))
  have ab:=Dl (fun(x:A5) (b:Below a.heap.size a x)=>(E1 x rb s q (h1.below b).rd).mono fun e y (z:e=.returned (.int .i64 (q:Int))/\x=y)=>(⟨z.1,z.2▸b⟩:e=.returned (.int .i64 (q:Int))/\Below a.heap.size a y));have ac:=Dl (fun(x:A5) (b:Below a.heap.size a x)=>(c2 x).mono fun e y z=>(⟨z.1,V x y b z.2⟩:e=.returned (.int .i64 (u:Int))/\Below a.heap.size a y))
  have ad:=Dl (fun(x:A5) (b:Below a.heap.size a x)=>(Pr x rb s q (h1.below b).rd).mono fun e y z=>(⟨by rw[z.1,show (8*(s.size:Int)-(q:Int))=((8*s.size-q:Nat):Int) by omega],V x y b z.2⟩:e=.returned (.int .i64 ((8*s.size-q:Nat):Int))/\Below a.heap.size a y))
  have ae:=Dl (fun(x:A5) (b:Below a.heap.size a x)=>(vY u (8*s.size-q) x (by omega)).mono fun e y z=>(⟨by rw[z.1,<-d],z.2▸b⟩:e=.returned (.int .i64 (n:Int))/\Below a.heap.size a y));have X:=Dm a.heap.size a;have af:=Dl h1;have ag:=Dl f;clear V c2 j h d h1 f;generalize 8*s.size-q=left at *
  go_wp2
  refine BU (S:=fun x=>Below a.heap.size a x) 18 (by kernel_rfl) (by kernel_rfl) X.drew ?_;simp only[Dp,Bk,Gs,Gt]
  iterate 3 (refine AJ ?_;simp only[A1])
  refine AR 54 _ ⟨G,0,none⟩ (.pointer (some ⟨rb,0,none⟩)) (by kernel_rfl) rfl rfl (fun x b=>by have O:=W.out x b;go_simp) ?_;simp only[A1];refine AY (by kernel_rfl) aa.out (fun _=>by kernel_rfl) ?_;simp only[A1]
  iterate 3 (refine AJ ?_;simp only[A1])
  refine AR 54 _ ⟨G,0,none⟩ (.pointer (some ⟨rb,0,none⟩)) (by kernel_rfl) rfl rfl (fun x b=>by have O:=W.out x b;go_simp) ?_;simp only[A1];refine AY (by kernel_rfl) ab.out (fun _=>by kernel_rfl) ?_;simp only[A1];refine AY (by kernel_rfl) ac.out (fun _=>by kernel_rfl) ?_;simp only[A1]
  iterate 3 (refine AJ ?_;simp only[A1])
  refine AR 54 _ ⟨G,0,none⟩ (.pointer (some ⟨rb,0,none⟩)) (by kernel_rfl) rfl rfl (fun x b=>by have O:=W.out x b;go_simp) ?_;simp only[A1];refine AY (by kernel_rfl) ad.out (fun _=>by kernel_rfl) ?_;simp only[A1];refine AY (by kernel_rfl) ae.out (fun _=>by kernel_rfl) ?_;simp only[A1];refine AJ ?_;simp only[A1];refine BS fun x b=>?_
  go_wp2
  have w8:IntKind.i64.wrap (8*(n:Int))=((8*n:Nat):Int):=by rw[DA (by omega)];omega
  have wq:IntKind.i64.wrap ((q:Int)+((8*n:Nat):Int))=((q+8*n:Nat):Int):=by rw[DA (by omega)];omega
  have I:=m;obtain⟨Z,B⟩:=Ai (8*n);rw[B] at w8 wq I;have Y:=Dl B;clear B m;have J:=b.drew;have r:=af.out.below J;have kd:=r.cell (o:=0) rfl;refine My (S:=fun x=>x.cell? ⟨G,0,none⟩=some (.pointer (some ⟨rb,0,none⟩))) (by kernel_rfl) kd (fun c=>?_);refine AL 0 (some 35) c ?_
  try simp only[A1]
  refine AL 1 (some 36) c ?_
  try simp only[A1]
  refine AL 2 (some 37) c ?_
  try simp only[A1]
  refine AL 3 (some 38) c ?_
  try simp only[A1]
  refine F5 4 (some 39) (v:=.pointer (some ⟨rb,0,none⟩)) rfl rfl c (by kernel_rfl) (fun x b=>by have O:=(show x.cell? ⟨G,0,none⟩=some (.pointer (some ⟨rb,0,none⟩)) from b);go_simp) ?_
  try simp only[A1]
  refine AL 5 (some 40) c ?_
  try simp only[A1]
  refine AL 6 (some 41) c ?_
  try simp only[A1]
  refine AL 7 (some 42) c ?_
  try simp only[A1]
  refine F5 8 (some 43) (v:=.pointer (some ⟨rb,0,none⟩)) rfl rfl c (by kernel_rfl) (fun x b=>by have O:=(show x.cell? ⟨G,0,none⟩=some (.pointer (some ⟨rb,0,none⟩)) from b);go_simp) ?_
  try simp only[A1]
  refine AL 10 (some 45) c ?_
  try simp only[A1]
  refine AL 11 (some 46) c ?_
  try simp only[A1]
  refine Mx (rs:=[9]) (by kernel_rfl) (by simp) ?_;refine Mv rfl (fun K L=>?_) Mw
  go_simp
  go_wp2_with fail
  refine(E1 _ _ _ _ r.rd).mono ?_;rintro e u ⟨rfl,rfl⟩;refine L.out _ _ (kd) (fun g=>?_);clear L K c;have c:=g;clear g
  try simp only[A1]
  refine AL 12 (some 47) c ?_
  try simp only[A1]
  refine Mx (rs:=[13]) (by kernel_rfl) (by simp) ?_;refine Mv rfl (fun K L=>?_) Mw
  go_simp
  go_wp2_with fail
  refine(GA _ _ _ _ _ r.rd (by omega) (by omega)).mono ?_;rintro e w3 ⟨rfl,t,M⟩;have k3:=Ycy.ptr (r.reads M t);refine L.out _ _ (k3) (fun g=>?_);clear L K c;have c:=g;clear g
  try simp only[A1]
  refine AL 14 (some 2) c ?_
  try simp only[A1]
  refine AL 15 (some 3) c ?_
  try simp only[A1]
  refine Mz (by kernel_rfl) ?_ _;rw[show ((q:Int)+(Z:Int)).toNat=q+Z by omega] at t
  go_wp2
  go_ret2
  rw[Q.out];exact⟨n,rfl,AO (AO ag.out (BR J _)) M,⟨_,t⟩,fun _=>⟨rfl,by rw[Y.out];exact t⟩⟩
end
theorem Ycy.put {w z:A5}{G rb p A:Nat}{s:ByteArray}{k:Int}{inter:Bool}{vv:A0}{vs:List (Int×Int)}{first:Int}(h:Ycy w G rb s p k inter vv vs first)(a:w.grownBy z (some A))(b:G≠A/\rb≠A/\∀j,vv.ownBlock=some j->j≠A):Ycy z G rb s p k inter vv vs first:=
 h.keptL (M:=[some A]) (Yae.one a fun j _ e=>by rw[e];exact Df.2 rfl) (fun hm=>by have e:=Df.1 hm;injection e with e;omega) (fun hm=>by have e:=Df.1 hm;injection e with e;omega)
  fun j hj hm=>by have e:=Df.1 hm;injection e with e;have:=b.2.2 j hj;omega
theorem Uy {G rb A:Nat}{vv:A0}(h:G<A/\rb<A/\∀j,vv.ownBlock=some j->j<A):G≠A/\rb≠A/\∀j,vv.ownBlock=some j->j≠A:=⟨by omega,by omega,fun j hj=>by have:=h.2.2 j hj;omega⟩
theorem pX (rb:Nat)(hd:Shd)(a b:A0)(z:Int)(w:A5):A9 prog 127 #[.pointer (some ⟨rb,0,none⟩),.agg (AQ hd a b z).toArray] w fun e v=>
  e=.returned (.pointer (some ⟨w.heap.size+1,0,none⟩))/\v.heap[w.heap.size+1]? =some (.cells (NB rb hd.fmt hd.inter (.slice none 0 0) 0).toArray 157 (0,0))/\Below w.heap.size w v:=by
 obtain⟨A,j⟩:=Ai w.heap.size;obtain⟨Z,n⟩:=Ai ((AQ hd a b z).toArray);obtain⟨d,c⟩:=Ai (w.alloc (.cells Z 39 (0,0)));have g:d.heap[A]? =some (.cells (AQ hd a b z).toArray 39 (0,0)):=by rw[n,<-c,<-j];exact heap_alloc_new w _
 have h:Below w.heap.size w d:=by rw[<-c];exact(Dm _ w).alloc (Ba _) _
 have i:d.heap.size=A+1:=by rw[<-c,<-j];simp
 have B:d.cell? ⟨A,2,none⟩=some (.int .i64 hd.fmt):=A2 g rfl;have C:d.cell? ⟨A,3,none⟩=some (.bool hd.inter):=A2 g rfl;have c1:=fun w=>PN hd.fmt w;have c2:=fun w=>Pb hd.fmt w;obtain⟨R,o⟩:=Ai ((NB rb hd.fmt hd.inter (.slice none 0 0) 0).toArray)
 have l:#[.pointer (some ⟨rb,0,none⟩),.int .i64 hd.fmt,.int .i64 (BC hd.fmt),.int .i64 (BG hd.fmt),.int .i64 (Bx hd.fmt),.bool hd.inter,.slice none 0 0,.int .i64 0]=R:=o;obtain⟨x,f⟩:=Ai (d.alloc (.cells R 157 (0,0)));have p:x.heap[A+1]? =some (.cells R 157 (0,0)):=by rw[<-f,<-i];exact heap_alloc_new d _
 have m:Below w.heap.size w x:=by rw[<-f];exact h.alloc h.size _
 have q:=Dl c;have y:=Dl j;have r:=Dl l;have s:=Dl f;have t:=Dl i;rw[n,o,j];rw[j] at m;generalize hd.fmt=k at *;generalize hd.inter=inter at *;generalize BC k=f1 at *;generalize BG k=f2 at *;generalize Bx k=f3 at *;clear c j g h i f n o l
 go_enter func127,ntmps127
 go_wp2_with (rw[q.out,y.out])
 refine(c1 d).mono ?_;rintro e u ⟨rfl,rfl⟩
 go_wp2_with fail
 refine(c2 d).mono ?_;rintro e u ⟨rfl,rfl⟩
 go_wp2_with (with_reducible refine Ov rfl 157 _ rfl (some 29) rfl #[.pointer (some ⟨rb,0,none⟩),.int .i64 k,.int .i64 f1,.int .i64 f2,.int .i64 f3,.bool inter,.slice none 0 0,.int .i64 0] (by kernel_rfl) ?_;rw[r.out])
 rw[s.out,t.out]
 go_ret
 exact⟨rfl,p,m⟩
def VA (s:ByteArray)(G rb p:Nat)(k:Int)(inter:Bool)(vv:A0)(vs:List (Int×Int))(first:Int)(i:Nat)(w:A5)(e:Ae)(a:A5):Prop:=
 ∃(b:Bool) (id qu:Int) (z:Nat) (fs f:Int),Hf s.data.toList k i p first=(b,id,qu,z,fs,f)/\e=.returned (.tuple #[.agg [Value.bool b,.int .i64 id,.int .i64 qu,.slice none 0 0].toArray,.int .i64 f])/\
  Ycy a G rb s z k inter vv vs fs/\Yae [some rb,some G] w a
theorem xI {w:A5}{G rb p:Nat}{s:ByteArray}{k:Int}{inter:Bool}{vv:A0}{vs:List (Int×Int)}{first:Int}(i:Nat)(h:Ycy w G rb s p k inter vv vs first)(hs:s.size<=1073741824)(hi:i<=1000):
  A9 prog 157 #[.pointer (some ⟨G,0,none⟩),.int .i64 (i:Int)] w (VA s G rb p k inter vv vs first i w):=by
 have ac:=SI;obtain⟨Y,B⟩:∃Y:Array A0,[Value.bool false,.int .i64 0,.int .i64 0,.slice none 0 0].toArray=Y:=⟨_,rfl⟩;rw[B] at ac;obtain⟨A,K⟩:=Ai w.heap.size;obtain⟨y,b⟩:=Ai (w.alloc (.cells Y 46 (0,0)));have C:y.heap[A]? =some (.cells Y 46 (0,0)):=by rw[<-b,<-K];exact heap_alloc_new w _
 have m:Below w.heap.size w y:=by rw[<-b];exact(Dm _ w).alloc (Ba _) _
 have c:y.heap.size=A+1:=by rw[<-b,<-K];simp
 have n:G<A/\rb<A/\∀j,vv.ownBlock=some j->j<A:=by rw[<-K];exact h.lt
 have am:=n.1;have an:=n.2.1;have d:=h.below m;have D:(prog.info? 46).map (·.size)=some Y.size:=by rw[<-B];kernel_rfl
 have R:Y.all (·.oneCell')=true:=by rw[<-B];simp[Value.oneCell']
 have S:Yae [some rb,some G] w y:=Yae.below m;have O:=Dl b;have aa:=Dl K;have az:=Dl B;have q:Hid (IP s.data.toList i p=false->∀I w',Below (A+1) y I->I.grownBy w' (some A)->VA s G rb p k inter vv vs first i w (.returned (.tuple #[.agg Y,.int .i64 0])) w'):=Dl fun hn I w' a hg=>by
  have J:Below y.heap.size y I:=by rw[c];exact a
  have P:Hf s.data.toList k i p first=(false,0,0,p,first,0):=by unfold Hf;rw[Bb (by rw[hn];decide)]
  refine⟨false,0,0,p,first,0,P,by rw[B],(d.below J).put hg (Uy n),?_⟩;refine(S.trans (Yae.below (L:=[]) J) (by simp)).trans (M:=[some A]) (Yae.one hg fun j _ e=>by rw[e];exact Df.2 rfl) fun j hj hm=>?_;have e:=Df.1 hm;injection e with e;omega
 by_cases g:i=0
 ·have d0:((i:Int)==0)=true:=by simp[g]
  have N:=Dl (q.out (by unfold IP;rw[g];rfl) y);have ad:Below (A+1) y y:=Dm _ _;clear g hi q b K B d S c m n
  go_enter func157,ntmps157
  go_wp2_with (first|(with_reducible refine B2 rfl 46 _ _ rfl A Y Y rfl rfl 46 C D rfl R ?_;intro wz r l)|(rw[O.out,aa.out]))
  refine Hi (BF rfl _ _ A 46 _ (0,0) _ rfl r J3 rfl D) rfl ?_;exact N.out wz ad l
 have d0:((i:Int)==0)=false:=by simp[g]
 have ca:=yJ d hs;rw[c] at ca;have T:IP s.data.toList i p=((B4 s.data.toList p).2&&((B4 s.data.toList p).1 != 0&&(B4 s.data.toList p).1 != 31)):=by unfold IP;rw[Gq (by omega:0<i),Gw]
 rw[<-T] at ca;clear T;cases hh:IP s.data.toList i p with
 |false=>
  rw[hh] at ca;have N:=Dl (q.out hh);clear g hi q b K B d S c m hh
  go_enter func157,ntmps157
  go_wp2_with fail
  rw[O.out,aa.out];refine ca.mono ?_;rintro e I ⟨rfl,a⟩;have E:=(a.block A (by omega)).trans C
  go_wp2_with (with_reducible refine B2 rfl 46 _ _ rfl A Y Y rfl rfl 46 E D rfl R ?_;intro wz r l)
  refine Hi (BF rfl _ _ A 46 _ (0,0) _ rfl r J3 rfl D) rfl ?_;exact N.out I wz a l
 |true=>
  rw[hh] at ca;have P:Hf s.data.toList k i p first=(true,(hdk s.data.toList p i).1,(hdk s.data.toList p i).2.1,(hdk s.data.toList p i).2.2.1,(i:Int)*BG k,(hdk s.data.toList p i).2.2.2):=by unfold Hf;rw[Bc (by rw[hh])]
  have ct:=fun x (hx:AG x rb s p)=>mV x rb s p (i:Int) hx (by omega);unfold Rp at ct;obtain⟨⟨id,qu,z,f⟩,hk⟩:=Ai (hdk s.data.toList p (i:Int));rw[hk] at ct P;dsimp only at ct P;obtain⟨ao,ap,ae,al,aq⟩:=P5 k;have wm:IntKind.i64.wrap ((i:Int)*BG k)=(i:Int)*BG k:=by
   have h1:0<=(i:Int)*BG k:=Int.mul_nonneg (by omega) ae;have h2:(i:Int)*BG k<=1000*100:=Int.mul_le_mul (by omega) al ae (by omega);exact DA (by omega)
  obtain⟨fs,F⟩:=Ai ((i:Int)*BG k);have a0:=Dl F;rw[F] at wm P;have ar:=Dl P;obtain⟨ab,t⟩:∃Z:Array A0,#[.bool true,.int .i64 id,.int .i64 qu,.slice none 0 0]=Z:=⟨_,rfl⟩;have U:(prog.info? 46).map (·.size)=some ab.size:=by rw[<-t];kernel_rfl
  have af:Y.size=ab.size:=by rw[<-B,<-t];rfl
  have ag:ab.all (·.oneCell')=true:=by rw[<-t];simp[Value.oneCell']
  have V:=Dl t;have au:=Dl S;obtain⟨fl,Q⟩:=Ai (BG k);have av:IntKind.i64.wrap ((i:Int)*fl)=fs:=by rw[<-Q,F];exact wm
  have ah:=Dl Q;clear g hi q b K B m hh hk P t S ao ap ae al aq F wm Q
  go_enter func157,ntmps157
  go_wp2_with fail
  rw[O.out,aa.out];refine ca.mono ?_;rintro e I ⟨rfl,a⟩;have H:=d.below (by rw[c];exact a);have E:=(a.block A (by omega)).trans C;have aw:=a.size;have g2:=Dl (au.out.trans (Yae.below (L:=[]) (by rw[c];exact a)) (by simp));have k0:=H.cell (o:=0) rfl;have W:=ct I H.rd;clear ca a C d ct
  go_wp2_with fail
  refine W.mono ?_;rintro e w3 ⟨rfl,X,u⟩;have v:=H.reads u X;have ai:=(u.block A (by omega) (by simp;omega)).trans E;have k3:=v.cell (o:=3) rfl;rw[ah.out] at k3;have k7:=v.cell (o:=7) rfl;have f7:=AW (o:=7) v.blk
  have g3:=Dl (g2.out.trans (M:=[some rb]) (L:=[some rb,some G]) (Yae.one u fun j _ e=>by rw[e];exact Df.2 rfl) fun j _ hm=>by rw[Df.1 hm];exact Eu ..);have ax:=u.size;clear W X u H E k0;have aj:=Dl (v.lines (first':=fs))
  have ak:(w3.setCell ⟨G,7,none⟩ (.int .i64 fs)).heap[A]? =some (.cells Y 46 (0,0)):=by rw[Ii _ _ _ _ (show A≠G by omega)];exact ai
  have g4:=Dl (g3.out.trans (M:=[some G]) (z:=w3.setCell ⟨G,7,none⟩ (.int .i64 fs)) (Yae.set _ (Df.2 rfl)) fun j _ hm=>by rw[Df.1 hm];exact Et _ (Df.2 rfl));have ay:(w3.setCell ⟨G,7,none⟩ (.int .i64 fs)).heap.size=w3.heap.size:=by simp
  clear v
  go_wp2_with (first|(with_reducible refine Ov rfl 46 _ rfl (some 38) rfl #[.bool true,.int .i64 id,.int .i64 qu,.slice none 0 0] (by kernel_rfl) ?_;rw[V.out])|(with_reducible refine B2 rfl 46 _ _ rfl A ab Y rfl rfl 46 ak U af ag ?_;intro wz r l))
  refine Hi (BF rfl _ _ A 46 _ (0,0) _ rfl r J3 rfl U) rfl ?_;refine⟨true,id,qu,z,fs,f,ar.out,by rw[<-V.out];rfl,aj.out.put l (Uy n),?_⟩;refine g4.out.trans (M:=[some A]) (Yae.one l fun j _ e=>by rw[e];exact Df.2 rfl) fun j hj hm=>?_;have e:=Df.1 hm;injection e with e;have:=aa.out;omega
theorem rH {inter:Bool}{c:Cel}(h:BE inter c=true):(-32<=c.mx/\c.mx<=31)∧-32<=c.my/\c.my<=31:=by
 unfold BE at h;rw[Am] at h;have h:=h.2;by_cases hs:c.skip=true
 ·rw[Bc hs,Am] at h;have h:=h.2;unfold FY at h;simp only[Am,Bm] at h;obtain⟨⟨-,h1,h2⟩,-⟩:=h;rw[h1,h2]
  decide
 ·rw[Bb hs] at h;simp only[Am] at h;have h:=h.2.1;unfold H4 at h;by_cases a:AE c.kind=true
  ·rw[Bc a] at h;simp only[Am,Bm] at h;rw[h.1,h.2]
   decide
  ·rw[Bb a] at h;simp only[Am,Bm] at h;exact⟨MG.1 h.1,MG.1 h.2⟩
theorem YP {n:Int}(h1:-32<=n)(h2:n<=31):(Lit.int .i64 n).wf=true:=by
 unfold Lit.wf;simp only[Am,Av];exact⟨Int.le_trans (by decide) h1,Int.le_trans h2 (by decide)⟩
section
variable {P:Program}
theorem hJ {w:A5}{o:A4}{a:Act}{K:Act->A5->Prop}{Q:Exit->Act->A5->Prop}{s x:A8}{t e:A7}{cap B:Nat}{i:TypeInfo}{z v:A0}{n:Nat}{r:List A0}{y0 y1:Int}
  (ho:o.op=.call {callee:=.builtin .append,args:=#[s,x],argTypes:=#[t,t]})
  (ht:P.underlying t=some (.slice e))(hi:P.info? e=some i)(y:i.zero=some z)(g:z.cells.size=2)(b:i.size=2)(l:i.bytes=16)
  (hs:a.eval s=v)(f:w.ownsRow 0 e 2 v n r)(D:a.eval x=.slice (some ⟨B,0,none⟩) 1 cap)(E:w.cell? ⟨B,0,none⟩=some (.int .i64 y0))(c1:w.cell? ⟨B,1,none⟩=some (.int .i64 y1))(hn:n<=1048576)
  (h:∀(q:Option Aa) (c:Nat) m,m.ownsRow 0 e 2 (.slice q (n+1) c) (n+1) (r++[.int .i64 y0,.int .i64 y1])->w.grownBy m v.ownBlock->(∀k,(Value.slice q (n+1) c).ownBlock=some k->v.ownBlock=some k\/w.heap.size<=k)->K (a.put o.dst (.slice q (n+1) c)) m):o.wp P a w K Q:=by
 have d:∀(j:Nat) u,([.int .i64 y0,.int .i64 y1]:List A0)[j]? =some u->w.cell? ((⟨B,0,none⟩:Aa).add j)=some u:=fun j u hj=>by
  rw[Gd,As]
  match j,hj with
  |0,hj=>cases hj;exact E
  |1,hj=>cases hj;exact c1
 have p:∀u∈([.int .i64 y0,.int .i64 y1]:List A0),u.oneCell'=true:=by intro u A;simp only[Eb,Ed,Ek] at A;rcases A with rfl|rfl <;> rfl
 obtain⟨F,m,hr,h2,h3,-⟩:=O0 (P:=P) w 0 t o.type e i z 2 16 ht hi y b l g (by decide) v n r f ⟨B,0,none⟩ 1 cap _ rfl d p (by unfold maxLen;omega) (by omega) (Dn _);have h4:=S7 ht hi y b l g (by decide) f rfl d p (by unfold maxLen;omega) (by omega) hr;have C:=(LL h2).1;rw[C] at h2 h4;unfold Oper.wp execOp
 simp only[ho,resolve,invoke,builtin,Ar,Aw,Ap,O4,Ci,Cr,hs,D,hr];have:=h _ _ m h2 h3 h4;rw[<-C] at this;exact this
end
section
variable {w x:A5}{L:List (Option Nat)}
theorem CE.from {B:Nat}{p:Option Aa}{l:List Ev}(h:CE w p l)(a:E3 B p)(c:∀j,some j∈L->j<B):FE L w p l:=by
 refine⟨h,?_⟩;rcases h with h|⟨b,o,e,-,-⟩
 ·exact .inl (by first|exact h|exact Dh h)
 ·refine .inr ⟨b,o,e,fun hm=>?_⟩;have h1:=a _ e;have h2:=c b hm;simp only at h1;omega
theorem FE.below {p:Option Aa}{l:List Ev}(h:FE L w p l)(a:Below w.heap.size w x):FE L x p l:=h.kept (BR a none) fun k b=>by cases b
end
section
variable {N:Nat}{w:A5}{G rb p:Nat}{s:ByteArray}{k:Int}{inter:Bool}{vv:A0}{vs:List (Int×Int)}{first:Int}
set_option maxRecDepth 100000 in
theorem pH (h:Ycy w G rb s p k inter vv vs first)(ht:Ybq N w)(hN:N<=rb)(hn:vs.length<=1048575):
  A9 prog 158 #[.pointer (some ⟨G,0,none⟩)] w (nO s G rb p k inter vv vs first w):=by
 have hp:=h.rd.2.1;obtain⟨Y,a7,c7⟩:=MK;obtain⟨W,d,cj,bs⟩:=UM rfl h.vec;subst cj;obtain⟨A,hA⟩:=Ai w.heap.size;obtain⟨r,am⟩:=Ai (w.alloc (.cells Y 77 (0,0)));have bt:r.heap[A]? =some (.cells Y 77 (0,0)):=by rw[<-am,<-hA];exact heap_alloc_new w _
 have an:Below w.heap.size w r:=by rw[<-am];exact(Dm _ w).alloc (Ba _) _
 have c8:r.heap.size=A+1:=by rw[<-am,<-hA];simp
 have a8:G<A/\rb<A/\∀j,(Value.slice W vs.length d).ownBlock=some j->j<A:=by rw[<-hA];exact h.lt
 have c9:=a8.1;have da:=a8.2.1;have ad:=h.below an;have bu:=ht.below (an.mono (by omega:N<=w.heap.size));have bv:=bs.mono an;obtain⟨⟨ae,af⟩,bj⟩:=Ai (DK vs (Bx k) first)
 obtain⟨⟨c,q,f⟩,ag⟩:=Ai (ctk inter (AA s.data.toList) ae af p);have cl:Bx k<=100:=by have:=(HR k).1;have:=(P5 k).2.2.2.2;omega
 have cm:=Dl (fun(x:A5) (l:Below r.heap.size r x)=>(XC (fun i=>vs.getD i (0,0)) W vs.length d (Bx k) first x (bv.mono l) (by unfold maxLen;omega) (by omega)).mono fun e y (z:Rq _ x e y)=>
  (⟨by rw[z.1,show NC (fun i=>vs.getD i (0,0)) vs.length (Bx k) first=(ae,af) from bj];rfl,z.2⟩:e=.returned (.agg #[.int .i64 ae,.int .i64 af])/\Below x.heap.size x y))
 have cg:=Dl (fun(x:A5) (l:Below r.heap.size r x)=>(aB inter ae af (bu.below (l.mono (by omega))) hN (ad.below l).rd).mono fun e y (z:Wj inter s rb ae af p x e y)=>
  (by
   obtain⟨c',q',f',sl,h1,h2,h3,h4,h5⟩:=z;rw[ag] at h1;injection h1 with e1 h1;injection h1 with e2 e3;subst e1 e2 e3;exact⟨sl,h2,h3,h4,h5⟩:∃sl,e=.returned (.tuple #[.agg (AF c sl).toArray,.int .i64 f])/\(∀i,i<6->DR y x.heap.size (sl i) (c.ev i))/\AG y rb s q/\x.grownBy y (some rb)))
 have a6:=Dl (fun(x:A5) (l:Below r.heap.size r x)=>(ad.below l).blk);have ac:=Dl (fun(x:A5) (l:Yae [some rb] r x)=>(l.block G (by omega) (fun hm=>by have e:=Df.1 hm;injection e with e;exact h.ne.1 e)).trans ad.blk);have bw:=Dl ad;have cn:=Dl a8;have bk:=Dl h.ne;have c1:=Dl ad.vec
 have bl:Hid (ctk inter (AA s.data.toList) (DK vs (Bx k) first).1 (DK vs (Bx k) first).2 p=(c,q,f)):=Dl (by rw[bj];exact ag);have db:=Dl (fun(e:f=0)=>(by
  rw[e] at ag;exact rH (Ug (K0 _) (by rw[BB];exact hp) ag).2:(-32<=c.mx/\c.mx<=31)∧-32<=c.my/\c.my<=31))
 have co:=Dl (fun i=>(by have:=yK inter (AA s.data.toList) ae af p i;rw[ag] at this;exact this:(c.ev i).length<=65));have cp:=Dl am;have ch:=Dl hA;have cq:=Dl an;clear h ht bs bv ad bu ag bj cl am hA an a8 hp
 go_enter func158,ntmps158
 go_upto_region 1 with fail
 rw[cp.out,ch.out]
 go_cut [4,5] (fun u fv wx=>∃(C:Nat) (sl:Nat->A0),u=.pointer (some ⟨C,0,none⟩)/\fv=.int .i64 f/\wx.heap[C]? =some (.cells (AF c sl).toArray 77 (0,0))/\r.heap.size<=C/\Yae [some rb] r wx/\AG wx rb s q/\∀i,i<6->∃P cap,sl i=.slice P (c.ev i).length cap/\FE [some C] wx P (c.ev i)/\E3 r.heap.size P)
 case first=>
  have X:Below r.heap.size r r.drew:=(Dm _ r).drew;refine My (S:=fun x=>x.heap[G]? =some (.cells (NB rb k inter (.slice W vs.length d) first).toArray 157 (0,0))) (by kernel_rfl) (a6.out _ X) (fun g=>?_);refine AL 0 (some 7) g ?_
  try simp only[A1]
  refine AL 1 (some 8) g ?_
  try simp only[A1]
  refine AL 2 (some 9) g ?_
  try simp only[A1]
  refine F5 3 (some 10) (v:=.pointer (some ⟨rb,0,none⟩)) rfl rfl g (by kernel_rfl) (fun x l=>by have c0:=A2 (o:=0) l rfl;go_simp) ?_
  try simp only[A1]
  refine AL 4 (some 11) g ?_
  try simp only[A1]
  refine AL 5 (some 12) g ?_
  try simp only[A1]
  refine AL 6 (some 13) g ?_
  try simp only[A1]
  refine F5 7 (some 14) (v:=.bool inter) rfl rfl g (by kernel_rfl) (fun x l=>by have c0:=A2 (o:=5) l rfl;go_simp) ?_
  try simp only[A1]
  refine AL 8 (some 15) g ?_
  try simp only[A1]
  refine AL 9 (some 16) g ?_
  try simp only[A1]
  refine AL 10 (some 17) g ?_
  try simp only[A1]
  refine F5 11 (some 18) (v:=.slice W vs.length d) rfl rfl g (by kernel_rfl) (fun x l=>by have c0:=A2 (o:=6) l rfl;go_simp) ?_
  try simp only[A1]
  refine AL 12 (some 19) g ?_
  try simp only[A1]
  refine AL 13 (some 20) g ?_
  try simp only[A1]
  refine AL 14 (some 21) g ?_
  try simp only[A1]
  refine F5 15 (some 22) (v:=.int .i64 (Bx k)) rfl rfl g (by kernel_rfl) (fun x l=>by have c0:=A2 (o:=4) l rfl;go_simp) ?_
  try simp only[A1]
  refine AL 16 (some 23) g ?_
  try simp only[A1]
  refine AL 17 (some 24) g ?_
  try simp only[A1]
  refine AL 18 (some 25) g ?_
  try simp only[A1]
  refine F5 19 (some 26) (v:=.int .i64 first) rfl rfl g (by kernel_rfl) (fun x l=>by have c0:=A2 (o:=7) l rfl;go_simp) ?_
  try simp only[A1]
  generalize r.drew=v0 at g X ⊢;refine Mx (rs:=[20,25]) (by kernel_rfl) (by simp) ?_;refine Mv rfl (fun K m=>?_) (Mv rfl (fun K m=>?_) Mw)
  ·go_simp
   go_wp2_with fail
   refine(cm.out _ X).mono ?_;rintro e v1 ⟨rfl,hb⟩;have D:Below r.heap.size r v1:=X.trans (hb.mono X.size);clear hb;refine m.out _ _ (a6.out _ D) (fun n=>?_);clear m K g n;have g:=(a6.out _ D)
   try simp only[A1]
   refine Mx (rs:=[21,25]) (by kernel_rfl) (by simp) ?_;refine Mv rfl (fun K m=>?_) (Mv rfl (fun K m=>?_) Mw)
   ·go_simp
    go_wp2_with fail
    refine(cg.out _ D).mono ?_;rintro e v2 ⟨sl,rfl,F,a9,T⟩;have ba:Yae [some rb] r v2:=(Yae.below (L:=[some rb]) D).trans (Yae.one (L:=[some rb]) T fun j _ e=>by rw[e];exact Df.2 rfl) fun j _ h=>h;have ah:∀i,i<6->∃P cap,sl i=.slice P (c.ev i).length cap/\CE v2 P (c.ev i)/\E3 r.heap.size P:=fun i hi=>by
     obtain⟨P,cap,h1,h2,h3⟩:=F i hi;exact⟨P,cap,h1,h2,h3.mono D.size⟩
    clear F;clear T;refine m.out _ _ (ac.out _ ba) (fun n=>?_);clear m K g n;have g:=(ac.out _ ba)
    try simp only[A1]
    refine AL 22 (some 6) g ?_
    try simp only[A1]
    refine AL 23 (some 29) g ?_
    try simp only[A1]
    refine AL 24 (some 30) g ?_
    try simp only[A1]
    refine Mx (rs:=[25]) (by kernel_rfl) (by simp) ?_;refine Mv rfl (fun K m=>?_) Mw
    go_simp
    obtain⟨C,U⟩:=Ai v2.heap.size;obtain⟨v3,bb⟩:=Ai (v2.alloc (.cells Y 77 (0,0)));have gC:v3.heap[C]? =some (.cells Y 77 (0,0)):=by rw[<-bb,<-U];exact heap_alloc_new v2 _
    have ai:r.heap.size<=C:=by rw[<-U];exact ba.size
    have bc:Below v2.heap.size v2 v3:=by rw[<-bb];exact(Dm _ v2).alloc (Ba _) _
    have I:Yae [some rb] r v3:=ba.trans (Yae.below (L:=[]) bc) (by simp);have ao:=a9.below bc;have H:∀i,i<6->∃P cap,sl i=.slice P (c.ev i).length cap/\FE [some C] v3 P (c.ev i)/\E3 r.heap.size P:=fun i hi=>by
     obtain⟨P,cap,h1,h2,h3⟩:=ah i hi;refine⟨P,cap,h1,⟨h2.below bc,?_⟩,h3⟩;rcases h2 with h2|⟨b,o,h2,h4,-⟩
     ·exact .inl h2
     ·exact .inr ⟨b,o,h2,fun hm=>by have e:=Df.1 hm;injection e with e;omega⟩
    clear ah bc;rw[bb,U];clear bb U;refine m.out _ _ (ac.out _ I) (fun n=>?_);clear m K g n;have g:=(ac.out _ I)
    try simp only[A1]
    refine Mx (rs:=[26]) (by kernel_rfl) (by simp) ?_;refine Mv rfl (fun K m=>?_) Mw;refine(Bc (by kernel_rfl)).mpr ?_;have ap:(prog.info? 77).map (·.size)=some (AF c sl).toArray.size:=by rw[show (AF c sl).toArray.size=18 from rfl];kernel_rfl
    have aq:Y.size=(AF c sl).toArray.size:=by rw[a7];rfl
    have ar:(AF c sl).toArray.all (·.oneCell')=true:=OZ _ _ fun i hi=>by obtain⟨P,cap,h1,-,-⟩:=H i hi;rw[h1];rfl
    refine N0 77 _ _ rfl C (AF c sl).toArray (by kernel_rfl) (by kernel_rfl) 77 Y gC ap aq ar ?_;obtain⟨vS,E⟩:=Ai (v3.setRow C (AF c sl).toArray);have eS:vS.heap[C]? =some (.cells (AF c sl).toArray 77 (0,0)):=by rw[<-E];exact En _ _ _ _ _ _ gC
    have J:v3.grownBy vS (some C):=by rw[<-E];exact⟨rfl,rfl,rfl,by simp,fun k _ hk=>Em _ _ _ _ (by intro e;exact hk (by rw[e]))⟩
    have t:Yae [some rb] r vS:=I.trans (Yae.one (L:=[some C]) J fun j _ e=>by rw[e];exact Df.2 rfl) fun j hj h=>by have e:=Df.1 h;injection e with e;omega
    have au:AG vS rb s q:=ao.grown J (by omega);rw[E];clear E;refine m.out _ _ (ac.out _ t) (fun n=>?_);clear m K g n;have g:=(ac.out _ t)
    try simp only[Act.put,Aq]
    refine AL 27 (some 5) g ?_
    try simp only[Act.put]
    refine Mz (by kernel_rfl) ?_ _
    go_wp2
    go_meet
    case rel=>
     refine⟨C,sl,rfl,rfl,eS,ai,t,au,fun i hi=>?_⟩;obtain⟨P,cap,h1,h2,h3⟩:=H i hi;exact⟨P,cap,h1,(h2.kept J fun k hk=>by injection hk with hk;rw[hk];exact Df.2 rfl),h3⟩
   ·go_simp
    obtain⟨C,U⟩:=Ai v1.heap.size;obtain⟨v2,hn2⟩:=Ai (v1.alloc (.cells Y 77 (0,0)));have gC:v2.heap[C]? =some (.cells Y 77 (0,0)):=by rw[<-hn2,<-U];exact heap_alloc_new v1 _
    have ai:r.heap.size<=C:=by rw[<-U];exact D.size
    have O:Below r.heap.size r v2:=by rw[<-hn2];exact D.alloc D.size _
    rw[hn2,U];clear hn2 U;refine m.out _ _ (a6.out _ O) (fun n=>?_);clear m K g n;have g:=(a6.out _ O)
    try simp only[A1]
    refine Mx (rs:=[21]) (by kernel_rfl) (by simp) ?_;refine Mv rfl (fun K m=>?_) Mw
    go_simp
    go_wp2_with fail
    refine(cg.out _ O).mono ?_;rintro e v3 ⟨sl,rfl,F,ao,T⟩;have I:Yae [some rb] r v3:=(Yae.below (L:=[some rb]) O).trans (Yae.one (L:=[some rb]) T fun j _ e=>by rw[e];exact Df.2 rfl) fun j _ h=>h;have av:=(An.1 gC).1;have gC:=(T.block C av (by simp;omega)).trans gC
    have H:∀i,i<6->∃P cap,sl i=.slice P (c.ev i).length cap/\FE [some C] v3 P (c.ev i)/\E3 r.heap.size P:=fun i hi=>by
     obtain⟨P,cap,h1,h2,h3⟩:=F i hi;refine⟨P,cap,h1,⟨h2,?_⟩,h3.mono O.size⟩;rcases h2 with h2|⟨b,o,h2,h4,-⟩
     ·exact .inl h2
     ·exact .inr ⟨b,o,h2,fun hm=>by have e:=Df.1 hm;injection e with e;have h5:=h3 _ h2;simp only at h5;omega⟩
    clear F av;clear T;refine m.out _ _ (ac.out _ I) (fun n=>?_);clear m K g n;have g:=(ac.out _ I)
    try simp only[A1]
    refine AL 22 (some 6) g ?_
    try simp only[A1]
    refine AL 23 (some 29) g ?_
    try simp only[A1]
    refine AL 24 (some 30) g ?_
    try simp only[A1]
    refine Mx (rs:=[26]) (by kernel_rfl) (by simp) ?_;refine Mv rfl (fun K m=>?_) Mw;refine(Bc (by kernel_rfl)).mpr ?_;have ap:(prog.info? 77).map (·.size)=some (AF c sl).toArray.size:=by rw[show (AF c sl).toArray.size=18 from rfl];kernel_rfl
    have aq:Y.size=(AF c sl).toArray.size:=by rw[a7];rfl
    have ar:(AF c sl).toArray.all (·.oneCell')=true:=OZ _ _ fun i hi=>by obtain⟨P,cap,h1,-,-⟩:=H i hi;rw[h1];rfl
    refine N0 77 _ _ rfl C (AF c sl).toArray (by kernel_rfl) (by kernel_rfl) 77 Y gC ap aq ar ?_;obtain⟨vS,E⟩:=Ai (v3.setRow C (AF c sl).toArray);have eS:vS.heap[C]? =some (.cells (AF c sl).toArray 77 (0,0)):=by rw[<-E];exact En _ _ _ _ _ _ gC
    have J:v3.grownBy vS (some C):=by rw[<-E];exact⟨rfl,rfl,rfl,by simp,fun k _ hk=>Em _ _ _ _ (by intro e;exact hk (by rw[e]))⟩
    have t:Yae [some rb] r vS:=I.trans (Yae.one (L:=[some C]) J fun j _ e=>by rw[e];exact Df.2 rfl) fun j hj h=>by have e:=Df.1 h;injection e with e;omega
    have au:AG vS rb s q:=ao.grown J (by omega);rw[E];clear E;refine m.out _ _ (ac.out _ t) (fun n=>?_);clear m K g n;have g:=(ac.out _ t)
    try simp only[Act.put,Aq]
    refine AL 27 (some 5) g ?_
    try simp only[Act.put]
    refine Mz (by kernel_rfl) ?_ _
    go_wp2
    go_meet
    case rel=>
     refine⟨C,sl,rfl,rfl,eS,ai,t,au,fun i hi=>?_⟩;obtain⟨P,cap,h1,h2,h3⟩:=H i hi;exact⟨P,cap,h1,(h2.kept J fun k hk=>by injection hk with hk;rw[hk];exact Df.2 rfl),h3⟩
  ·go_simp
   obtain⟨C,U⟩:=Ai v0.heap.size;obtain⟨v1,bd⟩:=Ai (v0.alloc (.cells Y 77 (0,0)));have gC:v1.heap[C]? =some (.cells Y 77 (0,0)):=by rw[<-bd,<-U];exact heap_alloc_new v0 _
   have ai:r.heap.size<=C:=by rw[<-U];exact X.size
   have D:Below r.heap.size r v1:=by rw[<-bd];exact X.alloc X.size _
   rw[bd,U];clear bd U;refine m.out _ _ (a6.out _ D) (fun n=>?_);clear m K g n;have g:=(a6.out _ D)
   try simp only[A1]
   refine Mx (rs:=[20]) (by kernel_rfl) (by simp) ?_;refine Mv rfl (fun K m=>?_) Mw
   go_simp
   go_wp2_with fail
   refine(cm.out _ D).mono ?_;rintro e v2 ⟨rfl,hb⟩;have O:Below r.heap.size r v2:=D.trans (hb.mono D.size);have gC:=(hb.block C (An.1 gC).1).trans gC;clear hb;refine m.out _ _ (a6.out _ O) (fun n=>?_);clear m K g n;have g:=(a6.out _ O)
   try simp only[A1]
   refine Mx (rs:=[21]) (by kernel_rfl) (by simp) ?_;refine Mv rfl (fun K m=>?_) Mw
   go_simp
   go_wp2_with fail
   refine(cg.out _ O).mono ?_;rintro e v3 ⟨sl,rfl,F,ao,T⟩;have I:Yae [some rb] r v3:=(Yae.below (L:=[some rb]) O).trans (Yae.one (L:=[some rb]) T fun j _ e=>by rw[e];exact Df.2 rfl) fun j _ h=>h;have av:=(An.1 gC).1;have gC:=(T.block C av (by simp;omega)).trans gC
   have H:∀i,i<6->∃P cap,sl i=.slice P (c.ev i).length cap/\FE [some C] v3 P (c.ev i)/\E3 r.heap.size P:=fun i hi=>by
    obtain⟨P,cap,h1,h2,h3⟩:=F i hi;refine⟨P,cap,h1,⟨h2,?_⟩,h3.mono O.size⟩;rcases h2 with h2|⟨b,o,h2,h4,-⟩
    ·exact .inl h2
    ·exact .inr ⟨b,o,h2,fun hm=>by have e:=Df.1 hm;injection e with e;have h5:=h3 _ h2;simp only at h5;omega⟩
   clear F av;clear T;refine m.out _ _ (ac.out _ I) (fun n=>?_);clear m K g n;have g:=(ac.out _ I)
   try simp only[A1]
   refine AL 22 (some 6) g ?_
   try simp only[A1]
   refine AL 23 (some 29) g ?_
   try simp only[A1]
   refine AL 24 (some 30) g ?_
   try simp only[A1]
   refine Mx (rs:=[26]) (by kernel_rfl) (by simp) ?_;refine Mv rfl (fun K m=>?_) Mw;refine(Bc (by kernel_rfl)).mpr ?_;have ap:(prog.info? 77).map (·.size)=some (AF c sl).toArray.size:=by rw[show (AF c sl).toArray.size=18 from rfl];kernel_rfl
   have aq:Y.size=(AF c sl).toArray.size:=by rw[a7];rfl
   have ar:(AF c sl).toArray.all (·.oneCell')=true:=OZ _ _ fun i hi=>by obtain⟨P,cap,h1,-,-⟩:=H i hi;rw[h1];rfl
   refine N0 77 _ _ rfl C (AF c sl).toArray (by kernel_rfl) (by kernel_rfl) 77 Y gC ap aq ar ?_;obtain⟨vS,E⟩:=Ai (v3.setRow C (AF c sl).toArray);have eS:vS.heap[C]? =some (.cells (AF c sl).toArray 77 (0,0)):=by rw[<-E];exact En _ _ _ _ _ _ gC
   have J:v3.grownBy vS (some C):=by rw[<-E];exact⟨rfl,rfl,rfl,by simp,fun k _ hk=>Em _ _ _ _ (by intro e;exact hk (by rw[e]))⟩
   have t:Yae [some rb] r vS:=I.trans (Yae.one (L:=[some C]) J fun j _ e=>by rw[e];exact Df.2 rfl) fun j hj h=>by have e:=Df.1 h;injection e with e;omega
   have au:AG vS rb s q:=ao.grown J (by omega);rw[E];clear E;refine m.out _ _ (ac.out _ t) (fun n=>?_);clear m K g n;have g:=(ac.out _ t)
   try simp only[Act.put,Aq]
   refine AL 27 (some 5) g ?_
   try simp only[Act.put]
   refine Mz (by kernel_rfl) ?_ _
   go_wp2
   go_meet
   case rel=>
    refine⟨C,sl,rfl,rfl,eS,ai,t,au,fun i hi=>?_⟩;obtain⟨P,cap,h1,h2,h3⟩:=H i hi;exact⟨P,cap,h1,(h2.kept J fun k hk=>by injection hk with hk;rw[hk];exact Df.2 rfl),h3⟩
 case rest=>
  clear cm cg a6 ac;obtain⟨C,sl,rfl,rfl,U,ai,aj,bx,ah⟩:=hcut;obtain⟨B,rfl⟩:∃x,x=wc:=⟨_,rfl⟩;have aw:∀i,i<6->(sl i).oneCell'=true:=fun i hi=>by obtain⟨P,cap,h1,-,-⟩:=ah i hi;rw[h1];rfl
  obtain⟨Z,hZ⟩:=Ai ((AF c sl).toArray);have Q:(prog.info? 77).map (·.size)=some Z.size:=by rw[<-hZ,show (AF c sl).toArray.size=18 from rfl];kernel_rfl
  have bm:Y.size=Z.size:=by rw[a7,<-hZ];rfl
  have bn:Z.all (·.oneCell')=true:=hZ▸OZ _ _ aw;have bz:B.heap[C]? =some (.cells Z 77 (0,0)):=by rw[<-hZ];exact U
  have b0:=(aj.block A (by omega) (fun hm=>by have e:=Df.1 hm;injection e with e;omega)).trans bt;have ci:=Dl hZ;have cr:=Dl ah;have ax:=Dl aw;have dc:=aj.size;have b1:C<B.heap.size:=(An.1 U).1;have ay:Ycy B G rb s q k inter (.slice W vs.length d) vs first:={
   blk:=(aj.block G (by omega) (fun hm=>by have e:=Df.1 hm;injection e with e;exact bk.out.1 e)).trans bw.out.blk
   rd:=bx
   vec:=LR bw.out.vec aj fun j hj hm=>by have e:=Df.1 hm;injection e with e;exact(bk.out.2 j hj).2 e
   ne:=bk.out}
  have c2:Hid (Yae (ED rb G (.slice W vs.length d)) w B):=Dl ((Yae.below cq.out).trans aj fun j _ hm=>by rw[Df.1 hm];exact Eu ..);have ck:=A2 (o:=2) U rfl;clear hZ ah aw aj bx bt;by_cases hf:f=0
  case neg=>
   have tf:(f != 0)=true:=by rw[Ff];exact hf
   have b2:=Dl hf;clear hf ck
   go_wp2_with (first|(with_reducible refine Mo rfl 77 _ rfl C rfl 77 Z (0,0) _ bz J2 rfl Q ?_)|(with_reducible refine B2 rfl 77 _ _ rfl A Z Y rfl rfl 77 b0 Q bm bn ?_;intro wz az V))
   refine Hi (BF rfl _ _ A 77 _ (0,0) _ rfl az J2 rfl Q) rfl ?_;refine⟨c,q,f,f,sl,bl.out,by rw[Bc b2.out],by rw[ci.out];rfl,ax.out,?_,⟨q,ay.rd.grown V (by omega)⟩,fun e=>absurd e b2.out⟩
   exact c2.out.trans (Yae.one (L:=[some A]) V fun j _ e=>by rw[e];exact Df.2 rfl) fun j hj hm=>by have e:=Df.1 hm;injection e with e;have:=ch.out;omega
  have tf:(f != 0)=false:=by rw[hf];rfl
  have hm:=db.out hf;have b2:=Dl hf;have a9:B.rangeAt C 4 [.int .i64 c.mx,.int .i64 c.my]:=fun j v hj=>by
   match j,hj with
   |0,hj=>injection hj with hj;subst hj;exact A2 (o:=4) U rfl
   |1,hj=>injection hj with hj;subst hj;exact A2 (o:=5) U rfl
  have cs:=fun(x y:A5) (l:Below B.heap.size B x) (hy:Below x.heap.size x y)=>(l.trans (hy.mono l.size):Below B.heap.size B y);have bf:=Dl (fun(x:A5) (l:Below B.heap.size B x)=>((fun j v hj=>(Fz (a:=⟨C,4+j,none⟩) (l.block C b1)).trans (a9 j v hj)):x.rangeAt C 4 [.int .i64 c.mx,.int .i64 c.my]))
  have a0:=Dl (fun(x:A5) (l:Below B.heap.size B x)=>((l.block C b1).trans bz));have c3:=Dl (fun(x:A5) (l:Below B.heap.size B x)=>(ay.below l).cell (o:=1) rfl);have c4:=Dl (fun(x:A5) (l:Below B.heap.size B x)=>(ay.below l).cell (o:=6) rfl)
  have b3:=Dl (fun(x:A5) (l:Below B.heap.size B x)=>(by rw[<-ci.out];exact(wZ c sl x).mono fun e y z=>⟨z.1,cs x y l z.2⟩:A9 prog 179 #[.agg Z] x fun e y=>e=.returned (.bool (!AE c.kind))/\Below B.heap.size B y))
  have c5:=Dl (fun(x:A5) (l:Below B.heap.size B x)=>((Uu k (vs.length:Int) c.mx c.my x).mono fun e y z=>⟨z.1,cs x y l z.2⟩:A9 prog 84 #[.int .i64 k,.int .i64 (vs.length:Int),.agg #[.int .i64 c.mx,.int .i64 c.my]] x fun e y=>e=.returned (.bool (GJ k (vs.length:Int) c.mx c.my))/\Below B.heap.size B y));have ak:=Dm B.heap.size B
  have aa:CC k vs.length c=(AE c.kind || GJ k (vs.length:Int) c.mx c.my):=rfl;obtain⟨bo,a1⟩:=Ai (CC k vs.length c);rw[a1] at aa;have b4:=Dl a1;have ct:=Dl ay;clear hf cs a9 ay a1
  go_upto_region 4 with fail
  go_cut [51] (fun v wx=>v=.bool (!bo)/\Below B.heap.size B wx)
  case first=>
   cases hik:AE c.kind with
   |true=>
    rw[hik] at aa b3;have cu:Hid (bo=true):=Dl (by rw[aa];rfl);clear hik aa;refine BU (S:=fun x=>Below B.heap.size B x) 17 (by kernel_rfl) (by kernel_rfl) ak.drew ?_;simp only[Dp,Bk,Gs,Gt];refine FJ 77 _ C 77 Z (0,0) _ (by kernel_rfl) rfl rfl (fun x l=>a0.out x l) J2 rfl Q ?_;simp only[A1]
    refine AY (by kernel_rfl) b3.out (fun _=>by kernel_rfl) ?_;simp only[A1];refine AJ ?_;simp only[A1]
    iterate 13 (refine DW (by kernel_rfl) ?_;simp only[A1])
    refine AJ ?_;simp only[A1];refine BS fun x l=>?_
    go_wp2
    go_meet
    case rel=>exact⟨(by rw[cu.out];first|done|rfl),l⟩
   |false=>
    rw[hik] at aa b3;have cu:=Dl (aa.trans (Bool.false_or _));clear hik aa;generalize GJ k (vs.length:Int) c.mx c.my=mv at *;refine BU (S:=fun x=>Below B.heap.size B x) 17 (by kernel_rfl) (by kernel_rfl) ak.drew ?_;simp only[Dp,Bk,Gs,Gt]
    refine FJ 77 _ C 77 Z (0,0) _ (by kernel_rfl) rfl rfl (fun x l=>a0.out x l) J2 rfl Q ?_;simp only[A1];refine AY (by kernel_rfl) b3.out (fun _=>by kernel_rfl) ?_;simp only[A1]
    iterate 4 (refine AJ ?_;simp only[A1])
    refine AR 3 _ ⟨G,1,none⟩ (.int .i64 k) (by kernel_rfl) rfl rfl (fun x l=>by have c0:=c3.out x l;go_simp) ?_;simp only[A1]
    iterate 3 (refine AJ ?_;simp only[A1])
    refine AR 98 _ ⟨G,6,none⟩ (.slice W vs.length d) (by kernel_rfl) rfl rfl (fun x l=>by have c0:=c4.out x l;go_simp) ?_;simp only[A1]
    iterate 2 (refine AJ ?_;simp only[A1])
    refine sW 73 _ C 4 [.int .i64 c.mx,.int .i64 c.my] _ (by kernel_rfl) rfl rfl (fun x l=>bf.out x l) Gx rfl (by kernel_rfl) ?_;simp only[A1];refine AY (by kernel_rfl) c5.out (fun _=>by kernel_rfl) ?_;simp only[A1]
    iterate 2 (refine AJ ?_;simp only[A1])
    refine BS fun x l=>?_
    go_wp2
    go_meet
    case rel=>exact⟨(by rw[cu.out];first|done|rfl),l⟩
  case rest=>
   obtain⟨rfl,R⟩:=hcut;clear ak b3 c5 c3 c4 aa;have b5:=a0.out _ R;have b6:=(R.block A (by omega)).trans b0;have a2:=ct.out.below R;have b7:=bf.out _ R;have c6:Hid (Yae (ED rb G (.slice W vs.length d)) w wc):=Dl (c2.out.trans (Yae.below (L:=[]) R) (by simp));have cv:=Dl R;have dd:=R.size;cases bo with
   |false=>
    clear a0 bf R
    go_wp2_with (first|(with_reducible refine Mo rfl 77 _ rfl C rfl 77 Z (0,0) _ b5 J2 rfl Q ?_)|(with_reducible refine B2 rfl 77 _ _ rfl A Z Y rfl rfl 77 b6 Q bm bn ?_;intro wz az V))
    refine Hi (BF rfl _ _ A 77 _ (0,0) _ rfl az J2 rfl Q) rfl ?_;refine⟨c,q,f,8,sl,bl.out,by rw[Bb (fun h=>h b2.out),Bc b4.out],by rw[ci.out];rfl,ax.out,?_,⟨q,a2.rd.grown V (by omega)⟩,fun e=>by cases e⟩
    exact c6.out.trans (Yae.one (L:=[some A]) V fun j _ e=>by rw[e];exact Df.2 rfl) fun j hj hm=>by have e:=Df.1 hm;injection e with e;have:=ch.out;omega
   |true=>
    clear a0 bf R;have hl:=a2.lt;have de:r.heap.size<=C/\A+1<=C:=by omega
    have k6:=a2.cell (o:=6) rfl;obtain⟨ti,j0,j1,j2,j3⟩:=Wt;have ak:Below wc.heap.size wc wc.drew:=(Dm _ wc).drew;have bp:=(a2.below ak).cell (o:=6) rfl;have bi:wc.drew.rangeAt C 4 [.int .i64 c.mx,.int .i64 c.my]:=b7
    go_wp2
    refine I0 (by kernel_rfl) ?_;change wpAny _ _ _ _ _ _ _ (World.drew _);refine E0 0 (some 53) (v:=?_) rfl rfl (by kernel_rfl) (by kernel_rfl) (by kernel_rfl) (fun _ _ _ h=>h) (Or.inl ⟨by kernel_rfl,?_⟩) ?_
    rotate_left
    ·(intro x;go_simp;try with_reducible rfl)
    rotate_right
    try simp only[A1]
    refine E0 1 (some 54) (v:=?_) rfl rfl (by kernel_rfl) (by kernel_rfl) (by kernel_rfl) (fun _ _ _ h=>h) (Or.inl ⟨by kernel_rfl,?_⟩) ?_
    rotate_left
    ·(intro x;go_simp;try with_reducible rfl)
    rotate_right
    try simp only[A1]
    refine E0 2 (some 55) (v:=?_) rfl rfl (by kernel_rfl) (by kernel_rfl) (by kernel_rfl) (fun _ _ _ h=>h) (Or.inl ⟨by kernel_rfl,?_⟩) ?_
    rotate_left
    ·(intro x;go_simp;try with_reducible rfl)
    rotate_right
    try simp only[A1]
    refine E0 3 (some 56) (v:=?_) rfl rfl (by kernel_rfl) (by kernel_rfl) (by kernel_rfl) (fun _ _ _ h=>h) (Or.inl ⟨by kernel_rfl,?_⟩) ?_
    rotate_left
    ·(intro x;go_simp;try with_reducible rfl)
    rotate_right
    try simp only[A1]
    refine E0 5 (some 58) (v:=?_) rfl rfl (by kernel_rfl) (by kernel_rfl) (by kernel_rfl) (fun _ _ _ h=>h) (Or.inl ⟨by kernel_rfl,?_⟩) ?_
    rotate_left
    ·(intro x;go_simp;try with_reducible rfl)
    rotate_right
    try simp only[A1]
    refine WY (S:=fun x=>x.cell? ⟨G,6,none⟩=some (.slice W vs.length d)) 4 6 7 (some 57) (v:=.slice W vs.length d) rfl rfl rfl rfl (by kernel_rfl) (by kernel_rfl) (by kernel_rfl) (fun _ _ _ h=>h) (by kernel_rfl) (by kernel_rfl) (by kernel_rfl) (by kernel_rfl) (by kernel_rfl) (by decide) (by decide) bp (Or.inl ⟨by kernel_rfl,?_⟩) ?_
    ·(intro x l;have c0:=(show x.cell? ⟨G,6,none⟩=some (.slice W vs.length d) from l);go_simp)
    try simp only[A1]
    refine wpOp_step rfl (fun K m=>?_);have b8:=Dl m;clear m;refine(Bc (by kernel_rfl)).mpr ?_;refine wp_load_mid 73 _ rfl C 4 rfl [.int .i64 c.mx,.int .i64 c.my] _ bi Gx rfl (by kernel_rfl) ?_;refine b8.out _ _ ⟨bp,?_⟩;clear b8 K
    try simp only[Act.put,Aq]
    refine wpOp_step rfl (fun K m=>?_);have b8:=Dl m;clear m
    go_simp
    obtain⟨wP,bg⟩:=Ai ((wc.alloc (.cells #[.int .i64 c.mx,.int .i64 c.my] 73 (0,0))).drew);have a3:Below wc.heap.size wc wP:=by rw[<-bg];exact((Dm _ wc).alloc (Ba _) _).drew
    have bq:wP.heap[wc.heap.size]? =some (.cells ([Value.int .i64 c.mx,.int .i64 c.my]:List A0).toArray 73 (0,0)):=by rw[<-bg];exact heap_alloc_new wc _
    have a4:=a2.below a3;have b9:=A2 (o:=0) bq rfl;have ca:=A2 (o:=1) bq rfl;have df:=a3.size;rw[bg];refine b8.out _ _ ⟨a4.cell (o:=6) rfl,?_⟩;clear b8 K bg bp bi ak k6;refine Ot (rs:=[8]) (by kernel_rfl) (by simp) ?_;refine On rfl (fun K m=>?_) Oq;refine(Bc (by kernel_rfl)).mpr ?_
    refine hJ (v:=.slice W vs.length d) rfl underlying98 j0 j1 rfl j2 j3 rfl a4.vec rfl b9 ca (by omega) ?_;intro q8 ab w8 cw al bh;refine m _ _ ?_;clear m K b9 ca bq j0 j1 j2 j3;have cb:=a4.vecs (v:=(c.mx,c.my)) al cw bh;have dg:=al.size
    have br:w8.heap[G]? =some (.cells (NB rb k inter (.slice W vs.length d) first).toArray 157 (0,0)):=(al.block G (by omega) fun e=>(a4.ne.2 G e.symm).1 rfl).trans a4.blk;have k6:=A2 (o:=6) br rfl;have f6:=AW (o:=6) br;have a5:=cn.out.2.2
    have cc:w8.heap[C]? =some (.cells Z 77 (0,0)):=(al.block C (by omega) fun e=>by have:=a5 C e.symm;omega).trans ((a3.block C (by omega)).trans b5);have cd:w8.heap[A]? =some (.cells Y 77 (0,0)):=(al.block A (by omega) fun e=>by have:=a5 A e.symm;omega).trans ((a3.block A (by omega)).trans b6)
    have cx:(w8.setCell ⟨G,6,none⟩ (.slice q8 (vs.length+1) ab)).heap[C]? =some (.cells Z 77 (0,0)):=by rw[Ii _ _ _ _ (show C≠G by omega)];exact cc
    have cy:(w8.setCell ⟨G,6,none⟩ (.slice q8 (vs.length+1) ab)).heap[A]? =some (.cells Y 77 (0,0)):=by rw[Ii _ _ _ _ (show A≠G by omega)];exact cd
    have g9:=Yae.set (w:=w8) (p:=⟨G,6,none⟩) (L:=[some G]) (.slice q8 (vs.length+1) ab) (Df.2 rfl);clear br cc cd;refine E0 9 (some 62) (v:=?_) rfl rfl (by kernel_rfl) (by kernel_rfl) (by kernel_rfl) (fun _ _ _ h=>h) (Or.inl ⟨by kernel_rfl,?_⟩) ?_
    rotate_left
    ·(intro x;go_simp;try with_reducible rfl)
    rotate_right
    try simp only[Act.put,Aq]
    refine E0 10 (some 63) (v:=?_) rfl rfl (by kernel_rfl) (by kernel_rfl) (by kernel_rfl) (fun _ _ _ h=>h) (Or.inl ⟨by kernel_rfl,?_⟩) ?_
    rotate_left
    ·(intro x;go_simp;try with_reducible rfl)
    rotate_right
    try simp only[Act.put]
    refine Ot (rs:=[11]) (by kernel_rfl) (by simp) ?_;refine On rfl (fun K m=>?_) Oq
    go_simp
    generalize w8.setCell ⟨G,6,none⟩ (.slice q8 (vs.length+1) ab)=w9 at *;refine m _ _ ?_;clear m K k6 f6;refine wpAny_done (by kernel_rfl) ?_ _
    go_wp2_with (first|(with_reducible refine Mo rfl 77 _ rfl C rfl 77 Z (0,0) _ cx J2 rfl Q ?_)|(with_reducible refine B2 rfl 77 _ _ rfl A Z Y rfl rfl 77 cy Q bm bn ?_;intro wz az V))
    refine Hi (BF rfl _ _ A 77 _ (0,0) _ rfl az J2 rfl Q) rfl ?_;have dh:=ch.out;have gM:Yae [(Value.slice W vs.length d).ownBlock,some G,some A] wc wz:=by
     have g1:Yae [(Value.slice W vs.length d).ownBlock,some G,some A] wc wP:=Yae.below a3;have g2:=g1.trans (M:=[(Value.slice W vs.length d).ownBlock]) (Yae.one al fun j _ e=>by rw[e];exact Df.2 rfl) fun j _ hm=>by rw[Df.1 hm];exact Eu ..
     have g3:=g2.trans g9 fun j _ hm=>by rw[Df.1 hm];exact Et _ (Eu ..)
     exact g3.trans (M:=[some A]) (Yae.one V fun j _ e=>by rw[e];exact Df.2 rfl) fun j _ hm=>by rw[Df.1 hm];exact Et _ (Et _ (Eu ..))
    have cz:∀j,some j∈[(Value.slice W vs.length d).ownBlock,some G,some A]->j<A+1:=fun j hm=>by
     rcases Eb.1 hm with e|hm
     ·have:=a5 j e.symm;omega
     ·rcases Eb.1 hm with e|hm
      ·injection e with e;omega
      ·have e:=Df.1 hm;injection e with e;omega
    refine⟨c,q,f,0,sl,bl.out,by rw[Bb (fun h=>h b2.out),Bb (by rw[b4.out];decide)],by rw[ci.out];rfl,ax.out,?_,⟨q,cb.rd.grown V (by omega)⟩,fun _=>⟨.slice q8 (vs.length+1) ab,cb.put V ⟨by omega,by omega,fun j hj=>?_⟩,fun j hj=>?_,fun L hL=>?_⟩⟩
    ·refine c6.out.trans gM fun j hj hm=>?_;rcases Eb.1 hm with e|hm
     ·rw[e];exact Et _ (Et _ (Eu ..))
     ·rcases Eb.1 hm with e|hm
      ·rw[e];exact Et _ (Eu ..)
      ·have e:=Df.1 hm;injection e with e;omega
    ·rcases bh j hj with h2|h2
     ·have:=a5 j h2;omega
     ·omega
    ·rcases bh j hj with h2|h2
     ·exact .inl h2
     ·exact .inr (by omega)
    ·obtain⟨pf,cf,ce⟩:=gW cr.out;have R:=cv.out;refine⟨pf,cf,qD fun i hi=>(ce i hi).1,⟨YP hm.1.1 hm.1.2,YP hm.2.1 hm.2.2⟩,fun i hi=>⟨by have:=co.out i;unfold maxLen;omega,?_⟩⟩;obtain⟨-,h2,h3⟩:=ce i hi;obtain⟨h4,h5⟩:=h2.1.from (L:=[(Value.slice W vs.length d).ownBlock,some G,some A]) h3 fun j hm=>by have:=cz j hm;omega
     have h6:=(FE.below ⟨h4,h5⟩ R).keptL gM fun j h=>h;refine⟨h6.1,?_⟩;rcases h4 with h4|⟨b,o,e,di,-⟩
     ·exact .inl (by first|exact h4|exact Dh h4)
     ·refine .inr ⟨b,o,e,fun hm=>?_⟩;have h7:=h3 _ e;simp only at h7;rcases Eb.1 hm with e2|e2
      ·rcases bh b e2.symm with h8|h8
       ·have:=a5 b h8;omega
       ·omega
      ·have:=hL b e2;omega
end
section
variable {N:Nat}{w:A5}{G rb p:Nat}{s:ByteArray}{k:Int}{inter:Bool}{vv:A0}{vs:List (Int×Int)}{first:Int}
set_option maxRecDepth 100000 in
theorem aQ (i:Nat)(h:Ycy w G rb s p k inter vv vs first)(ht:Ybq N w)(hN:N<=rb)(b9:N<=G)(bh:∀j,vv.ownBlock=some j->N<=j)(hn:vs.length<=1000000)(hs:s.size<=1073741824)(hi:i<=1000):
  A9 prog 128 #[.pointer (some ⟨G,0,none⟩),.int .i64 (i:Int)] w (pP s G rb p k inter vv vs first i w):=by
 have ca:=SI;obtain⟨Y,hY⟩:∃Y:Array A0,[Value.bool false,.int .i64 0,.int .i64 0,.slice none 0 0].toArray=Y:=⟨_,rfl⟩;rw[hY] at ca;obtain⟨cb,cd,dc⟩:=MK;obtain⟨A,hA⟩:=Ai w.heap.size;obtain⟨wA,T⟩:=Ai (w.alloc (.cells Y 46 (0,0)));have bi:wA.heap[A]? =some (.cells Y 46 (0,0)):=by rw[<-T,<-hA];exact heap_alloc_new w _
 have ax:Below w.heap.size w wA:=by rw[<-T];exact(Dm _ w).alloc (Ba _) _
 have dd:wA.heap.size=A+1:=by rw[<-T,<-hA];simp
 have ay:=h.lt;have ch:=xI i (h.below ax) hs hi;have ce:Hid (∀x,Yae (ED rb G vv) w x->Ybq N x):=Dl fun x hx=>ht.below (hx.under (by omega) fun j hj=>by
  rcases I2.1 hj with e|e|e
  ·omega
  ·omega
  ·exact bh j e)
 have bj:Y.size=4:=by rw[<-hY];rfl
 have cf:=Dl T;have bk:=Dl hA;have bl:=Dl ay;have cg:=Dl ax;have de:G<A/\rb<A:=⟨by omega,by omega⟩;clear T hA h ht bh ay ax b9 hi hY
 go_enter func128,ntmps128
 go_wp2_with fail
 rw[cf.out,bk.out];refine ch.mono ?_;rintro e w1 ⟨b,id,qu,z,fs,f,bm,rfl,bn,ai⟩;have bo:=(ai.block A (by omega) (fun hm=>by
  rcases Eb.1 hm with e|e
  ·injection e with e;omega
  ·have e:=Df.1 e;injection e with e;omega)).trans bi
 have df:=ai.size;obtain⟨X,hX⟩:=Ai w1.heap.size;obtain⟨Z,hZ⟩:=Ai ([Value.bool b,.int .i64 id,.int .i64 qu,.slice none 0 0].toArray);have n:#[Value.bool b,.int .i64 id,.int .i64 qu,.slice none 0 0]=Z:=hZ;rw[n];obtain⟨I,U⟩:=Ai (w1.alloc (.cells Z 46 (0,0)));have B:Below w1.heap.size w1 I:=by rw[<-U];exact(Dm _ w1).alloc (Ba _) _
 have az:I.heap[X]? =some (.cells Z 46 (0,0)):=by rw[<-U,<-hX];exact heap_alloc_new w1 _
 have ci:I.heap.size=X+1:=by rw[<-U,<-hX];simp
 have a0:=(B.block A (by omega)).trans bo;have d:(prog.info? 46).map (·.size)=some Z.size:=by rw[<-hZ];kernel_rfl
 have O:Y.size=Z.size:=by rw[bj,<-hZ];rfl
 have P:Z.all (·.oneCell')=true:=by rw[<-hZ];simp[Value.oneCell']
 have cj:Hid (Yae (ED rb G vv) w I):=Dl (((Yae.below cg.out).trans ai fun j _ hm=>by
  rcases Eb.1 hm with e|e
  ·rw[e];exact Eu ..
  ·rw[Df.1 e];exact Et _ (Eu ..)).trans (Yae.below (L:=[]) B) (by simp))
 have W:=bn.below B;obtain⟨⟨bg,Eq,a1⟩,hE⟩:=Ai (DD ctk s.data.toList inter k fs (BA k).toNat z vs);have bp:=Dl hX;have c5:=Dl hZ;have a2:=Dl U;have a3:=Dl bm;have b8:=Dl hE;clear hX hZ n U bm hE ai bn bo bi ch;by_cases hf:f=0
 case neg=>
  have tf:(f != 0)=true:=by rw[Ff];exact hf
  have c8:=Dl hf;clear hf
  go_wp2_with (first|(with_reducible refine BZ rfl 46 _ _ rfl Z Y 46 rfl rfl d O P ?_;rw[a2.out,bp.out])|(with_reducible refine Mo rfl 46 _ rfl X rfl 46 Z (0,0) _ az J3 rfl d ?_)|(with_reducible refine B2 rfl 46 _ _ rfl A Z Y rfl rfl 46 a0 d O P ?_;intro wz aa D))
  refine Hi (BF rfl _ _ A 46 _ (0,0) _ rfl aa J3 rfl d) rfl ?_;refine⟨b,id,qu,z,fs,f,bg,Eq,a1,f,a3.out,b8.out,by rw[Bc c8.out],_,by rw[c5.out];rfl,⟨rfl,fun u hu=>?_⟩,?_,⟨_,W.rd.grown D (by omega)⟩,fun e=>absurd e c8.out⟩
  ·simp only[Eb,Ed,Ek] at hu;rcases hu with rfl|rfl|rfl|rfl <;> rfl
  ·exact cj.out.trans (Yae.one (L:=[some A]) D fun j _ e=>by rw[e];exact Df.2 rfl) fun j hj hm=>by have e:=Df.1 hm;injection e with e;have:=bk.out;omega
 subst hf;have tf:((0:Int) != 0)=false:=rfl;have an:Y0f w I G rb A X s z k inter vv vv (.slice none 0 0) vs fs Y b id qu []:={
  rdr:=W
  res:=a0
  row:=by rw[c5.out];exact az
  cel:=GC.nil _ _
  ord:=by have:=bk.out;have:=bp.out;omega
  low:=bl.out
  own:=fun j hj=>⟨.inl hj,by have:=bl.out.2.2 j hj;have:=bk.out;have:=bp.out;omega⟩
  cown:=fun j hj=>by cases hj
  grown:=cj.out}
 have k3:=Dl (fun(x:A5) (hx:Below I.heap.size I x)=>(W.below hx).cell (o:=3) rfl);have k4:=Dl (fun(x:A5) (hx:Below I.heap.size I x)=>(W.below hx).cell (o:=4) rfl);obtain⟨M,hM⟩:∃M:Nat,(BA k).toNat=M:=⟨_,rfl⟩;have a4:BA k=(M:Int)/\M<=10000:=by have:=NI k;have:=(Zh k).1;omega
 have wm:IntKind.i64.wrap (BG k*Bx k)=(M:Int):=by
  rw[show BG k*Bx k=BA k from Int.mul_comm _ _,a4.1];exact DA (by omega)
 have dg:=a4.2;have c9:Hid (DV (bg,Eq,a1) [] (DD ctk s.data.toList inter k fs M z vs)):=Dl (by rw[<-hM,b8.out];exact DV.start _);have bq:Below I.heap.size I I:=Dm _ _;clear hM a4 W az a0 ci B;generalize BG k=fl at *;generalize Bx k=fa at *
 go_upto_region 4 with (with_reducible refine BZ rfl 46 _ _ rfl Z Y 46 rfl rfl d O P ?_;rw[a2.out,bp.out])
 refine BU (S:=fun x=>Below I.heap.size I x) 10 (by kernel_rfl) (by kernel_rfl) bq.drew ?_;simp only[Dp,Bk,Gs,Gt]
 iterate 3 (refine AJ ?_;simp only[A1])
 refine AR 3 _ ⟨G,3,none⟩ (.int .i64 fl) (by kernel_rfl) rfl rfl (fun x hx=>by have c0:=k3.out x hx;go_simp) ?_;simp only[A1]
 iterate 3 (refine AJ ?_;simp only[A1])
 refine AR 3 _ ⟨G,4,none⟩ (.int .i64 fa) (by kernel_rfl) rfl rfl (fun x hx=>by have c0:=k4.out x hx;go_simp) ?_;simp only[A1]
 iterate 2 (refine AJ ?_;simp only[A1])
 refine BS fun w3 ab=>?_;have ao:=an.below ab;clear an ab bq k3 k4 a2 bp cj wm
 go_wp2
 go_loopw [29] (fun t wx=>∃(j q2:Nat) (cs:List Cel) (a5 cv:A0) (vz:List (Int×Int)),t=.int .i64 (j:Int)/\j<=M/\Y0f w wx G rb A X s q2 k inter vv a5 cv vz fs Y b id qu cs/\Hid (cs.length=j)/\Hid (vz=vs++CM cs)/\Hid (DV (bg,Eq,a1) cs (DD ctk s.data.toList inter k fs (M-j) q2 vz))) (fun t _=>M-(intOf t).toNat)
 case atStart=>exact⟨0,z,[],vv,_,vs,rfl,Dn _,ao,Dl rfl,Dl (by simp[CM]),c9⟩
 case round=>
  clear ao c9;obtain⟨j,q2,cs,a5,cv,vz,rfl,hj,a,ac,aj,hT⟩:=hrel;have br:Hid ((prog.info? 46).map (·.size)=some ([Value.bool b,.int .i64 id,.int .i64 qu,cv]:List A0).toArray.size):=Dl (by kernel_rfl);have ap:cv.oneCell'=true:=(LL a.cel.choose_spec.2).2.2;obtain⟨a6,n⟩:=Ai (([Value.bool b,.int .i64 id,.int .i64 qu,cv]:List A0).toArray)
  have d:(prog.info? 46).map (·.size)=some a6.size:=by rw[<-n];exact br.out
  have O:Y.size=a6.size:=by rw[bj,<-n];rfl
  have E:∀u∈([Value.bool b,.int .i64 id,.int .i64 qu,cv]:List A0),u.oneCell'=true:=by
   intro u hu;simp only[Eb,Ed,Ek] at hu;rcases hu with rfl|rfl|rfl|rfl
   ·rfl
   ·rfl
   ·rfl
   ·exact ap
  have P:a6.all (·.oneCell')=true:=by
   rw[<-n,G6];exact fun v hv=>E v (by simpa using hv)
  have ak:=Dl n;have bs:=Dl E;clear n E ap br;by_cases ay:j<M
  ·have t1:decide ((j:Int)<(M:Int))=true:=by simp;omega
   have a7:vz.length<=1048575:=by rw[aj.out,B9];unfold CM;rw[Gc,ac.out];omega
   have cc:=pH a.rdr (ce.out _ a.grown) hN a7
   go_wp2_with fail
   refine cc.mono ?_;rintro e w4 ⟨c,q3,f3,g,sl,ad,J,rfl,aq,ae,⟨q',a8⟩,a9⟩;clear cc;obtain⟨C,hC⟩:=Ai w4.heap.size;obtain⟨ba,R⟩:=Ai ((AF c sl).toArray);rw[R];obtain⟨w5,al⟩:=Ai (w4.alloc (.cells ba 77 (0,0)));have F:Below w4.heap.size w4 w5:=by rw[<-al];exact(Dm _ w4).alloc (Ba _) _
   have ck:w5.heap[C]? =some (.cells ba 77 (0,0)):=by rw[<-al,<-hC];exact heap_alloc_new w4 _
   have bb:(prog.info? 77).map (·.size)=some ba.size:=by rw[<-R,show (AF c sl).toArray.size=18 from rfl];kernel_rfl
   have ar:cb.size=ba.size:=by rw[cd,<-R];rfl
   have bt:ba.all (·.oneCell')=true:=R▸OZ _ _ aq;have da:=Dl hC;have bu:=Dl R;have bv:=Dl al;have hb:=a.bad ae;have dh:=ae.size;have ho:=a.ord;clear hC R al aq;by_cases m:g=0
   case neg=>
    have tg:(g != 0)=true:=by rw[Ff];exact m
    obtain⟨bw,B,ab⟩:=hb;have bc:=(F.block A (by omega)).trans bw;have q:=(F.block X (by omega)).trans B;rw[ak.out] at q;have di:Hid (a1=g):=Dl (by
     have h1:=hT.out;rw[show M-j=(M-j-1)+1 by omega] at h1;by_cases r:f3=0
     ·rw[Bb (fun h=>h r)] at J;by_cases hv:CC k vz.length c=false
      ·rw[Bc hv] at J;rw[J];exact iK h1 (by rw[ad,r]) hv
      ·rw[Bb hv] at J;exact absurd J m
     ·rw[Bc r] at J;rw[J];exact rC h1 ad r)
    have dj:=Dl (ab.trans (Yae.below (L:=[]) F) (by simp));have cl:=a8.below F;have cm:=Dl m;have dk:=F.size;clear m J a9 a hT ac aj ad bw B ab a8 ae a7
    go_wp2_with (first|(with_reducible refine BZ rfl 77 _ _ rfl ba cb 77 rfl rfl bb ar bt ?_;rw[bv.out,da.out])|(with_reducible refine Mo rfl 46 _ rfl X rfl 46 a6 (0,0) _ q J3 rfl d ?_)|(with_reducible refine B2 rfl 46 _ _ rfl A a6 Y rfl rfl 46 bc d O P ?_;intro wz aa D))
    refine Hi (BF rfl _ _ A 46 _ (0,0) _ rfl aa J3 rfl d) rfl ?_;refine⟨b,id,qu,z,fs,0,bg,Eq,a1,g,a3.out,b8.out,by rw[Bb (fun h=>h rfl),di.out],_,by rw[ak.out];rfl,⟨rfl,bs.out⟩,?_,⟨_,cl.grown D (by omega)⟩,fun e=>absurd e cm.out⟩
    exact dj.out.trans (Yae.one (L:=[some A]) D fun j _ e=>by rw[e];exact Df.2 rfl) fun j hj hm=>by have e:=Df.1 hm;injection e with e;have:=bk.out;omega
   have tg:(g != 0)=false:=by rw[m];rfl
   have r:f3=0:=by
    by_cases h1:f3=0
    ·exact h1
    ·rw[Bc h1] at J;exact absurd (J.symm.trans m) h1
   have bx:CC k vz.length c=true:=by
    rw[Bb (fun h=>h r)] at J;cases hv:CC k vz.length c with
    |true=>rfl
    |false=>rw[Bc hv,m] at J;cases J
   obtain⟨af,bd,bz,b0⟩:=a9 m;have cn:Hid (DV (bg,Eq,a1) (cs++[c]) (DD ctk s.data.toList inter k fs (M-(j+1)) q3 (vz++[(c.mx,c.my)]))):=Dl (by
    have h1:=hT.out;rw[show M-j=(M-(j+1))+1 by omega] at h1;exact dD h1 (by rw[ad,r]) bx)
   have au:=a.cell bd ae bz;have ag:=au.below F;have av:DI (HL A X w.heap.size af cv) w4 c (AF c sl):=b0 (some A::some X::cv.ownBlock::FS w.heap.size) fun j hm=>by
    have dl:=a.grown.size;rcases Eb.1 hm with e|hm
    ·injection e with e;omega
    ·rcases Eb.1 hm with e|hm
     ·injection e with e;omega
     ·rcases Eb.1 hm with e|hm
      ·exact AV.lt a.cel j e.symm
      ·have:=KO.1 hm;omega
   have aw:DI (HL A X w.heap.size af cv) w5 c (AF c sl):=av.kept (BR F none) fun j hj=>by cases hj
   obtain⟨wQ,am⟩:=Ai (w5.alloc (.cells (AF c sl).toArray 77 (0,0)));obtain⟨Q,hQ⟩:=Ai w5.heap.size;have bf:Below w5.heap.size w5 wQ:=by rw[<-am];exact(Dm _ w5).alloc (Ba _) _
   have b1:wQ.heap[Q]? =some (.cells (AF c sl).toArray 77 (0,0)):=by rw[<-am,<-hQ];exact heap_alloc_new w5 _
   have b2:=ag.below bf;have H:DI (HL A X w.heap.size af cv) wQ c (AF c sl):=aw.kept (BR bf none) fun j hj=>by cases hj
   have co:=(DI.shape H).2;have cp:=(DI.shape H).1;have b3:∀(j:Nat) u,(AF c sl)[j]? =some u->wQ.cell? ⟨Q,j,none⟩=some u:=fun j u hu=>A2 b1 hu;have q:=ag.row;have dm:=A2 (o:=3) q rfl;obtain⟨ri,rz,j0,j1,j2,j3,j4⟩:=TZ;have cq:cs.length<=10000:=by have:=ac.out;omega
   have cr:w5.heap[C]? =some (.cells (AF c sl).toArray 77 (0,0)):=by rw[bu.out];exact ck
   have ct:(prog.info? 77).map (·.size)=some (AF c sl).toArray.size:=by rw[bu.out];exact bb
   have cu:=Dl am;have dn:=Dl hQ;have cw:=Dl b3;have ah:=Dl b2;have dp:=Dl bd.rd;clear am hQ b3 bf b1 a au ag av aw b0 a9 ae a8 hb J ad hT m r bx bz bd q a7
   go_wp2_with (first|(with_reducible refine BZ rfl 77 _ _ rfl ba cb 77 rfl rfl bb ar bt ?_;rw[bv.out,da.out])|(with_reducible refine Mo rfl 77 _ rfl C (by kernel_rfl) 77 (AF c sl).toArray (0,0) _ cr J2 rfl ct ?_)|(with_reducible refine iE rfl _ rfl c sl (by kernel_rfl) ?_;rw[cu.out,dn.out])|(at_builtin;refine Te (V:=DI (HL A X w.heap.size af cv) wQ) (w:=wQ) (c:=18) (bytes:=240) (base:=0) (v:=cv) (l:=cs) (y:=c) (vs:=AF c sl) (K:=Q) (cap:=1) rfl rfl Ny j0 j1 j2 j3 j4 (by decide) ?d1 ?d2 ah.out.cel H cp co cw.out ?d3 ?d4 (Dn _) ?_;(case d1=>kernel_rfl);(case d2=>kernel_rfl);(case d3=>(unfold maxLen;omega));(case d4=>omega);intro q9 db w9 cx b4 cy;have b5:=ah.out.app b4 cx cy;have b6:=(b4.block X ah.out.ord.2.2 fun e=>(ah.out.cown X e.symm).2.2.1 rfl).trans ah.out.row;have c6:=A2 (o:=3) b6 rfl;have c7:=AW (o:=3) b6))
   go_roundw
   case rel=>exact⟨j+1,q3,cs++[c],af,_,vz++[(c.mx,c.my)],by go_num,by omega,b5,Dl (by rw[B9,ac.out];rfl),Dl (by rw[aj.out];simp[CM]),cn⟩
   case measure=>simp[intOf];omega
  ·have t1:decide ((j:Int)<(M:Int))=false:=by simp;omega
   obtain rfl:M=j:=by omega
   have cz:Hid (bg=cs/\Eq=q2/\a1=0):=Dl (by
    have h1:=hT.out;rw[Cl] at h1;have h2:=h1.done;injection h2 with e1 h2;injection h2 with e2 e3;exact⟨e1,e2,e3⟩)
   have bc:=a.res;have q:=a.row;rw[ak.out] at q;have c1:=Dl a;have cq:cs.length<=10000:=by have:=ac.out;omega
   clear a hT
   go_wp2_with (first|(with_reducible refine Mo rfl 46 _ rfl X rfl 46 a6 (0,0) _ q J3 rfl d ?_)|(with_reducible refine B2 rfl 46 _ _ rfl A a6 Y rfl rfl 46 bc d O P ?_;intro wz aa D))
   refine Hi (BF rfl _ _ A 46 _ (0,0) _ rfl aa J3 rfl d) rfl ?_;obtain⟨b7,c2,c3,c4⟩:=c1.out.done (by unfold maxLen;omega) D;obtain⟨rfl,rfl,rfl⟩:=cz.out;refine⟨b,id,qu,z,fs,0,_,_,0,0,a3.out,b8.out,rfl,_,by rw[ak.out];rfl,⟨rfl,bs.out⟩,c3,⟨_,b7.rd⟩,fun _=>⟨a5,?_,c2,c4⟩⟩;rw[<-aj.out];exact b7
end
theorem vW (l:List UInt8):QB ctk (AA l):=fun _ _ _ _ _ _ a h=>Ug (K0 _) a h
theorem Xs {ct:CelT}{l:List UInt8}{inter:Bool}{k first:Int}:∀(n p:Nat) (vs:List (Int×Int)) (cs:List Cel) (q:Nat),DD ct l inter k first n p vs=(cs,q,0)->cs.length=n
 |0,p,vs,cs,q,h=>by
  rw[DD] at h;injection h with e1 _;subst e1
  rfl
 |n+1,p,vs,cs,q,h=>by
  rw[DD] at h;obtain⟨⟨c,z,f⟩,hc⟩:=Ai (ct inter (AA l) (DK vs (Bx k) first).1 (DK vs (Bx k) first).2 p);rw[hc] at h;simp only at h;by_cases b:f=0
  case neg=>
   rw[Bc b] at h;injection h with _ h;injection h with _ h;exact absurd h b
  rw[Bb (fun x=>x b)] at h;cases hv:CC k vs.length c with
  |false=>rw[hv,Bc rfl] at h;cases h
  |true=>
   rw[hv,Bb (by decide)] at h;obtain⟨⟨d,y,g⟩,hr⟩:=Ai (DD ct l inter k first n z (vs++[(c.mx,c.my)]))
   rw[hr] at h;simp only at h;by_cases a:g=0
   case neg=>
    rw[Bc a] at h;injection h with _ h;injection h with _ h;exact absurd h a
   rw[Bb (fun x=>x a)] at h;subst a;injection h with e1 h;subst e1;rw[Ao,Xs n z _ d y hr]
def VZ (s:ByteArray)(rb p:Nat)(w:A5)(e:Ae)(a:A5):Prop:=
 ∃vs:List A0,e=.returned (.tuple #[.agg vs.toArray,.int .i64 (wtk ctk s.data.toList p).2.2])/\(vs.length=8/\∀u∈vs,u.oneCell'=true)/\w.grownBy a (some rb)/\(∃q,AG a rb s q)/\
  ((wtk ctk s.data.toList p).2.2=0->(∀(z:A5) (M:List (Option Nat)),(∀j,some j∈M->j<w.heap.size)->Yae M a z->ShV z (wtk ctk s.data.toList p).1 vs)/\AG a rb s (wtk ctk s.data.toList p).2.1)
theorem ZP:∃Y:Array A0,Y.size=8/\∀w,(zeroValue 39).run prog w=.ok (.agg Y) w:=⟨#[.int .i64 0,.int .i64 0,.int .i64 0,.bool false,.int .i64 0,.slice none 0 0,.slice none 0 0,.int .i64 0],rfl,LG (by kernel_rfl)⟩
theorem Tj {hd:Shd}{a:Option Aa}{n ca:Nat}{rv:A0}{z:Int}(h:rv.oneCell'=true):∀u∈AQ hd (.slice a n ca) rv z,u.oneCell'=true:=by
 intro u b;simp only[AQ,Eb,Ed,Ek] at b;rcases b with rfl|rfl|rfl|rfl|rfl|rfl|rfl|rfl
 all_goals first|rfl|exact h
theorem OJ {vs:List A0}(h:∀u∈vs,u.oneCell'=true):vs.toArray.all (·.oneCell')=true:=by
 rw[G6];exact fun v hv=>h v (by simpa using hv)
section
variable {N:Nat}{w:A5}{rb p:Nat}{s:ByteArray}
set_option maxRecDepth 100000 in
theorem jG (hr:AG w rb s p)(ht:Ybq N w)(hN:N<=rb)(hs:s.size<=1073741824):
  A9 prog 93 #[.pointer (some ⟨rb,0,none⟩)] w (VZ s rb p w):=by
 obtain⟨Y,bi,eh⟩:=ZP;have bj:=SI;obtain⟨c0,bk⟩:∃Z:Array A0,[Value.bool false,.int .i64 0,.int .i64 0,.slice none 0 0].toArray=Z:=⟨_,rfl⟩;have c3:c0.size=4:=by rw[<-bk];rfl
 rw[bk] at bj;obtain⟨A,hA⟩:=Ai w.heap.size;obtain⟨wA,ac⟩:=Ai (w.alloc (.cells Y 39 (0,0)));have bv:wA.heap[A]? =some (.cells Y 39 (0,0)):=by rw[<-ac,<-hA];exact heap_alloc_new w _
 have bl:Below w.heap.size w wA:=by rw[<-ac];exact(Dm _ w).alloc (Ba _) _
 have c4:wA.heap.size=A+1:=by rw[<-ac,<-hA];simp
 have ec:rb<A:=by rw[<-hA];exact hr.lt
 have ad:=uK wA rb s p (hr.below bl) (by omega);have c5:Hid (∀x,Yae [some rb] w x->Ybq N x):=Dl fun x hx=>ht.below (hx.under (by omega) fun j hj=>by
  have e:=Df.1 hj;injection e with e;omega)
 unfold Zm at ad;obtain⟨⟨hd,z0,f⟩,hk⟩:=Ai (shk s.data.toList p);rw[hk] at ad;dsimp only at ad;have bw:=Dl hk;have c8:=Dl ac;have bm:=Dl hA;have c9:=Dl bl;clear ac hA bl hr ht hk bk
 go_enter func93,ntmps93
 go_wp2_with fail
 rw[c8.out,bm.out];refine ad.mono ?_;rintro e w1 ⟨a,ca,rfl,ae,bx,bz,az⟩;clear ad;obtain⟨X,hX⟩:=Ai w1.heap.size;obtain⟨zs,k⟩:=Ai (AQ hd (.slice a hd.supp.length ca) (.slice none 0 0) 0);obtain⟨w2,af⟩:=Ai (w1.alloc (.cells zs.toArray 39 (0,0)));have E:Below w1.heap.size w1 w2:=by rw[<-af];exact(Dm _ w1).alloc (Ba _) _
 have da:w2.heap.size=X+1:=by rw[<-af,<-hX];simp
 have a0:w2.heap[X]? =some (.cells zs.toArray 39 (0,0)):=by rw[<-af,<-hX];exact heap_alloc_new w1 _
 have db:=az.size;have bn:=(E.block A (by omega)).trans ((az.block A (by omega) (by simp;omega)).trans bv);have bo:=bz.below E;have dc:Hid (Yae [some rb] w w2):=Dl (((Yae.below c9.out).trans (Yae.one (L:=[some rb]) az fun j _ e=>by rw[e];exact Df.2 rfl) fun j _ hm=>hm).trans (Yae.below (L:=[]) E) (by simp))
 have r:(prog.info? 39).map (·.size)=some zs.toArray.size:=by rw[show zs.toArray.size=8 by rw[<-k];rfl];kernel_rfl
 have R:Y.size=zs.toArray.size:=by rw[bi,<-k];rfl
 have I:∀u∈zs,u.oneCell'=true:=by rw[<-k];exact Tj rfl
 have T:=OJ I;have b0:zs.length=8:=by rw[<-k];rfl
 have U:=Dl I;have b1:=Dl hX;have bp:=Dl af;have J:=Dl k;rw[k];clear af k hX bv I;by_cases hf:f=0
 case neg=>
  have tf:(f != 0)=true:=by rw[Ff];exact hf
  have ab:=Dl (oA (ct:=ctk) bw.out hf);have ei:=Dl hf;clear hf
  go_wp2_with (first|(with_reducible refine BZ rfl 39 _ _ rfl zs.toArray Y 39 rfl rfl r R T ?_;rw[bp.out,b1.out])|(with_reducible refine Mo rfl 39 _ rfl X rfl 39 zs.toArray (0,0) _ a0 Nv rfl r ?_)|(with_reducible refine B2 rfl 39 _ _ rfl A zs.toArray Y rfl rfl 39 bn r R T ?_;intro wz ag F))
  refine Hi (BF rfl _ _ A 39 _ (0,0) _ rfl ag Nv rfl r) rfl ?_;refine⟨zs,by rw[ab.out];rfl,⟨b0,U.out⟩,?_,⟨_,bo.grown F (by omega)⟩,fun e=>absurd (by rw[ab.out] at e;exact e) ei.out⟩
  exact(dc.out.trans (Yae.one (L:=[some A]) F fun j _ e=>by rw[e];exact Df.2 rfl) fun j hj hm=>by have e:=Df.1 hm;injection e with e;have:=bm.out;omega).lone fun j _ hm=>by have e:=Df.1 hm;injection e with e
 subst hf;have tf:((0:Int) != 0)=false:=rfl;have cb:=pX rb hd (.slice a hd.supp.length ca) (.slice none 0 0) 0 w2;rw[J.out] at cb
 go_wp2_with (first|(with_reducible refine BZ rfl 39 _ _ rfl zs.toArray Y 39 rfl rfl r R T ?_;rw[bp.out,b1.out])|(with_reducible refine Mo rfl 39 _ rfl X rfl 39 zs.toArray (0,0) _ a0 Nv rfl r ?_))
 refine cb.mono ?_;rintro e w3 ⟨rfl,a1,B⟩;obtain⟨G,hG⟩:=Ai (w2.heap.size+1);rw[hG] at a1 ⊢;have dd:G<w3.heap.size:=(An.1 a1).1;have a9:∀x,a=some x->A<x.block:=fun x hx=>by have:=bx x hx;rw[c4] at this;exact this
 have de:=b1.out;have df:=B.size;have d:Ywj w w3 G rb A X s z0 hd a ca (.slice none 0 0) (.slice none 0 0) [] 0 Y []:={
  rdr:={
   blk:=a1
   rd:=bo.below B
   vec:=Dj ..
   ne:=⟨by have:=bm.out;omega,fun j hj=>by cases hj⟩}
  res:=(B.block A (by omega)).trans bn
  sht:=by rw[J.out];exact(B.block X (by omega)).trans a0
  row:=HO.nil _ _
  sup:=(ae.below E).below B
  supn:=by
   rcases ae with h|⟨b,o,e,dg,_⟩
   ·exact .inl (Dh h)
   ·refine .inr fun x hx=>?_;rw[e] at hx;injection hx with hx;have h1:=a9 _ e;subst hx;refine⟨by simp only;omega,fun hm=>?_⟩;have ej:=bm.out;rcases Eh.1 hm with e|e|e|e|e|e
    ·cases e
    ·simp only at h1 e;omega
    ·simp only at e;omega
    ·simp only at e;omega
    ·cases e
    ·simp only at h1 e;omega
  ord:=by have:=bm.out;have:=b1.out;omega
  low:=by have:=bm.out;omega
  own:=fun j hj=>by cases hj
  rown:=fun j hj=>by cases hj
  grown:=dc.out.trans (Yae.below (L:=[]) B) (by simp)}
 obtain⟨H,b2⟩:∃n:Nat,(BC hd.fmt).toNat=n:=⟨_,rfl⟩;obtain⟨ek,el,-,-,-⟩:=P5 hd.fmt;have b3:BC hd.fmt=(H:Int):=by omega
 have k2:=d.rdr.cell (o:=2) rfl;rw[b3] at k2;obtain⟨⟨c1,Eq,c2⟩,hE⟩:=Ai (D2 ctk s.data.toList hd.inter hd.fmt H 0 z0 [] 0);have ed:Hid (DV (c1,Eq,c2) [] (D2 ctk s.data.toList hd.inter hd.fmt H 0 z0 [] 0)):=Dl (by rw[hE];exact DV.start _);have dh:Hid (D2 ctk s.data.toList hd.inter hd.fmt (BC hd.fmt).toNat 0 z0 [] 0=(c1,Eq,c2)):=Dl (by rw[b2];exact hE)
 have di:H<=100:=by omega
 have em:=(KM.1 (WP bw.out).2.1).2.2.1;have dj:=bm.out;clear cb bz bo az E B da a0 bn bx a9 ae db de df a1 dd hG r R T b0 U J bp b1 b2 ek el b3 hE dc
 go_wp2
 go_loopw [26] (fun t wx=>∃(i q:Nat) (rs:List RowP) (rv vv:A0) (vs:List (Int×Int)) (fs:Int),t=.int .i64 (i:Int)/\i<=H/\Ywj w wx G rb A X s q hd a ca vv rv vs fs Y rs/\Hid (rs.length=i)/\Hid (vs.length<=i*10000)/\Hid (DV (c1,Eq,c2) rs (D2 ctk s.data.toList hd.inter hd.fmt (H-i) i q vs fs))) (fun t _=>H-(intOf t).toNat)
 case atStart=>exact⟨0,z0,[],_,_,[],0,rfl,Dn _,d,Dl rfl,Dl (Dn _),ed⟩
 case round=>
  clear d ed k2;obtain⟨i,q,rs,rv,vv,vs,fs,rfl,hi,d,a2,ah,hT⟩:=hrel;have ba:rv.oneCell'=true:=(LL d.row.choose_spec.2).2.2;have I:∀(z:Int),∀u∈AQ hd (.slice a hd.supp.length ca) rv z,u.oneCell'=true:=fun z=>Tj ba;obtain⟨zs,k⟩:=Ai (AQ hd (.slice a hd.supp.length ca) rv 0)
  have r:(prog.info? 39).map (·.size)=some zs.toArray.size:=by rw[show zs.toArray.size=8 by rw[<-k];rfl];kernel_rfl
  have R:Y.size=zs.toArray.size:=by rw[bi,<-k];rfl
  have T:zs.toArray.all (·.oneCell')=true:=by rw[<-k];exact OJ (I 0)
  have U:=Dl I;have J:=Dl k;clear k I ba;by_cases dg:i<H
  ·have t1:decide ((i:Int)<(H:Int))=true:=by simp;omega
   have ho:=d.ord;have ai:vs.length<=1000000:=by
    have:=ah.out;have:i*10000<=1000000:=by omega
    omega
   have cc:=aQ i d.rdr (c5.out _ d.grown) hN (by omega) (fun j hj=>by have:=(d.own j hj).1;omega) ai hs (by omega)
   go_wp2_with fail
   refine cc.mono ?_;rintro e O ⟨b,id,qu,z,b4,f,cs,q2,h,g,aj,ak,hg,dk,rfl,⟨al,am⟩,an,⟨q',W⟩,bq⟩;clear cc;obtain⟨D,hD⟩:=Ai O.heap.size;obtain⟨bb,ao⟩:=Ai dk.toArray;rw[ao];obtain⟨w5,a3⟩:=Ai (O.alloc (.cells bb 46 (0,0)));have P:Below O.heap.size O w5:=by rw[<-a3];exact(Dm _ O).alloc (Ba _) _
   have dl:w5.heap[D]? =some (.cells bb 46 (0,0)):=by rw[<-a3,<-hD];exact heap_alloc_new O _
   have a4:bb.size=4:=by rw[<-ao];simpa using al
   have b5:(prog.info? 46).map (·.size)=some bb.size:=by rw[a4];kernel_rfl
   have bc:c0.size=bb.size:=by rw[c3,a4]
   have b6:bb.all (·.oneCell')=true:=by rw[<-ao];exact OJ am
   have ee:=Dl hD;have b7:=Dl a3;have hb:=d.bad an;have en:=an.size;clear hD a3 am;by_cases C:g=0
   case neg=>
    have tg:(g != 0)=true:=by rw[Ff];exact C
    obtain⟨b8,E,B⟩:=hb;have dm:=(P.block A (by omega)).trans b8;have b9:=(P.block X (by omega)).trans E;rw[J.out] at b9;have ab:Hid (wtk ctk s.data.toList p=(JK,p,g)):=Dl (uA bw.out (by
     rw[dh.out];have h1:=hT.out;rw[show H-i=(H-i-1)+1 by omega] at h1;by_cases hf:f=0
     ·rw[Bb (fun x=>x hf)] at hg;subst hf hg;exact bG h1 aj ak C
     ·rw[Bc hf] at hg;subst hg;exact uC h1 aj hf) C)
    have eo:=Dl (B.trans (Yae.below (L:=[]) P) (by simp));have dn:=W.below P;have dp:=Dl C;have ep:=P.size;clear C hg bq d hT a2 ah aj ak b8 E B W an ai ao a4 al
    go_wp2_with (first|(with_reducible refine BZ rfl 46 _ _ rfl bb c0 46 rfl rfl b5 bc b6 ?_;rw[b7.out,ee.out])|(with_reducible refine Mo rfl 39 _ rfl X rfl 39 zs.toArray (0,0) _ b9 Nv rfl r ?_)|(with_reducible refine B2 rfl 39 _ _ rfl A zs.toArray Y rfl rfl 39 dm r R T ?_;intro wz ag F))
    refine Hi (BF rfl _ _ A 39 _ (0,0) _ rfl ag Nv rfl r) rfl ?_;refine⟨zs,by rw[ab.out];rfl,⟨by rw[<-J.out];rfl,by rw[<-J.out];exact U.out 0⟩,?_,⟨_,dn.grown F (by omega)⟩,fun e=>absurd (by rw[ab.out] at e;exact e) dp.out⟩
    exact(eo.out.trans (Yae.one (L:=[some A]) F fun j _ e=>by rw[e];exact Df.2 rfl) fun j hj hm=>by have e:=Df.1 hm;injection e with e;omega).lone fun j _ hm=>by have e:=Df.1 hm;injection e with e
   have tg:(g != 0)=false:=by rw[C];rfl
   have cd:f=0:=by
    by_cases h1:f=0
    ·exact h1
    ·rw[Bc h1] at hg;exact absurd (hg.symm.trans C) h1
   have dq:h=0:=by
    rw[Bb (fun x=>x cd)] at hg;exact hg.symm.trans C
   subst cd dq;obtain⟨a5,ce,cf,hF⟩:=bq C;obtain⟨sl,cg,-⟩:=hF [] (fun j hj=>by cases hj);subst cg;have ap:=Xs _ _ _ _ _ ak;have dr:Hid (DV (c1,Eq,c2) (rs++[⟨b,id,qu,cs⟩]) (D2 ctk s.data.toList hd.inter hd.fmt (H-(i+1)) (i+1) q2 (vs++CM cs) b4)):=Dl (by
    have h1:=hT.out;rw[show H-i=(H-(i+1))+1 by omega] at h1;exact sE h1 aj ak)
   have bd:=d.call ce an cf;have aq:=bd.below P;have eq:=d.grown.size;have ar:=hF (some A::some X::some G::rv.ownBlock::FS w.heap.size) fun j hm=>by
    rcases Eb.1 hm with e|hm
    ·injection e with e;omega
    ·rcases Eb.1 hm with e|hm
     ·injection e with e;omega
     ·rcases Eb.1 hm with e|hm
      ·injection e with e;omega
      ·rcases Eb.1 hm with e|hm
       ·exact AV.lt d.row j e.symm
       ·have:=KO.1 hm;omega
   have au:DN (GM A X G w.heap.size a5 rv) w5 ⟨b,id,qu,cs⟩ [.bool b,.int .i64 id,.int .i64 qu,sl]:=DN.kept ar (BR P none) fun j hj=>by cases hj
   obtain⟨wQ,a6⟩:=Ai (w5.alloc (.cells #[.bool b,.int .i64 id,.int .i64 qu,sl] 46 (0,0)));obtain⟨Q,hQ⟩:=Ai w5.heap.size;have br:Below w5.heap.size w5 wQ:=by rw[<-a6];exact(Dm _ w5).alloc (Ba _) _
   have ch:wQ.heap[Q]? =some (.cells ([Value.bool b,.int .i64 id,.int .i64 qu,sl]:List A0).toArray 46 (0,0)):=by rw[<-a6,<-hQ];exact heap_alloc_new w5 _
   have bf:=aq.below br;have av:DN (GM A X G w.heap.size a5 rv) wQ ⟨b,id,qu,cs⟩ [.bool b,.int .i64 id,.int .i64 qu,sl]:=au.kept (BR br none) fun j hj=>by cases hj
   have ds:=(DN.shape av).2;have ci:∀(j:Nat) u,([Value.bool b,.int .i64 id,.int .i64 qu,sl]:List A0)[j]? =some u->wQ.cell? ⟨Q,j,none⟩=some u:=fun j u hu=>A2 ch hu;have er:=A2 (o:=6) aq.sht rfl;have dt:w5.heap[D]? =some (.cells ([Value.bool b,.int .i64 id,.int .i64 qu,sl]:List A0).toArray 46 (0,0)):=by rw[ao];exact dl
   have du:(prog.info? 46).map (·.size)=some ([Value.bool b,.int .i64 id,.int .i64 qu,sl]:List A0).toArray.size:=by kernel_rfl
   obtain⟨ri,rz,j0,j1,j2,j3,j4⟩:=oJ;have ef:rs.length<=100:=by have:=a2.out;omega
   have bg:(vs++CM cs).length<=(i+1)*10000:=by
    rw[B9];unfold CM;rw[Gc,ap];have:=ah.out;have:=NI hd.fmt;omega
   have dv:=Dl a6;have es:=Dl hQ;have dw:=Dl ci;have aw:=Dl bf;have dx:=Dl bg;clear a6 hQ ci br ch d bd aq ar au hF bq an W hb hg aj ak hT C cf ce ai ah ap bf bg a4 al
   go_wp2_with (first|(with_reducible refine BZ rfl 46 _ _ rfl bb c0 46 rfl rfl b5 bc b6 ?_;rw[b7.out,ee.out])|(with_reducible refine Mo rfl 46 _ rfl D rfl 46 ([Value.bool b,.int .i64 id,.int .i64 qu,sl]:List A0).toArray (0,0) _ dt J3 rfl du ?_)|(with_reducible refine xQ rfl _ rfl (.bool b) (.int .i64 id) (.int .i64 qu) sl rfl ?_;rw[dv.out,es.out])|(at_builtin;refine Te (V:=DN (GM A X G w.heap.size a5 rv) wQ) (w:=wQ) (c:=4) (bytes:=48) (base:=0) (v:=rv) (l:=rs) (y:=⟨b,id,qu,cs⟩) (vs:=[Value.bool b,.int .i64 id,.int .i64 qu,sl]) (K:=Q) (cap:=1) rfl rfl O5 j0 j1 j2 j3 j4 (by decide) ?d1 ?d2 aw.out.row av rfl ds dw.out ?d3 ?d4 (Dn _) ?_;(case d1=>kernel_rfl);(case d2=>kernel_rfl);(case d3=>(unfold maxLen;omega));(case d4=>omega);intro q9 eg w9 dy cj dz;have ck:=aw.out.app cj dy dz;have cl:=(cj.block X (by have:=aw.out.ord;omega) fun e=>(aw.out.rown X e.symm).2.2.1 rfl).trans aw.out.sht;have c6:=A2 (o:=6) cl rfl;have c7:=AW (o:=6) cl))
   go_roundw
   case rel=>exact⟨i+1,q2,rs++[⟨b,id,qu,cs⟩],_,a5,_,b4,by go_num,by omega,ck,Dl (by rw[B9,a2.out];rfl),dx,dr⟩
   case measure=>simp[intOf];omega
  ·have t1:decide ((i:Int)<(H:Int))=false:=by simp;omega
   obtain rfl:H=i:=by omega
   have cm:Hid (D2 ctk s.data.toList hd.inter hd.fmt (BC hd.fmt).toNat 0 z0 [] 0=(rs,q,0)):=Dl (by
    have h1:=hT.out;rw[Cl] at h1;rw[dh.out];exact h1.done)
   have cz:=iL d.rdr hs;have ho:=d.ord;have et:=d.low;have cn:=Dl d;clear hT dh ah
   go_wp2_with fail
   refine cz.mono ?_;rintro e O ⟨n,rfl,a7,⟨q',W⟩,hz⟩;have a8:=(a7.block X (by omega) (by simp;omega)).trans d.sht;have co:=(a7.block A (by omega) (by simp;omega)).trans d.res;have c7:=A2 (o:=7) a8 rfl;have f7:=AW (o:=7) a8;obtain⟨m,aa⟩:=Ai (AQ hd (.slice a hd.supp.length ca) rv (n:Int))
   have d0:(O.setCell ⟨X,7,none⟩ (.int .i64 (n:Int))).heap[X]? =some (.cells m.toArray 39 (0,0)):=by rw[<-aa];exact B3 (o:=7) _ a8
   have d5:(O.setCell ⟨X,7,none⟩ (.int .i64 (n:Int))).heap[A]? =some (.cells Y 39 (0,0)):=by rw[Ii _ _ _ _ (show A≠X by omega)];exact co
   have cp:∀y,AG O rb s y->AG (O.setCell ⟨X,7,none⟩ (.int .i64 (n:Int))) rb s y:=fun y h=>⟨by rw[Ii _ _ _ _ (show rb≠X by omega)];exact h.1,h.2⟩;have cq:=Yae.set (w:=O) (p:=⟨X,7,none⟩) (L:=[some X]) (.int .i64 (n:Int)) (Df.2 rfl);have ax:(prog.info? 39).map (·.size)=some m.toArray.size:=by rw[show m.toArray.size=8 by rw[<-aa];rfl];kernel_rfl
   have cr:Y.size=m.toArray.size:=by rw[bi,<-aa];rfl
   have cu:m.toArray.all (·.oneCell')=true:=by rw[<-aa];exact OJ (U.out n)
   have bs:=Dl aa;have d6:=Dl a7;have d7:=Dl cq;have d8:=Dl cp;have d9:=Dl hz;have cv:=Dl W;obtain⟨fE,bt⟩:=Ai (P8 s.data.toList q);rw[bt];have cw:=Dl bt;clear a8 co aa a7 cq cp hz W d cz bt
   go_upto_region 14 with fail
   generalize O.setCell ⟨X,7,none⟩ (.int .i64 (n:Int))=w7 at *;clear c7 f7
   go_wp2_with (first|(with_reducible refine Mo rfl 39 _ rfl X rfl 39 m.toArray (0,0) _ d0 Nv rfl ax ?_)|(with_reducible refine B2 rfl 39 _ _ rfl A m.toArray Y rfl rfl 39 d5 ax cr cu ?_;intro wz ag F))
   refine Hi (BF rfl _ _ A 39 _ (0,0) _ rfl ag Nv rfl ax) rfl ?_;have cx:Yae [some rb,some X,some A] wr wz:=by
    have g1:Yae [some rb,some X,some A] wr O:=Yae.one d6.out fun j _ e=>by rw[e];exact Eu ..
    have g2:=g1.trans d7.out fun j _ hm=>by rw[Df.1 hm];exact Et _ (Eu ..)
    exact g2.trans (Yae.one (L:=[some A]) F fun j _ e=>by rw[e];exact Df.2 rfl) fun j _ hm=>by rw[Df.1 hm];exact Et _ (Et _ (Eu ..))
   have cy:=cn.out.done cx;have ea:∀(z:A5) (M:List (Option Nat)),(∀j,some j∈M->j<w.heap.size)->Yae M wz z->ShV z ⟨hd,rs,(n:Int)⟩ m:=fun z M hM hz=>by
    refine cn.out.lies (S:=⟨hd,rs,(n:Int)⟩) (M:=some X::some A::some rb::M) ((cx.mono fun j _ hm=>?_).trans hz fun j _ hm=>?_) (fun j hm=>?_) ⟨rfl,rfl⟩ bs.out.symm (by unfold maxLen;omega) (by have:=a2.out;unfold maxLen;omega)
    ·simp only[Eb,Ed,Ek] at hm ⊢;rcases hm with e|e|e
     ·exact .inr (.inr (.inl e))
     ·exact .inl e
     ·exact .inr (.inl e)
    ·exact Et _ (Et _ (Et _ hm))
    ·simp only[Eb,Oe] at hm;rcases hm with e|e|e|e
     ·exact .inl e
     ·exact .inr (.inl e)
     ·exact .inr (.inr (by omega))
     ·exact .inr (.inr (hM j e))
   have bh:m.length=8/\∀u∈m,u.oneCell'=true:=⟨by rw[<-bs.out];rfl,by rw[<-bs.out];exact U.out n⟩;have bu:∀y,AG O rb s y->AG wz rb s y:=fun y h=>(d8.out y h).grown F (by omega);by_cases h0:AD s.data.toList q (gap q)=0
   ·have ay:fE=0:=by rw[<-cw.out];exact Bc h0
    obtain⟨eb,bj⟩:=d9.out (Bc h0);have ab:=mN (ct:=ctk) bw.out cm.out h0;rw[<-eb] at ab;refine⟨m,by rw[ab,ay];rfl,bh,cy,⟨_,bu _ cv.out⟩,fun _=>?_⟩;rw[ab];exact⟨ea,bu _ bj⟩
   ·have ay:fE=5:=by rw[<-cw.out];exact Bb h0
    have ab:=jH (ct:=ctk) bw.out cm.out h0;exact⟨m,by rw[ab,ay];rfl,bh,cy,⟨_,bu _ cv.out⟩,fun e=>by rw[ab] at e;cases e⟩
end
def zeroS:List A0:=AQ FB (.slice none 0 0) (.slice none 0 0) 0
theorem nB (w:A5):ShV w JK zeroS:=⟨none,none,0,0,rfl,Dn _,Dn _,BH.nil _ _,.inl rfl⟩
theorem uH {ct:CelT}{l:List UInt8}{p:Nat}(h:(wtk ct l p).2.2≠0):wtk ct l p=(JK,p,(wtk ct l p).2.2):=by
 unfold wtk at h ⊢;obtain⟨⟨hd,q,f⟩,d⟩:=Ai (shk l p);rw[d] at h ⊢;simp only at h ⊢;by_cases a:f=0
 ·rw[Bb (fun x=>x a)] at h ⊢;obtain⟨⟨rs,z,g⟩,hr⟩:=Ai (D2 ct l hd.inter hd.fmt (BC hd.fmt).toNat 0 q [] 0);rw[hr] at h ⊢;simp only at h ⊢;by_cases b:g=0
  ·rw[Bb (fun x=>x b)] at h ⊢;by_cases c:AD l z (gap z)=0
   ·rw[Bb (fun x=>x c)] at h;exact absurd rfl h
   ·rw[Bc c]
  ·rw[Bc b]
 ·rw[Bc a]
def SX (s:ByteArray)(rb p:Nat)(w:A5)(e:Ae)(a:A5):Prop:=
 ∃vs:List A0,e=.returned (.tuple #[.agg vs.toArray,.int .i64 (wtk ctk s.data.toList p).2.2])/\(∀(x:A5) (L:List (Option Nat)),(∀j,some j∈L->j<w.heap.size)->Yae L a x->ShV x (wtk ctk s.data.toList p).1 vs)/\AG a rb s (wtk ctk s.data.toList p).2.1/\w.grownBy a (some rb)
theorem WA:∀w,(zeroValue 39).run prog w=.ok (.agg zeroS.toArray) w:=LG (by kernel_rfl)
set_option maxRecDepth 100000 in
theorem qJ {N:Nat}{w:A5}{rb p:Nat}{s:ByteArray}(hr:AG w rb s p)(ht:Ybq N w)(hN:N<=rb)(hs:s.size<=1073741824):
  A9 prog 61 #[.pointer (some ⟨rb,0,none⟩)] w (SX s rb p w):=by
 have hp:=hr.2.1;obtain⟨Y,D⟩:=Ai zeroS.toArray;have ab:=WA;rw[D] at ab;have E:Y.size=8:=by rw[<-D];rfl
 have F:(prog.info? 39).map (·.size)=some Y.size:=by rw[E];kernel_rfl
 have ac:Y.all (·.oneCell')=true:=by rw[<-D];exact OJ (Tj rfl)
 obtain⟨A,G⟩:=Ai w.heap.size;obtain⟨wA,c⟩:=Ai (w.alloc (.cells Y 39 (0,0)));have H:wA.heap[A]? =some (.cells Y 39 (0,0)):=by rw[<-c,<-G];exact heap_alloc_new w _
 have h:Below w.heap.size w wA:=by rw[<-c];exact(Dm _ w).alloc (Ba _) _
 have al:wA.heap.size=A+1:=by rw[<-c,<-G];simp
 have ai:rb<A:=by rw[<-G];exact hr.lt
 have m:=hr.below h;have ct:=jG m (ht.below (h.mono (by omega))) hN hs;have a:=uH (ct:=ctk) (l:=s.data.toList) (p:=p);unfold VZ at ct;unfold SX;obtain⟨⟨S,q,f⟩,hk⟩:=Ai (wtk ctk s.data.toList p);rw[hk] at ct a ⊢;dsimp only at ct a ⊢;have ad:=Dl c;have aa:=Dl G;have ae:=Dl h;have am:=Dl D;have I:=Dl a
 clear c G h hr ht hk D a
 go_enter func61,ntmps61
 go_wp2_with fail
 rw[ad.out,aa.out];refine(E1 _ _ _ _ m).mono ?_;rintro e u ⟨rfl,rfl⟩
 go_wp2_with fail
 refine ct.mono ?_;rintro e C ⟨vs,rfl,⟨J,K⟩,i,⟨q',M⟩,n⟩;clear ct;obtain⟨Z,O⟩:=Ai vs.toArray;rw[O];have o:Z.size=8:=by rw[<-O];simpa using J
 have d:(prog.info? 39).map (·.size)=some Z.size:=by rw[o];kernel_rfl
 have r:Y.size=Z.size:=by rw[E,o]
 have t:Z.all (·.oneCell')=true:=by rw[<-O];exact OJ K
 obtain⟨X,hX⟩:=Ai C.heap.size;obtain⟨w2,k⟩:=Ai (C.alloc (.cells Z 39 (0,0)));have b:Below C.heap.size C w2:=by rw[<-k];exact(Dm _ C).alloc (Ba _) _
 have P:w2.heap[X]? =some (.cells Z 39 (0,0)):=by rw[<-k,<-hX];exact heap_alloc_new C _
 have an:=i.size;have v:=(b.block A (by omega)).trans ((i.block A (by omega) (by simp;omega)).trans H);have Q:=M.below b;have aj:Hid (Yae [some rb] w w2):=Dl (((Yae.below ae.out).trans (Yae.one (L:=[some rb]) i fun j _ e=>by rw[e];exact Df.2 rfl) fun j _ hm=>hm).trans (Yae.below (L:=[]) b) (by simp));have ak:=Dl hX;have ao:=Dl O
 have R:=Dl k;clear hX O k o J K H m M i;by_cases y:f=0
 ·have tf:(f != 0)=false:=by rw[y];rfl
  obtain⟨T,U⟩:=n y;have V:=U.below b;have ap:=Dl y;have af:=Dl b;have ag:=Dl T;clear n y b T U
  go_wp2_with (first|(with_reducible refine BZ rfl 39 _ _ rfl Z Y 39 rfl rfl d r t ?_;rw[R.out,ak.out])|(with_reducible refine Mo rfl 39 _ rfl X rfl 39 Z (0,0) _ P Nv rfl d ?_)|(with_reducible refine B2 rfl 39 _ _ rfl A Z Y rfl rfl 39 v d r t ?_;intro wz z g))
  refine Hi (BF rfl _ _ A 39 _ (0,0) _ rfl z Nv rfl d) rfl ?_;have gA:Yae [some A] w2 wz:=Yae.one g fun j _ e=>by rw[e];exact Df.2 rfl
  refine⟨vs,by rw[ap.out,ao.out];rfl,(fun x L hL hx=>ag.out x (some A::L) (fun j hm=>by
   rcases Eb.1 hm with e|hm
   ·injection e with e;omega
   ·have:=hL j hm;have:=aa.out;omega) (((Yae.below af.out).trans gA fun j _ hm=>by rw[Df.1 hm];exact Eu ..).trans hx fun j _ hm=>Et _ hm)),V.grown g (by omega),?_⟩
  exact(aj.out.trans gA fun j hj hm=>by have e:=Df.1 hm;injection e with e;have:=aa.out;omega).lone fun j _ hm=>by have e:=Df.1 hm;injection e with e
 ·have tf:(f != 0)=true:=by rw[Ff];exact y
  have a:=I.out y;have aq:=Dl a;have ar:=b.size;clear n y b a
  go_wp2_with (with_reducible refine BZ rfl 39 _ _ rfl Z Y 39 rfl rfl d r t ?_;rw[R.out,ak.out])
  refine(GA _ _ _ _ (p:Int) Q (by omega) (by omega)).mono ?_;rintro e w3 ⟨rfl,W,B⟩;rw[Do] at W;have ah:=(B.block A (by omega) (by simp;omega)).trans v;have au:=B.size;clear P v Q
  go_wp2_with (with_reducible refine B2 rfl 39 _ _ rfl A Y Y rfl rfl 39 ah F rfl ac ?_;intro wz z g)
  refine Hi (BF rfl _ _ A 39 _ (0,0) _ rfl z Nv rfl F) rfl ?_;have hq:=aq.out;injection hq with e1 e2;injection e2 with e2 _;subst e1 e2;refine⟨zeroS,by rw[am.out];rfl,fun x _ _ _=>nB x,W.grown g (by omega),?_⟩
  refine((aj.out.trans (Yae.one (L:=[some rb]) B fun j _ e=>by rw[e];exact Df.2 rfl) fun j _ hm=>hm).trans (Yae.one (L:=[some A]) g fun j _ e=>by rw[e];exact Df.2 rfl) fun j hj hm=>?_).lone fun j _ hm=>by have e:=Df.1 hm;injection e with e
  have e:=Df.1 hm;injection e with e;have:=aa.out;omega
def S8 (s:ByteArray)(rb p:Nat)(done:List ShP)(w:A5)(e:Ae)(a:A5):Prop:=
 ∃vs:List A0,e=.returned (.tuple #[.agg vs.toArray,.int .i64 (JS (wtk ctk s.data.toList p).2.2 done.length (CD (CA done) (wtk ctk s.data.toList p).1))])/\ShK (FS w.heap.size) a (wtk ctk s.data.toList p).1 vs/\AG a rb s (wtk ctk s.data.toList p).2.1/\w.grownBy a (some rb)
set_option maxRecDepth 100000 in
theorem fH {N:Nat}{w:A5}{rb p:Nat}{s:ByteArray}{done:List ShP}{q:Option Aa}{cap:Nat}(hr:AG w rb s p)(ht:Ybq N w)(hN:N<=rb)(hs:s.size<=1073741824)(hd:∀x,w.grownBy x (some rb)->GF x q done)(hl:done.length<=64):
  A9 prog 32 #[.pointer (some ⟨rb,0,none⟩),.slice q done.length cap] w (S8 s rb p done w):=by
 obtain⟨Y,hY⟩:=Ai zeroS.toArray;have ac:=WA;rw[hY] at ac;have ad:Y.size=8:=by rw[<-hY];rfl
 obtain⟨A,O⟩:=Ai w.heap.size;obtain⟨wA,m⟩:=Ai (w.alloc (.cells Y 39 (0,0)));have P:wA.heap[A]? =some (.cells Y 39 (0,0)):=by rw[<-m,<-O];exact heap_alloc_new w _
 have t:Below w.heap.size w wA:=by rw[<-m];exact(Dm _ w).alloc (Ba _) _
 have an:wA.heap.size=A+1:=by rw[<-m,<-O];simp
 have am:rb<A:=by rw[<-O];exact hr.lt
 have ct:=qJ (hr.below t) (ht.below (t.mono (by omega))) hN hs;unfold SX at ct;unfold S8;obtain⟨⟨S,q2,f⟩,hk⟩:=Ai (wtk ctk s.data.toList p);rw[hk] at ct ⊢;dsimp only at ct ⊢;obtain⟨R,hR⟩:=Ai (JS f done.length (CD (CA done) S));rw[hR];have aa:=Dl hR;have ae:=Dl m;have af:=Dl O;have ag:=Dl t;have ah:=Dl hd;clear m O hr ht hk hY hd t hR
 go_enter func32,ntmps32
 go_wp2_with fail
 rw[ae.out,af.out];refine ct.mono ?_;rintro e u ⟨vs,rfl,c,Q,v⟩;clear ct;have y:=c u [] (by simp) (Yae.refl _ _);have G:=y.shape.1;have d:=y.ones;obtain⟨X,hX⟩:=Ai u.heap.size;obtain⟨l,o⟩:=Ai (u.alloc (.cells vs.toArray 39 (0,0)));have g:Below u.heap.size u l:=by rw[<-o];exact(Dm _ u).alloc (Ba _) _
 have ai:l.heap.size=X+1:=by rw[<-o,<-hX];simp
 have r:l.heap[X]? =some (.cells vs.toArray 39 (0,0)):=by rw[<-o,<-hX];exact heap_alloc_new u _
 have ao:=v.size;have B:=(g.block A (by omega)).trans ((v.block A (by omega) (by simp;omega)).trans P);have T:=Q.below g;have U:=ShV.below g _ _ y;have aj:Yae [some rb] w l:=((Yae.below ag.out).trans (Yae.one (L:=[some rb]) v fun j _ e=>by rw[e];exact Df.2 rfl) fun j _ hm=>hm).trans (Yae.below (L:=[]) g) (by simp)
 have ak:=Dl (fun(z:A5) (V:Below l.heap.size l z)=>((aj.trans (Yae.below (L:=[]) V) (by simp)).lone fun j _ hm=>(by have e:=Df.1 hm;injection e with e):w.grownBy z (some rb)));have C:=Dl (fun(z D:A5) (V:Below l.heap.size l z) (b:z.grownBy D (some A))=>(by
  have gA:Yae [some A] z D:=Yae.one b fun j _ e=>by rw[e];exact Df.2 rfl
  have al:Below u.heap.size u z:=g.trans (V.mono g.size);refine⟨ShK.low fun x L hL hx=>c x (some A::L) (fun j hm=>?_) (((Yae.below (L:=some A::L) al).trans gA fun j _ hm=>by rw[Df.1 hm];exact Eu ..).trans hx fun j _ hm=>Et _ hm),(T.below V).grown b (by simp;omega),?_⟩
  ·rcases Eb.1 hm with e|e
   ·injection e with e;omega
   ·have:=hL j e;have:=af.out;omega
  ·exact((aj.trans (Yae.below (L:=[]) V) (by simp)).trans gA fun j hj hm=>(by have e:=Df.1 hm;injection e with e;have:=af.out;omega)).lone fun j _ hm=>(by have e:=Df.1 hm;injection e with e):ShK (FS w.heap.size) D S vs/\AG D rb s q2/\w.grownBy D (some rb)))
 have a:(prog.info? 39).map (·.size)=some vs.toArray.size:=by rw[show vs.toArray.size=8 from G];kernel_rfl
 have i:Y.size=vs.toArray.size:=by rw[ad];exact G.symm
 have ab:=Dl hX;have H:=Dl o;have E:Below l.heap.size l l:=Dm _ _;clear hX o c Q v y g aj T P G hs;by_cases hf:f=0
 case neg=>
  have tf:(f != 0)=true:=by rw[Ff];exact hf
  have I:=Dl (show R=f by rw[<-aa.out];exact Bc hf);clear hf
  go_wp2_with (first|(with_reducible refine BZ rfl 39 _ _ rfl vs.toArray Y 39 rfl rfl a i d ?_;rw[H.out,ab.out])|(with_reducible refine Mo rfl 39 _ rfl X rfl 39 vs.toArray (0,0) _ r Nv rfl a ?_)|(with_reducible refine B2 rfl 39 _ _ rfl A vs.toArray Y rfl rfl 39 B a i d ?_;intro D k b))
  refine Hi (BF rfl _ _ A 39 _ (0,0) _ rfl k Nv rfl a) rfl ?_;exact⟨vs,by rw[I.out];rfl,C.out _ _ E b⟩
 subst hf;have tf:((0:Int) != 0)=false:=rfl;by_cases J:done.length=64
 ·have I:=Dl (show R=13 by rw[<-aa.out];unfold JS;rw[Bb (by decide),Bc (by omega)]);rw[J];clear J hl ah ak
  go_wp2_with (first|(with_reducible refine BZ rfl 39 _ _ rfl vs.toArray Y 39 rfl rfl a i d ?_;rw[H.out,ab.out])|(with_reducible refine Mo rfl 39 _ rfl X rfl 39 vs.toArray (0,0) _ r Nv rfl a ?_)|(with_reducible refine B2 rfl 39 _ _ rfl A vs.toArray Y rfl rfl 39 B a i d ?_;intro D k b))
  refine Hi (BF rfl _ _ A 39 _ (0,0) _ rfl k Nv rfl a) rfl ?_;exact⟨vs,by rw[I.out];rfl,C.out _ _ E b⟩
 have cf:=Yy (w:=l) q cap done U (ah.out _ (ak.out _ E)) (by unfold maxLen;omega);have K:=Dl (show CD (CA done) S=false->R=11 from fun h=>by rw[<-aa.out];unfold JS;rw[Bb (by decide),Bb (by omega),Bc h]);have M:=Dl (show CD (CA done) S=true->R=0 from fun h=>by rw[<-aa.out];unfold JS;rw[Bb (by decide),Bb (by omega),Bb (by rw[h];decide)])
 generalize CD (CA done) S=fo at *;generalize done.length=n at *;have t64:((n:Int)==64)=false:=by rw[Ez];omega
 clear J hl ah ak U
 go_wp2_with (first|(with_reducible refine BZ rfl 39 _ _ rfl vs.toArray Y 39 rfl rfl a i d ?_;rw[H.out,ab.out])|(with_reducible refine Mo rfl 39 _ rfl X rfl 39 vs.toArray (0,0) _ r Nv rfl a ?_))
 refine cf.mono ?_;rintro e w3 ⟨rfl,F⟩;have W:=(F.block A (by have:=ab.out;omega)).trans B;have Z:=(F.block X (by omega)).trans r;clear cf B r E ai;cases fo with
 |false=>
  have I:=Dl (K.out rfl);clear K M
  go_wp2_with (first|(with_reducible refine Mo rfl 39 _ rfl X rfl 39 vs.toArray (0,0) _ Z Nv rfl a ?_)|(with_reducible refine B2 rfl 39 _ _ rfl A vs.toArray Y rfl rfl 39 W a i d ?_;intro D k b))
  refine Hi (BF rfl _ _ A 39 _ (0,0) _ rfl k Nv rfl a) rfl ?_;exact⟨vs,by rw[I.out];rfl,C.out _ _ F b⟩
 |true=>
  have I:=Dl (M.out rfl);clear K M
  go_wp2_with (first|(with_reducible refine Mo rfl 39 _ rfl X rfl 39 vs.toArray (0,0) _ Z Nv rfl a ?_)|(with_reducible refine B2 rfl 39 _ _ rfl A vs.toArray Y rfl rfl 39 W a i d ?_;intro D k b))
  refine Hi (BF rfl _ _ A 39 _ (0,0) _ rfl k Nv rfl a) rfl ?_;exact⟨vs,by rw[I.out];rfl,C.out _ _ F b⟩
structure Y0g (w0 w:A5) (A n:Nat) (v:A0) (done:List ShP):Prop where
 ord:w0.heap.size=A/\A+2<=n/\n<=w.heap.size
 low:Below A w0 w
 res:w.heap[A]? =some (.cells [.slice none 0 0,.bool false].toArray 24 (0,0))
 loc:w.heap[A+1]? =some (.cells [v,.bool false].toArray 24 (0,0))
 own:HI n w v done
section
variable {w0 w z:A5}{A n:Nat}{v:A0}{done:List ShP}
theorem Y0g.turn {row:Option Nat}(h:Y0g w0 w A n v done)(a:w.grownBy z row)(hr:∀k,row=some k->A+2<=k/\k<n):Y0g w0 z A n v done:=by
 obtain⟨⟨b,c,d⟩,h2,h3,h4,f⟩:=h;refine⟨⟨b,c,Ea d a.size⟩,h2.grown a (by omega) (fun j hj=>by have:=hr j hj;omega),(a.block A (by omega) (fun e=>by have:=hr A e.symm;omega)).trans h3,(a.block (A+1) (by omega) (fun e=>by have:=hr _ e.symm;omega)).trans h4,?_⟩
 exact f.kept (M:=[row]) (Yae.one a fun k _ e=>by rw[e];exact Df.2 rfl) fun j _ hm=>(hr j (Df.1 hm).symm).2
theorem Y0g.below (h:Y0g w0 w A n v done)(a:Below w.heap.size w z):Y0g w0 z A n v done:=h.turn (BR a none) fun k e=>by cases e
theorem Y0g.app {a:A0}{S:ShP}(h:Y0g w0 w A n v done)(ho:AV 8 39 (ShK (v.ownBlock::FS n) w) z n a (done++[S]))(b:w.grownBy z v.ownBlock)(g:∀k,a.ownBlock=some k->v.ownBlock=some k\/w.heap.size<=k):
  Y0g w0 (z.setCell ⟨A+1,0,none⟩ a) A n a (done++[S])/\Yae [v.ownBlock,some (A+1)] w (z.setCell ⟨A+1,0,none⟩ a):=by
 obtain⟨⟨i,l,m⟩,h2,h3,h4,d⟩:=h;have c:∀k,k<n->some k≠v.ownBlock:=fun k f e=>by have:=AV.fresh d k e.symm;omega
 have q:=(b.block (A+1) (by omega) (c _ (by omega))).trans h4;have hs:=Yae.set (w:=z) (p:=⟨A+1,0,none⟩) (L:=[some (A+1)]) a (Df.2 rfl);refine⟨⟨⟨i,l,Ea m (Ea b.size hs.size)⟩,?_,?_,B3 (o:=0) a q,?_⟩,?_⟩
 ·have r:Below A w0 z:=h2.grown b (by omega) (fun j hj=>by have:=AV.fresh d j hj;omega);exact r.trans (hs.under (by have:=b.size;omega) fun k f=>by have e:=Df.1 f;injection e with e;omega)
 ·rw[Ii _ _ _ _ (show A≠A+1 by omega)];exact(b.block A (by omega) (c A (by omega))).trans h3
 ·exact(HI.app ho b g).kept hs fun j _ hm=>by have e:=Df.1 hm;injection e with e;omega
 ·exact(Yae.one (L:=[v.ownBlock,some (A+1)]) b fun k _ e=>by rw[e];exact Eu ..).trans hs fun j _ hm=>Et _ hm
theorem Y0g.fin (h:Y0g w0 w A n v done)(F:Bool)(a:Yae [some A,some (A+1)] w z)(hl:done.length<=64):IC z ⟨done,F⟩ [v,.bool F]/\Below w0.heap.size w0 z:=by
 obtain⟨⟨b,f,g⟩,h2,h3,h4,c⟩:=h;have hm:∀j,some j∈[some A,some (A+1)]->A<=j/\j<n:=fun j hj=>by
  rcases Eb.1 hj with e|e
  ·injection e with e;omega
  ·have e:=Df.1 e;injection e with e;omega
 exact⟨(c.kept a fun j _ hj=>(hm j hj).2).strV (by unfold maxLen;omega) F,by rw[b];exact h2.trans (a.under (by omega) fun k d=>(hm k d).1)⟩
theorem Y0g.bad (h:Y0g w0 w A n v done)(a:w.grownBy z (some A)):Below w0.heap.size w0 z:=by
 rw[h.ord.1];exact h.low.grown a (by have:=h.ord;omega) fun j hj=>by injection hj with hj;omega
end
theorem Ud {w:A5}{ops:Array A4}{rest:List A4}{o:A4}{a:Act}{Q:Exit->Act->A5->Prop}(e:o.guard=none)(x:A8)(ho:o.op=.buildSlice 22 1 #[(0,x)])(vs:List A0)(hl:vs.length=8)
  (f:a.eval x=.agg vs.toArray)(h:wpList prog ops Q rest (a.put o.dst (.slice (some ⟨w.heap.size,0,none⟩) 1 1)) (w.alloc (.cells vs.toArray 39 (0,0)))):wpList prog ops Q (o::rest) a w:=by
 match vs,hl with
 |[u0,u1,u2,u3,u4,u5,u6,u7],_=>
  have b:(match prog.info? 39 with
   |some c=>(match c.zero with
    |some z=>if c.size=8 then Instr.fill (fun i=>some (i*c.size,c.size)) ((Array.range (1*c.size)).map (z.cells[· % z.cells.size]!)) [(0,.agg #[u0,u1,u2,u3,u4,u5,u6,u7])] else none
    |none=>none)
   |none=>none)=some #[u0,u1,u2,u3,u4,u5,u6,u7]:=by kernel_rfl
  cases hi:prog.info? 39 with
  |none=>rw[hi] at b;cases b
  |some c=>
   rw[hi] at b;cases hz:c.zero with
   |none=>simp only[hz] at b;cases b
   |some z=>
    simp only[hz] at b;by_cases d:c.size=8
    ·rw[Bc d] at b;exact Nz e _ _ 1 _ ho _ c z Ow hi hz (by rw[d];decide) (by rw[d];decide) (by simpa [f] using b) h
    ·rw[Bb d] at b;cases b
def ZA:Option A0->Nat
 |some (.slice _ n _)=>n
 |_=>0
def QQ (l:List UInt8)(w:A5)(e:Ae)(a:A5):Prop:=
 ∃vs:List A0,e=.returned (.tuple #[.agg vs.toArray,.int .i64 ((IE ctk l).2.1:Int),.int .i64 (IE ctk l).2.2])/\IC a (IE ctk l).1 vs/\Below w.heap.size w a
theorem rF (w:A5):IC w EB [.slice none 0 0,.bool false]:=⟨none,0,rfl,Dn _,Dn _,.inl rfl⟩
theorem Sp:∀w,(zeroValue 24).run prog w=.ok (.agg #[.slice none 0 0,.bool false]) w:=LG (by kernel_rfl)
set_option maxRecDepth 100000 in
theorem XW {w:A5}{s:ByteArray}(ht:Ybq w.heap.size w)(hs:s.size<=140737488355328):A9 prog 14 #[.string s] w (QQ s.data.toList w):=by
 obtain⟨A,hA⟩:=Ai w.heap.size;have di:=Sp;have a4:=rF;obtain⟨wA,F⟩:=Ai (w.alloc (.cells #[.slice none 0 0,.bool false] 24 (0,0)));have bl:wA.heap[A]? =some (.cells [.slice none 0 0,.bool false].toArray 24 (0,0)):=by rw[<-F,<-hA];exact heap_alloc_new w _
 have R:Below w.heap.size w wA:=by rw[<-F];exact(Dm _ w).alloc (Ba _) _
 have a5:wA.heap.size=A+1:=by rw[<-F,<-hA];simp
 unfold QQ;have a6:s.data.toList.length=s.size:=rfl;by_cases av:262144<s.size
 ·have hE:IE ctk s.data.toList=(EB,0,13):=by unfold IE;exact Bc (by omega)
  rw[hE];have t0:decide (262144<(s.size:Int))=true:=by simp;omega
  have t1:decide (262144<s.size)=true:=by simp;omega
  have bm:=Dl F;have cj:=Dl hA;have dj:=Dl R;clear F av hE hs a6 ht hA R a5
  go_enter func14,ntmps14
  go_wp2
  go_step3
  go_wp2
  rw[L4];exact Hi (OX rfl _ _ w.heap.size 24 _ (0,0) _ rfl (heap_alloc_new w _) Ou rfl (by kernel_rfl)) rfl ⟨_,rfl,a4 _,(Dm _ w).alloc (Ba _) _⟩
 have ci:s.size<=262144:=by omega
 have t0:decide (262144<(s.size:Int))=false:=by simp;omega
 have t1:decide (262144<s.size)=false:=by simp;omega
 obtain⟨E,hE⟩:=Ai (IE ctk s.data.toList);rw[hE];have bn:EX ctk s.data.toList 65 0 []=E:=by rw[<-hE];unfold IE;rw[Bb (by omega)]
 obtain⟨wX,T⟩:=Ai (wA.alloc (.cells #[.slice none 0 0,.bool false] 24 (0,0)));have bo:wX.heap[A+1]? =some (.cells [.slice none 0 0,.bool false].toArray 24 (0,0)):=by rw[<-T,<-a5];exact heap_alloc_new wA _
 have aj:Below wA.heap.size wA wX:=by rw[<-T];exact(Dm _ wA).alloc (Ba _) _
 obtain⟨rb,U⟩:=Ai wX.heap.size;have ck:rb=A+2:=by rw[<-U,<-T];simp;omega
 obtain⟨wR,W⟩:=Ai (wX.alloc (KA s 0));have ak:Below wX.heap.size wX wR:=by rw[<-W];exact(Dm _ wX).alloc (Ba _) _
 have cm:wR.heap.size=rb+1:=by rw[<-W,<-U];simp
 obtain⟨n,hn⟩:=Ai (rb+1);have bp:AG wR rb s 0:=by rw[<-W];exact AG.fresh U hs
 have aw:Below A w wR:=hA▸(R.trans ((aj.trans (ak.mono aj.size)).mono R.size));have ax:Y0g w wR A n (.slice none 0 0) []:=⟨⟨hA,by omega,by omega⟩,aw,(ak.block A (by omega)).trans ((aj.block A (by omega)).trans bl),(ak.block (A+1) (by omega)).trans bo,HI.nil n wR⟩;have de:Hid (EX ctk s.data.toList (65-([]:List ShP).length) 0 []=E):=Dl bn
 have dk:=Dl (fun(x:A5) (r:Below A w x)=>(ht.below (hA.symm▸r):Ybq w.heap.size x));have bm:=Dl F;have cj:=Dl hA;have cn:=Dl T;have co:=Dl U;have cp:=Dl W;have bq:=Dl (show rb=A+2/\n=A+3 by omega);have aa:=Dl a6;have br:=Dl a4;obtain⟨Y,cq,dl⟩:=QT
 have al:(prog.info? 24).map (·.size)=some (#[.slice none 0 0,.bool false]:Array A0).size:=by kernel_rfl
 have bs:(#[.slice none 0 0,.bool false]:Array A0).all (·.oneCell')=true:=by simp[Value.oneCell']
 clear F hA T U W hE bn bl R a5 bo aj ck ak cm hn aw ht a6 a4 av hs
 go_enter func14,ntmps14
 go_wp2
 go_step3
 go_wp2_with fail
 rw[bm.out,cj.out,cn.out];refine(NW _ _).mono ?_;rintro e u ⟨rfl,rfl⟩;rw[cp.out,co.out]
 go_wp2
 go_step3
 go_wp2
 clear t0 t1
 go_loopw [7] (fun z wr=>∃(p:Nat) (v:A0) (done:List ShP),Y0g w wr A n v done/\AG wr rb s p/\done.length<=64/\p<=8*s.size/\p%8=0/\Hid (EX ctk s.data.toList (65-done.length) p done=E)) (fun _ wr=>65-ZA (wr.cell? ⟨A+1,0,none⟩))
 case atStart=>exact⟨0,_,[],ax,bp,Dn _,Dn _,rfl,de⟩
 case round=>
  clear ax bp de;obtain⟨p,v,done,g,hr,a7,dm,bt,hT⟩:=hrel;have e1:=g.own.ins.1;obtain⟨q,cap,hv⟩:∃q cap,v=.slice q done.length cap:=⟨_,_,e1⟩;subst hv;obtain⟨a,ha⟩:=Ai (p / 8);have dv:(p:Int).tdiv 8=(a:Int):=by rw[Is (by omega)];omega
  have wa:IntKind.i64.wrap (a:Int)=(a:Int):=DA (by omega);have k0:=A2 (o:=0) g.loc rfl;have dn:=Dl k0;obtain⟨Z,hZ⟩:=Ai ([Value.slice q done.length cap,.bool false].toArray);have i:=g.loc;have m:=g.res;rw[hZ] at i;have a8:(prog.info? 24).map (·.size)=some Z.size:=by rw[<-hZ];kernel_rfl
  have cr:(#[.slice none 0 0,.bool false]:Array A0).size=Z.size:=by rw[<-hZ];rfl
  have cs:Z.all (·.oneCell')=true:=by rw[<-hZ];simp[Value.oneCell']
  have df:=Dl hZ;have ab:=Dl (show p=8*a by omega);have dp:=Dl bt;have dg:=g.ord;clear e1 ha hZ bt
  go_wp2_with fail
  refine(E1 _ _ _ _ hr).mono ?_;rintro e u ⟨rfl,rfl⟩;have cl:=Pr wr rb s p hr;by_cases hq:done.length≠0/\p=8*s.size
  case pos=>
   obtain⟨G,ac⟩:=hq;have t0:((done.length:Int)==0)=false:=by rw[Ez];omega
   rw[show 8*(s.size:Int)-(p:Int)=0 by omega] at cl;have a9:Hid (E=(⟨done,false⟩,0,0)):=Dl (by
    rw[<-hT.out,show 65-done.length=(64-done.length)+1 by omega];exact vO _ (by rw[aa.out];exact ac) G)
   clear G ac hT
   go_wp2_with fail
   refine cl.mono ?_;rintro e w3 ⟨rfl,b⟩;have cu:=(b.block (A+1) (by omega)).trans i;have cv:=(b.block A (by omega)).trans m;clear cl k0 i m
   go_wp2_with (first|(with_reducible refine Mo rfl 24 _ rfl (A+1) rfl 24 Z (0,0) _ cu Ou rfl a8 ?_)|(with_reducible refine B2 rfl 24 _ _ rfl A Z _ rfl rfl 24 cv a8 cr cs ?_;intro wz H I))
   rw[L4];refine Hi (OX rfl _ _ A 24 _ (0,0) _ rfl H Ou rfl a8) rfl ?_;have hf:=(g.below b).fin false (Yae.one (L:=[some A,some (A+1)]) I fun j _ e=>by rw[e];exact Eu ..) a7;rw[a9.out];exact⟨_,by rw[df.out];rfl,hf⟩
  obtain⟨L,hL⟩:=Ai (8*(s.size:Int)-(p:Int));rw[hL] at cl;by_cases hm:done.length≠0/\LI s.data.toList p=true
  case pos=>
   obtain⟨G,ba⟩:=hm;have t0:((done.length:Int)==0)=false:=by rw[Ez];omega
   have tL:(L==0)=false:=by rw[Ez];intro h;exact hq ⟨G,by omega⟩
   have bb:=U1.1 ba;have ac:p≠8*s.data.toList.length:=fun e=>hq ⟨G,by rw[aa.out] at e;exact e⟩;have ad:=rJ (ct:=ctk) (l:=s.data.toList) (p:=p) (done:=done) (64-done.length) ac ⟨by omega,bb⟩;rw[show (64-done.length)+1=65-done.length by omega,hT.out] at ad;have bc:a<=s.size:=by have:=ab.out;omega
   have cw:=Dl bc;have ae:=oK (l:=s.data.toList) (a:=a) (by rw[aa.out];exact bc) (by rw[<-ab.out];exact bb);rw[<-ab.out] at ae;obtain⟨X,hX⟩:=Ai (s.extract a s.size);have bu:X.data.toList=s.data.toList.drop a:=by
    rw[<-hX,ByteArray.data_extract,Array.toList_extract];exact Bh (by rw[Bj];exact Ba _)
   obtain⟨P,hP⟩:∃P:ByteArray,⟨NJ.toArray⟩=P:=⟨_,rfl⟩;have am:X=P↔8*s.data.toList.length=p+24/\AD s.data.toList (p+22) 2=0:=by
    rw[<-ae,<-bu,PM,<-hP]
   have cx:=Dl (fun(x:A5) (r:Below wr.heap.size wr x)=>(by
    have h:=xY x;rw[hP] at h;exact h.mono fun e y h=>⟨h.1,r.trans (h.2.mono r.size)⟩:A9 prog 31 #[] x fun e y=>e=.returned (.string P)/\Below wr.heap.size wr y))
   have dq:=Dl hX;have N:=fun(x:A5) (r:AG x rb s p)=>W9 r (by omega);rw[ba] at N;have af:=Dl N;clear ba bb ac bc ae hX bu hP G hL hq hT
   go_wp2_with fail
   refine cl.mono ?_;rintro e w3 ⟨rfl,b⟩;have c3:=af.out _ (hr.below b);clear cl
   go_wp2_with fail
   refine c3.mono ?_;rintro e w4 ⟨rfl,t⟩;have J:Below wr.heap.size wr w4:=b.trans (t.mono b.size);clear c3 t b k0 af
   go_wp2
   refine BU (S:=fun x=>Below wr.heap.size wr x) 5 (by kernel_rfl) (by kernel_rfl) J.drew ?_;simp only[Dp,Bk,Gs,Gt]
   iterate 2 (refine AJ ?_;simp only[A1])
   refine AT (v:=.string X) (by kernel_rfl) (fun x _=>by go_simp;rw[Bc cw.out,dq.out]) ?_;simp only[A1];refine AY (by kernel_rfl) cx.out (fun _=>by kernel_rfl) ?_;simp only[A1];by_cases hb:X=P
   ·have a9:Hid (E=(⟨done,true⟩,0,0)):=Dl (by rw[ad,Bc (am.1 hb)]);subst hb;refine AT (v:=.bool false) (by kernel_rfl) (fun x _=>by go_simp) ?_;simp only[A1];refine BS fun x r=>?_;have ag:=(r.block (A+1) (by omega)).trans i;have an:=(r.block A (by omega)).trans m;rw[<-df.out] at ag;have k1:=A2 (o:=1) ag rfl;have f1:=AW (o:=1) ag;have bv:=B3 (o:=1) (.bool true) ag
    have bd:(x.setCell ⟨A+1,1,none⟩ (.bool true)).heap[A]? =_:=(Ii _ _ _ _ (show A≠A+1 by omega)).trans an;have bw:=Yae.set (w:=x) (p:=⟨A+1,1,none⟩) (L:=[some A,some (A+1)]) (.bool true) (Et _ (Df.2 rfl));obtain⟨bx,O⟩:=Ai (([Value.slice q done.length cap,.bool false].set 1 (.bool true)).toArray);rw[O] at bv
    have ah:(prog.info? 24).map (·.size)=some bx.size:=by rw[<-O];kernel_rfl
    have bz:(#[.slice none 0 0,.bool false]:Array A0).size=bx.size:=by rw[<-O];rfl
    have b0:bx.all (·.oneCell')=true:=by rw[<-O];simp[Value.oneCell']
    have cy:=Dl O;have cz:=Dl bw;clear ag an i m O bw ad am J cx
    go_wp2_with (first|(with_reducible refine Mo rfl 24 _ rfl (A+1) rfl 24 bx (0,0) _ bv Ou rfl ah ?_)|(with_reducible refine B2 rfl 24 _ _ rfl A bx _ rfl rfl 24 bd ah bz b0 ?_;intro wz H I))
    rw[L4];refine Hi (OX rfl _ _ A 24 _ (0,0) _ rfl H Ou rfl ah) rfl ?_;have hf:=(g.below r).fin true (cz.out.trans (Yae.one (L:=[some A,some (A+1)]) I fun j _ e=>by rw[e];exact Eu ..) fun j _ h=>h) a7;rw[a9.out];exact⟨_,by rw[<-cy.out];rfl,hf⟩
   ·have a9:Hid (E=(EB,a,5)):=Dl (by rw[ad,Bb (fun h=>hb (am.2 h)),show p / 8=a by have:=ab.out;omega]);have tb:=eT hb;refine AT (v:=.bool true) (by kernel_rfl) (fun x _=>by go_simp;try (rw[tb];rfl)) ?_;simp only[A1];refine BS fun x r=>?_;have an:=(r.block A (by omega)).trans m;clear i m ad am J cx hb
    go_wp2_with (with_reducible refine B2 rfl 24 _ _ rfl A _ _ rfl rfl 24 an al rfl bs ?_;intro wz H I)
    rw[L4];refine Hi (OX rfl _ _ A 24 _ (0,0) _ rfl H Ou rfl al) rfl ?_;rw[a9.out];exact⟨_,rfl,br.out _,(g.below r).bad I⟩
  have ay:done.length≠0->p≠8*s.data.toList.length/\¬ ((AX s.data.toList p).2=0/\(AX s.data.toList p).1=31):=fun G=>⟨fun e=>hq ⟨G,by rw[aa.out] at e;exact e⟩,fun e=>hm ⟨G,U1.2 e⟩⟩;obtain⟨⟨S,q2,f⟩,hk⟩:=Ai (wtk ctk s.data.toList p);have bf:=cT (64-done.length) ay hk;rw[show (64-done.length)+1=65-done.length by omega,hT.out] at bf;have ao:=Dl bf;have c0:=Dl hk
  clear ay bf hk hT;by_cases G:done.length=0
  case' pos=>
   have t0:((done.length:Int)==0)=true:=by rw[G];rfl
   have d:=g;have bg:=hr;clear G hq hm hL cl hr
   go_wp2_with fail
  case' neg=>
   have t0:((done.length:Int)==0)=false:=by rw[Ez];omega
   have tL:(L==0)=false:=by rw[Ez];intro h;exact hq ⟨G,by omega⟩
   have N:=fun(x:A5) (r:AG x rb s p)=>W9 r (by omega);rw[show LI s.data.toList p=false by cases h:LI s.data.toList p with|false=>rfl|true=>exact absurd ⟨G,h⟩ hm] at N;have af:=Dl N;clear G hq hm hL N
   go_wp2_with fail
   refine cl.mono ?_;rintro e w3 ⟨rfl,b⟩;have c3:=af.out _ (hr.below b);clear cl af k0
   go_wp2_with fail
   refine c3.mono ?_;rintro e w4 ⟨rfl,t⟩;have J:Below wr.heap.size wr w4:=b.trans (t.mono b.size);have d:=g.below J;have bg:=hr.below J;have k0:=A2 (o:=0) d.loc rfl;clear c3 t b J hr
   go_wp2_with fail
  all_goals
   have ct:=fH (q:=q) (cap:=cap) bg (dk.out _ d.low) (by have:=bq.out;have:=cj.out;omega) (by omega) (fun x r=>((d.turn r (fun k e=>by injection e with e;have:=bq.out;omega)).own.ins).2.2.2) a7;unfold S8 at ct;rw[c0.out] at ct;dsimp only at ct;have az:=dA (f:=f) (n:=done.length) (fo:=CD (CA done) S);generalize JS f done.length (CD (CA done) S)=c at *;have b1:=Dl az
   clear az;refine ct.mono ?_;rintro e w5 ⟨M,rfl,b2,bh,b3⟩;have a0:=d.turn b3 (fun k e=>by injection e with e;have:=bq.out;omega);have hK:ShK ((Value.slice q done.length cap).ownBlock::FS n) w5 S M:=ShK.own d.own (Ba _) d.ord.2.2 b2;obtain⟨D,hD⟩:=Ai w5.heap.size;obtain⟨w6,ai⟩:=Ai (w5.alloc (.cells M.toArray 39 (0,0)))
   have ap:Below w5.heap.size w5 w6:=by rw[<-ai];exact(Dm _ w5).alloc (Ba _) _
   have b4:w6.heap[D]? =some (.cells M.toArray 39 (0,0)):=by rw[<-ai,<-hD];exact heap_alloc_new w5 _
   have B:=a0.below ap;have aq:=hK.shape.1;have c1:=hK.shape.2;have b5:=hK.shV.ones;have bi:(prog.info? 39).map (·.size)=some M.toArray.size:=by rw[show M.toArray.size=8 from aq];kernel_rfl
   have b6:Y.size=M.toArray.size:=by rw[cq];exact aq.symm
   have b7:=Dl ai;have dh:=Dl hD;by_cases hc:c=0
   case neg=>
    have tc:(c != 0)=true:=by rw[Ff];exact hc
    have a9:Hid (E=(EB,a,c)):=Dl (by rw[ao.out,Bc hc,show p / 8=a by have:=ab.out;omega]);have bd:=B.res;clear hc b4 hK bh ct ai hD ao
    go_wp2_with (first|(with_reducible refine BZ rfl 39 _ _ rfl M.toArray Y 39 rfl rfl bi b6 b5 ?_;rw[b7.out,dh.out])|(with_reducible refine B2 rfl 24 _ _ rfl A _ _ rfl rfl 24 bd al rfl bs ?_;intro wz H I))
    rw[L4];refine Hi (OX rfl _ _ A 24 _ (0,0) _ rfl H Ou rfl al) rfl ?_;rw[a9.out];exact⟨_,rfl,br.out _,B.bad I⟩
   subst hc;have tc:((0:Int) != 0)=false:=rfl;obtain⟨b8,a1,-⟩:=b1.out rfl;have hk:=c0.out;rw[b8] at hk;have b9:=Wd hk;have bj:=(rW (vW s.data.toList) hk).2.2.2.2.2.2.1;rw[BB,aa.out] at bj;have c2:Hid (EX ctk s.data.toList (65-(done++[S]).length) q2 (done++[S])=E):=Dl (by
    rw[ao.out,Bb (by decide),B9,show 65-(done.length + [S].length)=64-done.length by simp])
   have ca:=bh.below ap;obtain⟨Q,hQ⟩:=Ai w6.heap.size;obtain⟨wQ,ar⟩:=Ai (w6.alloc (.cells M.toArray 39 (0,0)));have au:Below w6.heap.size w6 wQ:=by rw[<-ar];exact(Dm _ w6).alloc (Ba _) _
   have cb:wQ.heap[Q]? =some (.cells M.toArray 39 (0,0)):=by rw[<-ar,<-hQ];exact heap_alloc_new w6 _
   have a2:=B.below au;have cc:=ca.below au;have c4:=(hK.below ap).below au;have cd:∀(j:Nat) u,M[j]? =some u->wQ.cell? ⟨Q,j,none⟩=some u:=fun j u hu=>A2 cb hu;have k6:=A2 (o:=0) B.loc rfl;obtain⟨ri,rz,j0,j1,j2,j3,j4⟩:=gK;have C:=Dl a2;have bk:=Dl cc;have dr:=Dl hQ;have c5:=Dl ar;have c6:=Dl cd;have c7:=Dl b9;have c8:=Dl bj
   have ce:=Dl a1;clear b8 hk b9 bj bh ca ap hQ ar au cb a2 cc cd ct ai hD ao c0 hK B a0 d g b3 bg b2 i m a1 k0
   go_wp2_with (first|(with_reducible refine BZ rfl 39 _ _ rfl M.toArray Y 39 rfl rfl bi b6 b5 ?_;rw[b7.out,dh.out])|(with_reducible refine Mo rfl 39 _ rfl D rfl 39 M.toArray (0,0) _ b4 Nv rfl bi ?_)|(with_reducible refine Ud rfl _ rfl M aq rfl ?_;rw[c5.out,dr.out])|(at_builtin;refine Te (V:=ShK ((Value.slice q done.length cap).ownBlock::FS n) wQ) (w:=wQ) (c:=8) (bytes:=96) (base:=n) (v:=.slice q done.length cap) (l:=done) (y:=S) (vs:=M) (K:=Q) (cap:=1) rfl rfl Ow j0 j1 j2 j3 j4 (by decide) ?d1 ?d2 C.out.own c4 aq c1 c6.out ?d3 ?d4 C.out.ord.2.2 ?_;(case d1=>kernel_rfl);(case d2=>kernel_rfl);(case d3=>(unfold maxLen;omega));(case d4=>omega);intro q9 cf w9 da cg db;have ch:=(cg.block (A+1) (by have:=C.out.ord;omega) fun e=>by have:=AV.fresh C.out.own _ e.symm;have:=C.out.ord;omega).trans C.out.loc;have c9:=A2 (o:=0) ch rfl;have f9:=AW (o:=0) ch))
   obtain⟨a3,dc⟩:=C.out.app da cg db;have dd:AG _ rb s q2:=⟨(dc.block rb bk.out.lt (fun hm=>by
    rcases Eb.1 hm with e|e
    ·have:=AV.fresh C.out.own _ e.symm;have:=bq.out;omega
    ·have e:=Df.1 e;injection e with e;have:=bq.out;omega)).trans bk.out.1,bk.out.2⟩
   have kZ:=A2 (o:=0) a3.loc rfl
   go_roundw
   case rel=>exact⟨q2,.slice q9 (done.length+1) cf,done++[S],a3,dd,by rw[B9];have:=ce.out;simp;omega,c8.out,c7.out,c2⟩
   case measure=>
    rw[dn.out,kZ];show 65-(done.length+1)<65-done.length;have:=ce.out;omega
theorem aG {l:List ShP}{i:Nat}(hi:i<l.length):CZ [] (l.take (i+1))=FX (CZ [] (l.take i)) l[i]:=by rw[Bd hi,uJ]
theorem iN {l:List ShP}{F:Bool}(i:Nat)(h:2097152<(CZ [] (l.take i)).length):2097152<(C3 l F).length:=by
 have h1:=oX (l.take i) (l.drop i) F;rw[Bs] at h1;omega
theorem ZN (l:List ShP)(F:Bool):(if F then L5 (CZ [] l) else CZ [] l)=C3 l F:=by
 cases F with
 |false=>exact QY l
 |true=>exact sO l
set_option maxRecDepth 100000 in
theorem jW {u w:A5}{T:StrP}{vs:List A0}(hT:JP u T vs)(ht:Ybq u.heap.size u)(hu:Below u.heap.size u w):
  A9 prog 16 #[.agg vs.toArray] w fun e w'=>e=.returned (.tuple #[.string ⟨(LN T).1.toArray⟩,.int .i64 (LN T).2])/\Below w.heap.size w w':=by
 have ap:=fun(x:A5) (hx:Below u.heap.size u x)=>Zb hT ht hx;have p:=oM (T:=T);have a:=uG (T:=T);have f:=VV (T:=T);have s:=rR (T:=T);obtain⟨⟨q,cap,rfl,aq,ar,au⟩,av⟩:=hT;obtain⟨l,F⟩:=T;dsimp only at *;unfold maxLen at ar;obtain⟨D,hD⟩:=Ai w.heap.size;obtain⟨A,hA⟩:=Ai ([Value.slice q l.length cap,.bool F].toArray)
 obtain⟨t,y⟩:=Ai (w.alloc (.cells A 24 (0,0)));have E:Below w.heap.size w t:=by rw[<-y];exact(Dm _ w).alloc (Ba _) _
 have aw:t.heap.size=D+1:=by rw[<-y,<-hD];simp
 have ag:t.heap[D]? =some (.cells A 24 (0,0)):=by rw[<-y,<-hD];exact heap_alloc_new w _
 have O:Hid (∀x,Below (D+1) t x->x.heap[D]? =some (.cells A 24 (0,0))/\x.cell? ⟨D,0,none⟩=some (.slice q l.length cap)/\x.cell? ⟨D,1,none⟩=some (.bool F)/\Below w.heap.size w x/\Below u.heap.size u x):=Dl fun x hx=>by
  have h1:=(hx.block D (by omega)).trans ag;have h2:=h1;rw[<-hA] at h2;exact⟨h1,A2 (o:=0) h2 rfl,A2 (o:=1) h2 rfl,E.trans (hx.mono (by omega)),hu.trans ((E.trans (hx.mono (by omega))).mono hu.size)⟩
 have bi:(prog.info? 24).map (·.size)=some A.size:=by rw[<-hA];kernel_rfl
 have ax:Below (D+1) t t:=Dm _ _;have c1:=ap t (O.out _ ax).2.2.2.2;rw[hA] at c1 ⊢;obtain⟨er,ay⟩:=Ai (E5 ⟨l,F⟩);rw[ay] at c1 p a f s;obtain⟨b7,az⟩:=Ai (LN ⟨l,F⟩);rw[az] at p a f ⊢;have bj:=Dl y;have b4:=Dl hD;have P:=Dl aw;have Z:=Dl p;have G:=Dl a;have bk:=Dl f
 have aa:=Dl s;have bl:=Dl au;have b8:=Dl ht;have bm:=Dl av;have b9:=Dl hu.size;clear y hD E aw p a f s au ht av ay az hA ap hu
 go_enter func16,ntmps16
 go_wp2_with (rw[bj.out,b4.out];with_reducible refine Mo rfl 24 _ rfl D rfl 24 A (0,0) _ ag Ou rfl bi ?_)
 refine c1.mono ?_;rintro e w2 ⟨rfl,ah⟩;have g:Below (D+1) t w2:=ah.mono (by have:=P.out;omega);clear c1 ag ax;by_cases he:er=0
 case neg=>
  have tn:(er != 0)=true:=by rw[Ff];exact he
  have N:=Dl (Z.out he);have hE:=(O.out _ g).2.2.2.1;clear he ah
  go_wp2
  go_ret2
  exact⟨by rw[N.out];rfl,hE⟩
 subst he;have tn:((0:Int) != 0)=false:=rfl;obtain⟨⟨bn,a0⟩,a1⟩:=aa.out (by trivial);have a2:=Dl (Xr a1);obtain⟨b,L⟩:=Ai w2.heap.size;obtain⟨w3,H⟩:=Ai (w2.alloc GN);have ab:AN w3 (b+1) b []:=by rw[<-H];exact AN.fresh L (Np _)
 have ac:Below w2.heap.size w2 w3:=by rw[<-H];exact(Dm _ w2).alloc (Ba _) _
 have bo:w3.heap.size=b+1:=by rw[<-H,<-L];simp
 have ca:D+1<=b:=by have h1:=g.size;have h2:=P.out;omega
 have bp:u.heap.size<=b:=by have:=(O.out _ g).2.2.2.2.size;omega
 have I:Below (D+1) t w3:=g.trans (ac.mono (by omega));have k0:=(O.out _ I).2.1;obtain⟨n,hn⟩:=Ai l.length;have b5:=Dl hn;rw[hn] at O k0 bn a0;have bq:=Dl H;have cb:=Dl L;obtain⟨Y,br,cc⟩:=QT;clear H L ac hn ah g aa Z a1 ar aq
 go_wp2_with fail
 refine(Qf _).mono ?_;rintro e x ⟨rfl,rfl⟩;rw[bq.out,cb.out]
 go_wp2
 clear k0 tn
 go_loopw [17] (fun z wr=>∃i:Nat,i<=n/\z=.int .i64 (i:Int)/\AN wr (b+1) b (CZ [] (l.take i))/\(CZ [] (l.take i)).length<=2097152/\b+1<=wr.heap.size/\Below (D+1) t wr) (fun z _=>n-(intOf z).toNat)
 case atStart=>exact⟨0,Dn _,rfl,ab,Dn _,by omega,I⟩
 case round=>
  clear ab I bo;obtain⟨i,hi,rfl,m,ad,hz,L⟩:=hrel;by_cases a3:i<n
  ·have t0:decide ((i:Int)<(n:Int))=true:=by simp;omega
   have t1:decide (i<n)=true:=by simpa using a3
   have Q:i<l.length:=by rw[b5.out];exact a3
   obtain⟨-,-,-,-,a4⟩:=O.out _ L;obtain⟨b1,o1,rfl,E,ae⟩:=BO.each bl.out (by omega);obtain⟨M,U,a5⟩:=ae i Q;have ai:=U.shape.1;have bs:=U.ones;have a6:=bm.out l[i] (Bl Q);have a7:=a2.out l[i] (Bl Q);obtain⟨C,hC⟩:=Ai wr.heap.size;obtain⟨wC,J⟩:=Ai (wr.alloc (.cells M.toArray 39 (0,0)))
   have bt:wC.heap.size=C+1:=by rw[<-J,<-hC];simp
   have aj:Below wr.heap.size wr wC:=by rw[<-J];exact(Dm _ wr).alloc (Ba _) _
   have af:wr.rangeAt b1 (o1+i*8) M:=fun k v hk=>a5 wr a4 k v hk;have a8:wC.heap[C]? =some (.cells M.toArray 39 (0,0)):=by rw[<-J,<-hC];exact heap_alloc_new wr _
   have r:=L.trans (aj.mono (by have:=L.size;have:=P.out;omega));have a9:(prog.info? 39).map (·.size)=some M.toArray.size:=by rw[show M.toArray.size=8 from ai];kernel_rfl
   have bu:Y.size=M.toArray.size:=by rw[br];exact ai.symm
   have c2:=gI (u:=u) (w:=wC) (B:=b+1) (b:=b) (S:=l[i]) (vs:=M) ⟨U,a6⟩ b8.out (O.out _ r).2.2.2.2 bp (by omega) (m.below aj) (by omega) a7;rw[<-aG Q] at c2;obtain⟨ao,V⟩:=Ai (CZ [] (l.take (i+1)));rw[V] at c2;have ak:=Dl (fun(h:2097152<ao.length)=>(G.out (by trivial) (iN (F:=F) (i+1) (by rw[V];exact h)):b7=([],13)));have ba:=Dl V
   have bv:=Dl J;have b6:=Dl hC;clear J hC a5 U a6 a7 a4 E ae m ad V aj
   go_wp2_with (first|(with_reducible refine NP rfl _ rfl b1 (o1+i*8) rfl M af ai ?_)|(with_reducible refine BZ rfl 39 _ _ rfl M.toArray Y 39 rfl rfl a9 bu bs ?_;rw[bv.out,b6.out])|(with_reducible refine Mo rfl 39 _ rfl C rfl 39 M.toArray (0,0) _ a8 Nv rfl a9 ?_))
   refine c2.mono ?_;rintro e w4 ⟨rfl,K,al⟩;have bb:Below (D+1) t w4:=r.grown al (by have:=r.size;have:=P.out;omega) (fun j hj=>by injection hj with hj;omega);have bw:b+1<=w4.heap.size:=by have:=al.size;have:=b6.out;omega
   clear c2 al a8 af r bt hz L
   go_wp2_with fail
   refine(YU _ _ _ _ K).mono ?_;rintro e x ⟨rfl,rfl⟩;by_cases c:2097152<ao.length
   ·have t3:decide (2097152<(ao.length:Int))=true:=by simp;omega
    have t4:decide (2097152<ao.length)=true:=by simpa using c
    have N:=Dl (ak.out c);have hE:=(O.out _ bb).2.2.2.1;clear c ak
    go_wp2
    go_ret2
    exact⟨by rw[N.out];rfl,hE⟩
   ·have t3:decide (2097152<(ao.length:Int))=false:=by simp;omega
    have t4:decide (2097152<ao.length)=false:=by simpa using c
    have bc:(CZ [] (l.take (i+1))).length<=2097152:=by rw[ba.out];omega
    have bx:AN w4 (b+1) b (CZ [] (l.take (i+1))):=by rw[ba.out];exact K
    have bz:=Dl bc;clear c ak K bc
    go_wp2
    go_roundw
    case rel=>exact⟨i+1,by omega,by go_num,bx,bz.out,bw,bb⟩
    case measure=>simp[intOf];omega
  ·obtain rfl:i=n:=by omega
   have t0:decide ((i:Int)<(i:Int))=false:=by simp
   have t1:decide (i<i)=false:=by simp
   have bd:l.take i=l:=Bh (by have:=b5.out;omega);rw[bd] at m ad;obtain⟨-,-,k1,hE,-⟩:=O.out _ L;have d:=ZN l F;obtain⟨R,hR⟩:=Ai (C3 l F);have a:=G.out (by trivial);have f:=bk.out (by trivial);rw[hR] at d a f;have bf:R.length<=3000000:=by
    rw[<-d];have:=oR (CZ [] l);cases F <;> simp <;> omega
   have am:=Dl a;have b0:=Dl f;have W:=Dl d;have b2:=Dl bf;clear a f hR bd d bf;cases F
   case' false=>
    have an:AN wr (b+1) b R:=by
     have h:CZ [] l=R:=W.out;rw[<-h];exact m
    have X:=hE;clear m W
    go_wp2_with fail
   case' true=>
    have bg:L5 (CZ [] l)=R:=W.out;have c3:=VG m (by omega) hz;rw[bg] at c3;clear m W bg
    go_wp2_with fail
    refine c3.mono ?_;rintro e w5 ⟨rfl,an,bh⟩;have X:Below w.heap.size w w5:=hE.grown bh hE.size (fun j hj=>by injection hj with hj;have:=b4.out;omega);clear c3 bh
    go_wp2_with fail
   all_goals
    refine(YU _ _ _ _ an).mono ?_;rintro e x ⟨rfl,rfl⟩;by_cases c:2097152<R.length
    ·have t3:decide (2097152<(R.length:Int))=true:=by simp;omega
     have t4:decide (2097152<R.length)=true:=by simpa using c
     have N:=Dl (am.out c);clear c am b0
     go_wp2
     go_ret2
     exact⟨by rw[N.out];rfl,X⟩
    ·have t3:decide (2097152<(R.length:Int))=false:=by simp;omega
     have t4:decide (2097152<R.length)=false:=by simpa using c
     have N:=Dl (b0.out (by omega));clear c am b0
     go_wp2_with fail
     refine(WT _ _ _ _ an (by have:=b2.out;omega)).mono ?_;rintro e w6 ⟨rfl,b3⟩
     go_wp2
     go_ret2
     exact⟨by rw[N.out];rfl,X.trans (b3.mono X.size)⟩
theorem qT (ct:CelT):IE ct []=(EB,0,2):=by
 unfold IE;rw[Bb (by decide)];exact RN 64 rfl
def GS:StrP:=⟨[exS1],true⟩
theorem ZK:E5 GS=0/\(C3 GS.sheets GS.fin).length<=2097152:=by decide +kernel
set_option maxRecDepth 100000 in
theorem fW (w:A5):A9 prog 19 #[] w fun e w'=>∃vs:List A0,e=.returned (.agg vs.toArray)/\JP w' GS vs/\Below w.heap.size w w':=by
 obtain⟨N,hN⟩:=Ai w.heap.size;obtain⟨Y,ac,a2⟩:=MK;obtain⟨a0,I,a3⟩:=Ps;have ad:=Sp;obtain⟨A,J⟩:=Ai ((AF exSA nilS).toArray);obtain⟨Z,hZ⟩:∃Z:Array A0,#[.slice none 0 0,.bool false]=Z:=⟨_,rfl⟩;obtain⟨wz,K,g,r,s⟩:=NG w (.cells Z 24 (0,0));obtain⟨w0,L,b,M,t⟩:=NG wz (.cells A 77 (0,0))
 obtain⟨w1,O,d,u,y⟩:=NG w0 (.cells (AF exSA nilS++AF exSA nilS).toArray 77 (0,0));rw[hN] at g r s;rw[g] at b M t;rw[b] at d u y;have b:w0.heap.size=N+2:=b;have d:w1.heap.size=N+3:=d;obtain⟨w2,P,f,Q,z⟩:=NG w1 (.cells #[.bool false,.int .i64 0,.int .i64 0,.slice (some ⟨N+2,0,none⟩) 2 2] 46 (0,0))
 obtain⟨w3,R,a,B,C⟩:=NG w2 (.cells #[.bool false,.int .i64 0,.int .i64 0,.slice (some ⟨N+2,0,none⟩) 2 2,.bool false,.int .i64 0,.int .i64 0,.slice (some ⟨N+2,0,none⟩) 2 2] 46 (0,0));obtain⟨zs,l⟩:∃zs:List A0,[.int .i64 0,.int .i64 0,.int .i64 6,.bool false,.int .i64 5,.slice none 0 0,.slice (some ⟨N+4,0,none⟩) 2 2,.int .i64 0]=zs:=⟨_,rfl⟩
 obtain⟨m,T,n,D,E⟩:=NG w3 (.cells zs.toArray 39 (0,0));rw[d] at f Q z;rw[f] at a B C;rw[a] at n D E;have f:w2.heap.size=N+4:=f;have a:w3.heap.size=N+5:=a;have n:m.heap.size=N+6:=n;have F:Below (N+5) w3 m:=E;have U:Below (N+4) w2 m:=C.trans (F.mono (by omega));have G:Below (N+3) w1 m:=z.trans (U.mono (by omega))
 have V:Below (N+2) w0 m:=y.trans (G.mono (by omega));have H:Below (N+1) wz m:=t.trans (V.mono (by omega));have W:Below N w m:=s.trans (H.mono (by omega));have ae:=(H.block N (by omega)).trans r;have p:(Lit.int .i64 exSA.mx).wf=true/\(Lit.int .i64 exSA.my).wf=true:=by decide
 have af:=Dl (fun(x:A5) (hx:m.grownBy x (some N))=>(by
  have blk:∀k,k<N+6->k≠N->x.heap[k]? =m.heap[k]?:=fun k hk hn=>hx.block k (by omega) (fun e=>by injection e with e;exact hn e);have hC:HY x (some ⟨N+2,0,none⟩) [exSA,exSA]:=yA p p (fun _ _=>rfl) (fun _ _=>rfl) ((blk (N+2) (by omega) (by omega)).trans ((G.block (N+2) (by omega)).trans u))
  have ag:EC x (some ⟨N+4,0,none⟩) exS1.rows:=Z5 ((blk (N+4) (by omega) (by omega)).trans ((F.block (N+4) (by omega)).trans B)) rfl rfl hC hC;have h5:x.heap[N+5]? =some (.cells zs.toArray 39 (0,0)):=(blk (N+5) (by omega) (by omega)).trans D;have hV:ShV x exS1 zs:=⟨none,some ⟨N+4,0,none⟩,0,2,l.symm,Dn _,(by decide),BH.nil _ _,ag⟩
  refine⟨⟨⟨some ⟨N+5,0,none⟩,1,rfl,Ba _,(by decide),.inr ⟨N+5,0,rfl,by have:=hx.size;omega,fun i hi=>?_⟩⟩,fun S hS=>?_⟩,W.grown hx (by omega) (fun j hj=>by injection hj with hj;omega)⟩
  ·obtain rfl:i=0:=by simpa [GS] using hi
   exact⟨zs,hV,fun j v hj=>by have h:=A2 (o:=j) h5 hj;simpa using h⟩
  ·obtain rfl:S=exS1:=by simpa [GS] using hS
   refine⟨by decide,fun c hc k _=>?_⟩;have:c=exSA:=by simpa [BI,exS1] using hc
   subst this;exact Dn _:JP x GS [.slice (some ⟨N+5,0,none⟩) 1 1,.bool true]/\Below N w x))
 have X:(prog.info? 77).map (·.size)=some A.size:=by rw[<-J];exact OR _ _
 have ah:Y.size=A.size:=by rw[ac,<-J];rfl
 have ai:A.all (·.oneCell')=true:=by rw[<-J];exact OA (T3 w exSA p fun _ _=>rfl)
 have aa:(prog.info? 46).map (·.size)=some (#[.bool false,.int .i64 0,.int .i64 0,.slice (some ⟨N+2,0,none⟩) 2 2]:Array A0).size:=by kernel_rfl
 have aj:a0.size=(#[.bool false,.int .i64 0,.int .i64 0,.slice (some ⟨N+2,0,none⟩) 2 2]:Array A0).size:=by rw[I];rfl
 have ak:(#[.bool false,.int .i64 0,.int .i64 0,.slice (some ⟨N+2,0,none⟩) 2 2]:Array A0).all (·.oneCell')=true:=by simp[Value.oneCell']
 have ab:(prog.info? 24).map (·.size)=some (#[.slice (some ⟨N+5,0,none⟩) 1 1,.bool true]:Array A0).size:=by kernel_rfl
 have al:Z.size=(#[.slice (some ⟨N+5,0,none⟩) 1 1,.bool true]:Array A0).size:=by rw[<-hZ];rfl
 have am:(#[.slice (some ⟨N+5,0,none⟩) 1 1,.bool true]:Array A0).all (·.oneCell')=true:=by simp[Value.oneCell']
 have an:zs.length=8:=by rw[<-l];rfl
 rw[hZ] at ad;have ao:=Dl J;have a1:=Dl hN;have ap:Hid ((#[.int .i64 0,.int .i64 0,.int .i64 6,.bool false,.int .i64 5,.slice none 0 0,.slice (some ⟨N+4,0,none⟩) 2 2,.int .i64 0]:Array A0)=zs.toArray):=Dl (by rw[<-l]);have aq:=Dl K;have ar:=Dl L;have au:=Dl O;have av:=Dl P;have aw:=Dl R;have ax:=Dl T;have a4:=Dl g
 have a5:=Dl d;have a6:=Dl a;clear J hN l K L O P R T u B D t y z C E F U G V H W p r s hZ f n g a
 go_enter func19,ntmps19
 go_wp2_with (first
  |(with_reducible refine Ov rfl 77 _ rfl (some 4) rfl (AF exSA nilS).toArray (by kernel_rfl) ?_;rw[ao.out,aq.out])
  |(with_reducible refine BZ rfl 77 _ _ rfl A Y 77 rfl rfl X ah ai ?_;rw[ar.out,a4.out,a1.out])
  |(with_reducible refine Mo rfl 77 _ rfl (N+1) rfl 77 A (0,0) _ M J2 rfl X ?_)
  |(with_reducible refine xC rfl _ _ rfl exSA exSA nilS nilS (N+2) b 7 rfl ?d1 ?d2 ?_;(case d1=>(rw[ao.out];kernel_rfl));(case d2=>(rw[ao.out];kernel_rfl));rw[au.out])
  |(with_reducible refine Ov rfl 46 _ rfl (some 8) rfl #[.bool false,.int .i64 0,.int .i64 0,.slice (some ⟨N+2,0,none⟩) 2 2] (by kernel_rfl) ?_)
  |(with_reducible refine iS rfl 46 _ _ rfl #[.bool false,.int .i64 0,.int .i64 0,.slice (some ⟨N+2,0,none⟩) 2 2] a0 46 (N+3) a5.out rfl rfl aa aj ak ?_;rw[av.out])
  |(with_reducible refine Mo rfl 46 _ rfl (N+3) rfl 46 #[.bool false,.int .i64 0,.int .i64 0,.slice (some ⟨N+2,0,none⟩) 2 2] (0,0) _ Q J3 rfl aa ?_)
  |(with_reducible refine Ov rfl 39 _ rfl (some 12) rfl #[.int .i64 0,.int .i64 0,.int .i64 6,.bool false,.int .i64 5,.slice none 0 0,.slice (some ⟨N+4,0,none⟩) 2 2,.int .i64 0] (by kernel_rfl) ?_;rw[ap.out,aw.out])
  |(with_reducible refine Ud rfl _ rfl zs an rfl ?_;rw[ax.out,a6.out])
  |(with_reducible refine Ov rfl 24 _ rfl (some 14) rfl #[.slice (some ⟨N+5,0,none⟩) 1 1,.bool true] (by kernel_rfl) ?_)
  |(with_reducible refine B2 rfl 24 _ _ rfl N (#[.slice (some ⟨N+5,0,none⟩) 1 1,.bool true]) Z rfl rfl 24 ae ab al am ?_;intro wq ay az))
 have q:=af.out _ az;exact Hi (Hj rfl _ _ N 24 _ (0,0) _ rfl ay Ou rfl ab) rfl ⟨_,rfl,q.1,by rw[a1.out];exact q.2⟩
set_option maxRecDepth 100000 in
theorem pD (w:A5)(ht:Ybq w.heap.size w):A9 prog 9 #[] w fun e G=>e=.returned (.bool true)/\Below w.heap.size w G:=by
 have H:=Sp;have z:=Dl (fun(x:A5) (b:Below w.heap.size w x)=>(by
  have h:=ht.below b;exact Ybq.here h.pats h.mvd h.steps h.tcoef:Ybq x.heap.size x))
 have c1:=XW (s:=⟨#[]⟩) (z.out w (Dm _ _)) (by decide);unfold QQ at c1;rw[show ((⟨#[]⟩:ByteArray).data.toList)=[] from rfl,show IE ctk []=(EB,0,2) from qT ctk] at c1;obtain⟨B,c⟩:=ZK;have F:=VV B c;have C:=R7 GS.sheets GS.fin;obtain⟨T,f,g⟩:=ZG (l:=FF (C3 GS.sheets GS.fin)) (gZ _) B (by omega) WZ;obtain⟨i,j⟩:=uX g
 obtain⟨P,A⟩:∃P:ByteArray,⟨(FF (C3 GS.sheets GS.fin)).toArray⟩=P:=⟨_,rfl⟩;have k:P.data.toList=FF (C3 GS.sheets GS.fin):=by rw[<-A]
 have m:P.size<=140737488355328:=by rw[<-A,Wu];omega
 have I:=Dl (fun(x:A5) (b:Below w.heap.size w x) (vs:List A0) (hv:JP x GS vs)=>(by
  have h:=jW hv (z.out x b) (Dm _ x);rw[F] at h;dsimp only at h;rw[A] at h;exact h:A9 prog 16 #[.agg vs.toArray] x fun e y=>e=.returned (.tuple #[.string P,.int .i64 0])/\Below x.heap.size x y))
 have J:=Dl (fun(x:A5) (b:Below w.heap.size w x)=>(by
  have h:=XW (s:=P) (z.out x b) m;unfold QQ at h;rw[k,f] at h;refine h.mono fun e y h=>?_;obtain⟨vs,K,⟨q,cap,n,-⟩,L⟩:=h;rw[i,j] at n;exact⟨q,cap,by rw[K,n];rfl,L⟩:A9 prog 14 #[.string P] x fun e y=>∃(q:Option Aa) (cap:Nat),e=.returned (.tuple #[.agg #[.slice q 1 cap,.bool true],.int .i64 0,.int .i64 0])/\Below x.heap.size x y))
 have o:=Dl (fun(x y:A5) (b:Below w.heap.size w x) (M:Below x.heap.size x y)=>(b.trans (M.mono b.size):Below w.heap.size w y));clear ht F C f g i j A k m B c z
 go_enter func9,ntmps9
 go_wp2_with fail
 refine c1.mono ?_;rintro e N ⟨vs,rfl,⟨q,cap,rfl,-⟩,D⟩;clear c1;have p:=o.out _ _ D ((Dm _ N).alloc (Ba _) (.cells #[.slice q 0 cap,.bool false] 24 (0,0)))
 go_wp2_with fail
 refine(fW _).mono ?_;rintro e U ⟨O,rfl,r,t⟩;have a:=o.out _ _ p t;clear p t;have c2:=I.out _ a O r
 go_wp2_with fail
 refine c2.mono ?_;rintro e V ⟨rfl,u⟩;have d:=o.out _ _ a u;clear c2 a u r
 go_wp2_with fail
 refine(J.out _ d).mono ?_;rintro e Q ⟨R,v,rfl,E⟩;have S:=o.out _ _ (o.out _ _ d E) ((Dm _ Q).alloc (Ba _) (.cells #[.slice R 1 v,.bool true] 24 (0,0)))
 go_wp2
 go_ret
 exact⟨rfl,S⟩
theorem IC.size {w:A5}{T:StrP}{vs:List A0}(h:IC w T vs):(prog.info? 24).map (·.size)=some vs.toArray.size:=by
 obtain⟨q,cap,rfl,-⟩:=h
 kernel_rfl
set_option maxRecDepth 100000 in
theorem nG (q:Option Aa)(cap:Nat)(l:List ShP)(i:Nat)(hi:i<l.length)(w:A5)(hl:GF w q l)(hm:l.length<=maxLen):
  A9 prog 23 #[.slice q l.length cap,.int .i64 (i:Int)] w fun e D=>e=.returned (.bool (CD (CA (l.take i)) l[i]))/\Below w.heap.size w D:=by
 unfold maxLen at hm;obtain⟨R,v⟩:=Ai (CD (CA (l.take i)) l[i]);have f:i≠0->(h:i-1<l.length)->R=(!l[i].hd.inter || l[i-1].hd.fmt==l[i].hd.fmt):=fun r h=>by
  have x:(l.take i).length=i:=by rw[Be];omega
  have h1:=W8 (l:=l.take i) (by omega) l[i];rw[v] at h1;rw[h1];simp only[x,Fh]
 have g:i=0->R = !l[i].hd.inter:=fun h=>by rw[<-v];subst h;exact XG _
 rw[v];clear v;obtain⟨b,o,rfl,s,hc⟩:=hl.at_ (by omega);have d:Below w.heap.size w w:=Dm _ _;obtain⟨I,y,-,a⟩:=hc _ d i hi;obtain⟨z,A,-⟩:=y.parts;have c3:=a 3 _ A;have c2:=a 2 _ z;have t1:decide ((i:Int)<(l.length:Int))=true:=by simp;omega
 have t2:i<l.length:=hi;by_cases r:i=0
 ·have hF:=g r;subst r;generalize (l[0]).hd.inter=it at hF c3;clear hc y a hl hm g f z A s c2;generalize l.length=n at *;cases it with
  |false=>
   have F:=Dl (show R=true by rw[hF];rfl);clear hF
   go_enter func23,ntmps23
   go_wp2
   go_ret
   exact⟨AB F.out.symm,d⟩
  |true=>
   have F:=Dl (show R=false by rw[hF];rfl);have j:=d.drew;clear hF
   go_enter func23,ntmps23
   go_wp2
   go_region
   go_wp2
   go_ret
   exact⟨AB F.out.symm,j⟩
 ·obtain⟨G,t,-,c⟩:=hc _ d (i-1) (by omega);have B:=c 2 _ t.parts.1;have hF:=f r (by omega);obtain⟨m,u⟩:=Ai (i-1);have J:IntKind.i64.wrap ((i:Int)-1)=(m:Int):=by rw[DA (by omega)];omega
  have t3:decide ((m:Int)<(l.length:Int))=true:=by simp;omega
  have t4:m<l.length:=by omega
  have t0:0<i:=by omega
  have t5:decide (0<i)=true:=by simpa using t0
  obtain⟨H,p⟩:=Ai (l[i-1]'(by omega));obtain⟨E,C⟩:=Ai (l[i]);rw[p,C] at hF;rw[p,u] at B;rw[C] at c2 c3;clear C p u hc y t a c hl hm s z A g f;generalize H.hd.fmt=f1 at *;generalize E.hd.inter=it at *;generalize E.hd.fmt=k at *;generalize l.length=n at *;clear hi r;cases it with
  |false=>
   have F:=Dl (show R=true by rw[hF];rfl);clear hF
   go_enter func23,ntmps23
   go_wp2
   go_ret
   exact⟨AB F.out.symm,d⟩
  |true=>
   have F:=Dl (show R=(f1==k) by rw[hF];rfl);have j:=d.drew;clear hF
   go_enter func23,ntmps23
   go_wp2
   go_region
   go_wp2
   go_ret
   exact⟨AB F.out.symm,j⟩
theorem oD {u w:A5}{S:ShP}{vs:List A0}(c:KC u S vs)(hm:(BI S).length<=1048576)(b:Below u.heap.size u w):A9 prog 22 #[.agg vs.toArray] w fun e d=>e=.returned (.int .i64 (BT S))/\Below w.heap.size w d:=by
 obtain⟨⟨p,q,ca,cb,rfl,hl,hn,hs,hr⟩,-,a⟩:=c;exact fN S p q ca cb w hl hn (hs.below b) (hr.below b) hm a
theorem ZF {u w x:A5}{S b:ShP}{vs vs':List A0}(r:KC u S vs)(c:KC x b vs')(m:Below u.heap.size u w)(n:Below x.heap.size x w):A9 prog 26 #[.agg vs'.toArray,.agg vs.toArray] w fun e y=>e=.returned (.bool (shB b S))/\Below w.heap.size w y:=by
 obtain⟨⟨p,q,ca,cb,rfl,hl,hn,hs,hr⟩,o,d⟩:=r;obtain⟨⟨s,q',f,g,rfl,h,i,j,k⟩,l,a⟩:=c;exact pI b S s q' p q f g ca cb w h i (j.below n) (hs.below m) (k.below n) (hr.below m) a d
set_option maxRecDepth 100000 in
theorem jD {u w:A5}{T:StrP}{vs:List A0}(hT:JP u T vs)(hm:∀S∈T.sheets,(BI S).length<=1048576)(hu:Below u.heap.size u w):
  A9 prog 11 #[.agg vs.toArray] w fun e w'=>e=.returned (.int .i64 (E5 T))/\Below w.heap.size w w':=by
 obtain⟨⟨q,cap,rfl,-,E,M⟩,O⟩:=hT;obtain⟨l,F⟩:=T;dsimp only at *;have s:=E;unfold maxLen at E;obtain⟨R,hR⟩:=Ai (E5 ⟨l,F⟩);rw[hR];obtain⟨D,Z⟩:=Ai w.heap.size;obtain⟨g,c⟩:=Ai (w.alloc (.cells #[.slice q l.length cap,.bool F] 24 (0,0)));have d:Below w.heap.size w g:=by rw[<-c];exact(Dm _ w).alloc (Ba _) _
 have aa:g.heap.size=D+1:=by rw[<-c,<-Z];simp
 have P:g.heap[D]? =some (.cells [Value.slice q l.length cap,.bool F].toArray 24 (0,0)):=by rw[<-c,<-Z];exact heap_alloc_new w _
 have j:Hid (∀x,Below (D+1) g x->x.cell? ⟨D,0,none⟩=some (.slice q l.length cap)/\Below w.heap.size w x/\Below u.heap.size u x):=Dl fun x t=>
  ⟨A2 (o:=0) ((t.block D (by omega)).trans P) rfl,d.trans (t.mono (by omega)),hu.trans ((d.trans (t.mono (by omega))).mono hu.size)⟩
 have ai:=Dl (fun(x y:A5) (t:Below (D+1) g x) (hy:Below x.heap.size x y)=>(t.trans (hy.mono (by have:=t.size;omega)):Below (D+1) g y));have G:Below (D+1) g g:=Dm _ _;obtain⟨H,m,-⟩:=j.out _ G;have ab:=Dl hR;have p:=Dl c;have ac:=Dl Z;have r:=Dl M;have ad:=Dl O;have al:=Dl hm;have ae:=Dl s
 clear hR c d aa P Z M O hm s hu;by_cases a:l.length=0\/64<l.length
 ·have aj:=Dl (show R=12 by rw[<-ab.out];unfold E5;exact Bc a);generalize l.length=n at *;by_cases h0:n=0
  ·subst h0;clear a r j
   go_enter func11,ntmps11
   go_wp2_with (rw[p.out,ac.out])
   go_ret
   exact⟨by rw[aj.out];rfl,m⟩
  ·have t0:((n:Int)==0)=false:=by rw[Ez];omega
   have t1:decide (64<(n:Int))=true:=by simp;omega
   have t2:decide (64<n)=true:=by simp;omega
   clear a r j
   go_enter func11,ntmps11
   go_wp2_with (rw[p.out,ac.out])
   go_ret
   exact⟨by rw[aj.out];rfl,m⟩
 have I:=Dl (show R=CR none l by rw[<-ab.out];unfold E5;exact Bb a);obtain⟨n,hn⟩:=Ai l.length;have af:=Dl hn;rw[hn] at a E j H;have t0:((n:Int)==0)=false:=by rw[Ez];omega
 have t1:decide (64<(n:Int))=false:=by simp;omega
 have t2:decide (64<n)=false:=by simp;omega
 rw[hn] at p;rw[hn];clear hn ab m
 go_enter func11,ntmps11
 go_wp2_with (rw[p.out,ac.out])
 clear H t0 t1 t2
 go_loopw [3] (fun z wr=>∃i:Nat,i<=n/\z=.int .i64 (i:Int)/\Hid (CR none (l.take i)=0)/\Below (D+1) g wr) (fun z _=>n-(intOf z).toNat)
 case atStart=>exact⟨0,Dn _,rfl,Dl rfl,G⟩
 case round=>
  clear G;obtain⟨i,hi,rfl,ha,hb⟩:=hrel;by_cases Q:i<n
  ·have t0:decide ((i:Int)<(n:Int))=true:=by simp;omega
   have t1:decide (i<n)=true:=by simpa using Q
   have f:i<l.length:=by rw[af.out];exact Q
   obtain⟨b1,o1,rfl,d,A⟩:=BO.each r.out (by omega);obtain⟨xs,J,U⟩:=A i f;obtain⟨H,ag,K⟩:=j.out _ hb;have ah:=J.shape.1;have B:wr.rangeAt b1 (o1+i*8) xs:=fun k v hk=>U wr K k v hk;have c1:=oD (w:=wr) ⟨J,ad.out l[i] (Bl f)⟩ (al.out l[i] (Bl f)) K;have ak:=Dl (fun(x:A5) (t:Below (D+1) g x)=>(by
    have h:=nG (some ⟨b1,o1,none⟩) cap l i f x (GF.below r.out (j.out x t).2.2) ae.out;rw[af.out] at h;exact h:A9 prog 23 #[.slice (some ⟨b1,o1,none⟩) n cap,.int .i64 (i:Int)] x fun e y=>e=.returned (.bool (CD (CA (l.take i)) l[i]))/\Below x.heap.size x y))
   have L:=Dl (W1 f ha.out);have V:=Dl (WH (l:=l) (i:=i+1));generalize CD (CA (l.take i)) l[i]=fo at *;generalize BT l[i]=er at *;clear U ha J ag K d A
   go_wp2_with (with_reducible refine NP rfl _ rfl b1 (o1+i*8) rfl xs B ah ?_)
   refine c1.mono ?_;rintro e w2 ⟨rfl,W⟩;have b:=ai.out _ _ hb W;clear B c1 H;by_cases X:er=0
   case neg=>
    have tn:(er != 0)=true:=by rw[Ff];exact X
    have N:=Dl (show R=er by
     have h1:=L.out;rw[Bc X] at h1;have h2:=V.out (by rw[h1];exact X);rw[I.out,h2,h1])
    have m:=(j.out _ b).2.1;clear X
    go_wp2
    go_ret
    exact⟨by rw[N.out];rfl,m⟩
   subst X;have tn:((0:Int) != 0)=false:=rfl;have H:=(j.out _ b).1
   go_wp2_with fail
   refine(ak.out _ b).mono ?_;rintro e w3 ⟨rfl,Y⟩;have C:=ai.out _ _ b Y;clear H W Y ak;cases fo with
   |false=>
    have N:=Dl (show R=11 by
     have h1:=L.out;rw[Bb (by decide),Bc rfl] at h1;have h2:=V.out (by rw[h1];decide);rw[I.out,h2,h1])
    have m:=(j.out _ C).2.1
    go_wp2
    go_ret
    exact⟨by rw[N.out];rfl,m⟩
   |true=>
    have N:=Dl (show CR none (l.take (i+1))=0 by
     have h1:=L.out;rw[Bb (by decide),Bb (by decide)] at h1;exact h1)
    go_wp2
    go_roundw
    case rel=>exact⟨i+1,by omega,by go_num,N,C⟩
    case measure=>simp[intOf];omega
  ·obtain rfl:i=n:=by omega
   have t0:decide ((i:Int)<(i:Int))=false:=by simp
   have t1:decide (i<i)=false:=by simp
   have N:=Dl (show R=0 by
    have h:=ha.out;rw[Bh (by have:=af.out;omega)] at h;rw[I.out,h])
   obtain⟨H,m,-⟩:=j.out _ hb
   go_wp2
   go_ret
   exact⟨by rw[N.out];rfl,m⟩
set_option maxRecDepth 100000 in
theorem uV {u x w:A5}{T ao:StrP}{vs vs':List A0}(hT:JP u T vs)(ap:JP x ao vs')(hu:Below u.heap.size u w)(d:Below x.heap.size x w):
  A9 prog 13 #[.agg vs.toArray,.agg vs'.toArray] w fun e w'=>e=.returned (.bool (H2 T ao))/\Below w.heap.size w w':=by
 obtain⟨⟨q,cap,rfl,-,V,W⟩,X⟩:=hT;obtain⟨⟨q',c,rfl,-,H,r⟩,I⟩:=ap;obtain⟨l,F⟩:=T;obtain⟨m,s⟩:=ao;dsimp only at *;unfold maxLen at V H;have b:H2 ⟨l,F⟩ ⟨m,s⟩=(F==s&&(decide (l.length=m.length)&&(l.zip m).all fun p=>shB p.1 p.2)):=rfl;obtain⟨R,hR⟩:=Ai (H2 ⟨l,F⟩ ⟨m,s⟩);rw[hR] at b ⊢
 obtain⟨A,wA,Y,hA,Z,aa,aq,ab,ac,ad,ae⟩:=JF w (.cells [Value.slice q l.length cap,.bool F].toArray 24 (0,0)) (.cells [Value.slice q' m.length c,.bool s].toArray 24 (0,0))
 have j:Hid (∀y,Below (A+2) Y y->(y.cell? ⟨A,0,none⟩=some (.slice q l.length cap)/\y.cell? ⟨A,1,none⟩=some (.bool F))/\(y.cell? ⟨A+1,0,none⟩=some (.slice q' m.length c)/\y.cell? ⟨A+1,1,none⟩=some (.bool s))/\Below w.heap.size w y):=Dl fun y a=>by
  have h1:=(a.block A (by omega)).trans ac;have h2:=(a.block (A+1) (by omega)).trans ad;exact⟨⟨A2 (o:=0) h1 rfl,A2 (o:=1) h1 rfl⟩,⟨A2 (o:=0) h2 rfl,A2 (o:=1) h2 rfl⟩,hA▸(ae.trans (a.mono (by omega)))⟩
 have O:Below (A+2) Y Y:=Dm _ _;obtain⟨⟨k0,k1⟩,⟨q0,q1⟩,U⟩:=j.out _ O;have ar:=Dl (fun(y:A5) (a:Below w.heap.size w y)=>(⟨hu.trans (a.mono hu.size),d.trans (a.mono d.size)⟩:Below u.heap.size u y/\Below x.heap.size x y));have E:=Dl Z;have G:=Dl aa;have a5:=Dl hA;have au:=Dl ab;have af:=Dl W;have J:=Dl r;have av:=Dl X
 have ag:=Dl I;clear Z aa hA aq ab ac ad ae W r X I hR hu d;have hH:s=F\/s = !F:=by cases F <;> cases s <;> simp
 rcases hH with rfl|rfl
 case inr=>
  have N:=Dl (show R=false by rw[b];cases F <;> rfl);clear b j;cases F <;>
  (go_enter func13,ntmps13
   go_wp2
   go_ret
   have hw:=G.out;simp only[Ha,Gz] at hw;exact⟨AB N.out.symm,by rw[E.out,hw];exact U⟩)
 by_cases el:l.length=m.length
 case neg=>
  have t2:((l.length:Int) != (m.length:Int))=true:=by rw[Ff];omega
  have N:=Dl (show R=false by rw[b,Gp el];simp);clear b el j af J;cases s <;>
  (go_enter func13,ntmps13
   go_wp2
   go_ret
   exact⟨AB N.out.symm,by rw[E.out,G.out];exact U⟩)
 have t2:((l.length:Int) != (m.length:Int))=false:=by rw[el];simp
 have ah:=Dl (show R=(l.zip m).all (fun p=>shB p.1 p.2) by rw[b,Gq el];simp);have a3:=Dl el;obtain⟨n,t⟩:=Ai l.length;obtain⟨n',B⟩:=Ai m.length;have aw:=Dl t;have a6:=Dl B;rw[t] at t2 E;rw[B] at t2 G;rw[t] at V j k0;rw[B] at H j q0;rw[t,B];have tf:(s != s)=false:=by simp
 clear b el t B U
 go_enter func13,ntmps13
 go_wp2
 rw[E.out,G.out,a5.out];clear t2 tf k0 k1 q0 q1
 go_loopw [5] (fun z wr=>∃i:Nat,i<=n/\z=.int .i64 (i:Int)/\Hid ((((l.take i).zip (m.take i)).all fun p=>shB p.1 p.2)=true)/\Below (A+2) Y wr) (fun z _=>n-(intOf z).toNat)
 case atStart=>exact⟨0,Dn _,rfl,Dl rfl,O⟩
 case round=>
  clear O;obtain⟨i,hi,rfl,ha,K⟩:=hrel;obtain⟨⟨k0,-⟩,-,U⟩:=j.out _ K;by_cases ai:i<n
  ·have t0:decide ((i:Int)<(n:Int))=true:=by simp;omega
   have t1:decide (i<n)=true:=by simpa using ai
   have C:i<l.length:=by rw[aw.out];exact ai
   have D:i<m.length:=by rw[<-a3.out];exact C
   have r:i<n':=by rw[<-a6.out];exact D
   have g:A+2<=wr.heap.size:=by have:=K.size;have:=au.out;omega
   obtain⟨b1,o1,rfl,ax,L⟩:=BO.each af.out (by omega);obtain⟨xs,P,aj⟩:=L i C;obtain⟨b2,o2,rfl,ay,M⟩:=BO.each J.out (by omega);obtain⟨ys,Q,ak⟩:=M i D;have az:(prog.info? 39).map (·.size)=some xs.length:=by rw[P.shape.1];kernel_rfl
   have a0:(prog.info? 39).map (·.size)=some ys.length:=by rw[Q.shape.1];kernel_rfl
   have a7:=Dl (fun(y:A5) (a:Below wr.heap.size wr y)=>(fun k v hk=>aj y (ar.out y ((j.out y (K.trans (a.mono g))).2.2)).1 k v hk:y.rangeAt b1 (o1+i*8) xs));have a8:=Dl (fun(y:A5) (a:Below wr.heap.size wr y)=>(fun k v hk=>ak y (ar.out y ((j.out y (K.trans (a.mono g))).2.2)).2 k v hk:y.rangeAt b2 (o2+i*8) ys))
   have a1:=Dl (fun(y:A5) (a:Below wr.heap.size wr y)=>(⟨(j.out y (K.trans (a.mono g))).1.1,(j.out y (K.trans (a.mono g))).2.1.1,K.trans (a.mono g)⟩:y.cell? ⟨A,0,none⟩=some (.slice (some ⟨b1,o1,none⟩) n cap)/\y.cell? ⟨A+1,0,none⟩=some (.slice (some ⟨b2,o2,none⟩) n' c)/\Below (A+2) Y y));have a4:=Dl (fun(y:A5) (a:Below wr.heap.size wr y)=>(by
    have h0:=ar.out y ((j.out y (K.trans (a.mono g))).2.2);exact(ZF (w:=y) ⟨Q,ag.out m[i] (Bl D)⟩ ⟨P,av.out l[i] (Bl C)⟩ h0.2 h0.1).mono fun e z h=>⟨h.1,a.trans (h.2.mono a.size)⟩:A9 prog 26 #[.agg xs.toArray,.agg ys.toArray] y fun e z=>e=.returned (.bool (shB l[i] m[i]))/\Below wr.heap.size wr z))
   have am:=Dl (fun h=>ND (f:=shB) C D ha.out h);have an:=Dl (fun h=>NF (f:=shB) C D h);generalize shB l[i] m[i]=y at a4 am an;clear aj ak ha P Q ax ay L M U
   go_wp2
   refine BU (S:=fun x=>Below wr.heap.size wr x) 12 (by kernel_rfl) (by kernel_rfl) (Dm _ wr).drew ?_;simp only[Dp,Bk,Gs,Gt];refine AJ ?_;simp only[A1];refine AR 22 _ ⟨A,0,none⟩ (.slice (some ⟨b1,o1,none⟩) n cap) (by kernel_rfl) rfl rfl (fun x d=>by have c0:=(a1.out x d).1;go_simp) ?_;simp only[A1]
   iterate 2 (refine AJ ?_;simp only[A1])
   refine AR 39 _ ⟨b1,o1+i*8,none⟩ (.agg xs.toArray) (by kernel_rfl) rfl rfl (fun x d=>MR x b1 (o1+i*8) 39 xs _ (a7.out x d) Nv rfl az) ?_;simp only[A1];refine AJ ?_;simp only[A1];refine AR 22 _ ⟨A+1,0,none⟩ (.slice (some ⟨b2,o2,none⟩) n' c) (by kernel_rfl) rfl rfl (fun x d=>by have c0:=(a1.out x d).2.1;go_simp) ?_;simp only[A1]
   iterate 2 (refine AJ ?_;simp only[A1])
   refine AR 39 _ ⟨b2,o2+i*8,none⟩ (.agg ys.toArray) (by kernel_rfl) rfl rfl (fun x d=>MR x b2 (o2+i*8) 39 ys _ (a8.out x d) Nv rfl a0) ?_;simp only[A1];refine AY (by kernel_rfl) a4.out (fun _=>by kernel_rfl) ?_;simp only[A1];refine AJ ?_;simp only[A1];refine BS fun x d=>?_;have al:=(a1.out _ d).2.2;cases y with
   |true=>
    have N:=Dl (am.out rfl);clear am an
    go_wp2
    go_roundw
    case rel=>exact⟨i+1,by omega,by go_num,N,al⟩
    case measure=>simp[intOf];omega
   |false=>
    have N:=Dl (an.out rfl);have a2:=(j.out _ al).2.2;clear am an
    go_wp2
    go_ret
    exact⟨AB (by rw[ah.out,N.out]),a2⟩
  ·obtain rfl:i=n:=by omega
   have t0:decide ((i:Int)<(i:Int))=false:=by simp
   have t1:decide (i<i)=false:=by simp
   have N:=Dl (show (l.zip m).all (fun p=>shB p.1 p.2)=true by
    have h:=ha.out;rw[Bh (by have:=aw.out;omega),Bh (by have:=aw.out;have:=a3.out;omega)] at h;exact h)
   go_wp2
   go_ret
   exact⟨AB (by rw[ah.out,N.out]),U⟩
set_option maxRecDepth 100000 in
theorem aY (T:StrP)(vs:List A0)(p:StrP)(vs':List A0)(w:A5)(H:IC w T vs)(k:IC w p vs')(ht:Ybq w.heap.size w):
  A9 prog 3 #[.agg vs.toArray,.agg vs'.toArray] w fun e Y=>e=.returned (.bool true)/\Below w.heap.size w Y:=by
 have g:=H.size;have j:=k.size;obtain⟨A,wA,c,I,q,r,J,Z,s,t,u⟩:=JF w (.cells vs.toArray 24 (0,0)) (.cells vs'.toArray 24 (0,0));have B:Below w.heap.size w c:=I▸u;have K:=fun(x y:A5) (a:Below (A+2) c x) (hy:Below x.heap.size x y)=>(a.trans (hy.mono (by have:=a.size;omega)):Below (A+2) c y)
 have d:=Dl (fun(x:A5) (a:Below (A+2) c x)=>(B.trans (a.mono (by omega)):Below w.heap.size w x));have L:=Dl (fun(x:A5) (a:Below (A+2) c x)=>(by
  have h:=ht.below (d.out x a);exact Ybq.here h.pats h.mvd h.steps h.tcoef:Ybq x.heap.size x))
 have C:=Dl (fun(x:A5) (a:Below (A+2) c x)=>((a.block A (by omega)).trans s:x.heap[A]? =some (.cells vs.toArray 24 (0,0))));have M:=Dl (fun(x:A5) (a:Below (A+2) c x)=>((a.block (A+1) (by omega)).trans t:x.heap[A+1]? =some (.cells vs'.toArray 24 (0,0))))
 have W:=Dl (fun(x:A5) (a:Below (A+2) c x)=>((Ww H (d.out x a)).mono fun e y h=>⟨h.1,K x y a h.2⟩:A9 prog 8 #[.agg vs.toArray] x fun e y=>(∃y,e=.returned (.bool y)/\(y=true->Pp T))/\Below (A+2) c y))
 have X:=Dl (fun(x:A5) (a:Below (A+2) c x)=>((Ww k (d.out x a)).mono fun e y h=>⟨h.1,K x y a h.2⟩:A9 prog 8 #[.agg vs'.toArray] x fun e y=>(∃y,e=.returned (.bool y)/\(y=true->Pp p))/\Below (A+2) c y))
 have o:=Dl (fun(x:A5) (a:Below (A+2) c x)=>((pD x (L.out x a)).mono fun e y z=>⟨z.1,K x y a z.2⟩:A9 prog 9 #[] x fun e y=>e=.returned (.bool true)/\Below (A+2) c y));have aa:=Dl H;have N:=Dl k;have ab:=Dl ht;have ac:=Dl I;have O:=Dl q;have P:=Dl r;have D:=Dl K;have Q:Below (A+2) c c:=Dm _ _
 clear H k ht I q r J s t u B K
 go_enter func3,ntmps3
 go_wp2_with (with_reducible refine Mo rfl 24 _ rfl _ rfl 24 vs.toArray (0,0) _ (CH (heap_alloc_new w _)) Ou rfl g ?_)
 rw[O.out,P.out,ac.out];refine(W.out _ Q).mono ?_;rintro e w1 ⟨⟨y1,rfl,h1⟩,l⟩;clear W;cases y1 with
 |false=>
  go_wp2_with fail
  refine(o.out _ l).mono ?_;rintro e w2 ⟨rfl,m⟩
  go_wp2
  go_ret
  exact⟨rfl,d.out _ m⟩
 |true=>
  have R:=h1 rfl;have E:=M.out _ l;clear h1
  go_wp2_with (with_reducible refine MB (by kernel_rfl) 24 _ rfl (A+1) rfl 24 vs'.toArray (0,0) _ E Ou rfl j ?_)
  refine(X.out _ l).mono ?_;rintro e w2 ⟨⟨y2,rfl,h2⟩,m⟩;clear E X l;cases y2 with
  |false=>
   go_wp2_with fail
   refine(o.out _ m).mono ?_;rintro e w3 ⟨rfl,U⟩
   go_wp2
   go_ret
   exact⟨rfl,d.out _ U⟩
  |true=>
   have F:=h2 rfl;have i:=Dl (R.lies aa.out);have n:=Dl (F.lies N.out);have G:∀S∈T.sheets,(BI S).length<=1048576:=fun S hS=>by have:=(R.2 S hS).1.all;omega
   have ad:=Dl (fun(x:A5) (a:Below (A+2) c x)=>((Zb i.out ab.out (d.out x a)).mono fun e y h=>⟨h.1,D.out x y a h.2⟩:A9 prog 10 #[.agg vs.toArray] x fun e y=>e=.returned (.int .i64 (E5 T))/\Below (A+2) c y))
   have ae:=Dl (fun(x:A5) (a:Below (A+2) c x)=>((jD i.out G (d.out x a)).mono fun e y h=>⟨h.1,D.out x y a h.2⟩:A9 prog 11 #[.agg vs.toArray] x fun e y=>e=.returned (.int .i64 (E5 T))/\Below (A+2) c y))
   have af:=Dl (fun(x:A5) (a:Below (A+2) c x)=>((UN i.out n.out (d.out x a) (d.out x a)).mono fun e y h=>⟨h.1,D.out x y a h.2⟩:A9 prog 12 #[.agg vs.toArray,.agg vs'.toArray] x fun e y=>e=.returned (.bool (H2 T p))/\Below (A+2) c y))
   have ag:=Dl (fun(x:A5) (a:Below (A+2) c x)=>((uV i.out n.out (d.out x a) (d.out x a)).mono fun e y h=>⟨h.1,D.out x y a h.2⟩:A9 prog 13 #[.agg vs.toArray,.agg vs'.toArray] x fun e y=>e=.returned (.bool (H2 T p))/\Below (A+2) c y));have V:=Dl (fun(x:A5) (a:Below (A+2) c x)=>(by
    have h:=UN i.out i.out (d.out x a) (d.out x a);rw[iG] at h;exact h.mono fun e y h=>⟨h.1,D.out x y a h.2⟩:A9 prog 12 #[.agg vs.toArray,.agg vs.toArray] x fun e y=>e=.returned (.bool true)/\Below (A+2) c y))
   generalize E5 T=f at *;generalize H2 T p=b at *;clear R F h2 G
   go_wp2
   refine BU (S:=fun x=>Below (A+2) c x) 23 (by kernel_rfl) (by kernel_rfl) m.drew ?_;simp only[Dp,Bk,Gs,Gt];refine FJ 24 _ A 24 vs.toArray (0,0) _ (by kernel_rfl) rfl rfl (fun x a=>C.out x a) Ou rfl g ?_;simp only[A1];refine AY (by kernel_rfl) ad.out (fun _=>by kernel_rfl) ?_;simp only[A1]
   refine FJ 24 _ A 24 vs.toArray (0,0) _ (by kernel_rfl) rfl rfl (fun x a=>C.out x a) Ou rfl g ?_;simp only[A1];refine AY (by kernel_rfl) ae.out (fun _=>by kernel_rfl) ?_;simp only[A1];refine AT (v:=.bool true) (by kernel_rfl) (fun x _=>by go_simp;try simp) ?_;simp only[A1];refine AJ ?_;simp only[A1]
   refine FJ 24 _ A 24 vs.toArray (0,0) _ (by kernel_rfl) rfl rfl (fun x a=>C.out x a) Ou rfl g ?_;simp only[A1];refine FJ 24 _ (A+1) 24 vs'.toArray (0,0) _ (by kernel_rfl) rfl rfl (fun x a=>M.out x a) Ou rfl j ?_;simp only[A1];refine AY (by kernel_rfl) af.out (fun _=>by kernel_rfl) ?_;simp only[A1]
   refine FJ 24 _ A 24 vs.toArray (0,0) _ (by kernel_rfl) rfl rfl (fun x a=>C.out x a) Ou rfl g ?_;simp only[A1];refine FJ 24 _ (A+1) 24 vs'.toArray (0,0) _ (by kernel_rfl) rfl rfl (fun x a=>M.out x a) Ou rfl j ?_;simp only[A1];refine AY (by kernel_rfl) ag.out (fun _=>by kernel_rfl) ?_;simp only[A1]
   refine AT (v:=.bool true) (by kernel_rfl) (fun x _=>by go_simp;try simp) ?_;simp only[A1]
   iterate 2 (refine AJ ?_;simp only[A1])
   iterate 2 (refine FJ 24 _ A 24 vs.toArray (0,0) _ (by kernel_rfl) rfl rfl (fun x a=>C.out x a) Ou rfl g ?_;simp only[A1])
   refine AY (by kernel_rfl) V.out (fun _=>by kernel_rfl) ?_;simp only[A1]
   iterate 2 (refine AJ ?_;simp only[A1])
   refine AY (by kernel_rfl) o.out (fun _=>by kernel_rfl) ?_;simp only[A1]
   iterate 2 (refine AJ ?_;simp only[A1])
   refine BS fun x a=>?_
   go_wp2
   go_ret
   exact⟨rfl,d.out _ a⟩
end Go.Proofs.YtjjmalchelniiaaGreatDoor