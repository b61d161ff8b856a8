/- StripsChecks, 18. No condition. -/
import Derived.Test.YtjjmalchelniiaaGreatDoorStripsChecksMa
import Derived.Test.YtjjmalchelniiaaGreatDoorStripsChecksMd
import Derived.Test.YtjjmalchelniiaaGreatDoorStripsChecksMg
import Derived.Test.YtjjmalchelniiaaGreatDoorStripsChecksMi
import Derived.Test.YtjjmalchelniiaaGreatDoorStripsChecksMj
import Derived.Test.YtjjmalchelniiaaGreatDoorStripsChecksMq
import Derived.Deep.CutRange
import Derived.Deep.DeepCutAuto
import Derived.Laws.AppendOwnNone
open Go.Proofs.Tryz
open Go renaming World->A5,Value->A0,Addr->Aa,TypeId->A7,Program->A3,Oper->A4,Operand->A8
namespace Go.Proofs.YtjjmalchelniiaaGreatDoor
section
open Go.RowKit Go.Lib Go.ChangeShapes Go.WideShapes Go.ChangeAt
abbrev J2:=@underlying77
abbrev J3:=@underlying46
abbrev J4:=@List.mem_iff_getElem
abbrev J5:=@wpList_load_mid
abbrev J6:=@List.flatten_cons
def BO {α:Type}(c:Nat)(V:A5->α->List A0->Prop)(w:A5)(q:Option Aa)(l:List α):Prop:=
 l=[]\/∃b o,q=some ⟨b,o,none⟩/\b<w.heap.size/\∀i,(h:i<l.length)->∃vs,V w l[i] vs/\∀(j:Nat) v,vs[j]? =some v->w.cell? ⟨b,o+i*c+j,none⟩=some v
theorem BO.below {α:Type}{c:Nat}{V:A5->α->List A0->Prop}{w x:A5}{q:Option Aa}{l:List α}(h:BO c V w q l)(e:∀a vs,V w a vs->V x a vs)(d:Below w.heap.size w x):BO c V x q l:=by
 rcases h with h|⟨b,o,rfl,hl,h⟩
 ·exact .inl h
 ·refine .inr ⟨b,o,rfl,Bg hl d.size,fun i hi=>?_⟩;obtain⟨vs,h1,h2⟩:=h i hi;exact⟨vs,e _ _ h1,fun j v hj=>(Fz (a:=⟨b,o+i*c+j,none⟩) (d.block b hl)).trans (h2 j v hj)⟩
theorem BO.hold {α:Type}{c:Nat}{V:A5->α->List A0->Prop}{w:A5}{q:Option Aa}{l:List α}(h:BO c V w q l)(d:0<l.length):
  ∃b o,q=some ⟨b,o,none⟩/\b<w.heap.size/\∀x,Below w.heap.size w x->∀i,(h:i<l.length)->∃vs,V w l[i] vs/\∀(j:Nat) v,vs[j]? =some v->x.cell? ⟨b,o+i*c+j,none⟩=some v:=by
 rcases h with rfl|⟨b,o,rfl,hl,h⟩
 ·cases d
 ·refine⟨b,o,rfl,hl,fun x e i hi=>?_⟩;obtain⟨vs,h1,h2⟩:=h i hi;exact⟨vs,h1,fun j v hj=>(Fz (a:=⟨b,o+i*c+j,none⟩) (e.block b hl)).trans (h2 j v hj)⟩
theorem TK {α:Type}[Inhabited α]{c:Nat}{V:A5->α->List A0->Prop}{w:A5}{q:Option Aa}{n:Nat}(h:Si w (fun vs=>∃a,V w a vs) c q n):∃l:List α,l.length=n/\BO c V w q l:=by
 rcases h with rfl|⟨b,o,rfl,hl,h⟩
 ·exact⟨[],rfl,.inl rfl⟩
 ·have each:∀i,∃a:α,i<n->∃vs,V w a vs/\∀(j:Nat) v,vs[j]? =some v->w.cell? ⟨b,o+i*c+j,none⟩=some v:=by
   intro i;by_cases hi:i<n
   ·obtain⟨vs,_,⟨a,f⟩,hv⟩:=h i hi;exact⟨a,fun _=>⟨vs,f,hv⟩⟩
   ·exact⟨default,fun h=>absurd h hi⟩
  refine⟨(List.range n).map fun i=>(each i).choose,by simp,.inr ⟨b,o,rfl,hl,fun i hi=>?_⟩⟩;have d:i<n:=by simpa using hi
  have e:((List.range n).map fun i=>(each i).choose)[i]=(each i).choose:=by simp
  rw[e];exact(each i).choose_spec d
instance:Inhabited Cel:=⟨DP⟩
def EZ (w:A5)(c:Cel)(vs:List A0):Prop:=
 ∃(p:Nat->Option Aa) (cap:Nat->Nat),vs=AF c (fun i=>.slice (p i) (c.ev i).length (cap i))/\((Lit.int .i64 c.mx).wf=true/\(Lit.int .i64 c.my).wf=true)/\∀i,i<6->(c.ev i).length<=maxLen/\CE w (p i) (c.ev i)
theorem EZ.below {w x:A5}(a:Below w.heap.size w x)(c:Cel)(vs:List A0)(h:EZ w c vs):EZ x c vs:=by
 obtain⟨p,cap,h1,h2,h3⟩:=h;exact⟨p,cap,h1,h2,fun i hi=>⟨(h3 i hi).1,(h3 i hi).2.below a⟩⟩
def HY:A5->Option Aa->List Cel->Prop:=BO 18 EZ
theorem HY.below {w x:A5}{q:Option Aa}{l:List Cel}(h:HY w q l)(a:Below w.heap.size w x):HY x q l:=BO.below h (EZ.below a) a
structure RowP where
 head:Bool
 id:Int
 quant:Int
 cels:List Cel
instance:Inhabited RowP:=⟨⟨false,0,0,[]⟩⟩
def KU (w:A5)(r:RowP)(vs:List A0):Prop:=
 ∃(q:Option Aa) (cap:Nat),vs=[.bool r.head,.int .i64 r.id,.int .i64 r.quant,.slice q r.cels.length cap]/\(q=none->cap=0)/\r.cels.length<=maxLen/\HY w q r.cels
theorem KU.below {w x:A5}(a:Below w.heap.size w x)(r:RowP)(vs:List A0)(h:KU w r vs):KU x r vs:=by
 obtain⟨q,cap,h1,b,h2,h3⟩:=h;exact⟨q,cap,h1,b,h2,h3.below a⟩
def EC:A5->Option Aa->List RowP->Prop:=BO 4 KU
theorem EC.below {w x:A5}{q:Option Aa}{l:List RowP}(h:EC w q l)(a:Below w.heap.size w x):EC x q l:=BO.below h (KU.below a) a
structure ShP where
 hd:Shd
 rows:List RowP
 zeros:Int
def ShV (w:A5)(S:ShP)(vs:List A0):Prop:=
 ∃(a b:Option Aa) (ca cb:Nat),vs=AQ S.hd (.slice a S.hd.supp.length ca) (.slice b S.rows.length cb) S.zeros/\S.hd.supp.length<=maxLen/\S.rows.length<=maxLen/\BH w a S.hd.supp/\EC w b S.rows
theorem ShV.below {w x:A5}(c:Below w.heap.size w x)(S:ShP)(vs:List A0)(h:ShV w S vs):ShV x S vs:=by
 obtain⟨a,b,ca,cb,h1,h2,h3,h4,d⟩:=h;exact⟨a,b,ca,cb,h1,h2,h3,h4.below c,d.below c⟩
section
variable {H:Type}{enc:A7×A0->H}{P:A3}
theorem jZ {w:A5}{base a:Nat}{f:Nat->Bool}{b:Bool}{t e:A7}{n cap:Nat}{x:DataW H×List MemPlace}(ht:P.underlying t=some (.slice e))(g:DataW.trod enc P w base f b a t [.slice none n cap]=some x):cap=0:=by
 rcases Gm ht g with ⟨h1,_⟩|⟨h,c,d,m,i,D,j,h1,_⟩
 ·injection h1 with h1;injection h1
 ·injection h1 with h1;injection h1 with h1;cases h1
theorem YY {w:A5}{base:Nat}{f:Nat->Bool}{a:Bool}{t q d t2 t6 g r s:A7}{f0 f1 f2 f3 f4 f5 f6:Field}
  (ht:P.underlying t=some (.struct #[f0,f1,f2,f3,f4,f5,f6]))(H:P.underlying q=some .bool)(hi:P.underlying d=some (.int .i64))(h2:P.underlying t2=some (.array 2 d))(I:P.underlying t6=some (.array 6 d))(u:P.underlying g=some (.array 6 r))(hs:P.underlying r=some (.slice s))
  (e:f0.type=d/\f1.type=q/\f2.type=d/\f3.type=d/\f4.type=t2/\f5.type=t6/\f6.type=g)(o:f0.offset=0/\f1.offset=1/\f2.offset=2/\f3.offset=3/\f4.offset=4/\f5.offset=6/\f6.offset=12)
  (cb:P.cellsOf q=1)(n:P.cellsOf d=1)(cs:P.cellsOf r=1)(c2:P.cellsOf t2=2)(J:P.cellsOf t6=6)(v:P.cellsOf g=6)(j:P.cellsOf s=3)(l:∀k vs y,vs.length=3->DataW.trod enc P w base f a k s vs=some y->KD vs):
  ∀k (vs:List A0) y,vs.length=18->DataW.trod enc P w base f a k t vs=some y->∃c,EZ w c vs:=by
 intro k vs y p h;obtain⟨K,m,hk,L,_,x,b⟩:=Gi ht h
 match vs,p,K,x with
 |[u0,u1,u2,u3,u4,u5,u6,u7,u8,u9,u10,u11,u12,u13,u14,u15,u16,u17],_,[y0,y1,y2,y3,y4,y5,y6],_=>
  have A:=b 0 f0 rfl;have B:=b 1 f1 rfl;have C:=b 2 f2 rfl;have D:=b 3 f3 rfl;have E:=b 4 f4 rfl;have F:=b 5 f5 rfl;have G:=b 6 f6 rfl;rw[e.1,o.1,n] at A;rw[e.2.1,o.2.1,cb] at B;rw[e.2.2.1,o.2.2.1,n] at C;rw[e.2.2.2.1,o.2.2.2.1,n] at D;rw[e.2.2.2.2.1,o.2.2.2.2.1,c2] at E;rw[e.2.2.2.2.2.1,o.2.2.2.2.2.1,J] at F;rw[e.2.2.2.2.2.2,o.2.2.2.2.2.2,v] at G
  obtain⟨M,rfl,_⟩:=GU hi (show DataW.trod _ P w base f a m d [u0]=some y0 from A);obtain⟨N,z,_⟩:=Gk H (show DataW.trod _ P w base f a m q [u1]=some y1 from B);injection z with z;subst z;obtain⟨O,rfl,_⟩:=GU hi (show DataW.trod _ P w base f a m d [u2]=some y2 from C);obtain⟨Q,rfl,_⟩:=GU hi (show DataW.trod _ P w base f a m d [u3]=some y3 from D)
  obtain⟨R,S,rfl,rfl,T,U⟩:=nD h2 hi n (show DataW.trod _ P w base f a m t2 [u4,u5]=some y4 from E);obtain⟨m',z0,z1,z2,z3,z4,z5,V,W,X,Y,Z,a5⟩:=Xq I n (show DataW.trod _ P w base f a m t6 [u6,u7,u8,u9,u10,u11]=some y5 from F);obtain⟨d0,rfl,_⟩:=GU hi V;obtain⟨d1,rfl,_⟩:=GU hi W;obtain⟨d2,rfl,_⟩:=GU hi X;obtain⟨d3,rfl,_⟩:=GU hi Y;obtain⟨d4,rfl,_⟩:=GU hi Z
  obtain⟨d5,rfl,_⟩:=GU hi a5;obtain⟨aa,ab,ac,ad,ae,af,ag,b0,b1,b2,b3,b4,b5⟩:=Xq u cs (show DataW.trod _ P w base f a m g [u12,u13,u14,u15,u16,u17]=some y6 from G);obtain⟨p0,n0,k0,rfl,l0,r0⟩:=LB 3 KD hs j (by decide) l b0;obtain⟨p1,n1,k1,rfl,l1,r1⟩:=LB 3 KD hs j (by decide) l b1;obtain⟨p2,n2,k2,rfl,l2,r2⟩:=LB 3 KD hs j (by decide) l b2
  obtain⟨p3,n3,k3,rfl,l3,r3⟩:=LB 3 KD hs j (by decide) l b3;obtain⟨p4,n4,k4,rfl,l4,r4⟩:=LB 3 KD hs j (by decide) l b4;obtain⟨p5,n5,k5,rfl,l5,r5⟩:=LB 3 KD hs j (by decide) l b5;obtain⟨v0,rfl,s0,_⟩:=OL r0;obtain⟨v1,rfl,s1,_⟩:=OL r1;obtain⟨v2,rfl,s2,_⟩:=OL r2;obtain⟨v3,rfl,s3,_⟩:=OL r3;obtain⟨v4,rfl,s4,_⟩:=OL r4;obtain⟨v5,rfl,s5,_⟩:=OL r5
  refine⟨⟨M,N,O,Q,R,S,six d0 d1 d2 d3 d4 d5,six v0 v1 v2 v3 v4 v5⟩,six p0 p1 p2 p3 p4 p5,six k0 k1 k2 k3 k4 k5,rfl,⟨T,U⟩,fun i hi=>?_⟩
  match i,hi with
  |0,_=>exact⟨l0,s0⟩
  |1,_=>exact⟨l1,s1⟩
  |2,_=>exact⟨l2,s2⟩
  |3,_=>exact⟨l3,s3⟩
  |4,_=>exact⟨l4,s4⟩
  |5,_=>exact⟨l5,s5⟩
theorem U3 {w:A5}{base:Nat}{d:Nat->Bool}{a:Bool}{t l f g q:A7}{f0 f1 f2 f3:Field}
  (ht:P.underlying t=some (.struct #[f0,f1,f2,f3]))(C:P.underlying l=some .bool)(hi:P.underlying f=some (.int .i64))(hs:P.underlying g=some (.slice q))
  (e:f0.type=l/\f1.type=f/\f2.type=f/\f3.type=g)(o:f0.offset=0/\f1.offset=1/\f2.offset=2/\f3.offset=3)
  (cb:P.cellsOf l=1)(x:P.cellsOf f=1)(cs:P.cellsOf g=1)(D:P.cellsOf q=18)(E:∀k vs y,vs.length=18->DataW.trod enc P w base d a k q vs=some y->∃c,EZ w c vs):
  ∀k (vs:List A0) y,vs.length=4->DataW.trod enc P w base d a k t vs=some y->∃r,KU w r vs:=by
 intro k vs y i h;obtain⟨F,m,M,G,_,s,b⟩:=Gi ht h
 match vs,i,F,s with
 |[u0,u1,u2,u3],_,[y0,y1,y2,y3],_=>
  have z:=b 0 f0 rfl;have A:=b 1 f1 rfl;have B:=b 2 f2 rfl;have u:=b 3 f3 rfl;rw[e.1,o.1,cb] at z;rw[e.2.1,o.2.1,x] at A;rw[e.2.2.1,o.2.2.1,x] at B;rw[e.2.2.2,o.2.2.2,cs] at u;obtain⟨H,v,_⟩:=Gk C (show DataW.trod _ P w base d a m l [u0]=some y0 from z);injection v with v;subst v
  obtain⟨I,rfl,_⟩:=GU hi (show DataW.trod _ P w base d a m f [u1]=some y1 from A);obtain⟨J,rfl,_⟩:=GU hi (show DataW.trod _ P w base d a m f [u2]=some y2 from B);obtain⟨p,n,cap,rfl,hl,hr⟩:=LB 18 (fun vs=>∃c,EZ w c vs) hs D (by decide) E (show DataW.trod _ P w base d a m g [u3]=some y3 from u)
  have j:p=none->cap=0:=fun e=>by subst e;exact jZ hs (show DataW.trod _ P w base d a m g [.slice none n cap]=some y3 from u)
  obtain⟨L,rfl,K⟩:=TK hr;exact⟨⟨H,I,J,L⟩,p,cap,rfl,j,hl,K⟩
theorem Zq {w:A5}{base:Nat}{d:Nat->Bool}{a:Bool}{t c l m s u:A7}{f0 f1 f2 f3 f4 f5 f6 f7:Field}
  (ht:P.underlying t=some (.struct #[f0,f1,f2,f3,f4,f5,f6,f7]))(hi:P.underlying c=some (.int .i64))(J:P.underlying l=some .bool)(hs:P.underlying m=some (.slice c))(hr:P.underlying s=some (.slice u))
  (e:f0.type=c/\f1.type=c/\f2.type=c/\f3.type=l/\f4.type=c/\f5.type=m/\f6.type=s/\f7.type=c)(o:f0.offset=0/\f1.offset=1/\f2.offset=2/\f3.offset=3/\f4.offset=4/\f5.offset=5/\f6.offset=6/\f7.offset=7)
  (g:P.cellsOf c=1)(cb:P.cellsOf l=1)(cs:P.cellsOf m=1)(K:P.cellsOf s=1)(N:P.cellsOf u=4)(O:∀k vs y,vs.length=4->DataW.trod enc P w base d a k u vs=some y->∃r,KU w r vs):
  ∀k (vs:List A0) y,vs.length=8->DataW.trod enc P w base d a k t vs=some y->∃S,ShV w S vs:=by
 intro k vs y i h;obtain⟨Q,k,hk,R,_,v,b⟩:=Gi ht h
 match vs,i,Q,v with
 |[u0,u1,u2,u3,u4,u5,u6,u7],_,[y0,y1,y2,y3,y4,y5,y6,y7],_=>
  have B:=b 0 f0 rfl;have C:=b 1 f1 rfl;have D:=b 2 f2 rfl;have E:=b 3 f3 rfl;have F:=b 4 f4 rfl;have G:=b 5 f5 rfl;have H:=b 6 f6 rfl;have I:=b 7 f7 rfl;rw[e.1,o.1,g] at B;rw[e.2.1,o.2.1,g] at C;rw[e.2.2.1,o.2.2.1,g] at D;rw[e.2.2.2.1,o.2.2.2.1,cb] at E;rw[e.2.2.2.2.1,o.2.2.2.2.1,g] at F;rw[e.2.2.2.2.2.1,o.2.2.2.2.2.1,cs] at G
  rw[e.2.2.2.2.2.2.1,o.2.2.2.2.2.2.1,K] at H;rw[e.2.2.2.2.2.2.2,o.2.2.2.2.2.2.2,g] at I;obtain⟨T,rfl,_⟩:=GU hi (show DataW.trod _ P w base d a k c [u0]=some y0 from B);obtain⟨U,rfl,_⟩:=GU hi (show DataW.trod _ P w base d a k c [u1]=some y1 from C);obtain⟨V,rfl,_⟩:=GU hi (show DataW.trod _ P w base d a k c [u2]=some y2 from D)
  obtain⟨W,x,_⟩:=Gk J (show DataW.trod _ P w base d a k l [u3]=some y3 from E);injection x with x;subst x;obtain⟨X,rfl,_⟩:=GU hi (show DataW.trod _ P w base d a k c [u4]=some y4 from F);obtain⟨p,len,cap,f,rfl,hl,z⟩:=gX hs hi g (show DataW.trod _ P w base d a k m [u5]=some y5 from G)
  obtain⟨q,n,j,rfl,hn,A⟩:=LB 4 (fun vs=>∃r,KU w r vs) hr N (by decide) O (show DataW.trod _ P w base d a k s [u6]=some y6 from H);obtain⟨Y,rfl,_⟩:=GU hi (show DataW.trod _ P w base d a k c [u7]=some y7 from I);obtain⟨L,rfl,Z⟩:=rE z;obtain⟨M,rfl,hM⟩:=TK A;exact⟨⟨⟨T,U,V,W,X,L⟩,M,Y⟩,p,q,cap,j,rfl,hl,hn,Z,hM⟩
end
end
section
open Go.RowKit Go.Lib
theorem SP {α:Type}{c:Nat}:∀(a:List (List α)),(∀x∈a,x.length=c)->∀(i:Nat) (h:i<a.length) (j:Nat),j<c->a.flatten[i*c+j]? =a[i][j]?
 |[],_,i,h,_,_=>absurd h (Fc i)
 |x::a,hx,0,_,j,hj=>by
  rw[J6,Cf,As,Hs (by rw[hx x (Eu ..)];exact hj)]
  rfl
 |x::a,hx,i+1,h,j,hj=>by
  have hl:=hx x (Eu ..);rw[J6,G9 (by rw[hl,Cv];omega),hl,show (i+1)*c+j-c=i*c+j by rw[Cv];omega];exact SP a (fun y b=>hx y (Et _ b)) i (by simpa using h) j hj
theorem R0 {α:Type}{c:Nat}:∀(a:List (List α)),(∀x∈a,x.length=c)->a.flatten.length=a.length*c
 |[],_=>by simp
 |x::a,hx=>by
  rw[J6,B9,hx x (Eu ..),R0 a (fun y b=>hx y (Et _ b)),Ao,Cv];omega
def IU {α:Type}(c:Nat)(V:α->List A0->Prop)(l:List α)(a:List (List A0)):Prop:=
 a.length=l.length/\(∀x∈a,x.length=c)/\∀i,(h:i<l.length)->∃x,a[i]? =some x/\V l[i] x
theorem IU.nil {α:Type}(c:Nat)(V:α->List A0->Prop):IU c V [] []:=⟨rfl,(fun x h=>by cases h),fun i h=>absurd h (Fc i)⟩
theorem IU.app {α:Type}{c:Nat}{V:α->List A0->Prop}{l m:List α}{b d:List (List A0)}(h:IU c V l b)(k:IU c V m d):IU c V (l++m) (b++d):=by
 obtain⟨h1,h2,h3⟩:=h;obtain⟨f,g,j⟩:=k;refine⟨by rw[B9,B9,h1,f],fun x a=>?_,fun i hi=>?_⟩
 ·rcases List.mem_append.1 a with a|a
  ·exact h2 x a
  ·exact g x a
 ·by_cases hl:i<l.length
  ·obtain⟨x,e,hv⟩:=h3 i hl;exact⟨x,by rw[Hs (by omega)];exact e,by rw[List.getElem_append_left hl];exact hv⟩
  ·rw[B9] at hi;obtain⟨x,e,hv⟩:=j (i-l.length) (by omega);exact⟨x,by rw[G9 (by omega),h1];exact e,by rw[List.getElem_append_right (by omega)];exact hv⟩
def AV {α:Type}(c:Nat)(e:A7)(V:α->List A0->Prop)(w:A5)(base:Nat)(v:A0)(l:List α):Prop:=
 ∃a,IU c V l a/\w.ownsRow base e c v l.length a.flatten
theorem AV.nil {α:Type}(c:Nat)(e:A7)(V:α->List A0->Prop)(w:A5)(base:Nat):AV c e V w base (.slice none 0 0) ([]:List α):=⟨[],IU.nil c V,Dj _ _ _ _⟩
theorem AV.kept {α:Type}{c:Nat}{e:A7}{V:α->List A0->Prop}{w b:A5}{base:Nat}{v:A0}{l:List α}{row:Option Nat}(h:AV c e V w base v l)(d:w.grownBy b row)(a:v.ownBlock=none\/v.ownBlock≠row):AV c e V b base v l:=by
 obtain⟨f,h1,h2⟩:=h;exact⟨f,h1,h2.kept d a⟩
theorem AV.fresh {α:Type}{c:Nat}{e:A7}{V:α->List A0->Prop}{w:A5}{base:Nat}{v:A0}{l:List α}(h:AV c e V w base v l):∀k,v.ownBlock=some k->base<=k:=by
 obtain⟨a,_,h2⟩:=h;exact Oz h2
theorem AV.many {α:Type}{c:Nat}{e:A7}{V:α->List A0->Prop}{V':A5->α->List A0->Prop}{w:A5}{base:Nat}{v:A0}{l:List α}(h:AV c e V w base v l)(o:∀a vs,V a vs->V' w a vs):
  ∃(q:Option Aa) (cap:Nat),v=.slice q l.length cap/\BO c V' w q l:=by
 obtain⟨b,⟨h1,h2,h3⟩,m⟩:=h;have d:=m;rcases m.2 with ⟨rfl,hn⟩|⟨g,cap,p,rfl,_,r,_⟩
 ·exact⟨none,0,by rw[hn],.inl (Dh hn)⟩
 ·refine⟨_,cap,rfl,.inr ⟨g,0,rfl,(An.1 r).1,fun i hi=>?_⟩⟩;obtain⟨x,f,hv⟩:=h3 i hi;refine⟨x,o _ _ hv,fun j u hj=>?_⟩;have s:x.length=c:=h2 x (List.mem_of_getElem? f);have k:j<c:=by rw[<-s];exact(Ga.1 hj).1
  have n:=SP b h2 i (by omega) j k;have t:b[i]'(by omega)=x:=by
   have:=Fe (l:=b) (i:=i) (by omega);rw[this] at f;injection f
  rw[t,hj] at n;have:=Di (g:=g) d rfl (i*c+j) u n;rw[Gd] at this;rw[As] at this ⊢;exact this
theorem BO.vals {α:Type}{c:Nat}{V:A5->α->List A0->Prop}{w:A5}{b o:Nat}{l:List α}(hc:∀a vs,V w a vs->vs.length=c)(h:BO c V w (some ⟨b,o,none⟩) l):
  ∃m,IU c (V w) l m/\∀(j:Nat) u,m.flatten[j]? =some u->w.cell? ⟨b,o+j,none⟩=some u:=by
 rcases h with rfl|⟨q,r,e,hl,h⟩
 ·exact⟨[],IU.nil _ _,fun j u hj=>by simp at hj⟩
 ·injection e with e;injection e with e1 e2;subst e1 e2;have each:∀i,∃x:List A0,(h:i<l.length)->V w l[i] x/\∀(j:Nat) v,x[j]? =some v->w.cell? ⟨b,o+i*c+j,none⟩=some v:=by
   intro i;by_cases hi:i<l.length
   ·obtain⟨vs,h1,h2⟩:=h i hi;exact⟨vs,fun _=>⟨h1,h2⟩⟩
   ·exact⟨[],fun h=>absurd h hi⟩
  have d:∀x∈(List.range l.length).map fun i=>(each i).choose,x.length=c:=by
   intro x p;obtain⟨i,hi,rfl⟩:=Gf.1 p;exact hc _ _ ((each i).choose_spec (Bq.1 hi)).1
  refine⟨(List.range l.length).map fun i=>(each i).choose,⟨by simp,d,fun i hi=>⟨(each i).choose,by simp[hi],((each i).choose_spec hi).1⟩⟩,fun j u hj=>?_⟩;have f:=(Ga.1 hj).1;rw[R0 _ d,Gc,List.length_range] at f;have g:0<c:=Nat.pos_of_ne_zero (fun h=>by subst h;simp at f);have hi:j / c<l.length:=(Nat.div_lt_iff_lt_mul g).2 f
  have hm:j%c<c:=Nat.mod_lt _ g;have n:j / c*c+j%c=j:=by rw[Ca];exact Nat.div_add_mod j c
  have k:=SP _ d (j / c) (by simpa using hi) (j%c) hm;rw[n,hj] at k;have e:((List.range l.length).map fun i=>(each i).choose)[j / c]'(by simpa using hi)=(each (j / c)).choose:=by simp
  rw[e] at k;have:=((each (j / c)).choose_spec hi).2 (j%c) u k.symm;rwa [Ay,n] at this
theorem BO.const {α:Type}{c:Nat}{V:A5->α->List A0->Prop}{w x:A5}{q:Option Aa}{l:List α}(h:BO c V w q l)(d:Below w.heap.size w x):BO c (fun _=>V w) x q l:=by
 rcases h with h|⟨b,o,rfl,hl,h⟩
 ·exact .inl h
 ·refine .inr ⟨b,o,rfl,Bg hl d.size,fun i hi=>?_⟩;obtain⟨vs,h1,h2⟩:=h i hi;exact⟨vs,h1,fun j v hj=>(Fz (a:=⟨b,o+i*c+j,none⟩) (d.block b hl)).trans (h2 j v hj)⟩
theorem AV.less {α:Type}{c:Nat}{e:A7}{V:α->List A0->Prop}{w:A5}{base a:Nat}{v:A0}{l:List α}(h:AV c e V w base v l)(d:a<=base):AV c e V w a v l:=by
 obtain⟨f,h1,h2,h3⟩:=h;refine⟨f,h1,h2,?_⟩;rcases h3 with h3|⟨g,cap,b,i,j,h4⟩
 ·exact .inl h3
 ·exact .inr ⟨g,cap,b,i,Ea d j,h4⟩
theorem EZ.shape {w:A5}{c:Cel}{vs:List A0}(h:EZ w c vs):vs.length=18/\∀u∈vs,u.oneCell'=true:=by
 obtain⟨p,cap,rfl,-,-⟩:=h;refine⟨rfl,fun u a=>?_⟩;simp only[AF,Eb,Ed,Ek] at a;rcases a with rfl|rfl|rfl|rfl|rfl|rfl|rfl|rfl|rfl|rfl|rfl|rfl|rfl|rfl|rfl|rfl|rfl|rfl <;> rfl
theorem xS {α:Type}{P:A3}{w w0:A5}{ops:Array A4}{rest:List A4}{o:A4}{a:Act}{Q:Exit->Act->A5->Prop}{s x:A8}{t e:A7}{base c bytes cap:Nat}{i:TypeInfo}{z v:A0}{V:A5->α->List A0->Prop}{l m:List α}{q:Option Aa}
  (B:o.guard=none)(ho:o.op=.call {callee:=.builtin .append,args:=#[s,x],argTypes:=#[t,t]})
  (ht:P.underlying t=some (.slice e))(hi:P.info? e=some i)(T:i.zero=some z)(I:z.cells.size=c)(n:i.size=c)(J:i.bytes=bytes)(K:0<c)
  (hs:a.eval s=v)(L:a.eval x=.slice q m.length cap)(U:q=none->cap=0)(C:AV c e (V w0) w base v l)(hm:BO c V w q m)(W:∀b vs,V w b vs->V w0 b vs)(hc:∀b vs,V w b vs->vs.length=c/\∀u∈vs,u.oneCell'=true)
  (M:l.length+m.length<=maxLen)(f:(l.length+m.length)*bytes<=140737488355328)(p:base<=w.heap.size)
  (h:∀F D,AV c e (V w0) D base F (l++m)->w.grownBy D v.ownBlock->wpList P ops Q rest (a.put o.dst F) D):wpList P ops Q (o::rest) a w:=by
 obtain⟨G,E,N⟩:=C;cases q with
 |none=>
  have O:m=[]:=by
   rcases hm with hm|⟨b,o,e,_⟩
   ·exact hm
   ·cases e
  subst O;rw[U rfl] at L;refine wpList_append_own_none B s x t ho base e i c ht hi v l.length G.flatten hs N L ?_;exact h v w (by rw[Ew];exact⟨G,E,N⟩) ⟨rfl,rfl,rfl,Ba _,fun _ _ _=>rfl⟩
 |some ad=>
  obtain⟨g,d,r⟩:∃g,IU c (V w) m g/\∀(j:Nat) u,g.flatten[j]? =some u->w.cell? (ad.add j)=some u:=by
   rcases hm with rfl|⟨b,o,e,hm⟩
   ·exact⟨[],IU.nil _ _,fun j u hj=>by simp at hj⟩
   ·injection e with e;subst e;obtain⟨g,h1,h2⟩:=BO.vals (fun b vs hv=>(hc b vs hv).1) (.inr ⟨b,o,rfl,hm⟩);exact⟨g,h1,fun j u hj=>by rw[Gd];exact h2 j u hj⟩
  refine Dk w B s x t ho base e i z c bytes ht hi T n J I K v l.length G.flatten hs N ad m.length cap g.flatten L (by rw[R0 g d.2.1,d.1])
   r (fun u R=>?_) M f p fun F D h1 h2 _=>h F D ⟨G++g,E.app ⟨d.1,d.2.1,fun k H=>?_⟩,by rw[B9,List.flatten_append];exact h1⟩ h2
  ·obtain⟨y,X,S⟩:=List.mem_flatten.1 R;obtain⟨k,H,rfl⟩:=J4.1 X;obtain⟨Y,A,hv⟩:=d.2.2 k (by rw[<-d.1];exact H);rw[Fe H] at A;injection A with A;subst A;exact(hc _ _ hv).2 u S
  ·obtain⟨y,A,hv⟩:=d.2.2 k H;exact⟨y,A,W _ _ hv⟩
theorem Pu {ops:Array A4}{rest:List A4}{op:A4}{a:Act}{w:A5}{Q:Exit->Act->A5->Prop}(c:op.guard=none)(x:A8)(ho:op.op=.load 77 x)
  (b o:Nat)(d:a.eval x=.pointer (some ⟨b,o,none⟩))(vs:List A0)(hc:w.rangeAt b o vs)(hl:vs.length=18)(h:wpList prog ops Q rest (a.put op.dst (.agg vs.toArray)) w):wpList prog ops Q (op::rest) a w:=
 J5 c _ x ho b o d vs _ hc J2 rfl (by rw[hl];kernel_rfl) h
theorem Qg {ops:Array A4}{rest:List A4}{op:A4}{a:Act}{w:A5}{Q:Exit->Act->A5->Prop}(c:op.guard=none)(x:A8)(ho:op.op=.load 46 x)
  (b o:Nat)(d:a.eval x=.pointer (some ⟨b,o,none⟩))(vs:List A0)(hc:w.rangeAt b o vs)(hl:vs.length=4)(h:wpList prog ops Q rest (a.put op.dst (.agg vs.toArray)) w):wpList prog ops Q (op::rest) a w:=
 J5 c _ x ho b o d vs _ hc J3 rfl (by rw[hl];kernel_rfl) h
theorem tM {ops:Array A4}{rest:List A4}{op:A4}{a:Act}{w:A5}{Q:Exit->Act->A5->Prop}(c:Region.wanted op (yielded ops a.tmps)=true)(x:A8)(ho:op.op=.load 73 x)
  (b o:Nat)(d:a.eval x=.pointer (some ⟨b,o,none⟩))(u v:Int)(hc:w.rangeAt b o [.int .i64 u,.int .i64 v])(h:wpList prog ops Q rest (a.put op.dst (.agg (F9 u v))) w):wpList prog ops Q (op::rest) a w:=by
 unfold wpList;rw[Bc c];exact .inl (wp_load_mid _ x ho b o d [.int .i64 u,.int .i64 v] _ hc Gx rfl (by kernel_rfl) h)
theorem LG {P:A3}{T:A7}{Z:Array A0}(h:(P.info? T).map (fun i=>i.zero)=some (some (.agg Z)))(w:A5):(zeroValue T).run P w=.ok (.agg Z) w:=by
 cases hq:P.info? T with
 |none=>rw[hq] at h;cases h
 |some i=>
  rw[hq] at h;have h:i.zero=some (.agg Z):=by simpa using h
  simp[zeroValue,typeInfo,hq,h]
theorem MK:∃Y:Array A0,Y.size=18/\∀w,(zeroValue 77).run prog w=.ok (.agg Y) w:=⟨(AF DP nilS).toArray,rfl,LG (by kernel_rfl)⟩
theorem Ps:∃Y:Array A0,Y.size=4/\∀w,(zeroValue 46).run prog w=.ok (.agg Y) w:=⟨#[.bool false,.int .i64 0,.int .i64 0,.slice none 0 0],rfl,LG (by kernel_rfl)⟩
theorem OA {w:A5}{c:Cel}{vs:List A0}(h:EZ w c vs):vs.toArray.all (·.oneCell')=true:=by
 rw[G6];exact fun u a=>h.shape.2 u (by simpa using a)
end
end Go.Proofs.YtjjmalchelniiaaGreatDoor
