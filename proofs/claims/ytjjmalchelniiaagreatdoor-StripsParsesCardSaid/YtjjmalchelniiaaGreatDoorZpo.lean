/- No condition. -/
import Derived.Test.YtjjmalchelniiaaGreatDoorZpa
import Derived.Test.YtjjmalchelniiaaGreatDoorZpd
import Derived.Test.YtjjmalchelniiaaGreatDoorZpf
import Derived.Test.YtjjmalchelniiaaGreatDoorZpg
import Derived.Test.YtjjmalchelniiaaGreatDoorZph
import Derived.Test.YtjjmalchelniiaaGreatDoorZpi
import Derived.Test.YtjjmalchelniiaaGreatDoorZpn
import Derived.Deep.CutRange
import Derived.Deep.DeepCutAuto
import Derived.Laws.AppendOwnNone
open Go.Proofs.Tryz
open Go renaming World->A5,Value->A0,Addr->Aa,TypeId->A7,Oper->A4,Operand->A8
namespace Go.Proofs.YtjjmalchelniiaaGreatDoor
section
open Go.RowKit Go.Lib Go.ChangeShapes Go.WideShapes Go.ChangeAt
abbrev Io:=@underlying77
abbrev Ip:=@underlying46
abbrev Iq:=@wpList_load_mid
abbrev Ir:=@List.mem_append
def EE {α:Type}(c:Nat)(V:A5->α->List A0->Prop)(w:A5)(q:Option Aa)(l:List α):Prop:=
 l=[]\/∃b o,q=some ⟨b,o,none⟩/\b<w.heap.size/\∀i,(h:i<l.length)->∃vs,V w l[i] vs/\∀(j:Nat) v,vs[j]? =some v->w.cell? ⟨b,o+i*c+j,none⟩=some v
theorem EE.below {α:Type}{c:Nat}{V:A5->α->List A0->Prop}{w x:A5}{q:Option Aa}{l:List α}(h:EE c V w q l)(e:∀a vs,V w a vs->V x a vs)(d:Below w.heap.size w x):EE c V x q l:=by
 rcases h with h|⟨b,o,rfl,hl,h⟩
 ·exact .inl h
 ·refine .inr ⟨b,o,rfl,Bc hl d.size,fun i hi=>?_⟩;obtain⟨vs,h1,h2⟩:=h i hi;exact⟨vs,e _ _ h1,fun j v hj=>(G4 (a:=⟨b,o+i*c+j,none⟩) (d.block b hl)).trans (h2 j v hj)⟩
theorem EE.hold {α:Type}{c:Nat}{V:A5->α->List A0->Prop}{w:A5}{q:Option Aa}{l:List α}(h:EE c V w q l)(d:0<l.length):
  ∃b o,q=some ⟨b,o,none⟩/\b<w.heap.size/\∀x,Below w.heap.size w x->∀i,(h:i<l.length)->∃vs,V w l[i] vs/\∀(j:Nat) v,vs[j]? =some v->x.cell? ⟨b,o+i*c+j,none⟩=some v:=by
 rcases h with rfl|⟨b,o,rfl,hl,h⟩
 ·cases d
 ·refine⟨b,o,rfl,hl,fun x e i hi=>?_⟩;obtain⟨vs,h1,h2⟩:=h i hi;exact⟨vs,h1,fun j v hj=>(G4 (a:=⟨b,o+i*c+j,none⟩) (e.block b hl)).trans (h2 j v hj)⟩
instance:Inhabited Cel:=⟨Bx⟩
def JM (w:A5)(c:Cel)(vs:List A0):Prop:=
 ∃(p:Nat->Option Aa) (cap:Nat->Nat),vs=AD c (fun i=>.slice (p i) (c.ev i).length (cap i))/\((Lit.int .i64 c.mx).wf=true/\(Lit.int .i64 c.my).wf=true)/\∀i,i<6->(c.ev i).length<=maxLen/\CX w (p i) (c.ev i)
theorem JM.below {w x:A5}(a:Below w.heap.size w x)(c:Cel)(vs:List A0)(h:JM w c vs):JM x c vs:=by
 obtain⟨p,cap,h1,h2,h3⟩:=h;exact⟨p,cap,h1,h2,fun i hi=>⟨(h3 i hi).1,(h3 i hi).2.below a⟩⟩
def MF:A5->Option Aa->List Cel->Prop:=EE 18 JM
theorem MF.below {w x:A5}{q:Option Aa}{l:List Cel}(h:MF w q l)(a:Below w.heap.size w x):MF x q l:=EE.below h (JM.below a) a
structure RowP where
 head:Bool
 id:Int
 quant:Int
 cels:List Cel
instance:Inhabited RowP:=⟨⟨false,0,0,[]⟩⟩
def OT (w:A5)(r:RowP)(vs:List A0):Prop:=
 ∃(q:Option Aa) (cap:Nat),vs=[.bool r.head,.int .i64 r.id,.int .i64 r.quant,.slice q r.cels.length cap]/\(q=none->cap=0)/\r.cels.length<=maxLen/\MF w q r.cels
theorem OT.below {w x:A5}(a:Below w.heap.size w x)(r:RowP)(vs:List A0)(h:OT w r vs):OT x r vs:=by
 obtain⟨q,cap,h1,b,h2,h3⟩:=h;exact⟨q,cap,h1,b,h2,h3.below a⟩
def HU:A5->Option Aa->List RowP->Prop:=EE 4 OT
theorem HU.below {w x:A5}{q:Option Aa}{l:List RowP}(h:HU w q l)(a:Below w.heap.size w x):HU x q l:=EE.below h (OT.below a) a
structure ShP where
 hd:Shd
 rows:List RowP
 zeros:Int
def ShV (w:A5)(S:ShP)(vs:List A0):Prop:=
 ∃(a b:Option Aa) (ca cb:Nat),vs=AU S.hd (.slice a S.hd.supp.length ca) (.slice b S.rows.length cb) S.zeros/\S.hd.supp.length<=maxLen/\S.rows.length<=maxLen/\BO w a S.hd.supp/\HU w b S.rows
theorem ShV.below {w x:A5}(c:Below w.heap.size w x)(S:ShP)(vs:List A0)(h:ShV w S vs):ShV x S vs:=by
 obtain⟨a,b,ca,cb,h1,h2,h3,h4,d⟩:=h;exact⟨a,b,ca,cb,h1,h2,h3,h4.below c,d.below c⟩
section
variable {H:Type}{enc:A7×A0->H}{P:Program}
end
end
section
open Go.RowKit Go.Lib
theorem Ys {α:Type}{c:Nat}:∀(a:List (List α)),(∀x∈a,x.length=c)->∀(i:Nat) (h:i<a.length) (j:Nat),j<c->a.flatten[i*c+j]? =a[i][j]?
 |[],_,i,h,_,_=>absurd h (Fi i)
 |x::a,hx,0,_,j,hj=>by
  rw[List.flatten_cons,Cg,Ar,Hj (by rw[hx x (Ez ..)];exact hj)]
  rfl
 |x::a,hx,i+1,h,j,hj=>by
  have hl:=hx x (Ez ..);rw[List.flatten_cons,Ga (by rw[hl,Cz];omega),hl,show (i+1)*c+j-c=i*c+j by rw[Cz];omega];exact Ys a (fun y b=>hx y (Ey _ b)) i uQ j hj
def NK {α:Type}(c:Nat)(V:α->List A0->Prop)(l:List α)(a:List (List A0)):Prop:=
 a.length=l.length/\(∀x∈a,x.length=c)/\∀i,(h:i<l.length)->∃x,a[i]? =some x/\V l[i] x
theorem NK.nil {α:Type}(c:Nat)(V:α->List A0->Prop):NK c V [] []:=⟨rfl,(fun x h=>uA),fun i h=>absurd h (Fi i)⟩
theorem NK.app {α:Type}{c:Nat}{V:α->List A0->Prop}{l m:List α}{b d:List (List A0)}(h:NK c V l b)(k:NK c V m d):NK c V (l++m) (b++d):=by
 obtain⟨h1,h2,h3⟩:=h;obtain⟨f,g,j⟩:=k;refine⟨by rw[B8,B8,h1,f],fun x a=>?_,fun i hi=>?_⟩
 ·rcases Ir.1 a with a|a
  ·exact h2 x a
  ·exact g x a
 ·by_cases hl:i<l.length
  ·obtain⟨x,e,hv⟩:=h3 i hl;exact⟨x,by rw[Hj (by omega)];exact e,by rw[List.getElem_append_left hl];exact hv⟩
  ·rw[B8] at hi;obtain⟨x,e,hv⟩:=j (i-l.length) sX;exact⟨x,by rw[Ga (by omega),h1];exact e,by rw[List.getElem_append_right (by omega)];exact hv⟩
def AO {α:Type}(c:Nat)(e:A7)(V:α->List A0->Prop)(w:A5)(base:Nat)(v:A0)(l:List α):Prop:=
 ∃a,NK c V l a/\w.ownsRow base e c v l.length a.flatten
theorem AO.nil {α:Type}(c:Nat)(e:A7)(V:α->List A0->Prop)(w:A5)(base:Nat):AO c e V w base (.slice none 0 0) ([]:List α):=⟨[],NK.nil c V,Dj _ _ _ _⟩
theorem AO.kept {α:Type}{c:Nat}{e:A7}{V:α->List A0->Prop}{w b:A5}{base:Nat}{v:A0}{l:List α}{row:Option Nat}(h:AO c e V w base v l)(hg:w.grownBy b row)(a:v.ownBlock=none\/v.ownBlock≠row):AO c e V b base v l:=by
 obtain⟨d,h1,h2⟩:=h;exact⟨d,h1,h2.kept hg a⟩
theorem AO.fresh {α:Type}{c:Nat}{e:A7}{V:α->List A0->Prop}{w:A5}{base:Nat}{v:A0}{l:List α}(h:AO c e V w base v l):∀k,v.ownBlock=some k->base<=k:=by
 obtain⟨a,_,h2⟩:=h;exact FT h2
theorem AO.many {α:Type}{c:Nat}{e:A7}{V:α->List A0->Prop}{V':A5->α->List A0->Prop}{w:A5}{base:Nat}{v:A0}{l:List α}(h:AO c e V w base v l)(n:∀a vs,V a vs->V' w a vs):
  ∃(q:Option Aa) (cap:Nat),v=.slice q l.length cap/\EE c V' w q l:=by
 obtain⟨b,⟨h1,h2,h3⟩,k⟩:=h;have d:=k;rcases k.2 with ⟨rfl,hn⟩|⟨g,cap,o,rfl,_,hg,_⟩
 ·exact⟨none,0,by rw[hn],.inl (Dh hn)⟩
 ·refine⟨_,cap,rfl,.inr ⟨g,0,rfl,(Am.1 hg).1,fun i hi=>?_⟩⟩;obtain⟨x,e1,hv⟩:=h3 i hi;refine⟨x,n _ _ hv,fun j u hj=>?_⟩;have p:x.length=c:=h2 x (List.mem_of_getElem? e1);have f:j<c:=by rw[<-p];exact(Ho.1 hj).1
  have m:=Ys b h2 i sX j f;have e2:b[i]' sX=x:=by
   have:=Fh (l:=b) (i:=i) sX;rw[this] at e1;injection e1
  rw[e2,hj] at m;have:=Di (g:=g) d rfl (i*c+j) u m;rw[Gh] at this;rw[Ar] at this ⊢;exact this
theorem JM.shape {w:A5}{c:Cel}{vs:List A0}(h:JM w c vs):vs.length=18/\∀u∈vs,u.oneCell'=true:=by
 obtain⟨p,cap,rfl,-,-⟩:=h;refine⟨rfl,fun u a=>?_⟩;simp only[AD,Ee,Eg,Ep] at a;rcases a with rfl|rfl|rfl|rfl|rfl|rfl|rfl|rfl|rfl|rfl|rfl|rfl|rfl|rfl|rfl|rfl|rfl|rfl <;> rfl
theorem Ur {ops:Array A4}{rest:List A4}{op:A4}{a:Act}{w:A5}{Q:Exit->Act->A5->Prop}(c:op.guard=none)(x:A8)(ho:op.op=.load 77 x)
  (b o:Nat)(d:a.eval x=.pointer (some ⟨b,o,none⟩))(vs:List A0)(hc:w.rangeAt b o vs)(hl:vs.length=18)(h:wpList prog ops Q rest (a.put op.dst (.agg vs.toArray)) w):wpList prog ops Q (op::rest) a w:=
 Iq c _ x ho b o d vs _ hc Io rfl (by rw[hl];kernel_rfl) h
theorem Z2 {ops:Array A4}{rest:List A4}{op:A4}{a:Act}{w:A5}{Q:Exit->Act->A5->Prop}(c:op.guard=none)(x:A8)(ho:op.op=.load 46 x)
  (b o:Nat)(d:a.eval x=.pointer (some ⟨b,o,none⟩))(vs:List A0)(hc:w.rangeAt b o vs)(hl:vs.length=4)(h:wpList prog ops Q rest (a.put op.dst (.agg vs.toArray)) w):wpList prog ops Q (op::rest) a w:=
 Iq c _ x ho b o d vs _ hc Ip rfl (by rw[hl];kernel_rfl) h
theorem cA {ops:Array A4}{rest:List A4}{op:A4}{a:Act}{w:A5}{Q:Exit->Act->A5->Prop}(c:Region.wanted op (yielded ops a.tmps)=true)(x:A8)(ho:op.op=.load 73 x)
  (b o:Nat)(d:a.eval x=.pointer (some ⟨b,o,none⟩))(u v:Int)(hc:w.rangeAt b o [.int .i64 u,.int .i64 v])(h:wpList prog ops Q rest (a.put op.dst (.agg (BK u v))) w):wpList prog ops Q (op::rest) a w:=by
 unfold wpList;rw[Bb c];exact .inl (wp_load_mid _ x ho b o d [.int .i64 u,.int .i64 v] _ hc Gr rfl tN h)
theorem KL {P:Program}{T:A7}{Z:Array A0}(h:(P.info? T).map (fun i=>i.zero)=some (some (.agg Z)))(w:A5):(zeroValue T).run P w=.ok (.agg Z) w:=by
 cases hq:P.info? T with
 |none=>rw[hq] at h;cases h
 |some i=>
  rw[hq] at h;have h:i.zero=some (.agg Z):=uQ;simp[zeroValue,typeInfo,hq,h]
theorem NX:∃Y:Array A0,Y.size=18/\∀w,(zeroValue 77).run prog w=.ok (.agg Y) w:=⟨(AD Bx nilS).toArray,rfl,KL tN⟩
theorem RF:∃Y:Array A0,Y.size=4/\∀w,(zeroValue 46).run prog w=.ok (.agg Y) w:=⟨#[.bool false,.int .i64 0,.int .i64 0,.slice none 0 0],rfl,KL tN⟩
theorem SL {w:A5}{c:Cel}{vs:List A0}(h:JM w c vs):vs.toArray.all (·.oneCell')=true:=by
 rw[Gb];exact fun u a=>h.shape.2 u (by simpa using a)
end
end Go.Proofs.YtjjmalchelniiaaGreatDoor
