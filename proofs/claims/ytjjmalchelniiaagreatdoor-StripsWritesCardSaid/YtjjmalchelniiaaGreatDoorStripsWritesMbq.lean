/- StripsWrites, 43. No condition. -/
import Derived.Test.YtjjmalchelniiaaGreatDoorStripsWritesMi
import Derived.Test.YtjjmalchelniiaaGreatDoorStripsWritesMp
import Derived.Laws.AppendOwnNone
open Go.Proofs.Tryz
open Go renaming Value->A0,TypeId->A7,World->A5,Oper->A4,Operand->A8
namespace Go.Proofs.YtjjmalchelniiaaGreatDoor
open Go.RowKit Go.Lib
abbrev O5:=@underlying77
abbrev O6:=@underlying46
abbrev O7:=@List.mem_iff_getElem
abbrev O8:=@wpList_load_mid
abbrev O9:=@List.flatten_cons
theorem RR {α:Type}{c:Nat}:∀(a:List (List α)),(∀x∈a,x.length=c)->∀(i:Nat) (h:i<a.length) (j:Nat),j<c->a.flatten[i*c+j]? =a[i][j]?
 |[],_,i,h,_,_=>absurd h (Fk i)
 |x::a,hx,0,_,j,hj=>by
  rw[O9,Ch,Ar,Hd (by rw[hx x (Fa ..)];exact hj)]
  rfl
 |x::a,hx,i+1,h,j,hj=>by
  have hl:=hx x (Fa ..);rw[O9,Gb (by rw[hl,Cx];omega),hl,show (i+1)*c+j-c=i*c+j by rw[Cx];omega];exact RR a (fun y b=>hx y (Ez _ b)) i (by simpa using h) j hj
theorem Tn {α:Type}{c:Nat}:∀(a:List (List α)),(∀x∈a,x.length=c)->a.flatten.length=a.length*c
 |[],_=>by simp
 |x::a,hx=>by
  rw[O9,B9,hx x (Fa ..),Tn a (fun y b=>hx y (Ez _ b)),An,Cx];omega
def JC {α:Type}(c:Nat)(V:α->List A0->Prop)(l:List α)(a:List (List A0)):Prop:=
 a.length=l.length/\(∀x∈a,x.length=c)/\∀i,(h:i<l.length)->∃x,a[i]? =some x/\V l[i] x
theorem JC.nil {α:Type}(c:Nat)(V:α->List A0->Prop):JC c V [] []:=⟨rfl,(fun x h=>by cases h),fun i h=>absurd h (Fk i)⟩
theorem JC.app {α:Type}{c:Nat}{V:α->List A0->Prop}{l m:List α}{b d:List (List A0)}(h:JC c V l b)(k:JC c V m d):JC c V (l++m) (b++d):=by
 obtain⟨h1,h2,h3⟩:=h;obtain⟨f,g,j⟩:=k;refine⟨by rw[B9,B9,h1,f],fun x a=>?_,fun i hi=>?_⟩
 ·rcases List.mem_append.1 a with a|a
  ·exact h2 x a
  ·exact g x a
 ·by_cases hl:i<l.length
  ·obtain⟨x,e,hv⟩:=h3 i hl;exact⟨x,by rw[Hd (by omega)];exact e,by rw[List.getElem_append_left hl];exact hv⟩
  ·rw[B9] at hi;obtain⟨x,e,hv⟩:=j (i-l.length) (by omega);exact⟨x,by rw[Gb (by omega),h1];exact e,by rw[List.getElem_append_right (by omega)];exact hv⟩
def AX {α:Type}(c:Nat)(e:A7)(V:α->List A0->Prop)(w:A5)(base:Nat)(v:A0)(l:List α):Prop:=
 ∃a,JC c V l a/\w.ownsRow base e c v l.length a.flatten
theorem AX.nil {α:Type}(c:Nat)(e:A7)(V:α->List A0->Prop)(w:A5)(base:Nat):AX c e V w base (.slice none 0 0) ([]:List α):=⟨[],JC.nil c V,Dn _ _ _ _⟩
theorem AX.kept {α:Type}{c:Nat}{e:A7}{V:α->List A0->Prop}{w b:A5}{base:Nat}{v:A0}{l:List α}{row:Option Nat}(h:AX c e V w base v l)(d:w.grownBy b row)(a:v.ownBlock=none\/v.ownBlock≠row):AX c e V b base v l:=by
 obtain⟨f,h1,h2⟩:=h;exact⟨f,h1,h2.kept d a⟩
theorem AX.fresh {α:Type}{c:Nat}{e:A7}{V:α->List A0->Prop}{w:A5}{base:Nat}{v:A0}{l:List α}(h:AX c e V w base v l):∀k,v.ownBlock=some k->base<=k:=by
 obtain⟨a,_,h2⟩:=h;exact NS h2
theorem AX.many {α:Type}{c:Nat}{e:A7}{V:α->List A0->Prop}{V':A5->α->List A0->Prop}{w:A5}{base:Nat}{v:A0}{l:List α}(h:AX c e V w base v l)(o:∀a vs,V a vs->V' w a vs):
  ∃(q:Option Addr) (cap:Nat),v=.slice q l.length cap/\CD c V' w q l:=by
 obtain⟨b,⟨h1,h2,h3⟩,m⟩:=h;have d:=m;rcases m.2 with ⟨rfl,hn⟩|⟨g,cap,p,rfl,_,r,_⟩
 ·exact⟨none,0,by rw[hn],.inl (Dl hn)⟩
 ·refine⟨_,cap,rfl,.inr ⟨g,0,rfl,(Am.1 r).1,fun i hi=>?_⟩⟩;obtain⟨x,f,hv⟩:=h3 i hi;refine⟨x,o _ _ hv,fun j u hj=>?_⟩;have s:x.length=c:=h2 x (List.mem_of_getElem? f);have k:j<c:=by rw[<-s];exact(Gd.1 hj).1
  have n:=RR b h2 i (by omega) j k;have t:b[i]'(by omega)=x:=by
   have:=Fj (l:=b) (i:=i) (by omega);rw[this] at f;injection f
  rw[t,hj] at n;have:=Dm (g:=g) d rfl (i*c+j) u n;rw[Gc] at this;rw[Ar] at this ⊢;exact this
theorem CD.vals {α:Type}{c:Nat}{V:A5->α->List A0->Prop}{w:A5}{b o:Nat}{l:List α}(hc:∀a vs,V w a vs->vs.length=c)(h:CD c V w (some ⟨b,o,none⟩) l):
  ∃m,JC c (V w) l m/\∀(j:Nat) u,m.flatten[j]? =some u->w.cell? ⟨b,o+j,none⟩=some u:=by
 rcases h with rfl|⟨q,r,e,hl,h⟩
 ·exact⟨[],JC.nil _ _,fun j u hj=>by simp at hj⟩
 ·injection e with e;injection e with e1 e2;subst e1 e2;have each:∀i,∃x:List A0,(h:i<l.length)->V w l[i] x/\∀(j:Nat) v,x[j]? =some v->w.cell? ⟨b,o+i*c+j,none⟩=some v:=by
   intro i;by_cases hi:i<l.length
   ·obtain⟨vs,h1,h2⟩:=h i hi;exact⟨vs,fun _=>⟨h1,h2⟩⟩
   ·exact⟨[],fun h=>absurd h hi⟩
  have d:∀x∈(List.range l.length).map fun i=>(each i).choose,x.length=c:=by
   intro x p;obtain⟨i,hi,rfl⟩:=Gf.1 p;exact hc _ _ ((each i).choose_spec (Bt.1 hi)).1
  refine⟨(List.range l.length).map fun i=>(each i).choose,⟨by simp,d,fun i hi=>⟨(each i).choose,by simp[hi],((each i).choose_spec hi).1⟩⟩,fun j u hj=>?_⟩;have f:=(Gd.1 hj).1;rw[Tn _ d,G9,Gl] at f;have g:0<c:=Nat.pos_of_ne_zero (fun h=>by subst h;simp at f);have hi:j / c<l.length:=(Nat.div_lt_iff_lt_mul g).2 f
  have hm:j%c<c:=Nat.mod_lt _ g;have n:j / c*c+j%c=j:=by rw[C9];exact Ix j c
  have k:=RR _ d (j / c) (by simpa using hi) (j%c) hm;rw[n,hj] at k;have e:((List.range l.length).map fun i=>(each i).choose)[j / c]'(by simpa using hi)=(each (j / c)).choose:=by simp
  rw[e] at k;have:=((each (j / c)).choose_spec hi).2 (j%c) u k.symm;rwa [Ay,n] at this
theorem CD.const {α:Type}{c:Nat}{V:A5->α->List A0->Prop}{w x:A5}{q:Option Addr}{l:List α}(h:CD c V w q l)(d:Below w.heap.size w x):CD c (fun _=>V w) x q l:=by
 rcases h with h|⟨b,o,rfl,hl,h⟩
 ·exact .inl h
 ·refine .inr ⟨b,o,rfl,Bg hl d.size,fun i hi=>?_⟩;obtain⟨vs,h1,h2⟩:=h i hi;exact⟨vs,h1,fun j v hj=>(G3 (a:=⟨b,o+i*c+j,none⟩) (d.block b hl)).trans (h2 j v hj)⟩
theorem AX.less {α:Type}{c:Nat}{e:A7}{V:α->List A0->Prop}{w:A5}{base a:Nat}{v:A0}{l:List α}(h:AX c e V w base v l)(d:a<=base):AX c e V w a v l:=by
 obtain⟨f,h1,h2,h3⟩:=h;refine⟨f,h1,h2,?_⟩;rcases h3 with h3|⟨g,cap,b,i,j,h4⟩
 ·exact .inl h3
 ·exact .inr ⟨g,cap,b,i,Eg d j,h4⟩
theorem F5.shape {w:A5}{c:Cel}{vs:List A0}(h:F5 w c vs):vs.length=18/\∀u∈vs,u.oneCell'=true:=by
 obtain⟨p,cap,rfl,-,-⟩:=h;refine⟨rfl,fun u a=>?_⟩;simp only[AJ,Ei,Ej,Eo] at a;rcases a with rfl|rfl|rfl|rfl|rfl|rfl|rfl|rfl|rfl|rfl|rfl|rfl|rfl|rfl|rfl|rfl|rfl|rfl <;> rfl
theorem qG {α:Type}{P:Program}{w w0:A5}{ops:Array A4}{rest:List A4}{o:A4}{a:Act}{Q:Exit->Act->A5->Prop}{s x:A8}{t e:A7}{base c bytes cap:Nat}{i:TypeInfo}{z v:A0}{V:A5->α->List A0->Prop}{l m:List α}{q:Option Addr}
  (B:o.guard=none)(ho:o.op=.call {callee:=.builtin .append,args:=#[s,x],argTypes:=#[t,t]})
  (ht:P.underlying t=some (.slice e))(hi:P.info? e=some i)(T:i.zero=some z)(I:z.cells.size=c)(n:i.size=c)(J:i.bytes=bytes)(K:0<c)
  (hs:a.eval s=v)(L:a.eval x=.slice q m.length cap)(U:q=none->cap=0)(C:AX c e (V w0) w base v l)(hm:CD c V w q m)(W:∀b vs,V w b vs->V w0 b vs)(hc:∀b vs,V w b vs->vs.length=c/\∀u∈vs,u.oneCell'=true)
  (M:l.length+m.length<=maxLen)(f:(l.length+m.length)*bytes<=140737488355328)(p:base<=w.heap.size)
  (h:∀F D,AX c e (V w0) D base F (l++m)->w.grownBy D v.ownBlock->wpList P ops Q rest (a.put o.dst F) D):wpList P ops Q (o::rest) a w:=by
 obtain⟨G,E,N⟩:=C;cases q with
 |none=>
  have O:m=[]:=by
   rcases hm with hm|⟨b,o,e,_⟩
   ·exact hm
   ·cases e
  subst O;rw[U rfl] at L;refine wpList_append_own_none B s x t ho base e i c ht hi v l.length G.flatten hs N L ?_;exact h v w (by rw[Fb];exact⟨G,E,N⟩) ⟨rfl,rfl,rfl,Ba _,fun _ _ _=>rfl⟩
 |some ad=>
  obtain⟨g,d,r⟩:∃g,JC c (V w) m g/\∀(j:Nat) u,g.flatten[j]? =some u->w.cell? (ad.add j)=some u:=by
   rcases hm with rfl|⟨b,o,e,hm⟩
   ·exact⟨[],JC.nil _ _,fun j u hj=>by simp at hj⟩
   ·injection e with e;subst e;obtain⟨g,h1,h2⟩:=CD.vals (fun b vs hv=>(hc b vs hv).1) (.inr ⟨b,o,rfl,hm⟩);exact⟨g,h1,fun j u hj=>by rw[Gc];exact h2 j u hj⟩
  refine Do w B s x t ho base e i z c bytes ht hi T n J I K v l.length G.flatten hs N ad m.length cap g.flatten L (by rw[Tn g d.2.1,d.1])
   r (fun u R=>?_) M f p fun F D h1 h2 _=>h F D ⟨G++g,E.app ⟨d.1,d.2.1,fun k H=>?_⟩,by rw[B9,List.flatten_append];exact h1⟩ h2
  ·obtain⟨y,X,S⟩:=List.mem_flatten.1 R;obtain⟨k,H,rfl⟩:=O7.1 X;obtain⟨Y,A,hv⟩:=d.2.2 k (by rw[<-d.1];exact H);rw[Fj H] at A;injection A with A;subst A;exact(hc _ _ hv).2 u S
  ·obtain⟨y,A,hv⟩:=d.2.2 k H;exact⟨y,A,W _ _ hv⟩
theorem TT {ops:Array A4}{rest:List A4}{op:A4}{a:Act}{w:A5}{Q:Exit->Act->A5->Prop}(c:op.guard=none)(x:A8)(ho:op.op=.load 77 x)
  (b o:Nat)(d:a.eval x=.pointer (some ⟨b,o,none⟩))(vs:List A0)(hc:w.rangeAt b o vs)(hl:vs.length=18)(h:wpList prog ops Q rest (a.put op.dst (.agg vs.toArray)) w):wpList prog ops Q (op::rest) a w:=
 O8 c _ x ho b o d vs _ hc O5 rfl (by rw[hl];kernel_rfl) h
theorem Xp {ops:Array A4}{rest:List A4}{op:A4}{a:Act}{w:A5}{Q:Exit->Act->A5->Prop}(c:op.guard=none)(x:A8)(ho:op.op=.load 46 x)
  (b o:Nat)(d:a.eval x=.pointer (some ⟨b,o,none⟩))(vs:List A0)(hc:w.rangeAt b o vs)(hl:vs.length=4)(h:wpList prog ops Q rest (a.put op.dst (.agg vs.toArray)) w):wpList prog ops Q (op::rest) a w:=
 O8 c _ x ho b o d vs _ hc O6 rfl (by rw[hl];kernel_rfl) h
theorem tA {ops:Array A4}{rest:List A4}{op:A4}{a:Act}{w:A5}{Q:Exit->Act->A5->Prop}(c:Region.wanted op (yielded ops a.tmps)=true)(x:A8)(ho:op.op=.load 73 x)
  (b o:Nat)(d:a.eval x=.pointer (some ⟨b,o,none⟩))(u v:Int)(hc:w.rangeAt b o [.int .i64 u,.int .i64 v])(h:wpList prog ops Q rest (a.put op.dst (.agg (BN u v))) w):wpList prog ops Q (op::rest) a w:=by
 unfold wpList;rw[Bc c];exact .inl (wp_load_mid _ x ho b o d [.int .i64 u,.int .i64 v] _ hc Gq rfl (by kernel_rfl) h)
theorem MC {P:Program}{T:A7}{Z:Array A0}(h:(P.info? T).map (fun i=>i.zero)=some (some (.agg Z)))(w:A5):(zeroValue T).run P w=.ok (.agg Z) w:=by
 cases hq:P.info? T with
 |none=>rw[hq] at h;cases h
 |some i=>
  rw[hq] at h;have h:i.zero=some (.agg Z):=by simpa using h
  simp[zeroValue,typeInfo,hq,h]
theorem Pr:∃Y:Array A0,Y.size=18/\∀w,(zeroValue 77).run prog w=.ok (.agg Y) w:=⟨(AJ Ec nilS).toArray,rfl,MC (by kernel_rfl)⟩
theorem UC:∃Y:Array A0,Y.size=4/\∀w,(zeroValue 46).run prog w=.ok (.agg Y) w:=⟨#[.bool false,.int .i64 0,.int .i64 0,.slice none 0 0],rfl,MC (by kernel_rfl)⟩
theorem QP {w:A5}{c:Cel}{vs:List A0}(h:F5 w c vs):vs.toArray.all (·.oneCell')=true:=by
 rw[G7];exact fun u a=>h.shape.2 u (by simpa using a)
end Go.Proofs.YtjjmalchelniiaaGreatDoor