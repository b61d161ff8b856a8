/- No condition. -/
import Derived.Test.YtjjmalchelniiaaGreatDoorZpa
import Derived.Test.YtjjmalchelniiaaGreatDoorZpd
import Derived.Test.YtjjmalchelniiaaGreatDoorZpg
import Derived.Test.YtjjmalchelniiaaGreatDoorZpi
import Derived.Test.YtjjmalchelniiaaGreatDoorZpj
import Derived.Test.YtjjmalchelniiaaGreatDoorZpn
import Derived.Test.YtjjmalchelniiaaGreatDoorZpo
import Derived.Test.YtjjmalchelniiaaGreatDoorZpbq
import Derived.Great.BuildSlice
open Go.Proofs.Tryz
open Go renaming Value->A0,Addr->Aa,World->A5,TypeId->A7,Oper->A4,Exit->Ag,Operand->A8,TypeInfo->Ab
namespace Go.Proofs.YtjjmalchelniiaaGreatDoor
open Go.RowKit Go.Lib
theorem Wfk{p:Prop}(h:p:=by
 refine .inr ⟨b,o,rfl,Bc c hg.size,fun i hi=>?_⟩;obtain⟨g,j,m⟩:=hc i hi;exact⟨(G4 (a:=⟨b,o+i*3,none⟩) d).trans g,(G4 (a:=⟨b,o+i*3+1,none⟩) d).trans j,(G4 (a:=⟨b,o+i*3+2,none⟩) d).trans m⟩):p:=h
theorem zT{p:Prop}(h:p:=by cases hk):p:=h
theorem zU{p:Prop}(h:p:=by rw[<-hk];exact Ez ..):p:=h
abbrev Ov:=@wpList_buildSlice
abbrev Ow:=@run_append_own
abbrev Ox:=@List.map_toArray
abbrev Oy:=@underlying44
def slP:A0->Option Aa
 |.slice q _ _=>q
 |_=>none
def slC:A0->Nat
 |.slice _ _ c=>c
 |_=>0
theorem MZ {w:A5}{base e c n:Nat}{v:A0}{a:List A0}(h:w.ownsRow base e c v n a):v=.slice (slP v) n (slC v)/\(slP v=none->slC v=0)/\v.oneCell'=true:=by
 rcases h.2 with ⟨rfl,rfl⟩|⟨g,cap,b,rfl,_⟩
 ·exact⟨rfl,fun _=>rfl,rfl⟩
 ·exact⟨rfl,(fun h=>uA),rfl⟩
theorem Qab {c:Cel}{sl sl':Nat->A0}(h:∀i,i<6->sl i=sl' i):AD c sl=AD c sl':=by
 unfold AD;rw[h 0 sX,h 1 sX,h 2 sX,h 3 sX,h 4 sX,h 5 sX]
theorem lN {w x:A5}{base e c n:Nat}{v:A0}{a:List A0}(h:w.ownsRow base e c v n a)(b:Below w.heap.size w x):x.ownsRow base e c v n a:=
 h.kept (BF b none) (by cases hv:v.ownBlock with|none=>exact .inl rfl|some g=>exact .inr sV)
theorem AO.mono {α:Type}{c:Nat}{e:A7}{V V':α->List A0->Prop}{w:A5}{base:Nat}{v:A0}{l:List α}(h:AO c e V w base v l)(b:∀a vs,V a vs->V' a vs):AO c e V' w base v l:=by
 obtain⟨d,⟨h1,h2,h3⟩,h4⟩:=h;refine⟨d,⟨h1,h2,fun i hi=>?_⟩,h4⟩;obtain⟨x,e1,e2⟩:=h3 i hi;exact⟨x,e1,b _ _ e2⟩
theorem AO.typed {α:Type}{c:Nat}{e:A7}{V:α->List A0->Prop}{w:A5}{base:Nat}{v:A0}{l:List α}(h:AO c e V w base v l):∀g,v.ownBlock=some g->∃a,w.heap[g]? =some (.cells a e (0,0)):=by
 obtain⟨d,_,h2⟩:=h;rcases h2.2 with ⟨rfl,_⟩|⟨g,cap,a,rfl,_,b,_⟩
 ·intro g h;cases h
 ·intro f h;injection h with h;subst h;exact⟨a,b⟩
theorem bX {w:A5}{ops:Array A4}{rest:List A4}{o:A4}{a:Act}{Q:Ag->Act->A5->Prop}(f:o.guard=none)(x:A8)(ho:o.op=.buildSlice 44 1 #[(0,x)])(c:Cel)(sl:Nat->A0)
  (g:a.eval x=.agg (AD c sl).toArray)(h:wpList prog ops Q rest (a.put o.dst (.slice (some ⟨w.heap.size,0,none⟩) 1 1)) (w.alloc (.cells (AD c sl).toArray 77 (0,0)))):wpList prog ops Q (o::rest) a w:=by
 have b:(match prog.info? 77 with
  |some d=>(match d.zero with
   |some z=>if d.size=18 then Instr.fill (fun i=>some (i*d.size,d.size)) ((Array.range (1*d.size)).map (z.cells[· % z.cells.size]!)) [(0,.agg (AD c sl).toArray)] else none
   |none=>none)
  |none=>none)=some (AD c sl).toArray:=tN
 cases hi:prog.info? 77 with
 |none=>rw[hi] at b;cases b
 |some d=>
  rw[hi] at b;cases hz:d.zero with
  |none=>simp only[hz] at b;cases b
  |some z=>
   simp only[hz] at b;by_cases e:d.size=18
   ·rw[Bb e] at b;exact Ov f _ _ 1 _ ho _ d z Oy hi hz (by rw[e];decide) (by rw[e];decide) (by simpa [g] using b) h
   ·rw[Ba e] at b;cases b
theorem Yuf {w:A5}{ops:Array A4}{rest:List A4}{o:A4}{a:Act}{Q:Ag->Act->A5->Prop}(g:o.guard=none)(x y:A8)(ho:o.op=.buildSlice 44 2 #[(0,x),(1,y)])(c d:Cel)(sl sl':Nat->A0)(N:Nat)(j:w.heap.size=N)(t:Tmp)(hd:o.dst=some t)
  (k:a.eval x=.agg (AD c sl).toArray)(l:a.eval y=.agg (AD d sl').toArray)(h:wpList prog ops Q rest (a.put (some t) (.slice (some ⟨N,0,none⟩) 2 2)) (w.alloc (.cells (AD c sl++AD d sl').toArray 77 (0,0)))):wpList prog ops Q (o::rest) a w:=by
 have b:(match prog.info? 77 with
  |some e=>(match e.zero with
   |some z=>if e.size=18 then Instr.fill (fun i=>some (i*e.size,e.size)) ((Array.range (2*e.size)).map (z.cells[· % z.cells.size]!)) [(0,.agg (AD c sl).toArray),(1,.agg (AD d sl').toArray)] else none
   |none=>none)
  |none=>none)=some (AD c sl++AD d sl').toArray:=tN
 cases hi:prog.info? 77 with
 |none=>rw[hi] at b;cases b
 |some e=>
  rw[hi] at b;cases hz:e.zero with
  |none=>simp only[hz] at b;cases b
  |some z=>
   simp only[hz] at b;by_cases f:e.size=18
   ·rw[Bb f] at b;subst j;rw[<-hd] at h;exact Ov g _ _ 2 _ ho _ e z Oy hi hz (by rw[f];decide) (by rw[f];decide) (by simpa [k,l] using b) h
   ·rw[Ba f] at b;cases b
section
variable {P:Program}
theorem Um {w:A5}{base:Nat}{t ty e:A7}{i:Ab}{z:A0}{size bytes:Nat}(ht:P.underlying t=some (.slice e))(hi:P.info? e=some i)(G:i.zero=some z)(b:i.size=size)(r:i.bytes=bytes)(B:z.cells.size=size)(C:0<size)
  {v:A0}{n:Nat}{y:List A0}(l:w.ownsRow base e size v n y){a:Aa}{m c:Nat}{d:List A0}(hl:d.length=m*size)(h:∀j u,d[j]? =some u->w.cell? (a.add j)=some u)(h1:∀u∈d,u.oneCell'=true)
  (s:n+m<=maxLen)(o:(n+m)*bytes<=140737488355328){H:A0}{I:A5}(hr:(Builtin.append_ #[t,t] ty #[v,.slice (some a) m c]).run P w=.ok H I):
  ∀k,H.ownBlock=some k->v.ownBlock=some k\/w.heap.size<=k:=by
 intro k hk;have A:n+m<=9223372036854775807:=by simp only[maxLen] at s;omega
 rcases l.2 with ⟨rfl,rfl⟩|⟨g,cap,x,rfl,_,hg,J,K,D,E⟩
 ·have L:y=[]:=Dh (by simpa using l.1);subst L;obtain⟨M,N,f,F,-,-⟩:=Ow (P:=P) w w.heap.size t ty e i z size bytes ht hi G b r B C (.slice none 0 0) 0 [] (Dj ..) a m c d hl h h1 s o (B9 _);rw[hr] at f;injection f with e1 e2;subst e1 e2;exact .inr (F.lt k hk).1
 ·by_cases p:n+m<=cap
  ·have hfit:n*i.size+d.length<=x.size:=by rw[hl,D,b,<-Cz];exact Cy _ p
   have f:=run_append_room (P:=P) w t ty e i ht hi g n cap x hg a m c d (by rw[hl,b]) h h1 p hfit;rw[hr] at f;injection f with e1 e2;subst e1;exact .inl hk
  ·have q:∀j u,y[j]? =some u->w.cell? ((⟨g,0,none⟩:Aa).add j)=some u:=l.cells (g:=g) rfl;have f:=run_append_grow (P:=P) w t ty e i z ht hi G ⟨g,0,none⟩ n cap y (by rw[l.1,b]) q a m c d (by rw[hl,b]) h sX sX (growslice_fits sX (by rw[r];exact o));rw[hr] at f;injection f with e1 e2;subst e1;injection hk with hk;exact .inr (Ge hk)
theorem O2 {α:Type}{w:A5}{ops:Array A4}{rest:List A4}{o:A4}{a:Act}{Q:Ag->Act->A5->Prop}{s x:A8}{t e:A7}{base c bytes cap K:Nat}{i:Ab}{z v:A0}{V:α->List A0->Prop}{l:List α}{y:α}{vs:List A0}
  (G:o.guard=none)(ho:o.op=.call {callee:=.builtin .append,args:=#[s,x],argTypes:=#[t,t]})
  (ht:P.underlying t=some (.slice e))(hi:P.info? e=some i)(J:i.zero=some z)(r:z.cells.size=c)(d:i.size=c)(A:i.bytes=bytes)(B:0<c)
  (hs:a.eval s=v)(N:a.eval x=.slice (some ⟨K,0,none⟩) 1 cap)(C:AO c e V w base v l)(O:V y vs)(m:vs.length=c)(D:∀u∈vs,u.oneCell'=true)(n:∀(j:Nat) u,vs[j]? =some u->w.cell? ⟨K,j,none⟩=some u)
  (E:l.length+1<=maxLen)(b:(l.length+1)*bytes<=140737488355328)(p:base<=w.heap.size)
  (h:∀(q:Option Aa) (f:Nat) F,AO c e V F base (.slice q (l.length+1) f) (l++[y])->w.grownBy F v.ownBlock->(∀k,(Value.slice q (l.length+1) f).ownBlock=some k->v.ownBlock=some k\/w.heap.size<=k)->wpList P ops Q rest (a.put o.dst (.slice q (l.length+1) f)) F):wpList P ops Q (o::rest) a w:=by
 obtain⟨L,H,M⟩:=C;refine Ex G fun T R=>?_;have g:∀(j:Nat) u,vs[j]? =some u->w.cell? ((⟨K,0,none⟩:Aa).add j)=some u:=fun j u hj=>by rw[Gh,Ar];exact n j u hj
 obtain⟨U,F,hr,h2,h3,-⟩:=Ow (P:=P) w base t o.type e i z c bytes ht hi J d A r B v l.length L.flatten M ⟨K,0,none⟩ 1 cap vs (by rw[m,Nat.one_mul]) g D E b p;have h4:=Um ht hi J d A r B M (by rw[m,Nat.one_mul]) g D E b hr;unfold Oper.wp execOp;simp only[ho,resolve,invoke,builtin,As,Aw,Ap,Ox,Cn,Cs,hs,N,hr];have S:=(MZ h2).1;rw[S] at h2 h4 ⊢;refine R _ _ (h _ _ F ⟨L++[vs],H.app ⟨rfl,(fun u I=>by rw[Df.1 I];exact m),fun k hk=>?_⟩,by rw[List.flatten_append,B8];simpa using h2⟩ h3 h4);obtain rfl:k=0:=by simpa using hk
 exact⟨vs,rfl,O⟩
theorem eD {w:A5}{ops:Array A4}{rest:List A4}{o:A4}{a:Act}{Q:Ag->Act->A5->Prop}{s x:A8}{t e:A7}{cap K:Nat}{i:Ab}{z v:A0}{n:Nat}{r:List A0}{y0 y1:Int}
  (y:o.guard=none)(ho:o.op=.call {callee:=.builtin .append,args:=#[s,x],argTypes:=#[t,t]})
  (ht:P.underlying t=some (.slice e))(hi:P.info? e=some i)(A:i.zero=some z)(g:z.cells.size=2)(b:i.size=2)(l:i.bytes=16)
  (hs:a.eval s=v)(f:w.ownsRow 0 e 2 v n r)(D:a.eval x=.slice (some ⟨K,0,none⟩) 1 cap)(c0:w.cell? ⟨K,0,none⟩=some (.int .i64 y0))(c1:w.cell? ⟨K,1,none⟩=some (.int .i64 y1))(hn:n<=1048576)
  (h:∀(q:Option Aa) (c:Nat) m,m.ownsRow 0 e 2 (.slice q (n+1) c) (n+1) (r++[.int .i64 y0,.int .i64 y1])->w.grownBy m v.ownBlock->(∀k,(Value.slice q (n+1) c).ownBlock=some k->v.ownBlock=some k\/w.heap.size<=k)->wpList P ops Q rest (a.put o.dst (.slice q (n+1) c)) m):wpList P ops Q (o::rest) a w:=by
 refine Ex y fun F E=>?_;have d:∀(j:Nat) u,([.int .i64 y0,.int .i64 y1]:List A0)[j]? =some u->w.cell? ((⟨K,0,none⟩:Aa).add j)=some u:=fun j u hj=>by
  rw[Gh,Ar]
  match j,hj with
  |0,hj=>cases hj;exact c0
  |1,hj=>cases hj;exact c1
 have p:∀u∈([.int .i64 y0,.int .i64 y1]:List A0),u.oneCell'=true:=by intro u B;simp only[Ee,Eg,Ep] at B;rcases B with rfl|rfl <;> rfl
 obtain⟨G,m,hr,h2,h3,-⟩:=Ow (P:=P) w 0 t o.type e i z 2 16 ht hi A b l g sY v n r f ⟨K,0,none⟩ 1 cap _ rfl d p tK sX (Do _);have h4:=Um ht hi A b l g sY f rfl d p tK sX hr;have C:=(MZ h2).1;rw[C] at h2 h4;unfold Oper.wp execOp;simp only[ho,resolve,invoke,builtin,As,Aw,Ap,Ox,Cn,Cs,hs,D,hr];have:=h _ _ m h2 h3 h4;rw[<-C] at this;exact E _ _ this
end
theorem ZU {w:A5}{ops:Array A4}{rest:List A4}{o:A4}{a:Act}{Q:Ag->Act->A5->Prop}(j:o.guard=none)(x:A8)(ho:o.op=.buildSlice 37 1 #[(0,x)])(d e f g:A0)
  (k:a.eval x=.agg #[d,e,f,g])(h:wpList prog ops Q rest (a.put o.dst (.slice (some ⟨w.heap.size,0,none⟩) 1 1)) (w.alloc (.cells #[d,e,f,g] 46 (0,0)))):wpList prog ops Q (o::rest) a w:=by
 have b:(match prog.info? 46 with
  |some c=>(match c.zero with
   |some z=>if c.size=4 then Instr.fill (fun i=>some (i*c.size,c.size)) ((Array.range (1*c.size)).map (z.cells[· % z.cells.size]!)) [(0,.agg #[d,e,f,g])] else none
   |none=>none)
  |none=>none)=some #[d,e,f,g]:=tN
 cases hi:prog.info? 46 with
 |none=>rw[hi] at b;cases b
 |some c=>
  rw[hi] at b;cases hz:c.zero with
  |none=>simp only[hz] at b;cases b
  |some z=>
   simp only[hz] at b;by_cases h4:c.size=4
   ·rw[Bb h4] at b;exact Ov j _ _ 1 _ ho _ c z underlying37 hi hz (by rw[h4];decide) (by rw[h4];decide) (by simpa [k] using b) h
   ·rw[Ba h4] at b;cases b
theorem YF:∃i z,prog.info? 46=some i/\i.zero=some z/\z.cells.size=4/\i.size=4/\i.bytes=48:=by
 have h:(prog.info? 46).map (fun i=>(i.zero.map (·.cells.size),i.size,i.bytes))=some (some 4,4,48):=tN;generalize prog.info? 46=x at h
 match x,h with
 |some i,h=>
  rw[Lo] at h;injection h with h;injection h with h1 h2;injection h2 with h2 h3;cases hz:i.zero with
  |none=>rw[hz] at h1;cases h1
  |some z=>
   rw[hz] at h1;injection h1 with h1;exact⟨i,z,rfl,hz,h1,h2,h3⟩
def DR (L:List (Option Nat))(w:A5)(p:Option Aa)(l:List Ev):Prop:=CX w p l/\(l=[]\/∃b o,p=some ⟨b,o,none⟩/\some b∉L)
section
variable {L L':List (Option Nat)}{w x:A5}{row:Option Nat}
theorem DR.kept {p:Option Aa}{l:List Ev}(h:DR L w p l)(hg:w.grownBy x row)(hr:∀k,row=some k->some k∈L):DR L x p l:=by
 obtain⟨h1,h2⟩:=h;refine⟨?_,h2⟩;rcases h2 with rfl|⟨b,o,rfl,f⟩
 ·exact .inl rfl
 ·rcases h1 with rfl|⟨n,q,e,c,hc⟩
  ·exact .inl rfl
  ·injection e with e;injection e with e1 e2;subst e1 e2;have d:x.heap[b]? =w.heap[b]?:=hg.block b c fun e=>f (hr b e.symm);exact Wfk
theorem DR.mono {p:Option Aa}{l:List Ev}(h:DR L w p l)(c:∀k,k<w.heap.size->some k∉L->some k∉L'):DR L' w p l:=by
 obtain⟨h1,h2⟩:=h;refine⟨h1,?_⟩;rcases h2 with rfl|⟨b,o,rfl,d⟩
 ·exact .inl rfl
 ·rcases h1 with rfl|⟨f,g,e,a,_⟩
  ·exact .inl rfl
  ·injection e with e;injection e with e1 e2;subst e1 e2;exact .inr ⟨b,o,rfl,c b a d⟩
def CQ (L:List (Option Nat))(w:A5)(c:Cel)(vs:List A0):Prop:=
 ∃(p:Nat->Option Aa) (cap:Nat->Nat),vs=AD c (fun i=>.slice (p i) (c.ev i).length (cap i))/\((Lit.int .i64 c.mx).wf=true/\(Lit.int .i64 c.my).wf=true)/\∀i,i<6->(c.ev i).length<=maxLen/\DR L w (p i) (c.ev i)
theorem CQ.kept {c:Cel}{vs:List A0}(h:CQ L w c vs)(hg:w.grownBy x row)(hr:∀k,row=some k->some k∈L):CQ L x c vs:=by
 obtain⟨p,cap,h1,h2,h3⟩:=h;exact⟨p,cap,h1,h2,fun i hi=>⟨(h3 i hi).1,(h3 i hi).2.kept hg hr⟩⟩
theorem CQ.mono {c:Cel}{vs:List A0}(h:CQ L w c vs)(a:∀k,k<w.heap.size->some k∉L->some k∉L'):CQ L' w c vs:=by
 obtain⟨p,cap,h1,h2,h3⟩:=h;exact⟨p,cap,h1,h2,fun i hi=>⟨(h3 i hi).1,(h3 i hi).2.mono a⟩⟩
theorem CQ.cel (c:Cel)(vs:List A0)(h:CQ L w c vs):JM w c vs:=by
 obtain⟨p,cap,h1,h2,h3⟩:=h;exact⟨p,cap,h1,h2,fun i hi=>⟨(h3 i hi).1,(h3 i hi).2.1⟩⟩
theorem CQ.shape {c:Cel}{vs:List A0}(h:CQ L w c vs):vs.length=18/\∀u∈vs,u.oneCell'=true:=(CQ.cel c vs h).shape
def EU (L:List (Option Nat))(w:A5)(v:A0)(l:List Cel):Prop:=AO 18 77 (CQ L w) w 0 v l
theorem EU.nil (L:List (Option Nat))(w:A5):EU L w (.slice none 0 0) []:=AO.nil ..
theorem EU.kept {v:A0}{l:List Cel}(h:EU L w v l)(hg:w.grownBy x row)(hr:∀k,row=some k->some k∈L)(hv:∀k,row=some k->v.ownBlock≠some k):EU L x v l:=
 AO.mono (AO.kept h hg (by
  cases e:v.ownBlock with
  |none=>exact .inl rfl
  |some g=>exact .inr fun e2=>hv g e2.symm e)) fun _ _ hc=>hc.kept hg hr
theorem EU.mono {v:A0}{l:List Cel}(h:EU L w v l)(a:∀k,k<w.heap.size->some k∉L->some k∉L'):EU L' w v l:=AO.mono h fun _ _ hc=>hc.mono a
theorem AO.lt {α:Type}{c:Nat}{e:A7}{V:α->List A0->Prop}{base:Nat}{v:A0}{l:List α}(h:AO c e V w base v l):∀k,v.ownBlock=some k->k<w.heap.size:=by
 obtain⟨a,_,h2⟩:=h;exact fun k hk=>(h2.lt k hk).2
def CT (L:List (Option Nat))(w:A5)(r:RowP)(vs:List A0):Prop:=
 ∃sl,vs=[.bool r.head,.int .i64 r.id,.int .i64 r.quant,sl]/\EU L w sl r.cels/\r.cels.length<=maxLen/\∀k,sl.ownBlock=some k->some k∉L
theorem CT.kept {r:RowP}{vs:List A0}(h:CT L w r vs)(hg:w.grownBy x row)(hr:∀k,row=some k->some k∈L):CT L x r vs:=by
 obtain⟨sl,h1,h2,h3,h4⟩:=h;exact⟨sl,h1,h2.kept hg hr (fun k hk e=>h4 k e (hr k hk)),h3,h4⟩
theorem CT.mono {r:RowP}{vs:List A0}(h:CT L w r vs)(a:∀k,k<w.heap.size->some k∉L->some k∉L'):CT L' w r vs:=by
 obtain⟨sl,h1,h2,h3,h4⟩:=h;exact⟨sl,h1,h2.mono a,h3,fun k hk=>a k (AO.lt h2 k hk) (h4 k hk)⟩
theorem CT.rowV (r:RowP)(vs:List A0)(h:CT L w r vs):OT w r vs:=by
 obtain⟨sl,rfl,h2,h3,-⟩:=h;obtain⟨a,b,ho⟩:=h2;obtain⟨e1,e2,-⟩:=MZ ho;obtain⟨q,cap,e,hm⟩:=AO.many (V':=JM) ⟨a,b,ho⟩ CQ.cel;refine⟨q,cap,by rw[e],fun c=>?_,h3,hm⟩;rw[e] at e2;exact e2 c
theorem CT.shape {r:RowP}{vs:List A0}(h:CT L w r vs):vs.length=4/\∀u∈vs,u.oneCell'=true:=by
 obtain⟨sl,rfl,⟨b,c,ho⟩,-,-⟩:=h;refine⟨rfl,fun u a=>?_⟩;simp only[Ee,Eg,Ep] at a;rcases a with rfl|rfl|rfl|rfl
 ·rfl
 ·rfl
 ·rfl
 ·exact(MZ ho).2.2
def E3 (L:List (Option Nat))(w:A5)(v:A0)(l:List RowP):Prop:=AO 4 46 (CT L w) w 0 v l
theorem E3.nil (L:List (Option Nat))(w:A5):E3 L w (.slice none 0 0) []:=AO.nil ..
theorem E3.kept {v:A0}{l:List RowP}(h:E3 L w v l)(hg:w.grownBy x row)(hr:∀k,row=some k->some k∈L)(hv:∀k,row=some k->v.ownBlock≠some k):E3 L x v l:=
 AO.mono (AO.kept h hg (by
  cases e:v.ownBlock with
  |none=>exact .inl rfl
  |some g=>exact .inr fun e2=>hv g e2.symm e)) fun _ _ hc=>hc.kept hg hr
theorem E3.mono {v:A0}{l:List RowP}(h:E3 L w v l)(a:∀k,k<w.heap.size->some k∉L->some k∉L'):E3 L' w v l:=AO.mono h fun _ _ hc=>hc.mono a
theorem E3.rows {v:A0}{l:List RowP}(h:E3 L w v l):∃(q:Option Aa) (cap:Nat),v=.slice q l.length cap/\HU w q l:=AO.many h CT.rowV
end
def E8 (n:Nat):List (Option Nat):=(List.range n).map some
theorem IK {n j:Nat}:some j∈E8 n↔j<n:=by simp[E8]
structure Yqf (w0 w:A5) (A X Z:Nat) (Y SZ:Array A0) (hd:Shd) (a:Option Aa) (ca:Nat) (rv vv:A0) (rs:List RowP) (vs:List (Int×Int)) (L:List (Option Nat)):Prop where
 low:Below w0.heap.size w0 w
 res:w.heap[A]? =some (.cells Y 39 (0,0))
 sht:w.heap[X]? =some (.cells (AU hd (.slice a hd.supp.length ca) rv 0).toArray 39 (0,0))
 siz:w.heap[Z]? =some (.cells SZ 81 (0,0))
 sup:BO w a hd.supp/\(hd.supp=[]\/∃b o,a=some ⟨b,o,none⟩/\some b∉L)
 row:E3 L w rv rs
 vec:w.ownsRow 0 73 2 vv vs.length (GY vs)
 ord:w0.heap.size<=A/\A<w.heap.size/\X<w.heap.size/\Z<w.heap.size/\A≠X/\A≠Z/\X≠Z
 inX:some X∈L
 inR:∀k,rv.ownBlock=some k->some k∈L/\k≠X
 inV:∀k,vv.ownBlock=some k->some k∈L/\k≠X
 ne:∀k,rv.ownBlock=some k->vv.ownBlock≠some k
 off:∀k,some k∈L->k≠A/\k≠Z
 lows:∀k,k<w0.heap.size->some k∈L
 own:w0.heap.size<=X/\(∀k,rv.ownBlock=some k->w0.heap.size<=k)/\∀k,vv.ownBlock=some k->w0.heap.size<=k
section
variable {w0 w z:A5}{A X Z:Nat}{Y SZ:Array A0}{hd:Shd}{a:Option Aa}{ca:Nat}{rv vv rv' vv':A0}{rs:List RowP}{vs:List (Int×Int)}{L L':List (Option Nat)}{row:Option Nat}
theorem BO.kept {l:List Int}{p:Option Aa}(h:BO w p l)(d:l=[]\/∃b o,p=some ⟨b,o,none⟩/\some b∉L)(hg:w.grownBy z row)(hr:∀k,row=some k->some k∈L):BO z p l:=by
 rcases d with rfl|⟨b,o,rfl,f⟩
 ·exact BO.nil _ _
 ·rcases h with h|⟨g,j,e,c,hc⟩
  ·exact .inl h
  ·injection e with e;injection e with e1 e2;subst e1 e2;refine .inr ⟨b,o,rfl,Bc c hg.size,fun i hi=>?_⟩;exact(G4 (a:=⟨b,o+i,none⟩) (hg.block b c fun e=>f (hr b e.symm))).trans (hc i hi)
theorem Yqf.grow (h:Yqf w0 w A X Z Y SZ hd a ca rv vv rs vs L)(hg:w.grownBy z row)(hr:∀k,row=some k->some k∈L/\k≠X/\rv.ownBlock≠some k/\vv.ownBlock≠some k/\w0.heap.size<=k):Yqf w0 z A X Z Y SZ hd a ca rv vv rs vs L where
 low:=h.low.grown hg h.low.size fun k hk=>(hr k hk).2.2.2.2
 res:=(hg.block A h.ord.2.1 fun e=>(h.off A (hr A e.symm).1).1 rfl).trans h.res
 sht:=(hg.block X h.ord.2.2.1 fun e=>(hr X e.symm).2.1 rfl).trans h.sht
 siz:=(hg.block Z h.ord.2.2.2.1 fun e=>(h.off Z (hr Z e.symm).1).2 rfl).trans h.siz
 sup:=⟨h.sup.1.kept h.sup.2 hg fun k hk=>(hr k hk).1,h.sup.2⟩
 row:=h.row.kept hg (fun k hk=>(hr k hk).1) fun k hk=>(hr k hk).2.2.1
 vec:=h.vec.kept hg (by
  cases e:vv.ownBlock with
  |none=>exact .inl rfl
  |some g=>exact .inr fun e2=>(hr g e2.symm).2.2.2.1 e)
 ord:=by have:=hg.size;have:=h.ord;omega
 inX:=h.inX
 inR:=h.inR
 inV:=h.inV
 ne:=h.ne
 off:=h.off
 lows:=h.lows
 own:=h.own
theorem Yqf.move (h:Yqf w0 w A X Z Y SZ hd a ca rv vv rs vs L)(b:Below w.heap.size w z):Yqf w0 z A X Z Y SZ hd a ca rv vv rs vs L:=h.grow (BF b none) fun k hk=>zT
theorem Yqf.mono (h:Yqf w0 w A X Z Y SZ hd a ca rv vv rs vs L)(f:∀k,k<w.heap.size->some k∉L->some k∉L')(g:some X∈L')(i:∀k,rv.ownBlock=some k->some k∈L')(j:∀k,vv.ownBlock=some k->some k∈L')(ho:∀k,some k∈L'->k≠A/\k≠Z)(hl:∀k,k<w0.heap.size->some k∈L'):Yqf w0 w A X Z Y SZ hd a ca rv vv rs vs L' where
 low:=h.low
 res:=h.res
 sht:=h.sht
 siz:=h.siz
 sup:=by
  refine⟨h.sup.1,?_⟩;rcases h.sup.2 with h1|⟨b,o,e,l⟩
  ·exact .inl h1
  ·rcases h.sup.1 with h2|⟨m,n,c,d,_⟩
   ·exact .inl (Dh h2)
   ·rw[e] at c;injection c with c;injection c with e1 e2;subst e1;exact .inr ⟨b,o,e,f b d l⟩
 row:=h.row.mono f
 vec:=h.vec
 ord:=h.ord
 inX:=g
 inR:=fun k hk=>⟨i k hk,(h.inR k hk).2⟩
 inV:=fun k hk=>⟨j k hk,(h.inV k hk).2⟩
 ne:=h.ne
 off:=ho
 lows:=hl
 own:=h.own
theorem Yqf.more (h:Yqf w0 w A X Z Y SZ hd a ca rv vv rs vs L){R:Nat}(b:w.heap.size<=R):Yqf w0 w A X Z Y SZ hd a ca rv vv rs vs (some R::L):=
 h.mono (fun k hk hn hm=>by
  rcases Ee.1 hm with e|e
  ·injection e with e;omega
  ·exact hn e) (Ey _ h.inX) (fun k hk=>Ey _ (h.inR k hk).1) (fun k hk=>Ey _ (h.inV k hk).1) (fun k hk=>by
  rcases Ee.1 hk with e|e
  ·injection e with e;have:=h.ord;omega
  ·exact h.off k e) fun k hk=>Ey _ (h.lows k hk)
theorem Yqf.vecs {v:Int×Int}(h:Yqf w0 w A X Z Y SZ hd a ca rv vv rs vs L)(hg:w.grownBy z vv.ownBlock)(ho:z.ownsRow 0 73 2 vv' (vs.length+1) (GY vs++[.int .i64 v.1,.int .i64 v.2]))(j:∀k,vv'.ownBlock=some k->vv.ownBlock=some k\/w.heap.size<=k):
  Yqf w0 z A X Z Y SZ hd a ca rv vv' rs (vs++[v]) (vv'.ownBlock::L):=by
 have f:=fun k hk=>h.inV k hk;have c:∀k,vv.ownBlock=some k->some k∈L:=fun k hk=>(f k hk).1;have h1:∀k,k<w.heap.size->some k∉L->some k∉vv'.ownBlock::L:=fun k hk hn hm=>by
  rcases Ee.1 hm with e|e
  ·rcases j k e.symm with h2|h2
   ·exact hn (f k h2).1
   ·omega
  ·exact hn e
 have d:∀k,vv'.ownBlock=some k->k≠X/\w0.heap.size<=k/\k≠A/\k≠Z/\rv.ownBlock≠some k:=fun k hk=>by
  rcases j k hk with h2|h2
  ·exact⟨(f k h2).2,h.own.2.2 k h2,(h.off k (f k h2).1).1,(h.off k (f k h2).1).2,fun e=>h.ne k e h2⟩
  ·have:=h.ord;have:=h.low.size;exact⟨sX,sX,sX,sX,fun e=>by have:=AO.lt h.row k e;omega⟩
 exact{
  low:=h.low.grown hg h.low.size fun k hk=>h.own.2.2 k hk
  res:=(hg.block A h.ord.2.1 fun e=>(h.off A (c A e.symm)).1 rfl).trans h.res
  sht:=(hg.block X h.ord.2.2.1 fun e=>(f X e.symm).2 rfl).trans h.sht
  siz:=(hg.block Z h.ord.2.2.2.1 fun e=>(h.off Z (c Z e.symm)).2 rfl).trans h.siz
  sup:=by
   refine⟨h.sup.1.kept h.sup.2 hg c,?_⟩;rcases h.sup.2 with h2|⟨b,o,e,l⟩
   ·exact .inl h2
   ·rcases h.sup.1 with h2|⟨m,n,g,i,_⟩
    ·exact .inl (Dh h2)
    ·rw[e] at g;injection g with g;injection g with e1 e2;subst e1;exact .inr ⟨b,o,e,h1 b i l⟩
  row:=by
   have h2:=h.row.mono h1;exact h2.kept hg (fun k hk=>Ey _ (c k hk)) fun k hk e=>h.ne k e hk
  vec:=by rw[B8,Wz];exact ho
  ord:=by have:=hg.size;have:=h.ord;omega
  inX:=Ey _ h.inX
  inR:=fun k hk=>⟨Ey _ (h.inR k hk).1,(h.inR k hk).2⟩
  inV:=fun k hk=>⟨zU,(d k hk).1⟩
  ne:=fun k hk e=>(d k e).2.2.2.2 hk
  off:=fun k hk=>by
   rcases Ee.1 hk with e|e
   ·exact⟨(d k e.symm).2.2.1,(d k e.symm).2.2.2.1⟩
   ·exact h.off k e
  lows:=fun k hk=>Ey _ (h.lows k hk)
  own:=⟨h.own.1,h.own.2.1,fun k hk=>(d k hk).2.1⟩}
theorem Yqf.rows {r:RowP}(h:Yqf w0 w A X Z Y SZ hd a ca rv vv rs vs L)(hg:w.grownBy z rv.ownBlock)(ho:AO 4 46 (CT L w) z 0 rv' (rs++[r]))(p:∀k,rv'.ownBlock=some k->rv.ownBlock=some k\/w.heap.size<=k):
  Yqf w0 (z.setCell ⟨X,6,none⟩ rv') A X Z Y SZ hd a ca rv' vv (rs++[r]) vs (rv'.ownBlock::L):=by
 have i:=fun k hk=>h.inR k hk;have c:∀k,rv.ownBlock=some k->some k∈L:=fun k hk=>(i k hk).1;have d:=D3 z ⟨X,6,none⟩ rv';have h1:∀k,k<w.heap.size->some k∉L->some k∉rv'.ownBlock::L:=fun k hk hn hm=>by
  rcases Ee.1 hm with e|e
  ·rcases p k e.symm with h2|h2
   ·exact hn (i k h2).1
   ·omega
  ·exact hn e
 have f:∀k,rv'.ownBlock=some k->k≠X/\w0.heap.size<=k/\k≠A/\k≠Z/\vv.ownBlock≠some k:=fun k hk=>by
  rcases p k hk with h2|h2
  ·exact⟨(i k h2).2,h.own.2.1 k h2,(h.off k (i k h2).1).1,(h.off k (i k h2).1).2,fun e=>h.ne k h2 e⟩
  ·have:=h.ord;have:=h.low.size;exact⟨sX,sX,sX,sX,fun e=>by have:=(h.vec.lt k e).2;omega⟩
 have l:z.heap[X]? =some (.cells (AU hd (.slice a hd.supp.length ca) rv 0).toArray 39 (0,0)):=(hg.block X h.ord.2.2.1 fun e=>(i X e.symm).2 rfl).trans h.sht;have q:Below w0.heap.size w0 z:=h.low.grown hg h.low.size fun k hk=>h.own.2.1 k hk;have s:=hg.size;have o:=h.ord;have m:∀k,(some X:Option Nat)=some k->some k∈rv'.ownBlock::L:=fun k e=>by
  injection e with e;subst e;exact Ey _ h.inX
 exact{
  low:=q.setCell h.own.1 _
  res:=((d.block A sX fun e=>by injection e with e;exact o.2.2.2.2.1 e).trans (hg.block A o.2.1 fun e=>(h.off A (c A e.symm)).1 rfl)).trans h.res
  sht:=by
   have:=B3 (o:=6) rv' l;exact this
  siz:=((d.block Z sX fun e=>by injection e with e;exact o.2.2.2.2.2.2 e.symm).trans (hg.block Z o.2.2.2.1 fun e=>(h.off Z (c Z e.symm)).2 rfl)).trans h.siz
  sup:=by
   refine⟨(h.sup.1.kept h.sup.2 hg c).kept h.sup.2 d (fun k e=>by injection e with e;subst e;exact h.inX),?_⟩;rcases h.sup.2 with h2|⟨b,o,e,t⟩
   ·exact .inl h2
   ·rcases h.sup.1 with h2|⟨u,v,j,n,_⟩
    ·exact .inl (Dh h2)
    ·rw[e] at j;injection j with j;injection j with e1 e2;subst e1;exact .inr ⟨b,o,e,h1 b n t⟩
  row:=by
   have h2:AO 4 46 (CT L z) z 0 rv' (rs++[r]):=AO.mono ho fun _ _ hv=>hv.kept hg c;have h3:AO 4 46 (CT (rv'.ownBlock::L) z) z 0 rv' (rs++[r]):=AO.mono ho fun _ _ hv=>(hv.mono h1).kept hg fun k hk=>Ey _ (c k hk);exact E3.kept h3 d m fun k e e2=>by
    injection e with e;subst e;exact(f _ e2).1 rfl
  vec:=(h.vec.kept hg (by
   cases e:vv.ownBlock with
   |none=>exact .inl rfl
   |some g=>exact .inr fun e2=>h.ne g e2.symm e)).kept d (by
   cases e:vv.ownBlock with
   |none=>exact .inl rfl
   |some g=>exact .inr fun e2=>by injection e2 with e2;exact(h.inV g e).2 e2)
  ord:=by have:=d.size;omega
  inX:=Ey _ h.inX
  inR:=fun k hk=>⟨zU,(f k hk).1⟩
  inV:=fun k hk=>⟨Ey _ (h.inV k hk).1,(h.inV k hk).2⟩
  ne:=fun k hk=>(f k hk).2.2.2.2
  off:=fun k hk=>by
   rcases Ee.1 hk with e|e
   ·exact⟨(f k e.symm).2.2.1,(f k e.symm).2.2.2.1⟩
   ·exact h.off k e
  lows:=fun k hk=>Ey _ (h.lows k hk)
  own:=⟨h.own.1,fun k hk=>(f k hk).2.1,h.own.2.2⟩}
end
structure Yah (L:List (Option Nat)) (w w':A5):Prop where
 os:w'.os=w.os
 tape:w'.tape=w.tape
 output:w'.output=w.output
 size:w.heap.size<=w'.heap.size
 block:∀k,k<w.heap.size->some k∉L->w'.heap[k]? =w.heap[k]?
section
variable {L M L':List (Option Nat)}{w x z:A5}{row:Option Nat}
theorem Yah.refl (L:List (Option Nat))(w:A5):Yah L w w:=⟨rfl,rfl,rfl,B9 _,fun _ _ _=>rfl⟩
theorem Yah.trans (h:Yah L w x)(k:Yah M x z)(a:∀j,j<w.heap.size->some j∈M->some j∈L):Yah L w z:=
 ⟨k.os.trans h.os,k.tape.trans h.tape,k.output.trans h.output,Ef h.size k.size,fun i hi h1=>(k.block i (Bc hi h.size) fun h2=>h1 (a i hi h2)).trans (h.block i hi h1)⟩
theorem Yah.mono (h:Yah L w x)(a:∀j,j<w.heap.size->some j∈L->some j∈M):Yah M w x:=
 ⟨h.os,h.tape,h.output,h.size,fun i hi h1=>h.block i hi fun h2=>h1 (a i hi h2)⟩
theorem Yah.one (h:w.grownBy x row)(hr:∀k,k<w.heap.size->row=some k->some k∈L):Yah L w x:=
 ⟨h.os,h.tape,h.output,h.size,fun i hi h1=>h.block i hi fun e=>h1 (hr i hi e.symm)⟩
theorem Yah.below (h:Below w.heap.size w x):Yah L w x:=⟨h.os,h.tape,h.output,h.size,fun k hk _=>h.block k hk⟩
theorem Yah.under {N:Nat}(h:Yah L w x)(b:N<=w.heap.size)(a:∀k,some k∈L->N<=k):Below N w x:=
 ⟨h.os,h.tape,h.output,h.size,fun k hk=>h.block k sX fun h1=>by have:=a k h1;omega⟩
theorem Yah.lone {b:Nat}(h:Yah L w x)(a:∀k,k<w.heap.size->some k∈L->k=b):w.grownBy x (some b):=
 ⟨h.os,h.tape,h.output,h.size,fun k hk hn=>h.block k hk fun h1=>hn (by rw[a k hk h1])⟩
theorem Yah.set {p:Aa}(v:A0)(a:some p.block∈L):Yah L w (w.setCell p v):=Yah.one (D3 w p v) fun k _ e=>by injection e with e;subst e;exact a
theorem MX {base e c n:Nat}{v:A0}{b:List A0}(h:w.ownsRow base e c v n b)(hg:Yah M w x)(hv:∀k,v.ownBlock=some k->some k∉M):x.ownsRow base e c v n b:=by
 refine⟨h.1,?_⟩;rcases h.2 with h2|⟨g,cap,a,rfl,f,d,h3⟩
 ·exact .inl h2
 ·exact .inr ⟨g,cap,a,rfl,f,(hg.block g (Am.1 d).1 (hv g rfl)).trans d,h3⟩
theorem DR.keptL {p:Option Aa}{l:List Ev}(h:DR L w p l)(hg:Yah M w x)(hr:∀k,some k∈M->some k∈L):DR L x p l:=by
 obtain⟨h1,h2⟩:=h;refine⟨?_,h2⟩;rcases h2 with rfl|⟨b,o,rfl,f⟩
 ·exact .inl rfl
 ·rcases h1 with rfl|⟨n,q,e,c,hc⟩
  ·exact .inl rfl
  ·injection e with e;injection e with e1 e2;subst e1 e2;have d:x.heap[b]? =w.heap[b]?:=hg.block b c fun e=>f (hr b e);exact Wfk
theorem CQ.keptL {c:Cel}{vs:List A0}(h:CQ L w c vs)(hg:Yah M w x)(hr:∀k,some k∈M->some k∈L):CQ L x c vs:=by
 obtain⟨p,cap,h1,h2,h3⟩:=h;exact⟨p,cap,h1,h2,fun i hi=>⟨(h3 i hi).1,(h3 i hi).2.keptL hg hr⟩⟩
theorem AO.keptL {α:Type}{c:Nat}{e:A7}{V:α->List A0->Prop}{base:Nat}{v:A0}{l:List α}(h:AO c e V w base v l)(hg:Yah M w x)(hv:∀k,v.ownBlock=some k->some k∉M):AO c e V x base v l:=by
 obtain⟨a,h1,h2⟩:=h;exact⟨a,h1,MX h2 hg hv⟩
theorem EU.keptL {v:A0}{l:List Cel}(h:EU L w v l)(hg:Yah M w x)(hr:∀k,some k∈M->some k∈L)(hv:∀k,v.ownBlock=some k->some k∉M):EU L x v l:=
 AO.mono (AO.keptL h hg hv) fun _ _ hc=>hc.keptL hg hr
theorem CT.keptL {r:RowP}{vs:List A0}(h:CT L w r vs)(hg:Yah M w x)(hr:∀k,some k∈M->some k∈L):CT L x r vs:=by
 obtain⟨sl,h1,h2,h3,h4⟩:=h;exact⟨sl,h1,h2.keptL hg hr (fun k e hk=>h4 k e (hr k hk)),h3,h4⟩
theorem E3.keptL {v:A0}{l:List RowP}(h:E3 L w v l)(hg:Yah M w x)(hr:∀k,some k∈M->some k∈L)(hv:∀k,v.ownBlock=some k->some k∉M):E3 L x v l:=
 AO.mono (AO.keptL h hg hv) fun _ _ hc=>hc.keptL hg hr
theorem BO.keptL {l:List Int}{p:Option Aa}(h:BO w p l)(d:∀a,p=some a->some a.block∉M)(hg:Yah M w x):BO x p l:=by
 rcases h with h|⟨b,o,e,c,hc⟩
 ·exact .inl h
 ·refine .inr ⟨b,o,e,Bc c hg.size,fun i hi=>?_⟩;exact(G4 (a:=⟨b,o+i,none⟩) (hg.block b c (d _ e))).trans (hc i hi)
end
theorem Qfo:∃Y:Array A0,Y.size=4/\∀w,(zeroValue 81).run prog w=.ok (.agg Y) w:=⟨#[.int .i64 0,.int .i64 0,.int .i64 0,.int .i64 0],rfl,KL tN⟩
theorem OU (k:Int):0<=BE k/\BE k<=100/\0<=BQ k/\BQ k<=100/\(acr k:Int)<=100:=by
 rcases KD k with rfl|rfl|rfl|rfl|rfl|rfl|⟨h,hv⟩
 case _|_|_|_|_|_=>decide +kernel
 unfold BE BQ acr AY DF;rw[hv]
 decide
theorem TZ {w w0:A5}{N C:Nat}{T:A7}{Y Z:Array A0}(h:w.heap[C]? =some (.cells Y T (0,0)))(b:Below N w0 w)(d:N<=C)(c:N<=w.heap.size):
  ∃a,w.setRow C Z=a/\a.heap[C]? =some (.cells Z T (0,0))/\Below N w0 a/\w.grownBy a (some C):=by
 have hg:w.grownBy (w.setRow C Z) (some C):=⟨rfl,rfl,rfl,sV,fun k _ hk=>En _ _ _ _ tX⟩;exact⟨_,rfl,Es _ _ _ _ _ _ h,b.grown hg c (fun k hk=>vW),hg⟩
theorem NE (c:Cel)(sl:Nat->A0)(h:∀i,i<6->(sl i).oneCell'=true):(AD c sl).toArray.all (·.oneCell')=true:=by
 rw[Gb];intro v hv;have hm:v∈AD c sl:=by simpa using hv
 simp only[AD,Ee,Eg,Ep] at hm;rcases hm with rfl|rfl|rfl|rfl|rfl|rfl|rfl|rfl|rfl|rfl|rfl|rfl|rfl|rfl|rfl|rfl|rfl|rfl
 all_goals first|rfl|exact h _ sX
theorem YZ {ops:Array A4}{rest:List A4}{op:A4}{a:Act}{w:A5}{Q:Ag->Act->A5->Prop}(c:op.guard=none)(x:A8)(ho:op.op=.load 73 x)
  (b o:Nat)(d:a.eval x=.pointer (some ⟨b,o,none⟩))(u v:Int)(hc:w.rangeAt b o [.int .i64 u,.int .i64 v])(h:wpList prog ops Q rest (a.put op.dst (.agg #[.int .i64 u,.int .i64 v])) w):wpList prog ops Q (op::rest) a w:=
 Iq c _ x ho b o d [.int .i64 u,.int .i64 v] _ hc Gr rfl tN h
theorem ZZ {Q:Nat->Option Aa->Nat->Prop}(h:∀i,i<6->∃P cap,Q i P cap):∃(p:Nat->Option Aa) (cap:Nat->Nat),∀i,i<6->Q i (p i) (cap i):=by
 refine⟨fun i=>if h':i<6 then (h i h').choose else none,fun i=>if h':i<6 then (h i h').choose_spec.choose else 0,fun i hi=>?_⟩;simp only[dif_pos hi];exact(h i hi).choose_spec.choose_spec
theorem aI {c:Cel}{sl sl':Nat->A0}(h:∀i,i<6->sl i=sl' i):AD c sl=AD c sl':=by
 unfold AD;rw[h 0 sX,h 1 sX,h 2 sX,h 3 sX,h 4 sX,h 5 sX]
theorem To (w:A5):(zeroValue 46).run prog w=.ok (.agg [.bool false,.int .i64 0,.int .i64 0,.slice none 0 0].toArray) w:=KL tN w
theorem Qkh {P:Program}{ops:Array A4}{rest:List A4}{S:A5->Prop}{Q:Act->Prop}{o:A4}{a:Act}(ty:A7)(x:A8)(b p:Nat)(cs:List A0)(d:TypeDesc)(c:Region.wanted o (yielded ops a.tmps)=true)(ho:o.op=.load ty x)(e:a.eval x=.pointer (some ⟨b,p,none⟩))
  (hc:∀w,S w->w.rangeAt b p cs)(f:P.underlying ty=some d)(hd:d.isRow=true)(hi:(P.info? ty).map (·.size)=some cs.length)(h:GA P ops S Q rest (a.put o.dst (.agg cs.toArray))):GA P ops S Q (o::rest) a:=
 B1 c (fun w g=>by
  unfold execOp;simp only[ho,e,Instr.loadAt,Instr.sureAddr,As,Aw,Ap,I0 w b p ty cs d (hc w g) f hd hi]) h
structure Yz5 (w0 w:A5) (A X Z:Nat) (Y SZ:Array A0) (hd:Shd) (a:Option Aa) (ca:Nat) (rv vv:A0) (rs:List RowP) (vs:List (Int×Int)) (R:Nat) (b:Bool) (id qu:Int) (cv:A0) (cs:List Cel) (L1 L:List (Option Nat)):Prop where
 out:Yqf w0 w A X Z Y SZ hd a ca rv vv rs vs L
 rowc:w.heap[R]? =some (.cells [.bool b,.int .i64 id,.int .i64 qu,cv].toArray 46 (0,0))
 cel:EU L w cv cs
 rin:some R∈L/\R≠X/\rv.ownBlock≠some R/\vv.ownBlock≠some R/\R<w.heap.size
 lows:∀k,k<w0.heap.size->some k∈L1
 off:w0.heap.size<=R/\∀k,cv.ownBlock=some k->w0.heap.size<=k
 cin:∀k,cv.ownBlock=some k->some k∈L/\k≠X/\k≠R/\rv.ownBlock≠some k/\vv.ownBlock≠some k
 sub:(∀x,x∈L1->x∈L)/\some X∈L1/\(∀k,rv.ownBlock=some k->some k∈L1)/\∀k,vv.ownBlock=some k->some k∈L1
 lb:∀k,some k∈L->k<w.heap.size
 cvn:∀k,cv.ownBlock=some k->some k∉L1
section
variable {w0 w z:A5}{A X Z R:Nat}{Y SZ:Array A0}{hd:Shd}{a:Option Aa}{ca:Nat}{rv vv rv' vv' cv cv':A0}{rs:List RowP}{vs:List (Int×Int)}{L L1 L':List (Option Nat)}{b:Bool}{id qu:Int}{cs:List Cel}
theorem Yz5.move (h:Yz5 w0 w A X Z Y SZ hd a ca rv vv rs vs R b id qu cv cs L1 L)(c:Below w.heap.size w z):Yz5 w0 z A X Z Y SZ hd a ca rv vv rs vs R b id qu cv cs L1 L where
 out:=h.out.move c
 rowc:=(c.block R h.rin.2.2.2.2).trans h.rowc
 cel:=h.cel.kept (BF c none) (fun k hk=>zT) fun k hk=>zT
 rin:=⟨h.rin.1,h.rin.2.1,h.rin.2.2.1,h.rin.2.2.2.1,Bc h.rin.2.2.2.2 c.size⟩
 lows:=h.lows
 off:=h.off
 cin:=h.cin
 sub:=h.sub
 lb:=fun k hk=>Bc (h.lb k hk) c.size
 cvn:=h.cvn
theorem Yz5.vecs {v:Int×Int}(h:Yz5 w0 w A X Z Y SZ hd a ca rv vv rs vs R b id qu cv cs L1 L)(hg:w.grownBy z vv.ownBlock)(ho:z.ownsRow 0 73 2 vv' (vs.length+1) (GY vs++[.int .i64 v.1,.int .i64 v.2]))(c:∀k,vv'.ownBlock=some k->vv.ownBlock=some k\/w.heap.size<=k):
  Yz5 w0 z A X Z Y SZ hd a ca rv vv' rs (vs++[v]) R b id qu cv cs (vv'.ownBlock::L1) (vv'.ownBlock::L):=by
 have f:=fun k hk=>(h.out.inV k hk).1;have d:=AO.lt h.cel;have h1:∀k,k<w.heap.size->some k∉L->some k∉vv'.ownBlock::L:=fun k hk hn hm=>by
  rcases Ee.1 hm with e|e
  ·rcases c k e.symm with h2|h2
   ·exact hn (f k h2)
   ·omega
  ·exact hn e
 exact{
  out:=h.out.vecs hg ho c
  rowc:=(hg.block R h.rin.2.2.2.2 fun e=>h.rin.2.2.2.1 e.symm).trans h.rowc
  cel:=EU.kept (h.cel.mono h1) hg (fun k hk=>Ey _ (f k hk)) fun k hk e=>(h.cin k e).2.2.2.2 hk
  rin:=⟨Ey _ h.rin.1,h.rin.2.1,h.rin.2.2.1,(fun e=>by
   rcases c R e with h2|h2
   ·exact h.rin.2.2.2.1 h2
   ·have:=h.rin.2.2.2.2;omega),Bc h.rin.2.2.2.2 hg.size⟩
  lows:=fun k hk=>Ey _ (h.lows k hk)
  off:=h.off
  cin:=fun k hk=>⟨Ey _ (h.cin k hk).1,(h.cin k hk).2.1,(h.cin k hk).2.2.1,(h.cin k hk).2.2.2.1,fun e=>by
   rcases c k e with h2|h2
   ·exact(h.cin k hk).2.2.2.2 h2
   ·have:=d k hk;omega⟩
  sub:=⟨fun x g=>by
   rcases Ee.1 g with e|e
   ·rw[e];exact Ez ..
   ·exact Ey _ (h.sub.1 x e),Ey _ h.sub.2.1,fun k hk=>Ey _ (h.sub.2.2.1 k hk),fun k hk=>zU⟩
  lb:=fun k hk=>by
   rcases Ee.1 hk with e|e
   ·exact(ho.lt k e.symm).2
   ·exact Bc (h.lb k e) hg.size
  cvn:=fun k hk hm=>by
   rcases Ee.1 hm with e|e
   ·rcases c k e.symm with h2|h2
    ·exact(h.cin k hk).2.2.2.2 h2
    ·have:=d k hk;omega
   ·exact h.cvn k hk e}
theorem Yz5.cels {c:Cel}(h:Yz5 w0 w A X Z Y SZ hd a ca rv vv rs vs R b id qu cv cs L1 L)(hg:w.grownBy z cv.ownBlock)(ho:AO 18 77 (CQ L w) z 0 cv' (cs++[c]))(j:∀k,cv'.ownBlock=some k->cv.ownBlock=some k\/w.heap.size<=k):
  Yz5 w0 (z.setCell ⟨R,3,none⟩ cv') A X Z Y SZ hd a ca rv vv rs vs R b id qu cv' (cs++[c]) L1 (cv'.ownBlock::L):=by
 have l:=fun k hk=>(h.cin k hk).1;have o:=h.out.ord;have q:=h.out.low.size;have m:∀k,vv.ownBlock=some k->k<w.heap.size:=fun k hk=>(h.out.vec.lt k hk).2;have n:=AO.lt h.out.row;have h1:∀k,k<w.heap.size->some k∉L->some k∉cv'.ownBlock::L:=fun k hk hn hm=>by
  rcases Ee.1 hm with e|e
  ·rcases j k e.symm with h2|h2
   ·exact hn (l k h2)
   ·omega
  ·exact hn e
 have d:∀k,cv'.ownBlock=some k->k≠X/\k≠R/\rv.ownBlock≠some k/\vv.ownBlock≠some k/\w0.heap.size<=k/\k≠A/\k≠Z:=fun k hk=>by
  rcases j k hk with h2|h2
  ·obtain⟨r,s,t,u,v⟩:=h.cin k h2;exact⟨s,t,u,v,h.off.2 k h2,h.out.off k r⟩
  ·have:=h.rin.2.2.2.2;exact⟨sX,sX,fun e=>by have:=n k e;omega,fun e=>by have:=m k e;omega,sX,sX,sX⟩
 have f:=D3 z ⟨R,3,none⟩ cv';have B:=hg.size;have p:z.heap[R]? =some (.cells [.bool b,.int .i64 id,.int .i64 qu,cv].toArray 46 (0,0)):=(hg.block R h.rin.2.2.2.2 fun e=>(h.cin R e.symm).2.2.1 rfl).trans h.rowc;have i:Yqf w0 w A X Z Y SZ hd a ca rv vv rs vs (cv'.ownBlock::L):=h.out.mono h1 (Ey _ h.out.inX) (fun k hk=>Ey _ (h.out.inR k hk).1) (fun k hk=>Ey _ (h.out.inV k hk).1) (fun k hk=>by
  rcases Ee.1 hk with e|e
  ·exact(d k e.symm).2.2.2.2.2
  ·exact h.out.off k e) fun k hk=>Ey _ (h.out.lows k hk)
 have h2:=i.grow hg fun k hk=>⟨Ey _ (l k hk),(h.cin k hk).2.1,(h.cin k hk).2.2.2.1,(h.cin k hk).2.2.2.2,h.off.2 k hk⟩;have h3:=h2.grow f fun k hk=>by
  injection hk with hk;subst hk;exact⟨Ey _ h.rin.1,h.rin.2.1,h.rin.2.2.1,h.rin.2.2.2.1,h.off.1⟩
 have g:EU (cv'.ownBlock::L) z cv' (cs++[c]):=AO.mono ho fun _ _ hv=>(hv.mono h1).kept hg fun k hk=>Ey _ (l k hk);exact{
  out:=h3
  rowc:=B3 (o:=3) cv' p
  cel:=g.kept f (fun k hk=>by injection hk with hk;subst hk;exact Ey _ h.rin.1) fun k hk e=>by
   injection hk with hk;subst hk;exact(d _ e).2.1 rfl
  rin:=⟨Ey _ h.rin.1,h.rin.2.1,h.rin.2.2.1,h.rin.2.2.2.1,by have:=h.rin.2.2.2.2;have:=f.size;omega⟩
  lows:=h.lows
  off:=⟨h.off.1,fun k hk=>(d k hk).2.2.2.2.1⟩
  cin:=fun k hk=>⟨zU,(d k hk).1,(d k hk).2.1,(d k hk).2.2.1,(d k hk).2.2.2.1⟩
  sub:=⟨fun x y=>Ey _ (h.sub.1 x y),h.sub.2⟩
  lb:=fun k hk=>by
   have:=f.size;rcases Ee.1 hk with e|e
   ·have:=AO.lt g k e.symm;omega
   ·have:=h.lb k e;omega
  cvn:=fun k hk hm=>by
   rcases j k hk with h4|h4
   ·exact h.cvn k h4 hm
   ·have:=h.lb k (h.sub.1 _ hm);omega}
theorem Yz5.done (h:Yz5 w0 w A X Z Y SZ hd a ca rv vv rs vs R b id qu cv cs L1 L)(hl:cs.length<=maxLen):Yqf w0 w A X Z Y SZ hd a ca rv vv rs vs L1/\CT L1 w ⟨b,id,qu,cs⟩ [.bool b,.int .i64 id,.int .i64 qu,cv]/\∀k,some k∈L1->k<w.heap.size:=by
 have hs:∀k,k<w.heap.size->some k∉L->some k∉L1:=fun k _ hn hm=>hn (h.sub.1 _ hm);exact⟨h.out.mono hs h.sub.2.1 h.sub.2.2.1 h.sub.2.2.2 (fun k hk=>h.out.off k (h.sub.1 _ hk)) h.lows,⟨cv,rfl,h.cel.mono hs,hl,h.cvn⟩,fun k hk=>h.lb k (h.sub.1 _ hk)⟩
theorem Yqf.begins (h:Yqf w0 w A X Z Y SZ hd a ca rv vv rs vs L)(hl:∀k,some k∈L->k<w.heap.size):
  Yz5 w0 (w.alloc (.cells [.bool false,.int .i64 0,.int .i64 0,.slice none 0 0].toArray 46 (0,0))) A X Z Y SZ hd a ca rv vv rs vs w.heap.size false 0 0 (.slice none 0 0) [] L (some w.heap.size::L) where
 out:=(h.more (B9 _)).move ((Dn _ w).alloc (B9 _) _)
 rowc:=heap_alloc_new w _
 cel:=EU.nil _ _
 rin:=⟨Ez ..,by have:=h.ord;omega,(fun e=>by have:=AO.lt h.row _ e;omega),(fun e=>by have:=(h.vec.lt _ e).2;omega),sV⟩
 lows:=h.lows
 off:=⟨h.low.size,fun k hk=>zT⟩
 cin:=fun k hk=>zT
 sub:=⟨fun x b=>Ey _ b,h.inX,fun k hk=>(h.inR k hk).1,fun k hk=>(h.inV k hk).1⟩
 lb:=fun k hk=>by
  rcases Ee.1 hk with e|e
  ·injection e with e;rw[e];simp
  ·have:=hl k e;simp;omega
 cvn:=fun k hk=>zT
theorem Yz5.head (h:Yz5 w0 w A X Z Y SZ hd a ca rv vv rs vs R false 0 0 (.slice none 0 0) [] L1 L)(c:z.heap[R]? =some (.cells [.bool b,.int .i64 id,.int .i64 qu,.slice none 0 0].toArray 46 (0,0)))(hg:w.grownBy z (some R)):Yz5 w0 z A X Z Y SZ hd a ca rv vv rs vs R b id qu (.slice none 0 0) [] L1 L where
 out:=h.out.grow hg fun k hk=>by
  injection hk with hk;subst hk;exact⟨h.rin.1,h.rin.2.1,h.rin.2.2.1,h.rin.2.2.2.1,h.off.1⟩
 rowc:=c
 cel:=EU.nil _ _
 rin:=⟨h.rin.1,h.rin.2.1,h.rin.2.2.1,h.rin.2.2.2.1,Bc h.rin.2.2.2.2 hg.size⟩
 lows:=h.lows
 off:=⟨h.off.1,fun k hk=>zT⟩
 cin:=fun k hk=>zT
 sub:=h.sub
 lb:=fun k hk=>Bc (h.lb k hk) hg.size
 cvn:=fun k hk=>zT
end
end Go.Proofs.YtjjmalchelniiaaGreatDoor