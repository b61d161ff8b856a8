/- StripsWrites, 45. No condition. -/
import Derived.Test.YtjjmalchelniiaaGreatDoorStripsWritesMa
import Derived.Test.YtjjmalchelniiaaGreatDoorStripsWritesMi
import Derived.Test.YtjjmalchelniiaaGreatDoorStripsWritesMj
import Derived.Test.YtjjmalchelniiaaGreatDoorStripsWritesMp
import Derived.Test.YtjjmalchelniiaaGreatDoorStripsWritesMbq
import Derived.Test.YtjjmalchelniiaaGreatDoorStripsWritesMbr
import Derived.Great.BuildSlice
open Go.Proofs.Tryz
open Go renaming Value->A0,Addr->Aa,World->A5,TypeId->A7,Oper->A4,Exit->Af,Operand->A8,TypeInfo->Ag
namespace Go.Proofs.YtjjmalchelniiaaGreatDoor
open Go.RowKit Go.Lib
abbrev Of:=@wpList_buildSlice
abbrev Og:=@run_append_own
abbrev Oh:=@List.map_toArray
def slP:A0->Option Aa
 |.slice q _ _=>q
 |_=>none
def slC:A0->Nat
 |.slice _ _ c=>c
 |_=>0
theorem MA {w:A5}{base e c n:Nat}{v:A0}{a:List A0}(h:w.ownsRow base e c v n a):v=.slice (slP v) n (slC v)/\(slP v=none->slC v=0)/\v.oneCell'=true:=by
 rcases h.2 with ⟨rfl,rfl⟩|⟨g,cap,b,rfl,_⟩
 ·exact⟨rfl,fun _=>rfl,rfl⟩
 ·exact⟨rfl,(fun h=>by cases h),rfl⟩
theorem Y7y {c:Cel}{sl sl':Nat->A0}(h:∀i,i<6->sl i=sl' i):AJ c sl=AJ c sl':=by
 unfold AJ;rw[h 0 (by omega),h 1 (by omega),h 2 (by omega),h 3 (by omega),h 4 (by omega),h 5 (by omega)]
theorem Sq {w x:A5}{base e c n:Nat}{v:A0}{a:List A0}(h:w.ownsRow base e c v n a)(b:Below w.heap.size w x):x.ownsRow base e c v n a:=
 h.kept (BZ b none) (by cases hv:v.ownBlock with|none=>exact .inl rfl|some g=>exact .inr (by simp))
theorem AX.mono {α:Type}{c:Nat}{e:A7}{V V':α->List A0->Prop}{w:A5}{base:Nat}{v:A0}{l:List α}(h:AX c e V w base v l)(b:∀a vs,V a vs->V' a vs):AX c e V' w base v l:=by
 obtain⟨d,⟨h1,h2,h3⟩,h4⟩:=h;refine⟨d,⟨h1,h2,fun i hi=>?_⟩,h4⟩;obtain⟨x,f,g⟩:=h3 i hi;exact⟨x,f,b _ _ g⟩
theorem Ytj {w:A5}{ops:Array A4}{rest:List A4}{o:A4}{a:Act}{Q:Af->Act->A5->Prop}(f:o.guard=none)(x:A8)(ho:o.op=.buildSlice 44 1 #[(0,x)])(c:Cel)(sl:Nat->A0)
  (g:a.eval x=.agg (AJ c sl).toArray)(h:wpList prog ops Q rest (a.put o.dst (.slice (some ⟨w.heap.size,0,none⟩) 1 1)) (w.alloc (.cells (AJ c sl).toArray 77 (0,0)))):wpList prog ops Q (o::rest) a w:=by
 have b:(match prog.info? 77 with
  |some d=>(match d.zero with
   |some z=>if d.size=18 then Instr.fill (fun i=>some (i*d.size,d.size)) ((Array.range (1*d.size)).map (z.cells[· % z.cells.size]!)) [(0,.agg (AJ c sl).toArray)] else none
   |none=>none)
  |none=>none)=some (AJ c sl).toArray:=by kernel_rfl
 cases hi:prog.info? 77 with
 |none=>rw[hi] at b;cases b
 |some d=>
  rw[hi] at b;cases hz:d.zero with
  |none=>simp only[hz] at b;cases b
  |some z=>
   simp only[hz] at b;by_cases e:d.size=18
   ·rw[Bc e] at b;exact Of f _ _ 1 _ ho _ d z Oe hi hz (by rw[e];decide) (by rw[e];decide) (by simpa [g] using b) h
   ·rw[Bb e] at b;cases b
theorem qS {w:A5}{ops:Array A4}{rest:List A4}{o:A4}{a:Act}{Q:Af->Act->A5->Prop}(g:o.guard=none)(x y:A8)(ho:o.op=.buildSlice 44 2 #[(0,x),(1,y)])(c d:Cel)(sl sl':Nat->A0)(N:Nat)(j:w.heap.size=N)(t:Tmp)(hd:o.dst=some t)
  (k:a.eval x=.agg (AJ c sl).toArray)(l:a.eval y=.agg (AJ d sl').toArray)(h:wpList prog ops Q rest (a.put (some t) (.slice (some ⟨N,0,none⟩) 2 2)) (w.alloc (.cells (AJ c sl++AJ d sl').toArray 77 (0,0)))):wpList prog ops Q (o::rest) a w:=by
 have b:(match prog.info? 77 with
  |some e=>(match e.zero with
   |some z=>if e.size=18 then Instr.fill (fun i=>some (i*e.size,e.size)) ((Array.range (2*e.size)).map (z.cells[· % z.cells.size]!)) [(0,.agg (AJ c sl).toArray),(1,.agg (AJ d sl').toArray)] else none
   |none=>none)
  |none=>none)=some (AJ c sl++AJ d sl').toArray:=by kernel_rfl
 cases hi:prog.info? 77 with
 |none=>rw[hi] at b;cases b
 |some e=>
  rw[hi] at b;cases hz:e.zero with
  |none=>simp only[hz] at b;cases b
  |some z=>
   simp only[hz] at b;by_cases f:e.size=18
   ·rw[Bc f] at b;subst j;rw[<-hd] at h;exact Of g _ _ 2 _ ho _ e z Oe hi hz (by rw[f];decide) (by rw[f];decide) (by simpa [k,l] using b) h
   ·rw[Bb f] at b;cases b
section
variable {P:Program}
theorem Uu {w:A5}{base:Nat}{t ty e:A7}{i:Ag}{z:A0}{size bytes:Nat}(ht:P.underlying t=some (.slice e))(hi:P.info? e=some i)(H:i.zero=some z)(b:i.size=size)(r:i.bytes=bytes)(C:z.cells.size=size)(D:0<size)
  {v:A0}{n:Nat}{A:List A0}(l:w.ownsRow base e size v n A){a:Aa}{m c:Nat}{d:List A0}(hl:d.length=m*size)(h:∀j u,d[j]? =some u->w.cell? (a.add j)=some u)(h1:∀u∈d,u.oneCell'=true)
  (s:n+m<=maxLen)(o:(n+m)*bytes<=140737488355328){I:A0}{J:A5}(hr:(Builtin.append_ #[t,t] ty #[v,.slice (some a) m c]).run P w=.ok I J):
  ∀k,I.ownBlock=some k->v.ownBlock=some k\/w.heap.size<=k:=by
 intro k x;have B:n+m<=9223372036854775807:=by simp only[maxLen] at s;omega
 rcases l.2 with ⟨rfl,rfl⟩|⟨g,cap,y,rfl,_,K,L,M,E,F⟩
 ·have N:A=[]:=Dl (by simpa using l.1);subst N;obtain⟨O,Q,f,G,-,-⟩:=Og (P:=P) w w.heap.size t ty e i z size bytes ht hi H b r C D (.slice none 0 0) 0 [] (Dn ..) a m c d hl h h1 s o (Ba _);rw[hr] at f;injection f with e1 e2;subst e1 e2;exact .inr (G.lt k x).1
 ·by_cases p:n+m<=cap
  ·have hfit:n*i.size+d.length<=y.size:=by rw[hl,E,b,<-Cx];exact D8 _ p
   have f:=run_append_room (P:=P) w t ty e i ht hi g n cap y K a m c d (by rw[hl,b]) h h1 p hfit;rw[hr] at f;injection f with e1 e2;subst e1;exact .inl x
  ·have q:∀j u,A[j]? =some u->w.cell? ((⟨g,0,none⟩:Aa).add j)=some u:=l.cells (g:=g) rfl;have f:=run_append_grow (P:=P) w t ty e i z ht hi H ⟨g,0,none⟩ n cap A (by rw[l.1,b]) q a m c d (by rw[hl,b]) h (by omega) (by omega) (growslice_fits (by omega) (by rw[r];exact o));rw[hr] at f;injection f with e1 e2;subst e1;injection x with x
   exact .inr (Nat.le_of_eq x)
theorem S1 {α:Type}{w:A5}{ops:Array A4}{rest:List A4}{o:A4}{a:Act}{Q:Af->Act->A5->Prop}{s x:A8}{t e:A7}{base c bytes cap K:Nat}{i:Ag}{z v:A0}{V:α->List A0->Prop}{l:List α}{y:α}{vs:List A0}
  (G:o.guard=none)(ho:o.op=.call {callee:=.builtin .append,args:=#[s,x],argTypes:=#[t,t]})
  (ht:P.underlying t=some (.slice e))(hi:P.info? e=some i)(J:i.zero=some z)(r:z.cells.size=c)(d:i.size=c)(A:i.bytes=bytes)(B:0<c)
  (hs:a.eval s=v)(N:a.eval x=.slice (some ⟨K,0,none⟩) 1 cap)(C:AX c e V w base v l)(O:V y vs)(m:vs.length=c)(D:∀u∈vs,u.oneCell'=true)(n:∀(j:Nat) u,vs[j]? =some u->w.cell? ⟨K,j,none⟩=some u)
  (E:l.length+1<=maxLen)(b:(l.length+1)*bytes<=140737488355328)(p:base<=w.heap.size)
  (h:∀(q:Option Aa) (f:Nat) F,AX c e V F base (.slice q (l.length+1) f) (l++[y])->w.grownBy F v.ownBlock->(∀k,(Value.slice q (l.length+1) f).ownBlock=some k->v.ownBlock=some k\/w.heap.size<=k)->wpList P ops Q rest (a.put o.dst (.slice q (l.length+1) f)) F):wpList P ops Q (o::rest) a w:=by
 obtain⟨L,H,M⟩:=C;refine Ey G fun U R=>?_;have g:∀(j:Nat) u,vs[j]? =some u->w.cell? ((⟨K,0,none⟩:Aa).add j)=some u:=fun j u hj=>by rw[Gc,Ar];exact n j u hj
 obtain⟨W,F,hr,h2,h3,-⟩:=Og (P:=P) w base t o.type e i z c bytes ht hi J d A r B v l.length L.flatten M ⟨K,0,none⟩ 1 cap vs (by rw[m,Nat.one_mul]) g D E b p;have h4:=Uu ht hi J d A r B M (by rw[m,Nat.one_mul]) g D E b hr;unfold Oper.wp execOp
 simp only[ho,resolve,invoke,builtin,Aq,Av,Ao,Oh,Cm,Ct,hs,N,hr];have S:=(MA h2).1;rw[S] at h2 h4 ⊢;refine R _ _ (h _ _ F ⟨L++[vs],H.app ⟨rfl,(fun u I=>by rw[Dk.1 I];exact m),fun k T=>?_⟩,by rw[List.flatten_append,B9];simpa using h2⟩ h3 h4);obtain rfl:k=0:=by simpa using T
 exact⟨vs,rfl,O⟩
theorem cI {w:A5}{ops:Array A4}{rest:List A4}{o:A4}{a:Act}{Q:Af->Act->A5->Prop}{s x:A8}{t e:A7}{cap K:Nat}{i:Ag}{z v:A0}{n:Nat}{r:List A0}{y0 y1:Int}
  (y:o.guard=none)(ho:o.op=.call {callee:=.builtin .append,args:=#[s,x],argTypes:=#[t,t]})
  (ht:P.underlying t=some (.slice e))(hi:P.info? e=some i)(A:i.zero=some z)(g:z.cells.size=2)(b:i.size=2)(l:i.bytes=16)
  (hs:a.eval s=v)(f:w.ownsRow 0 e 2 v n r)(D:a.eval x=.slice (some ⟨K,0,none⟩) 1 cap)(E:w.cell? ⟨K,0,none⟩=some (.int .i64 y0))(c1:w.cell? ⟨K,1,none⟩=some (.int .i64 y1))(hn:n<=1048576)
  (h:∀(q:Option Aa) (c:Nat) m,m.ownsRow 0 e 2 (.slice q (n+1) c) (n+1) (r++[.int .i64 y0,.int .i64 y1])->w.grownBy m v.ownBlock->(∀k,(Value.slice q (n+1) c).ownBlock=some k->v.ownBlock=some k\/w.heap.size<=k)->wpList P ops Q rest (a.put o.dst (.slice q (n+1) c)) m):wpList P ops Q (o::rest) a w:=by
 refine Ey y fun G F=>?_;have d:∀(j:Nat) u,([.int .i64 y0,.int .i64 y1]:List A0)[j]? =some u->w.cell? ((⟨K,0,none⟩:Aa).add j)=some u:=fun j u hj=>by
  rw[Gc,Ar]
  match j,hj with
  |0,hj=>cases hj;exact E
  |1,hj=>cases hj;exact c1
 have p:∀u∈([.int .i64 y0,.int .i64 y1]:List A0),u.oneCell'=true:=by intro u B;simp only[Ei,Ej,Eo] at B;rcases B with rfl|rfl <;> rfl
 obtain⟨H,m,hr,h2,h3,-⟩:=Og (P:=P) w 0 t o.type e i z 2 16 ht hi A b l g (by decide) v n r f ⟨K,0,none⟩ 1 cap _ rfl d p (by unfold maxLen;omega) (by omega) (Ds _);have h4:=Uu ht hi A b l g (by decide) f rfl d p (by unfold maxLen;omega) (by omega) hr;have C:=(MA h2).1;rw[C] at h2 h4;unfold Oper.wp execOp
 simp only[ho,resolve,invoke,builtin,Aq,Av,Ao,Oh,Cm,Ct,hs,D,hr];have:=h _ _ m h2 h3 h4;rw[<-C] at this;exact F _ _ this
end
theorem Yx1 {w:A5}{ops:Array A4}{rest:List A4}{o:A4}{a:Act}{Q:Af->Act->A5->Prop}(j:o.guard=none)(x:A8)(ho:o.op=.buildSlice 37 1 #[(0,x)])(d e f g:A0)
  (k:a.eval x=.agg #[d,e,f,g])(h:wpList prog ops Q rest (a.put o.dst (.slice (some ⟨w.heap.size,0,none⟩) 1 1)) (w.alloc (.cells #[d,e,f,g] 46 (0,0)))):wpList prog ops Q (o::rest) a w:=by
 have b:(match prog.info? 46 with
  |some c=>(match c.zero with
   |some z=>if c.size=4 then Instr.fill (fun i=>some (i*c.size,c.size)) ((Array.range (1*c.size)).map (z.cells[· % z.cells.size]!)) [(0,.agg #[d,e,f,g])] else none
   |none=>none)
  |none=>none)=some #[d,e,f,g]:=by kernel_rfl
 cases hi:prog.info? 46 with
 |none=>rw[hi] at b;cases b
 |some c=>
  rw[hi] at b;cases hz:c.zero with
  |none=>simp only[hz] at b;cases b
  |some z=>
   simp only[hz] at b;by_cases h4:c.size=4
   ·rw[Bc h4] at b;exact Of j _ _ 1 _ ho _ c z underlying37 hi hz (by rw[h4];decide) (by rw[h4];decide) (by simpa [k] using b) h
   ·rw[Bb h4] at b;cases b
theorem uC:∃i z,prog.info? 46=some i/\i.zero=some z/\z.cells.size=4/\i.size=4/\i.bytes=48:=by
 have h:(prog.info? 46).map (fun i=>(i.zero.map (·.cells.size),i.size,i.bytes))=some (some 4,4,48):=by kernel_rfl
 generalize prog.info? 46=x at h
 match x,h with
 |some i,h=>
  rw[Lm] at h;injection h with h;injection h with h1 h2;injection h2 with h2 h3;cases hz:i.zero with
  |none=>rw[hz] at h1;cases h1
  |some z=>
   rw[hz] at h1;injection h1 with h1;exact⟨i,z,rfl,hz,h1,h2,h3⟩
def FP (L:List (Option Nat))(w:A5)(p:Option Aa)(l:List Ev):Prop:=D3 w p l/\(l=[]\/∃b o,p=some ⟨b,o,none⟩/\some b∉L)
section
variable {L L':List (Option Nat)}{w x:A5}{row:Option Nat}
theorem FP.kept {p:Option Aa}{l:List Ev}(h:FP L w p l)(f:w.grownBy x row)(hr:∀k,row=some k->some k∈L):FP L x p l:=by
 obtain⟨h1,h2⟩:=h;refine⟨?_,h2⟩;rcases h2 with rfl|⟨b,o,rfl,g⟩
 ·exact .inl rfl
 ·rcases h1 with rfl|⟨q,r,e,c,hc⟩
  ·exact .inl rfl
  ·injection e with e;injection e with e1 e2;subst e1 e2;have d:x.heap[b]? =w.heap[b]?:=f.block b c fun e=>g (hr b e.symm);refine .inr ⟨b,o,rfl,Bg c f.size,fun i hi=>?_⟩;obtain⟨j,m,n⟩:=hc i hi;exact⟨(G3 (a:=⟨b,o+i*3,none⟩) d).trans j,(G3 (a:=⟨b,o+i*3+1,none⟩) d).trans m,(G3 (a:=⟨b,o+i*3+2,none⟩) d).trans n⟩
theorem FP.mono {p:Option Aa}{l:List Ev}(h:FP L w p l)(c:∀k,k<w.heap.size->some k∉L->some k∉L'):FP L' w p l:=by
 obtain⟨h1,h2⟩:=h;refine⟨h1,?_⟩;rcases h2 with rfl|⟨b,o,rfl,d⟩
 ·exact .inl rfl
 ·rcases h1 with rfl|⟨f,g,e,a,_⟩
  ·exact .inl rfl
  ·injection e with e;injection e with e1 e2;subst e1 e2;exact .inr ⟨b,o,rfl,c b a d⟩
def DW (L:List (Option Nat))(w:A5)(c:Cel)(vs:List A0):Prop:=
 ∃(p:Nat->Option Aa) (cap:Nat->Nat),vs=AJ c (fun i=>.slice (p i) (c.ev i).length (cap i))/\((Lit.int .i64 c.mx).wf=true/\(Lit.int .i64 c.my).wf=true)/\∀i,i<6->(c.ev i).length<=maxLen/\FP L w (p i) (c.ev i)
theorem DW.kept {c:Cel}{vs:List A0}(h:DW L w c vs)(a:w.grownBy x row)(hr:∀k,row=some k->some k∈L):DW L x c vs:=by
 obtain⟨p,cap,h1,h2,h3⟩:=h;exact⟨p,cap,h1,h2,fun i hi=>⟨(h3 i hi).1,(h3 i hi).2.kept a hr⟩⟩
theorem DW.mono {c:Cel}{vs:List A0}(h:DW L w c vs)(a:∀k,k<w.heap.size->some k∉L->some k∉L'):DW L' w c vs:=by
 obtain⟨p,cap,h1,h2,h3⟩:=h;exact⟨p,cap,h1,h2,fun i hi=>⟨(h3 i hi).1,(h3 i hi).2.mono a⟩⟩
theorem DW.cel (c:Cel)(vs:List A0)(h:DW L w c vs):F5 w c vs:=by
 obtain⟨p,cap,h1,h2,h3⟩:=h;exact⟨p,cap,h1,h2,fun i hi=>⟨(h3 i hi).1,(h3 i hi).2.1⟩⟩
theorem DW.shape {c:Cel}{vs:List A0}(h:DW L w c vs):vs.length=18/\∀u∈vs,u.oneCell'=true:=(DW.cel c vs h).shape
def GG (L:List (Option Nat))(w:A5)(v:A0)(l:List Cel):Prop:=AX 18 77 (DW L w) w 0 v l
theorem GG.nil (L:List (Option Nat))(w:A5):GG L w (.slice none 0 0) []:=AX.nil ..
theorem GG.kept {v:A0}{l:List Cel}(h:GG L w v l)(a:w.grownBy x row)(hr:∀k,row=some k->some k∈L)(hv:∀k,row=some k->v.ownBlock≠some k):GG L x v l:=
 AX.mono (AX.kept h a (by
  cases e:v.ownBlock with
  |none=>exact .inl rfl
  |some g=>exact .inr fun b=>hv g b.symm e)) fun _ _ hc=>hc.kept a hr
theorem GG.mono {v:A0}{l:List Cel}(h:GG L w v l)(a:∀k,k<w.heap.size->some k∉L->some k∉L'):GG L' w v l:=AX.mono h fun _ _ hc=>hc.mono a
theorem AX.lt {α:Type}{c:Nat}{e:A7}{V:α->List A0->Prop}{base:Nat}{v:A0}{l:List α}(h:AX c e V w base v l):∀k,v.ownBlock=some k->k<w.heap.size:=by
 obtain⟨b,_,h2⟩:=h;exact fun k a=>(h2.lt k a).2
def E1 (L:List (Option Nat))(w:A5)(r:RowP)(vs:List A0):Prop:=
 ∃sl,vs=[.bool r.head,.int .i64 r.id,.int .i64 r.quant,sl]/\GG L w sl r.cels/\r.cels.length<=maxLen/\∀k,sl.ownBlock=some k->some k∉L
theorem E1.kept {r:RowP}{vs:List A0}(h:E1 L w r vs)(a:w.grownBy x row)(hr:∀k,row=some k->some k∈L):E1 L x r vs:=by
 obtain⟨sl,h1,h2,h3,h4⟩:=h;exact⟨sl,h1,h2.kept a hr (fun k b e=>h4 k e (hr k b)),h3,h4⟩
theorem E1.mono {r:RowP}{vs:List A0}(h:E1 L w r vs)(a:∀k,k<w.heap.size->some k∉L->some k∉L'):E1 L' w r vs:=by
 obtain⟨sl,h1,h2,h3,h4⟩:=h;exact⟨sl,h1,h2.mono a,h3,fun k b=>a k (AX.lt h2 k b) (h4 k b)⟩
theorem E1.rowV (r:RowP)(vs:List A0)(h:E1 L w r vs):LP w r vs:=by
 obtain⟨sl,rfl,h2,h3,-⟩:=h;obtain⟨b,c,ho⟩:=h2;obtain⟨f,a,-⟩:=MA ho;obtain⟨q,cap,e,hm⟩:=AX.many (V':=F5) ⟨b,c,ho⟩ DW.cel;refine⟨q,cap,by rw[e],fun d=>?_,h3,hm⟩;rw[e] at a;exact a d
theorem E1.shape {r:RowP}{vs:List A0}(h:E1 L w r vs):vs.length=4/\∀u∈vs,u.oneCell'=true:=by
 obtain⟨sl,rfl,⟨b,c,ho⟩,-,-⟩:=h;refine⟨rfl,fun u a=>?_⟩;simp only[Ei,Ej,Eo] at a;rcases a with rfl|rfl|rfl|rfl
 ·rfl
 ·rfl
 ·rfl
 ·exact(MA ho).2.2
def HZ (L:List (Option Nat))(w:A5)(v:A0)(l:List RowP):Prop:=AX 4 46 (E1 L w) w 0 v l
theorem HZ.nil (L:List (Option Nat))(w:A5):HZ L w (.slice none 0 0) []:=AX.nil ..
theorem HZ.mono {v:A0}{l:List RowP}(h:HZ L w v l)(a:∀k,k<w.heap.size->some k∉L->some k∉L'):HZ L' w v l:=AX.mono h fun _ _ hc=>hc.mono a
theorem HZ.rows {v:A0}{l:List RowP}(h:HZ L w v l):∃(q:Option Aa) (cap:Nat),v=.slice q l.length cap/\H0 w q l:=AX.many h E1.rowV
end
def GF (n:Nat):List (Option Nat):=(List.range n).map some
theorem LN {n j:Nat}:some j∈GF n↔j<n:=by simp[GF]
section
variable {w0 w z:A5}{A X Z:Nat}{Y SZ:Array A0}{hd:Shd}{a:Option Aa}{ca:Nat}{rv vv rv' vv':A0}{rs:List RowP}{vs:List (Int×Int)}{L L':List (Option Nat)}{row:Option Nat}
end
structure Yai (L:List (Option Nat)) (w w':A5):Prop where
 os:w'.os=w.os
 tape:w'.tape=w.tape
 output:w'.output=w.output
 size:w.heap.size<=w'.heap.size
 block:∀k,k<w.heap.size->some k∉L->w'.heap[k]? =w.heap[k]?
section
variable {L M L':List (Option Nat)}{w x z:A5}{row:Option Nat}
theorem Yai.refl (L:List (Option Nat))(w:A5):Yai L w w:=⟨rfl,rfl,rfl,Ba _,fun _ _ _=>rfl⟩
theorem Yai.trans (h:Yai L w x)(k:Yai M x z)(a:∀j,j<w.heap.size->some j∈M->some j∈L):Yai L w z:=
 ⟨k.os.trans h.os,k.tape.trans h.tape,k.output.trans h.output,Eg h.size k.size,fun i hi h1=>(k.block i (Bg hi h.size) fun h2=>h1 (a i hi h2)).trans (h.block i hi h1)⟩
theorem Yai.mono (h:Yai L w x)(a:∀j,j<w.heap.size->some j∈L->some j∈M):Yai M w x:=
 ⟨h.os,h.tape,h.output,h.size,fun i hi h1=>h.block i hi fun h2=>h1 (a i hi h2)⟩
theorem Yai.one (h:w.grownBy x row)(hr:∀k,k<w.heap.size->row=some k->some k∈L):Yai L w x:=
 ⟨h.os,h.tape,h.output,h.size,fun i hi h1=>h.block i hi fun e=>h1 (hr i hi e.symm)⟩
theorem Yai.below (h:Below w.heap.size w x):Yai L w x:=⟨h.os,h.tape,h.output,h.size,fun k a _=>h.block k a⟩
theorem Yai.under {N:Nat}(h:Yai L w x)(b:N<=w.heap.size)(a:∀k,some k∈L->N<=k):Below N w x:=
 ⟨h.os,h.tape,h.output,h.size,fun k c=>h.block k (by omega) fun h1=>by have:=a k h1;omega⟩
theorem Yai.lone {b:Nat}(h:Yai L w x)(c:∀k,k<w.heap.size->some k∈L->k=b):w.grownBy x (some b):=
 ⟨h.os,h.tape,h.output,h.size,fun k a hn=>h.block k a fun h1=>hn (by rw[c k a h1])⟩
theorem Yai.set {p:Aa}(v:A0)(a:some p.block∈L):Yai L w (w.setCell p v):=Yai.one (DM w p v) fun k _ e=>by injection e with e;subst e;exact a
theorem MM {base e c n:Nat}{v:A0}{b:List A0}(h:w.ownsRow base e c v n b)(f:Yai M w x)(hv:∀k,v.ownBlock=some k->some k∉M):x.ownsRow base e c v n b:=by
 refine⟨h.1,?_⟩;rcases h.2 with h2|⟨g,cap,a,rfl,i,d,h3⟩
 ·exact .inl h2
 ·exact .inr ⟨g,cap,a,rfl,i,(f.block g (Am.1 d).1 (hv g rfl)).trans d,h3⟩
theorem FP.keptL {p:Option Aa}{l:List Ev}(h:FP L w p l)(f:Yai M w x)(hr:∀k,some k∈M->some k∈L):FP L x p l:=by
 obtain⟨h1,h2⟩:=h;refine⟨?_,h2⟩;rcases h2 with rfl|⟨b,o,rfl,g⟩
 ·exact .inl rfl
 ·rcases h1 with rfl|⟨q,r,e,c,hc⟩
  ·exact .inl rfl
  ·injection e with e;injection e with e1 e2;subst e1 e2;have d:x.heap[b]? =w.heap[b]?:=f.block b c fun e=>g (hr b e);refine .inr ⟨b,o,rfl,Bg c f.size,fun i hi=>?_⟩;obtain⟨j,m,n⟩:=hc i hi;exact⟨(G3 (a:=⟨b,o+i*3,none⟩) d).trans j,(G3 (a:=⟨b,o+i*3+1,none⟩) d).trans m,(G3 (a:=⟨b,o+i*3+2,none⟩) d).trans n⟩
theorem DW.keptL {c:Cel}{vs:List A0}(h:DW L w c vs)(a:Yai M w x)(hr:∀k,some k∈M->some k∈L):DW L x c vs:=by
 obtain⟨p,cap,h1,h2,h3⟩:=h;exact⟨p,cap,h1,h2,fun i hi=>⟨(h3 i hi).1,(h3 i hi).2.keptL a hr⟩⟩
theorem AX.keptL {α:Type}{c:Nat}{e:A7}{V:α->List A0->Prop}{base:Nat}{v:A0}{l:List α}(h:AX c e V w base v l)(a:Yai M w x)(hv:∀k,v.ownBlock=some k->some k∉M):AX c e V x base v l:=by
 obtain⟨b,h1,h2⟩:=h;exact⟨b,h1,MM h2 a hv⟩
theorem GG.keptL {v:A0}{l:List Cel}(h:GG L w v l)(a:Yai M w x)(hr:∀k,some k∈M->some k∈L)(hv:∀k,v.ownBlock=some k->some k∉M):GG L x v l:=
 AX.mono (AX.keptL h a hv) fun _ _ hc=>hc.keptL a hr
theorem E1.keptL {r:RowP}{vs:List A0}(h:E1 L w r vs)(a:Yai M w x)(hr:∀k,some k∈M->some k∈L):E1 L x r vs:=by
 obtain⟨sl,h1,h2,h3,h4⟩:=h;exact⟨sl,h1,h2.keptL a hr (fun k e b=>h4 k e (hr k b)),h3,h4⟩
theorem HZ.keptL {v:A0}{l:List RowP}(h:HZ L w v l)(a:Yai M w x)(hr:∀k,some k∈M->some k∈L)(hv:∀k,v.ownBlock=some k->some k∉M):HZ L x v l:=
 AX.mono (AX.keptL h a hv) fun _ _ hc=>hc.keptL a hr
theorem CA.keptL {l:List Int}{p:Option Aa}(h:CA w p l)(f:∀a,p=some a->some a.block∉M)(d:Yai M w x):CA x p l:=by
 rcases h with h|⟨b,o,e,c,hc⟩
 ·exact .inl h
 ·refine .inr ⟨b,o,e,Bg c d.size,fun i hi=>?_⟩;exact(G3 (a:=⟨b,o+i,none⟩) (d.block b c (f _ e))).trans (hc i hi)
end
theorem O1 (k:Int):0<=BJ k/\BJ k<=100/\0<=BP k/\BP k<=100/\(acr k:Int)<=100:=by
 rcases K1 k with rfl|rfl|rfl|rfl|rfl|rfl|⟨h,hv⟩
 case _|_|_|_|_|_=>decide +kernel
 unfold BJ BP acr B1 CU;rw[hv]
 decide
theorem P5 (c:Cel)(sl:Nat->A0)(h:∀i,i<6->(sl i).oneCell'=true):(AJ c sl).toArray.all (·.oneCell')=true:=by
 rw[G7];intro v hv;have hm:v∈AJ c sl:=by simpa using hv
 simp only[AJ,Ei,Ej,Eo] at hm;rcases hm with rfl|rfl|rfl|rfl|rfl|rfl|rfl|rfl|rfl|rfl|rfl|rfl|rfl|rfl|rfl|rfl|rfl|rfl
 all_goals first|rfl|exact h _ (by omega)
theorem aH {ops:Array A4}{rest:List A4}{op:A4}{a:Act}{w:A5}{Q:Af->Act->A5->Prop}(c:op.guard=none)(x:A8)(ho:op.op=.load 73 x)
  (b o:Nat)(d:a.eval x=.pointer (some ⟨b,o,none⟩))(u v:Int)(hc:w.rangeAt b o [.int .i64 u,.int .i64 v])(h:wpList prog ops Q rest (a.put op.dst (.agg #[.int .i64 u,.int .i64 v])) w):wpList prog ops Q (op::rest) a w:=
 O8 c _ x ho b o d [.int .i64 u,.int .i64 v] _ hc Gq rfl (by kernel_rfl) h
theorem Qj0 {Q:Nat->Option Aa->Nat->Prop}(h:∀i,i<6->∃P cap,Q i P cap):∃(p:Nat->Option Aa) (cap:Nat->Nat),∀i,i<6->Q i (p i) (cap i):=by
 refine⟨fun i=>if h':i<6 then (h i h').choose else none,fun i=>if h':i<6 then (h i h').choose_spec.choose else 0,fun i hi=>?_⟩;simp only[dif_pos hi];exact(h i hi).choose_spec.choose_spec
theorem Qie {c:Cel}{sl sl':Nat->A0}(h:∀i,i<6->sl i=sl' i):AJ c sl=AJ c sl':=by
 unfold AJ;rw[h 0 (by omega),h 1 (by omega),h 2 (by omega),h 3 (by omega),h 4 (by omega),h 5 (by omega)]
theorem Uy (w:A5):(zeroValue 46).run prog w=.ok (.agg [.bool false,.int .i64 0,.int .i64 0,.slice none 0 0].toArray) w:=MC (by kernel_rfl) w
theorem Vh {P:Program}{ops:Array A4}{rest:List A4}{S:A5->Prop}{Q:Act->Prop}{o:A4}{a:Act}(ty:A7)(x:A8)(b p:Nat)(cs:List A0)(d:TypeDesc)(c:Region.wanted o (yielded ops a.tmps)=true)(ho:o.op=.load ty x)(e:a.eval x=.pointer (some ⟨b,p,none⟩))
  (hc:∀w,S w->w.rangeAt b p cs)(f:P.underlying ty=some d)(hd:d.isRow=true)(hi:(P.info? ty).map (·.size)=some cs.length)(h:FW P ops S Q rest (a.put o.dst (.agg cs.toArray))):FW P ops S Q (o::rest) a:=
 AP c (fun w g=>by
  unfold execOp;simp only[ho,e,Instr.loadAt,Instr.sureAddr,Aq,Av,Ao,Hz w b p ty cs d (hc w g) f hd hi]) h
end Go.Proofs.YtjjmalchelniiaaGreatDoor