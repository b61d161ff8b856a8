/- StripsChecks, 45. No condition. -/
import Derived.Test.YtjjmalchelniiaaGreatDoorStripsChecksMa
import Derived.Test.YtjjmalchelniiaaGreatDoorStripsChecksMd
import Derived.Test.YtjjmalchelniiaaGreatDoorStripsChecksMg
import Derived.Test.YtjjmalchelniiaaGreatDoorStripsChecksMj
import Derived.Test.YtjjmalchelniiaaGreatDoorStripsChecksMk
import Derived.Test.YtjjmalchelniiaaGreatDoorStripsChecksMq
import Derived.Test.YtjjmalchelniiaaGreatDoorStripsChecksMr
import Derived.Test.YtjjmalchelniiaaGreatDoorStripsChecksMbr
import Derived.Great.BuildSlice
open Go.Proofs.Tryz
open Go renaming Value->A0,Addr->Aa,World->A5,TypeId->A7,Oper->A4,Exit->Ag,Operand->A8,TypeInfo->Ah
namespace Go.Proofs.YtjjmalchelniiaaGreatDoor
open Go.RowKit Go.Lib
abbrev Nz:=@wpList_buildSlice
abbrev O0:=@run_append_own
abbrev O4:=@List.map_toArray
abbrev O5:=@underlying37
def slP:A0->Option Aa
 |.slice q _ _=>q
 |_=>none
def slC:A0->Nat
 |.slice _ _ c=>c
 |_=>0
theorem LL {w:A5}{base e c n:Nat}{v:A0}{a:List A0}(h:w.ownsRow base e c v n a):v=.slice (slP v) n (slC v)/\(slP v=none->slC v=0)/\v.oneCell'=true:=by
 rcases h.2 with ⟨rfl,rfl⟩|⟨g,cap,b,rfl,_⟩
 ·exact⟨rfl,fun _=>rfl,rfl⟩
 ·exact⟨rfl,(fun h=>by cases h),rfl⟩
theorem aT {c:Cel}{sl sl':Nat->A0}(h:∀i,i<6->sl i=sl' i):AF c sl=AF c sl':=by
 unfold AF;rw[h 0 (by omega),h 1 (by omega),h 2 (by omega),h 3 (by omega),h 4 (by omega),h 5 (by omega)]
theorem rQ {w x:A5}{base e c n:Nat}{v:A0}{a:List A0}(h:w.ownsRow base e c v n a)(b:Below w.heap.size w x):x.ownsRow base e c v n a:=
 h.kept (BR b none) (by cases hv:v.ownBlock with|none=>exact .inl rfl|some g=>exact .inr (by simp))
theorem AV.mono {α:Type}{c:Nat}{e:A7}{V V':α->List A0->Prop}{w:A5}{base:Nat}{v:A0}{l:List α}(h:AV c e V w base v l)(b:∀a vs,V a vs->V' a vs):AV c e V' w base v l:=by
 obtain⟨d,⟨h1,h2,h3⟩,h4⟩:=h;refine⟨d,⟨h1,h2,fun i hi=>?_⟩,h4⟩;obtain⟨x,f,g⟩:=h3 i hi;exact⟨x,f,b _ _ g⟩
theorem iE {w:A5}{ops:Array A4}{rest:List A4}{o:A4}{a:Act}{Q:Ag->Act->A5->Prop}(f:o.guard=none)(x:A8)(ho:o.op=.buildSlice 44 1 #[(0,x)])(c:Cel)(sl:Nat->A0)
  (g:a.eval x=.agg (AF c sl).toArray)(h:wpList prog ops Q rest (a.put o.dst (.slice (some ⟨w.heap.size,0,none⟩) 1 1)) (w.alloc (.cells (AF c sl).toArray 77 (0,0)))):wpList prog ops Q (o::rest) a w:=by
 have b:(match prog.info? 77 with
  |some d=>(match d.zero with
   |some z=>if d.size=18 then Instr.fill (fun i=>some (i*d.size,d.size)) ((Array.range (1*d.size)).map (z.cells[· % z.cells.size]!)) [(0,.agg (AF c sl).toArray)] else none
   |none=>none)
  |none=>none)=some (AF c sl).toArray:=by kernel_rfl
 cases hi:prog.info? 77 with
 |none=>rw[hi] at b;cases b
 |some d=>
  rw[hi] at b;cases hz:d.zero with
  |none=>simp only[hz] at b;cases b
  |some z=>
   simp only[hz] at b;by_cases e:d.size=18
   ·rw[Bc e] at b;exact Nz f _ _ 1 _ ho _ d z Ny hi hz (by rw[e];decide) (by rw[e];decide) (by simpa [g] using b) h
   ·rw[Bb e] at b;cases b
theorem xC {w:A5}{ops:Array A4}{rest:List A4}{o:A4}{a:Act}{Q:Ag->Act->A5->Prop}(g:o.guard=none)(x y:A8)(ho:o.op=.buildSlice 44 2 #[(0,x),(1,y)])(c d:Cel)(sl sl':Nat->A0)(N:Nat)(j:w.heap.size=N)(t:Tmp)(hd:o.dst=some t)
  (k:a.eval x=.agg (AF c sl).toArray)(l:a.eval y=.agg (AF d sl').toArray)(h:wpList prog ops Q rest (a.put (some t) (.slice (some ⟨N,0,none⟩) 2 2)) (w.alloc (.cells (AF c sl++AF d sl').toArray 77 (0,0)))):wpList prog ops Q (o::rest) a w:=by
 have b:(match prog.info? 77 with
  |some e=>(match e.zero with
   |some z=>if e.size=18 then Instr.fill (fun i=>some (i*e.size,e.size)) ((Array.range (2*e.size)).map (z.cells[· % z.cells.size]!)) [(0,.agg (AF c sl).toArray),(1,.agg (AF d sl').toArray)] else none
   |none=>none)
  |none=>none)=some (AF c sl++AF d sl').toArray:=by kernel_rfl
 cases hi:prog.info? 77 with
 |none=>rw[hi] at b;cases b
 |some e=>
  rw[hi] at b;cases hz:e.zero with
  |none=>simp only[hz] at b;cases b
  |some z=>
   simp only[hz] at b;by_cases f:e.size=18
   ·rw[Bc f] at b;subst j;rw[<-hd] at h;exact Nz g _ _ 2 _ ho _ e z Ny hi hz (by rw[f];decide) (by rw[f];decide) (by simpa [k,l] using b) h
   ·rw[Bb f] at b;cases b
section
variable {P:Program}
theorem S7 {w:A5}{base:Nat}{t ty e:A7}{i:Ah}{z:A0}{size bytes:Nat}(ht:P.underlying t=some (.slice e))(hi:P.info? e=some i)(H:i.zero=some z)(b:i.size=size)(r:i.bytes=bytes)(C:z.cells.size=size)(D:0<size)
  {v:A0}{n:Nat}{A:List A0}(l:w.ownsRow base e size v n A){a:Aa}{m c:Nat}{d:List A0}(hl:d.length=m*size)(h:∀j u,d[j]? =some u->w.cell? (a.add j)=some u)(h1:∀u∈d,u.oneCell'=true)
  (s:n+m<=maxLen)(o:(n+m)*bytes<=140737488355328){I:A0}{J:A5}(hr:(Builtin.append_ #[t,t] ty #[v,.slice (some a) m c]).run P w=.ok I J):
  ∀k,I.ownBlock=some k->v.ownBlock=some k\/w.heap.size<=k:=by
 intro k x;have B:n+m<=9223372036854775807:=by simp only[maxLen] at s;omega
 rcases l.2 with ⟨rfl,rfl⟩|⟨g,cap,y,rfl,_,K,L,M,E,F⟩
 ·have N:A=[]:=Dh (by simpa using l.1);subst N;obtain⟨O,Q,f,G,-,-⟩:=O0 (P:=P) w w.heap.size t ty e i z size bytes ht hi H b r C D (.slice none 0 0) 0 [] (Dj ..) a m c d hl h h1 s o (Ba _);rw[hr] at f;injection f with e1 e2;subst e1 e2;exact .inr (G.lt k x).1
 ·by_cases p:n+m<=cap
  ·have hfit:n*i.size+d.length<=y.size:=by rw[hl,E,b,<-Cv];exact Cy _ p
   have f:=run_append_room (P:=P) w t ty e i ht hi g n cap y K a m c d (by rw[hl,b]) h h1 p hfit;rw[hr] at f;injection f with e1 e2;subst e1;exact .inl x
  ·have q:∀j u,A[j]? =some u->w.cell? ((⟨g,0,none⟩:Aa).add j)=some u:=l.cells (g:=g) rfl;have f:=run_append_grow (P:=P) w t ty e i z ht hi H ⟨g,0,none⟩ n cap A (by rw[l.1,b]) q a m c d (by rw[hl,b]) h (by omega) (by omega) (growslice_fits (by omega) (by rw[r];exact o));rw[hr] at f;injection f with e1 e2;subst e1;injection x with x
   exact .inr (Gb x)
theorem Te {α:Type}{w:A5}{ops:Array A4}{rest:List A4}{o:A4}{a:Act}{Q:Ag->Act->A5->Prop}{s x:A8}{t e:A7}{base c bytes cap K:Nat}{i:Ah}{z v:A0}{V:α->List A0->Prop}{l:List α}{y:α}{vs:List A0}
  (G:o.guard=none)(ho:o.op=.call {callee:=.builtin .append,args:=#[s,x],argTypes:=#[t,t]})
  (ht:P.underlying t=some (.slice e))(hi:P.info? e=some i)(J:i.zero=some z)(r:z.cells.size=c)(d:i.size=c)(A:i.bytes=bytes)(B:0<c)
  (hs:a.eval s=v)(N:a.eval x=.slice (some ⟨K,0,none⟩) 1 cap)(C:AV c e V w base v l)(O:V y vs)(m:vs.length=c)(D:∀u∈vs,u.oneCell'=true)(n:∀(j:Nat) u,vs[j]? =some u->w.cell? ⟨K,j,none⟩=some u)
  (E:l.length+1<=maxLen)(b:(l.length+1)*bytes<=140737488355328)(p:base<=w.heap.size)
  (h:∀(q:Option Aa) (f:Nat) F,AV c e V F base (.slice q (l.length+1) f) (l++[y])->w.grownBy F v.ownBlock->(∀k,(Value.slice q (l.length+1) f).ownBlock=some k->v.ownBlock=some k\/w.heap.size<=k)->wpList P ops Q rest (a.put o.dst (.slice q (l.length+1) f)) F):wpList P ops Q (o::rest) a w:=by
 obtain⟨L,H,M⟩:=C;refine Es G fun U R=>?_;have g:∀(j:Nat) u,vs[j]? =some u->w.cell? ((⟨K,0,none⟩:Aa).add j)=some u:=fun j u hj=>by rw[Gd,As];exact n j u hj
 obtain⟨W,F,hr,h2,h3,-⟩:=O0 (P:=P) w base t o.type e i z c bytes ht hi J d A r B v l.length L.flatten M ⟨K,0,none⟩ 1 cap vs (by rw[m,Nat.one_mul]) g D E b p;have h4:=S7 ht hi J d A r B M (by rw[m,Nat.one_mul]) g D E b hr;unfold Oper.wp execOp
 simp only[ho,resolve,invoke,builtin,Ar,Aw,Ap,O4,Ci,Cr,hs,N,hr];have S:=(LL h2).1;rw[S] at h2 h4 ⊢;refine R _ _ (h _ _ F ⟨L++[vs],H.app ⟨rfl,(fun u I=>by rw[Df.1 I];exact m),fun k T=>?_⟩,by rw[List.flatten_append,B9];simpa using h2⟩ h3 h4);obtain rfl:k=0:=by simpa using T
 exact⟨vs,rfl,O⟩
theorem qA {w:A5}{ops:Array A4}{rest:List A4}{o:A4}{a:Act}{Q:Ag->Act->A5->Prop}{s x:A8}{t e:A7}{cap K:Nat}{i:Ah}{z v:A0}{n:Nat}{r:List A0}{y0 y1:Int}
  (y:o.guard=none)(ho:o.op=.call {callee:=.builtin .append,args:=#[s,x],argTypes:=#[t,t]})
  (ht:P.underlying t=some (.slice e))(hi:P.info? e=some i)(A:i.zero=some z)(g:z.cells.size=2)(b:i.size=2)(l:i.bytes=16)
  (hs:a.eval s=v)(f:w.ownsRow 0 e 2 v n r)(D:a.eval x=.slice (some ⟨K,0,none⟩) 1 cap)(E:w.cell? ⟨K,0,none⟩=some (.int .i64 y0))(c1:w.cell? ⟨K,1,none⟩=some (.int .i64 y1))(hn:n<=1048576)
  (h:∀(q:Option Aa) (c:Nat) m,m.ownsRow 0 e 2 (.slice q (n+1) c) (n+1) (r++[.int .i64 y0,.int .i64 y1])->w.grownBy m v.ownBlock->(∀k,(Value.slice q (n+1) c).ownBlock=some k->v.ownBlock=some k\/w.heap.size<=k)->wpList P ops Q rest (a.put o.dst (.slice q (n+1) c)) m):wpList P ops Q (o::rest) a w:=by
 refine Es y fun G F=>?_;have d:∀(j:Nat) u,([.int .i64 y0,.int .i64 y1]:List A0)[j]? =some u->w.cell? ((⟨K,0,none⟩:Aa).add j)=some u:=fun j u hj=>by
  rw[Gd,As]
  match j,hj with
  |0,hj=>cases hj;exact E
  |1,hj=>cases hj;exact c1
 have p:∀u∈([.int .i64 y0,.int .i64 y1]:List A0),u.oneCell'=true:=by intro u B;simp only[Eb,Ed,Ek] at B;rcases B with rfl|rfl <;> rfl
 obtain⟨H,m,hr,h2,h3,-⟩:=O0 (P:=P) w 0 t o.type e i z 2 16 ht hi A b l g (by decide) v n r f ⟨K,0,none⟩ 1 cap _ rfl d p (by unfold maxLen;omega) (by omega) (Dn _);have h4:=S7 ht hi A b l g (by decide) f rfl d p (by unfold maxLen;omega) (by omega) hr;have C:=(LL h2).1;rw[C] at h2 h4;unfold Oper.wp execOp
 simp only[ho,resolve,invoke,builtin,Ar,Aw,Ap,O4,Ci,Cr,hs,D,hr];have:=h _ _ m h2 h3 h4;rw[<-C] at this;exact F _ _ this
end
theorem xQ {w:A5}{ops:Array A4}{rest:List A4}{o:A4}{a:Act}{Q:Ag->Act->A5->Prop}(j:o.guard=none)(x:A8)(ho:o.op=.buildSlice 37 1 #[(0,x)])(d e f g:A0)
  (k:a.eval x=.agg #[d,e,f,g])(h:wpList prog ops Q rest (a.put o.dst (.slice (some ⟨w.heap.size,0,none⟩) 1 1)) (w.alloc (.cells #[d,e,f,g] 46 (0,0)))):wpList prog ops Q (o::rest) a w:=by
 have b:(match prog.info? 46 with
  |some c=>(match c.zero with
   |some z=>if c.size=4 then Instr.fill (fun i=>some (i*c.size,c.size)) ((Array.range (1*c.size)).map (z.cells[· % z.cells.size]!)) [(0,.agg #[d,e,f,g])] else none
   |none=>none)
  |none=>none)=some #[d,e,f,g]:=by kernel_rfl
 cases hi:prog.info? 46 with
 |none=>rw[hi] at b;cases b
 |some c=>
  rw[hi] at b;cases hz:c.zero with
  |none=>simp only[hz] at b;cases b
  |some z=>
   simp only[hz] at b;by_cases h4:c.size=4
   ·rw[Bc h4] at b;exact Nz j _ _ 1 _ ho _ c z O5 hi hz (by rw[h4];decide) (by rw[h4];decide) (by simpa [k] using b) h
   ·rw[Bb h4] at b;cases b
theorem oJ:∃i z,prog.info? 46=some i/\i.zero=some z/\z.cells.size=4/\i.size=4/\i.bytes=48:=by
 have h:(prog.info? 46).map (fun i=>(i.zero.map (·.cells.size),i.size,i.bytes))=some (some 4,4,48):=by kernel_rfl
 generalize prog.info? 46=x at h
 match x,h with
 |some i,h=>
  rw[Ld] at h;injection h with h;injection h with h1 h2;injection h2 with h2 h3;cases hz:i.zero with
  |none=>rw[hz] at h1;cases h1
  |some z=>
   rw[hz] at h1;injection h1 with h1;exact⟨i,z,rfl,hz,h1,h2,h3⟩
def FE (L:List (Option Nat))(w:A5)(p:Option Aa)(l:List Ev):Prop:=CE w p l/\(l=[]\/∃b o,p=some ⟨b,o,none⟩/\some b∉L)
section
variable {L L':List (Option Nat)}{w x:A5}{row:Option Nat}
theorem FE.kept {p:Option Aa}{l:List Ev}(h:FE L w p l)(f:w.grownBy x row)(hr:∀k,row=some k->some k∈L):FE L x p l:=by
 obtain⟨h1,h2⟩:=h;refine⟨?_,h2⟩;rcases h2 with rfl|⟨b,o,rfl,g⟩
 ·exact .inl rfl
 ·rcases h1 with rfl|⟨q,r,e,c,hc⟩
  ·exact .inl rfl
  ·injection e with e;injection e with e1 e2;subst e1 e2;have d:x.heap[b]? =w.heap[b]?:=f.block b c fun e=>g (hr b e.symm);refine .inr ⟨b,o,rfl,Bg c f.size,fun i hi=>?_⟩;obtain⟨j,m,n⟩:=hc i hi;exact⟨(Fz (a:=⟨b,o+i*3,none⟩) d).trans j,(Fz (a:=⟨b,o+i*3+1,none⟩) d).trans m,(Fz (a:=⟨b,o+i*3+2,none⟩) d).trans n⟩
theorem FE.mono {p:Option Aa}{l:List Ev}(h:FE L w p l)(c:∀k,k<w.heap.size->some k∉L->some k∉L'):FE L' w p l:=by
 obtain⟨h1,h2⟩:=h;refine⟨h1,?_⟩;rcases h2 with rfl|⟨b,o,rfl,d⟩
 ·exact .inl rfl
 ·rcases h1 with rfl|⟨f,g,e,a,_⟩
  ·exact .inl rfl
  ·injection e with e;injection e with e1 e2;subst e1 e2;exact .inr ⟨b,o,rfl,c b a d⟩
def DI (L:List (Option Nat))(w:A5)(c:Cel)(vs:List A0):Prop:=
 ∃(p:Nat->Option Aa) (cap:Nat->Nat),vs=AF c (fun i=>.slice (p i) (c.ev i).length (cap i))/\((Lit.int .i64 c.mx).wf=true/\(Lit.int .i64 c.my).wf=true)/\∀i,i<6->(c.ev i).length<=maxLen/\FE L w (p i) (c.ev i)
theorem DI.kept {c:Cel}{vs:List A0}(h:DI L w c vs)(a:w.grownBy x row)(hr:∀k,row=some k->some k∈L):DI L x c vs:=by
 obtain⟨p,cap,h1,h2,h3⟩:=h;exact⟨p,cap,h1,h2,fun i hi=>⟨(h3 i hi).1,(h3 i hi).2.kept a hr⟩⟩
theorem DI.mono {c:Cel}{vs:List A0}(h:DI L w c vs)(a:∀k,k<w.heap.size->some k∉L->some k∉L'):DI L' w c vs:=by
 obtain⟨p,cap,h1,h2,h3⟩:=h;exact⟨p,cap,h1,h2,fun i hi=>⟨(h3 i hi).1,(h3 i hi).2.mono a⟩⟩
theorem DI.cel (c:Cel)(vs:List A0)(h:DI L w c vs):EZ w c vs:=by
 obtain⟨p,cap,h1,h2,h3⟩:=h;exact⟨p,cap,h1,h2,fun i hi=>⟨(h3 i hi).1,(h3 i hi).2.1⟩⟩
theorem DI.shape {c:Cel}{vs:List A0}(h:DI L w c vs):vs.length=18/\∀u∈vs,u.oneCell'=true:=(DI.cel c vs h).shape
def GC (L:List (Option Nat))(w:A5)(v:A0)(l:List Cel):Prop:=AV 18 77 (DI L w) w 0 v l
theorem GC.nil (L:List (Option Nat))(w:A5):GC L w (.slice none 0 0) []:=AV.nil ..
theorem GC.kept {v:A0}{l:List Cel}(h:GC L w v l)(a:w.grownBy x row)(hr:∀k,row=some k->some k∈L)(hv:∀k,row=some k->v.ownBlock≠some k):GC L x v l:=
 AV.mono (AV.kept h a (by
  cases e:v.ownBlock with
  |none=>exact .inl rfl
  |some g=>exact .inr fun b=>hv g b.symm e)) fun _ _ hc=>hc.kept a hr
theorem GC.mono {v:A0}{l:List Cel}(h:GC L w v l)(a:∀k,k<w.heap.size->some k∉L->some k∉L'):GC L' w v l:=AV.mono h fun _ _ hc=>hc.mono a
theorem AV.lt {α:Type}{c:Nat}{e:A7}{V:α->List A0->Prop}{base:Nat}{v:A0}{l:List α}(h:AV c e V w base v l):∀k,v.ownBlock=some k->k<w.heap.size:=by
 obtain⟨b,_,h2⟩:=h;exact fun k a=>(h2.lt k a).2
def DN (L:List (Option Nat))(w:A5)(r:RowP)(vs:List A0):Prop:=
 ∃sl,vs=[.bool r.head,.int .i64 r.id,.int .i64 r.quant,sl]/\GC L w sl r.cels/\r.cels.length<=maxLen/\∀k,sl.ownBlock=some k->some k∉L
theorem DN.kept {r:RowP}{vs:List A0}(h:DN L w r vs)(a:w.grownBy x row)(hr:∀k,row=some k->some k∈L):DN L x r vs:=by
 obtain⟨sl,h1,h2,h3,h4⟩:=h;exact⟨sl,h1,h2.kept a hr (fun k b e=>h4 k e (hr k b)),h3,h4⟩
theorem DN.mono {r:RowP}{vs:List A0}(h:DN L w r vs)(a:∀k,k<w.heap.size->some k∉L->some k∉L'):DN L' w r vs:=by
 obtain⟨sl,h1,h2,h3,h4⟩:=h;exact⟨sl,h1,h2.mono a,h3,fun k b=>a k (AV.lt h2 k b) (h4 k b)⟩
theorem DN.rowV (r:RowP)(vs:List A0)(h:DN L w r vs):KU w r vs:=by
 obtain⟨sl,rfl,h2,h3,-⟩:=h;obtain⟨b,c,ho⟩:=h2;obtain⟨f,a,-⟩:=LL ho;obtain⟨q,cap,e,hm⟩:=AV.many (V':=EZ) ⟨b,c,ho⟩ DI.cel;refine⟨q,cap,by rw[e],fun d=>?_,h3,hm⟩;rw[e] at a;exact a d
theorem DN.shape {r:RowP}{vs:List A0}(h:DN L w r vs):vs.length=4/\∀u∈vs,u.oneCell'=true:=by
 obtain⟨sl,rfl,⟨b,c,ho⟩,-,-⟩:=h;refine⟨rfl,fun u a=>?_⟩;simp only[Eb,Ed,Ek] at a;rcases a with rfl|rfl|rfl|rfl
 ·rfl
 ·rfl
 ·rfl
 ·exact(LL ho).2.2
def HO (L:List (Option Nat))(w:A5)(v:A0)(l:List RowP):Prop:=AV 4 46 (DN L w) w 0 v l
theorem HO.nil (L:List (Option Nat))(w:A5):HO L w (.slice none 0 0) []:=AV.nil ..
theorem HO.mono {v:A0}{l:List RowP}(h:HO L w v l)(a:∀k,k<w.heap.size->some k∉L->some k∉L'):HO L' w v l:=AV.mono h fun _ _ hc=>hc.mono a
theorem HO.rows {v:A0}{l:List RowP}(h:HO L w v l):∃(q:Option Aa) (cap:Nat),v=.slice q l.length cap/\EC w q l:=AV.many h DN.rowV
end
def FS (n:Nat):List (Option Nat):=(List.range n).map some
theorem KO {n j:Nat}:some j∈FS n↔j<n:=by simp[FS]
section
variable {w0 w z:A5}{A X Z:Nat}{Y SZ:Array A0}{hd:Shd}{a:Option Aa}{ca:Nat}{rv vv rv' vv':A0}{rs:List RowP}{vs:List (Int×Int)}{L L':List (Option Nat)}{row:Option Nat}
end
structure Yae (L:List (Option Nat)) (w w':A5):Prop where
 os:w'.os=w.os
 tape:w'.tape=w.tape
 output:w'.output=w.output
 size:w.heap.size<=w'.heap.size
 block:∀k,k<w.heap.size->some k∉L->w'.heap[k]? =w.heap[k]?
section
variable {L M L':List (Option Nat)}{w x z:A5}{row:Option Nat}
theorem Yae.refl (L:List (Option Nat))(w:A5):Yae L w w:=⟨rfl,rfl,rfl,Ba _,fun _ _ _=>rfl⟩
theorem Yae.trans (h:Yae L w x)(k:Yae M x z)(a:∀j,j<w.heap.size->some j∈M->some j∈L):Yae L w z:=
 ⟨k.os.trans h.os,k.tape.trans h.tape,k.output.trans h.output,Ea h.size k.size,fun i hi h1=>(k.block i (Bg hi h.size) fun h2=>h1 (a i hi h2)).trans (h.block i hi h1)⟩
theorem Yae.mono (h:Yae L w x)(a:∀j,j<w.heap.size->some j∈L->some j∈M):Yae M w x:=
 ⟨h.os,h.tape,h.output,h.size,fun i hi h1=>h.block i hi fun h2=>h1 (a i hi h2)⟩
theorem Yae.one (h:w.grownBy x row)(hr:∀k,k<w.heap.size->row=some k->some k∈L):Yae L w x:=
 ⟨h.os,h.tape,h.output,h.size,fun i hi h1=>h.block i hi fun e=>h1 (hr i hi e.symm)⟩
theorem Yae.below (h:Below w.heap.size w x):Yae L w x:=⟨h.os,h.tape,h.output,h.size,fun k a _=>h.block k a⟩
theorem Yae.under {N:Nat}(h:Yae L w x)(b:N<=w.heap.size)(a:∀k,some k∈L->N<=k):Below N w x:=
 ⟨h.os,h.tape,h.output,h.size,fun k c=>h.block k (by omega) fun h1=>by have:=a k h1;omega⟩
theorem Yae.lone {b:Nat}(h:Yae L w x)(c:∀k,k<w.heap.size->some k∈L->k=b):w.grownBy x (some b):=
 ⟨h.os,h.tape,h.output,h.size,fun k a hn=>h.block k a fun h1=>hn (by rw[c k a h1])⟩
theorem Yae.set {p:Aa}(v:A0)(a:some p.block∈L):Yae L w (w.setCell p v):=Yae.one (DC w p v) fun k _ e=>by injection e with e;subst e;exact a
theorem LR {base e c n:Nat}{v:A0}{b:List A0}(h:w.ownsRow base e c v n b)(f:Yae M w x)(hv:∀k,v.ownBlock=some k->some k∉M):x.ownsRow base e c v n b:=by
 refine⟨h.1,?_⟩;rcases h.2 with h2|⟨g,cap,a,rfl,i,d,h3⟩
 ·exact .inl h2
 ·exact .inr ⟨g,cap,a,rfl,i,(f.block g (An.1 d).1 (hv g rfl)).trans d,h3⟩
theorem FE.keptL {p:Option Aa}{l:List Ev}(h:FE L w p l)(f:Yae M w x)(hr:∀k,some k∈M->some k∈L):FE L x p l:=by
 obtain⟨h1,h2⟩:=h;refine⟨?_,h2⟩;rcases h2 with rfl|⟨b,o,rfl,g⟩
 ·exact .inl rfl
 ·rcases h1 with rfl|⟨q,r,e,c,hc⟩
  ·exact .inl rfl
  ·injection e with e;injection e with e1 e2;subst e1 e2;have d:x.heap[b]? =w.heap[b]?:=f.block b c fun e=>g (hr b e);refine .inr ⟨b,o,rfl,Bg c f.size,fun i hi=>?_⟩;obtain⟨j,m,n⟩:=hc i hi;exact⟨(Fz (a:=⟨b,o+i*3,none⟩) d).trans j,(Fz (a:=⟨b,o+i*3+1,none⟩) d).trans m,(Fz (a:=⟨b,o+i*3+2,none⟩) d).trans n⟩
theorem DI.keptL {c:Cel}{vs:List A0}(h:DI L w c vs)(a:Yae M w x)(hr:∀k,some k∈M->some k∈L):DI L x c vs:=by
 obtain⟨p,cap,h1,h2,h3⟩:=h;exact⟨p,cap,h1,h2,fun i hi=>⟨(h3 i hi).1,(h3 i hi).2.keptL a hr⟩⟩
theorem AV.keptL {α:Type}{c:Nat}{e:A7}{V:α->List A0->Prop}{base:Nat}{v:A0}{l:List α}(h:AV c e V w base v l)(a:Yae M w x)(hv:∀k,v.ownBlock=some k->some k∉M):AV c e V x base v l:=by
 obtain⟨b,h1,h2⟩:=h;exact⟨b,h1,LR h2 a hv⟩
theorem GC.keptL {v:A0}{l:List Cel}(h:GC L w v l)(a:Yae M w x)(hr:∀k,some k∈M->some k∈L)(hv:∀k,v.ownBlock=some k->some k∉M):GC L x v l:=
 AV.mono (AV.keptL h a hv) fun _ _ hc=>hc.keptL a hr
theorem DN.keptL {r:RowP}{vs:List A0}(h:DN L w r vs)(a:Yae M w x)(hr:∀k,some k∈M->some k∈L):DN L x r vs:=by
 obtain⟨sl,h1,h2,h3,h4⟩:=h;exact⟨sl,h1,h2.keptL a hr (fun k e b=>h4 k e (hr k b)),h3,h4⟩
theorem HO.keptL {v:A0}{l:List RowP}(h:HO L w v l)(a:Yae M w x)(hr:∀k,some k∈M->some k∈L)(hv:∀k,v.ownBlock=some k->some k∉M):HO L x v l:=
 AV.mono (AV.keptL h a hv) fun _ _ hc=>hc.keptL a hr
theorem BH.keptL {l:List Int}{p:Option Aa}(h:BH w p l)(f:∀a,p=some a->some a.block∉M)(d:Yae M w x):BH x p l:=by
 rcases h with h|⟨b,o,e,c,hc⟩
 ·exact .inl h
 ·refine .inr ⟨b,o,e,Bg c d.size,fun i hi=>?_⟩;exact(Fz (a:=⟨b,o+i,none⟩) (d.block b c (f _ e))).trans (hc i hi)
end
theorem P5 (k:Int):0<=BC k/\BC k<=100/\0<=BG k/\BG k<=100/\(acr k:Int)<=100:=by
 rcases JO k with rfl|rfl|rfl|rfl|rfl|rfl|⟨h,hv⟩
 case _|_|_|_|_|_=>decide +kernel
 unfold BC BG acr Bx CS;rw[hv]
 decide
theorem OZ (c:Cel)(sl:Nat->A0)(h:∀i,i<6->(sl i).oneCell'=true):(AF c sl).toArray.all (·.oneCell')=true:=by
 rw[G6];intro v hv;have hm:v∈AF c sl:=by simpa using hv
 simp only[AF,Eb,Ed,Ek] at hm;rcases hm with rfl|rfl|rfl|rfl|rfl|rfl|rfl|rfl|rfl|rfl|rfl|rfl|rfl|rfl|rfl|rfl|rfl|rfl
 all_goals first|rfl|exact h _ (by omega)
theorem mI {ops:Array A4}{rest:List A4}{op:A4}{a:Act}{w:A5}{Q:Ag->Act->A5->Prop}(c:op.guard=none)(x:A8)(ho:op.op=.load 73 x)
  (b o:Nat)(d:a.eval x=.pointer (some ⟨b,o,none⟩))(u v:Int)(hc:w.rangeAt b o [.int .i64 u,.int .i64 v])(h:wpList prog ops Q rest (a.put op.dst (.agg #[.int .i64 u,.int .i64 v])) w):wpList prog ops Q (op::rest) a w:=
 J5 c _ x ho b o d [.int .i64 u,.int .i64 v] _ hc Gx rfl (by kernel_rfl) h
theorem gW {Q:Nat->Option Aa->Nat->Prop}(h:∀i,i<6->∃P cap,Q i P cap):∃(p:Nat->Option Aa) (cap:Nat->Nat),∀i,i<6->Q i (p i) (cap i):=by
 refine⟨fun i=>if h':i<6 then (h i h').choose else none,fun i=>if h':i<6 then (h i h').choose_spec.choose else 0,fun i hi=>?_⟩;simp only[dif_pos hi];exact(h i hi).choose_spec.choose_spec
theorem qD {c:Cel}{sl sl':Nat->A0}(h:∀i,i<6->sl i=sl' i):AF c sl=AF c sl':=by
 unfold AF;rw[h 0 (by omega),h 1 (by omega),h 2 (by omega),h 3 (by omega),h 4 (by omega),h 5 (by omega)]
theorem SI (w:A5):(zeroValue 46).run prog w=.ok (.agg [.bool false,.int .i64 0,.int .i64 0,.slice none 0 0].toArray) w:=LG (by kernel_rfl) w
theorem sW {P:Program}{ops:Array A4}{rest:List A4}{S:A5->Prop}{Q:Act->Prop}{o:A4}{a:Act}(ty:A7)(x:A8)(b p:Nat)(cs:List A0)(d:TypeDesc)(c:Region.wanted o (yielded ops a.tmps)=true)(ho:o.op=.load ty x)(e:a.eval x=.pointer (some ⟨b,p,none⟩))
  (hc:∀w,S w->w.rangeAt b p cs)(f:P.underlying ty=some d)(hd:d.isRow=true)(hi:(P.info? ty).map (·.size)=some cs.length)(h:FN P ops S Q rest (a.put o.dst (.agg cs.toArray))):FN P ops S Q (o::rest) a:=
 AT c (fun w g=>by
  unfold execOp;simp only[ho,e,Instr.loadAt,Instr.sureAddr,Ar,Aw,Ap,Ia w b p ty cs d (hc w g) f hd hi]) h
end Go.Proofs.YtjjmalchelniiaaGreatDoor