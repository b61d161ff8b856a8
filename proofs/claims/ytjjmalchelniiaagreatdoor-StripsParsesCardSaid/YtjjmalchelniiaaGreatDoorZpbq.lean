/- No condition. -/
import Derived.Test.YtjjmalchelniiaaGreatDoorZpa
import Derived.Test.YtjjmalchelniiaaGreatDoorZpi
import Derived.Test.YtjjmalchelniiaaGreatDoorZpn
import Derived.Test.YtjjmalchelniiaaGreatDoorZpo
import Derived.Test.YtjjmalchelniiaaGreatDoorZpq
import Derived.Test.YtjjmalchelniiaaGreatDoorZpw
import Derived.Test.YtjjmalchelniiaaGreatDoorZpx
import Derived.Test.YtjjmalchelniiaaGreatDoorZpy
import Derived.Test.YtjjmalchelniiaaGreatDoorZpbl
import Derived.Test.YtjjmalchelniiaaGreatDoorZpbn
open Go.Proofs.Tryz
open Go renaming World->A5,Value->A0,Calls->A9
set_option maxHeartbeats 4000000
namespace Go.Proofs.YtjjmalchelniiaaGreatDoor
open Go.RowKit Go.Lib
theorem Wfj{p:Prop}(h:p:=by
 go_enter func83,ntmps83
 go_wp2
 go_ret
 exact⟨AJ (by rw[a.out,t0,t1];rfl),(Dn _ w).alloc (B9 _) _⟩):p:=h
theorem Wfi{p:Prop}(h:p:=by
 have F:=Dm (show R=false by first|exact n.out.symm|(rw[<-n.out,Q.out rfl];rfl));clear n Q s Y B S T t l m
 go_enter func57,ntmps57
 go_wp2
 go_ret
 rw[K.out];exact⟨vH,U.out⟩):p:=h
theorem zS{p:Prop}(h:p:=by rw[<-U];rfl):p:=h
abbrev Ou:=@underlying78
theorem rH:(prog.info? 77).map (fun i=>(i.zero.map (·.cells.size),i.size,i.bytes))=some (some 18,18,240):=tN
theorem Yi:∃i z,prog.info? 77=some i/\i.zero=some z/\z.cells.size=18/\i.size=18/\i.bytes=240:=by
 have h:=rH;generalize prog.info? 77=x at h
 match x,h with
 |some i,h=>
  rw[Lo] at h;injection h with h;injection h with h1 h2;injection h2 with h2 h3;cases hz:i.zero with
  |none=>rw[hz] at h1;cases h1
  |some z=>
   rw[hz] at h1;injection h1 with h1;exact⟨i,z,rfl,hz,h1,h2,h3⟩
theorem EE.each {α:Type}{c:Nat}{V:A5->α->List A0->Prop}{w:A5}{q:Option Addr}{l:List α}(h:EE c V w q l)(d:0<l.length):
  ∃b o,q=some ⟨b,o,none⟩/\b<w.heap.size/\∀i,(h:i<l.length)->∃vs,V w l[i] vs/\∀x,Below w.heap.size w x->∀(j:Nat) v,vs[j]? =some v->x.cell? ⟨b,o+i*c+j,none⟩=some v:=by
 rcases h with rfl|⟨b,o,rfl,hl,h⟩
 ·cases d
 ·refine⟨b,o,rfl,hl,fun i hi=>?_⟩;obtain⟨vs,h1,h2⟩:=h i hi;exact⟨vs,h1,fun x e j v hj=>(G4 (a:=⟨b,o+i*c+j,none⟩) (e.block b hl)).trans (h2 j v hj)⟩
theorem nT {α:Type}{f:α->Bool}{l:List α}{j:Nat}(hj:j<l.length)(h:(l.take j).all f=true)(h2:f l[j]=true):(l.take (j+1)).all f=true:=by
 rw[Bd hj,Dy,h,Gt,h2]
 rfl
theorem Qjo {α:Type}{f:α->Bool}{l:List α}{j:Nat}(hj:j<l.length)(h2:f l[j]=false):l.all f=false:=by
 rw[Gj];exact⟨l[j],Bl hj,by rw[h2];decide⟩
theorem QG {w:A5}{q:Option Addr}{l:List RowP}(h:HU w q l)(d:0<l.length):
  ∃b o,q=some ⟨b,o,none⟩/\b<w.heap.size/\∀i,(hi:i<l.length)->∃(r:Option Addr) (cap:Nat),(r=none->cap=0)/\l[i].cels.length<=maxLen/\MF w r l[i].cels/\
   ∀x,Below w.heap.size w x->x.cell? ⟨b,o+i*4,none⟩=some (.bool l[i].head)/\x.cell? ⟨b,o+i*4+1,none⟩=some (.int .i64 l[i].id)/\x.cell? ⟨b,o+i*4+2,none⟩=some (.int .i64 l[i].quant)/\x.cell? ⟨b,o+i*4+3,none⟩=some (.slice r l[i].cels.length cap):=by
 rcases h with rfl|⟨b,o,rfl,hl,h⟩
 ·cases d
 ·refine⟨b,o,rfl,hl,fun i hi=>?_⟩;obtain⟨vs,⟨r,cap,rfl,e,hn,hc⟩,h2⟩:=h i hi;have at_:∀x,Below w.heap.size w x->∀(j:Nat) v,[Value.bool l[i].head,.int .i64 l[i].id,.int .i64 l[i].quant,.slice r l[i].cels.length cap][j]? =some v->x.cell? ⟨b,o+i*4+j,none⟩=some v:=
   fun x c j v hj=>(G4 (a:=⟨b,o+i*4+j,none⟩) (c.block b hl)).trans (h2 j v hj)
  exact⟨r,cap,e,hn,hc,fun x c=>⟨at_ x c 0 _ rfl,at_ x c 1 _ rfl,at_ x c 2 _ rfl,at_ x c 3 _ rfl⟩⟩
theorem SQ {P:Program}(w:A5)(b o:Nat)(ty:TypeId)(cs:List A0)(d:TypeDesc)(h:∀(j:Nat) v,cs[j]? =some v->w.cell? ⟨b,o+j,none⟩=some v)
  (c:P.underlying ty=some d)(hd:(match d with|.struct _|.array _ _=>true|_=>false)=true)(hi:(P.info? ty).map (·.size)=some cs.length):
  (loadVar ty ⟨b,o,none⟩).run P w=.ok (.agg cs.toArray) w:=by
 have hl:(loadCells ⟨b,o,none⟩ cs.length).run P w=.ok cs.toArray w:=run_loadCells_list (P:=P) w ⟨b,o,none⟩ cs (fun j v hv=>by rw[Gh];exact h j v hv);cases hq:P.info? ty with
 |none=>simp[hq] at hi
 |some i=>
  have hs:i.size=cs.length:=by simpa [hq] using hi
  have a:(isAgg ty).run P w=.ok true w:=by
   unfold isAgg;rw[As,Ll c w];cases d <;> simp_all
  simp[loadVar,Sem.run_bind,a,sizeOf,typeInfo,hq,hs,hl]
theorem PK (k:Int):-10000<=BN k/\BN k<=10000:=by
 unfold BN;rcases KD k with rfl|rfl|rfl|rfl|rfl|rfl|⟨h,hv⟩
 case _|_|_|_|_|_=>decide +kernel
 unfold BQ;rw[hv];simp
theorem Qpi (k:Int):BN k=(acr k:Int)*BQ k:=by unfold BN;rw[(HY k).1]
def NA (c:Cel):Bool:=c.skip || (c.kind==0 || c.kind==1)
theorem oV (c:Cel)(sl:Nat->A0)(w:A5):A9 prog 83 #[.agg (AD c sl).toArray] w fun e d=>e=.returned (.bool (NA c))/\Below w.heap.size w d:=by
 obtain⟨A,b,f0,f1,f2,f3,f4,f5,-,-⟩:=KP c sl;rw[b];clear b;have a:Hid (NA c=(c.skip || (c.kind==0 || c.kind==1))):=Dm rfl;generalize NA c=f at a ⊢;generalize c.skip=s at f1 a;generalize c.kind=k at f2 a;cases s
 case true=>
  go_enter func83,ntmps83
  go_wp2
  go_ret
  exact⟨AJ xG,(Dn _ w).alloc (B9 _) _⟩
 rcases Of (k==0) with t0|t0
 ·go_enter func83,ntmps83
  go_wp2
  go_ret
  exact⟨AJ (by rw[a.out,t0];rfl),(Dn _ w).alloc (B9 _) _⟩
 ·rcases Of (k==1) with t1|t1
  ·exact Wfj
  ·exact Wfj
def MA (n:Int)(H:Bool)(I Q:Int):Bool:=if H then decide (n≠0/\0<=I/\I<=3/\1<=Q/\Q<=31) else decide (I=0/\Q=0)
set_option maxRecDepth 100000 in
theorem Qb0 (n:Int)(hn:0<=n)(H:Bool)(I Q:Int)(sl:A0)(w:A5):A9 prog 80 #[.int .i64 n,.agg #[.bool H,.int .i64 I,.int .i64 Q,sl]] w fun e d=>e=.returned (.bool (MA n H I Q))/\Below w.heap.size w d:=by
 cases H
 case false=>
  obtain⟨G,a⟩:=Ah (MA n false I Q);obtain⟨d1,h1⟩:=Ah (I==0);obtain⟨d2,h2⟩:=Ah (Q==0);have hd:G=(d1&&d2):=by
   rw[<-a,<-h1,<-h2,I7];simp[MA]
  rw[a];clear a;have b:=Dm hd;clear hd;cases d1 <;> cases d2 <;>
  (go_enter func80,ntmps80
   go_wp2
   go_ret
   exact⟨AJ b.out.symm,(Dn _ w).alloc (B9 _) _⟩)
 case true=>
  obtain⟨G,a⟩:=Ah (MA n true I Q);obtain⟨d1,h1⟩:=Ah (decide (0<n));obtain⟨d2,h2⟩:=Ah (decide (0<=I));obtain⟨d3,h3⟩:=Ah (decide (I<=3));obtain⟨d4,h4⟩:=Ah (decide (1<=Q));obtain⟨d5,c⟩:=Ah (decide (Q<=31));have hd:G=(d1&&(d2&&(d3&&(d4&&d5)))):=by
   rw[<-a,<-h1,<-h2,<-h3,<-h4,<-c,I7];simp[MA] <;> omega
  rw[a];clear a hn;have b:=Dm hd;have f:d1=false\/(d1=true/\d2=false)\/(d1=true/\d2=true/\d3=false)\/(d1=true/\d2=true/\d3=true/\d4=false)\/(d1=true/\d2=true/\d3=true/\d4=true/\d5=false)\/(d1=true/\d2=true/\d3=true/\d4=true/\d5=true):=by
   clear hd h1 h2 h3 h4 c b;cases d1 <;> cases d2 <;> cases d3 <;> cases d4 <;> cases d5 <;> simp
  clear hd;rcases f with rfl|⟨rfl,rfl⟩|⟨rfl,rfl,rfl⟩|⟨rfl,rfl,rfl,rfl⟩|⟨rfl,rfl,rfl,rfl,rfl⟩|⟨rfl,rfl,rfl,rfl,rfl⟩
  all_goals
   go_enter func80,ntmps80
   go_wp2
   go_ret
   exact⟨AJ b.out.symm,(Dn _ w).alloc (B9 _) _⟩
theorem dU (h:Shd)(a b:A0)(z:Int)(w:A5):A9 prog 81 #[.agg (AU h a b z).toArray] w fun e d=>e=.returned (.int .i64 (BN h.fmt))/\Below w.heap.size w d:=by
 obtain⟨A,c⟩:=Ah ((AU h a b z).toArray);have f2:A[2]? =some (.int .i64 h.fmt):=by rw[<-c];rfl
 rw[c];clear c;generalize h.fmt=k at f2 ⊢;have c1:=fun w=>QO k w;have c2:=fun w=>SP k w;have g:IntKind.i64.wrap (AY k*BQ k)=BN k:=CE (by have:=PK k;unfold BN at this;omega);generalize BN k=N at *;generalize AY k=x at *;generalize J0 k=x1 at *;generalize BE k=x2 at *;generalize BQ k=i at *
 go_enter func81,ntmps81
 go_wp2_with fail
 refine(c1 _).mono ?_;rintro e f ⟨rfl,rfl⟩
 go_wp2_with fail
 refine(c2 _).mono ?_;rintro e f ⟨rfl,rfl⟩
 go_wp2
 go_ret
 exact⟨rfl,(Dn _ w).alloc (B9 _) _⟩
theorem dN (d:FuncId)(X:Array A0)(n:Nat)(f:Nat->Bool)(b:Bool)(w:A5)(hn:n<=4611686018427387904)(r:∀args x,(callFunc d args).run prog x=.ok (.enter d args) x)
  (hc:∀i,i<n->(∀j,j<i->f j=true)->∀x,Below w.heap.size w x->A9 prog d #[.agg X,.int .i64 (i:Int)] x fun e y=>e=.returned (.bool (f i))/\Below x.heap.size x y)
  (p:(∀i,i<n->f i=true)->b=true)(q:∀i,i<n->f i=false->b=false):
  A9 prog 45 #[.int .i64 (n:Int),.func (.func d) #[.agg X] #[]] w fun e s=>e=.returned (.bool b)/\Below w.heap.size w s:=by
 have t:=Dm hc;have u:=Dm p;have v:=Dm q;clear hc p q
 go_enter func45,ntmps45
 go_wp2
 go_loopw [7] (fun z wr=>∃i:Nat,i<=n/\z=.int .i64 (i:Int)/\Hid (∀j,j<i->f j=true)/\Below w.heap.size w wr) (fun z _=>n-(intOf z).toNat)
 case atStart=>exact⟨0,Do _,rfl,Dm fun j h=>absurd h (Fi j),Dn _ _⟩
 case round=>
  obtain⟨i,hi,rfl,g,k⟩:=hrel;by_cases a:i<n
  ·have t0:decide ((i:Int)<(n:Int))=true:=sU;have c1:=t.out i a g.out wr k;have l:=Dm (fun(e:f i=true)=>(fun j hj=>(by
    by_cases h:j<i
    ·exact g.out j h
    ·obtain rfl:j=i:=sX;exact e):∀j,j<i+1->f j=true))
   have m:=Dm (v.out i a);clear g;generalize f i=y at c1 l m
   go_wp2_with fail
   refine c1.mono ?_;rintro e A ⟨rfl,o⟩;have c:Below w.heap.size w A:=k.trans (o.mono k.size);cases y with
   |true=>
    have N:=Dm (l.out rfl);clear l m
    go_wp2
    go_roundw
    case rel=>exact⟨i+1,sX,tP,N,c⟩
    case measure=>simp[intOf];omega
   |false=>
    have N:=Dm (m.out rfl);clear l m
    go_wp2
    go_ret
    exact⟨AJ N.out.symm,c⟩
  ·obtain rfl:n=i:=sX;have t0:decide ((n:Int)<(n:Int))=false:=sV;have N:=Dm (u.out g.out)
   go_wp2
   go_ret
   exact⟨AJ N.out.symm,k⟩
theorem lT {α:Type}{f:Nat->α->Bool}{s:Nat}{l:List α}{j:Nat}(hj:j<l.length)(h:AV f s (l.take j)=true)(h1:f (s+j) l[j]=true):AV f s (l.take (j+1))=true:=by
 rw[Bd hj,Z7,h,Be,show s+min j l.length=s+j by omega,h1];rfl
theorem Y9w {α:Type}{f:Nat->α->Bool}{s:Nat}{l:List α}{j:Nat}(hj:j<l.length)(h1:f (s+j) l[j]=false):AV f s l=false:=by
 cases h:AV f s l with
 |false=>rfl
 |true=>
  have:=OQ.1 h j hj;rw[h1] at this;cases this
def IB (k:Int)(n:Nat)(c:Cel):Bool:=!NA c || H1 k (n:Int) c.mx c.my
set_option maxRecDepth 100000 in
theorem Qhj (S:ShP)(p b:Option Addr)(ca cb i N:Nat)(w:A5)(hi:i<S.rows.length)(hn:S.rows.length<=1000)(hN:BN S.hd.fmt=(N:Int))(hl:S.rows[i].cels.length=N)(hr:HU w b S.rows):
  A9 prog 47 #[.agg (AU S.hd (.slice p S.hd.supp.length ca) (.slice b S.rows.length cb) S.zeros).toArray,.int .i64 (i:Int)] w fun e w'=>e=.returned (.bool (AV (IB S.hd.fmt) (i*N) S.rows[i].cels))/\Below w.heap.size w w':=by
 have ar:N<=10000:=by have:=PK S.hd.fmt;omega
 obtain⟨O,P,rfl,E,T⟩:=QG hr sX;obtain⟨r,cap,hq,au,c,G⟩:=T i hi;clear T hr;have cE:=fun x=>dU S.hd (.slice p S.hd.supp.length ca) (.slice (some ⟨O,P,none⟩) S.rows.length cb) S.zeros x;rw[hN] at cE;have cM:=fun n x y w=>fV S.hd.fmt n x y w;generalize S.rows[i]=R at au c G hl ⊢;generalize S.rows.length=n at hi hn cE ⊢;obtain⟨H,I,Q,m⟩:=R;dsimp only at *;obtain⟨zs,U⟩:=Ah (AU S.hd (.slice p S.hd.supp.length ca) (.slice (some ⟨O,P,none⟩) n cb) S.zeros);have z6:zs[6]? =some (.slice (some ⟨O,P,none⟩) n cb):=zS;have z2:zs[2]? =some (.int .i64 S.hd.fmt):=zS;have av:(prog.info? 78).map (·.size)=some zs.toArray.size:=by rw[show zs.toArray.size=8 by rw[<-U];rfl];kernel_rfl
 rw[U] at cE ⊢;clear U hN;generalize S.hd.fmt=a at *;obtain⟨B,hB⟩:=Ah w.heap.size;obtain⟨q,d⟩:=Ah (w.alloc (.cells zs.toArray 78 (0,0)));have J:q.heap[B]? =some (.cells zs.toArray 78 (0,0)):=by rw[<-d,<-hB];exact heap_alloc_new w _
 have K:Below w.heap.size w q:=by rw[<-d];exact(Dn _ w).alloc (B9 _) _
 have V:q.heap.size=B+1:=by rw[<-d,<-hB];simp
 have an:Hid (∀x,Below (B+1) q x->x.cell? ⟨B,2,none⟩=some (.int .i64 a)/\x.cell? ⟨B,6,none⟩=some (.slice (some ⟨O,P,none⟩) n cb)/\x.cell? ⟨O,P+i*4+3,none⟩=some (.slice r m.length cap)/\Below w.heap.size w x):=Dm fun x hx=>by
  have h1:=(hx.block B sX).trans J;have W:=K.trans (hx.mono sX);exact⟨AA h1 z2,AA h1 z6,(G x W).2.2.2,W⟩
 obtain⟨F,hF⟩:=Ah (i*N);have a6:F<=10000000:=by rw[<-hF];exact Hf (show i<=1000 by omega) ar
 have hm:IntKind.i64.wrap ((i:Int)*(N:Int))=(F:Int):=by rw[<-hF,<-Lk];exact CE (by rw[hF];omega)
 rw[hF];have aw:=Dm d;have a4:=Dm hB;have ao:=Dm V;have X:=Dm c;have a7:=Dm K;have a5:=Dm hl;obtain⟨Y,ax,a8⟩:=NX;clear d G K hF V z2 z6 c hl
 go_enter func47,ntmps47
 go_wp2_with (rw[aw.out];with_reducible refine Nk rfl 78 _ rfl B rfl 78 zs.toArray (0,0) _ J Ou rfl av ?_)
 refine(cE _).mono ?_;rintro e w1 ⟨rfl,E⟩;have h1:Below (B+1) q w1:=E.mono (by have:=ao.out;omega);obtain⟨k2,k6,k3,ay⟩:=an.out w1 h1;have t1:decide ((i:Int)<(n:Int))=true:=sU;clear E J
 go_wp2
 clear k2 k6 k3 t1 hm
 go_loopw [19] (fun z wr=>∃j:Nat,z=.int .i64 (j:Int)/\j<=m.length/\Hid (AV (IB a) F (m.take j)=true)/\Below (B+1) q wr) (fun z _=>m.length-(intOf z).toNat)
 case atStart=>exact⟨0,rfl,Do _,Dm rfl,h1⟩
 case round=>
  clear h1 ay;obtain⟨j,rfl,hj,ha,hb⟩:=hrel;obtain⟨-,-,-,L⟩:=an.out wr hb;have a9:m.length<=10000:=by have:=a5.out;omega
  by_cases M:j<m.length
  ·have t1:decide ((j:Int)<(m.length:Int))=true:=sU;obtain⟨b2,o2,rfl,ba,Z⟩:=EE.each X.out sX;obtain⟨vs,hV,aa⟩:=Z j M;have g:=hV.shape.1;have ab:=SL hV;obtain⟨p3,ac,t,-,-⟩:=hV;have ad:wr.rangeAt b2 (o2+j*18) vs:=fun k v hk=>aa wr L k v hk;have ae:=Dm (fun h=>lT (f:=IB a) M ha.out h);have ap:=Dm (fun h=>Y9w (s:=F) (f:=IB a) M h);have cP:=fun x=>oV m[j] (fun i=>.slice (p3 i) (m[j].ev i).length (ac i)) x;rw[<-t] at cP;have az:=fun x=>cM ((F:Int)+(j:Int)) m[j].mx m[j].my x;have hs:IntKind.i64.wrap ((F:Int)+(j:Int))=(F:Int)+(j:Int):=CE (by have:=a5.out;omega);have aq:=Dm (show IB a (F+j) m[j]=(!NA m[j] || H1 a ((F:Int)+(j:Int)) m[j].mx m[j].my) by unfold IB;rw[Int.natCast_add]);obtain⟨wC,l⟩:=Ah (wr.alloc (.cells vs.toArray 77 (0,0)));obtain⟨C,hC⟩:=Ah wr.heap.size;have u:wC.heap[C]? =some (.cells vs.toArray 77 (0,0)):=by rw[<-l,<-hC];exact heap_alloc_new wr _
   have af:Below (B+1) q wC:=by rw[<-l];exact hb.alloc (by have:=hb.size;have:=ao.out;omega) _
   have ag:wC.heap.size=C+1:=by rw[<-l,<-hC];simp
   have bb:B+1<=C:=by rw[<-hC];have:=hb.size;have:=ao.out;omega
   have ah:(prog.info? 77).map (·.size)=some vs.toArray.size:=by rw[show vs.toArray.size=18 from g];kernel_rfl
   have a0:Y.size=vs.toArray.size:=by rw[ax];exact g.symm
   have v4:vs[4]? =some (.int .i64 m[j].mx):=by rw[t];rfl
   have v5:vs[5]? =some (.int .i64 m[j].my):=by rw[t];rfl
   have a1:=Dm l;have bc:=Dm u;have ai:=Dm ag;clear t aa Z ha l ag;generalize m[j].mx=mx at *;generalize m[j].my=my at *;generalize IB a (F+j) m[j]=y at *;generalize NA m[j]=pk at *;have bd:=Dm hC;clear hC
   go_wp2_with (first|(with_reducible refine Ur rfl _ rfl b2 (o2+j*18) rfl vs ad g ?_)|(with_reducible refine BL rfl 77 _ _ rfl vs.toArray Y 77 rfl rfl ah a0 ab ?_;rw[a1.out])|(rw[bd.out];with_reducible refine Nk rfl 77 _ rfl C rfl 77 vs.toArray (0,0) _ u Io rfl ah ?_))
   refine(cP _).mono ?_;rintro e w2 ⟨rfl,o⟩;have A:Below (B+1) q w2:=af.trans (o.mono (by have:=ai.out;omega));have aj:w2.heap[C]? =some (.cells vs.toArray 77 (0,0)):=(o.block C (by have:=ai.out;omega)).trans u;clear o u ad af;obtain⟨k2,-,-,bf⟩:=an.out w2 A;cases pk with
   |false=>
    have ak:=Dm (ae.out (by rw[aq.out];rfl));clear ae ap aq
    go_wp2
    go_roundw
    case rel=>exact⟨j+1,tP,sX,ak,A⟩
    case measure=>simp[intOf];omega
   |true=>
    have a2:w2.rangeAt C 4 [.int .i64 mx,.int .i64 my]:=fun k v hk=>by
     match k,hk with
     |0,hk=>injection hk with hk;subst hk;exact AA aj v4
     |1,hk=>injection hk with hk;subst hk;exact AA aj v5
    have D:=Dm (show y=H1 a ((F:Int)+(j:Int)) mx my from aq.out);clear aq
    go_wp2_with (with_reducible refine cA tN _ rfl C 4 rfl mx my a2 ?_)
    refine(az _).mono ?_;rintro e w3 ⟨rfl,a3⟩;have al:Below (B+1) q w3:=A.trans (a3.mono (by have:=A.size;have:=ao.out;omega));have am:=(an.out w3 al).2.2.2;generalize H1 a ((F:Int)+(j:Int)) mx my=mv at *;cases mv with
    |true=>
     have ak:=Dm (ae.out D.out);clear ae ap D
     go_wp2
     go_roundw
     case rel=>exact⟨j+1,tP,sX,ak,al⟩
     case measure=>simp[intOf];omega
    |false=>
     have ak:=Dm (ap.out D.out);clear ae ap D
     go_wp2
     go_ret
     exact⟨AJ ak.out.symm,by first|exact am|(rw[<-a4.out];exact am)⟩
  ·obtain rfl:m.length=j:=sX;have t1:decide ((m.length:Int)<(m.length:Int))=false:=sV;have bg:=Dm (show AV (IB a) F m=true by have:=ha.out;rwa [Il] at this)
   go_wp2
   go_ret
   exact⟨AJ bg.out.symm,by first|exact L|(rw[<-a4.out];exact L)⟩
theorem Qfq {l m:List Int}(hl:l.length=m.length)(h:∀i,i<l.length->l.getD i 0=m.getD i 0):l=m:=by
 refine List.ext_getElem hl fun i h1 h2=>?_;have:=h i h1;rw[show l.getD i 0=l[i] by simp[List.getD,h1],show m.getD i 0=m[i] by simp[List.getD,h2]] at this;exact this
set_option maxRecDepth 100000 in
theorem Y6k (h Z:Shd)(p M:Option Addr)(cap r:Nat)(H I:A0)(z z':Int)(hl:h.supp.length<=maxLen)(w:A5)(hs:BO w p h.supp)(aa:BO w M Z.supp):
  A9 prog 57 #[.agg (AU h (.slice p h.supp.length cap) H z).toArray,.agg (AU Z (.slice M Z.supp.length r) I z').toArray] w fun e w'=>e=.returned (.bool (K7 h Z))/\Below w.heap.size w w':=by
 unfold maxLen at hl;obtain⟨C,o,D,inter,q,b⟩:=h;obtain⟨u,f,v,d,g,c⟩:=Z;unfold AU;dsimp only at *;obtain⟨d1,h1⟩:=Ah (C != u);obtain⟨d2,h2⟩:=Ah (o != f);obtain⟨d3,h3⟩:=Ah (D != v);obtain⟨d4,h4⟩:=Ah (inter != d);obtain⟨d5,h5⟩:=Ah (q != g);obtain⟨d6,W⟩:=Ah (((b.length:Int) != (c.length:Int)));obtain⟨X,E⟩:=Ah (decide (b=c));have hd:K7 ⟨C,o,D,inter,q,b⟩ ⟨u,f,v,d,g,c⟩=(!d1&&(!d2&&(!d3&&(!d4&&(!d5&&X))))):=by
  rw[<-h1,<-h2,<-h3,<-h4,<-h5,<-E];simp[K7,bne]
 have ab:d6=true->X=false:=fun e=>by
  rw[<-E,Gd];rintro rfl;rw[e] at W;simp at W
 have O:d6=false->b.length=c.length:=fun e=>by
  rw[e,bne_eq_false_iff_eq] at W;exact Int.ofNat.inj W
 have P:b.length=c.length->(∀i,i<b.length->b.getD i 0=c.getD i 0)->X=true:=fun e k=>by rw[<-E,Fg];exact Qfq e k
 have ac:∀i,b.getD i 0≠c.getD i 0->X=false:=fun i k=>by
  rw[<-E,Gd];rintro rfl;exact k rfl
 rw[hd];obtain⟨R,hR⟩:=Ah ((!d1&&(!d2&&(!d3&&(!d4&&(!d5&&X))))));rw[hR];clear E hd;obtain⟨A,hA⟩:=Ah w.heap.size;obtain⟨J,G⟩:=Ah ((w.alloc (.cells #[.int .i64 C,.int .i64 o,.int .i64 D,.bool inter,.int .i64 q,.slice p b.length cap,H,.int .i64 z] 39 (0,0))).alloc (.cells #[.int .i64 u,.int .i64 f,.int .i64 v,.bool d,.int .i64 g,.slice M c.length r,I,.int .i64 z'] 39 (0,0)));have m:Below w.heap.size w J:=by rw[<-G];exact((Dn _ w).alloc (B9 _) _).alloc (by simp) _
 have S:J.cell? ⟨A,5,none⟩=some (.slice p b.length cap):=AA (cs:=[.int .i64 C,.int .i64 o,.int .i64 D,.bool inter,.int .i64 q,.slice p b.length cap,H,.int .i64 z]) (by rw[<-G,<-hA];exact BM (heap_alloc_new w _)) rfl;have T:J.cell? ⟨A+1,5,none⟩=some (.slice M c.length r):=AA (cs:=[.int .i64 u,.int .i64 f,.int .i64 v,.bool d,.int .i64 g,.slice M c.length r,I,.int .i64 z']) (by
  rw[<-G,<-hA];have:=heap_alloc_new (w.alloc (.cells #[.int .i64 C,.int .i64 o,.int .i64 D,.bool inter,.int .i64 q,.slice p b.length cap,H,.int .i64 z] 39 (0,0))) (.cells #[.int .i64 u,.int .i64 f,.int .i64 v,.bool d,.int .i64 g,.slice M c.length r,I,.int .i64 z'] 39 (0,0))
  simpa using this) rfl
 have t:=hs.below m;have l:=aa.below m;have K:=Dm G;have ao:=Dm hA;have n:=Dm hR;have U:=Dm m;have Q:=Dm ab;have s:=Dm O;have Y:=Dm P;have B:=Dm ac;clear hR ab O P ac;have hB:d1=true\/(d1=false/\d2=true)\/(d1=false/\d2=false/\d3=true)\/(d1=false/\d2=false/\d3=false/\d4=true)\/(d1=false/\d2=false/\d3=false/\d4=false/\d5=true)\/(d1=false/\d2=false/\d3=false/\d4=false/\d5=false/\d6=true)\/(d1=false/\d2=false/\d3=false/\d4=false/\d5=false/\d6=false):=by
  clear h1 h2 h3 h4 h5 W Q s n;cases d1 <;> cases d2 <;> cases d3 <;> cases d4 <;> cases d5 <;> cases d6 <;> simp
 clear G hs aa hA;rcases hB with rfl|⟨rfl,rfl⟩|⟨rfl,rfl,rfl⟩|⟨rfl,rfl,rfl,rfl⟩|⟨rfl,rfl,rfl,rfl,rfl⟩|⟨rfl,rfl,rfl,rfl,rfl,rfl⟩|⟨rfl,rfl,rfl,rfl,rfl,rfl⟩
 case _|_|_=>
  exact Wfi
 case _=>
  obtain rfl:inter = !d:=by cases inter <;> cases d <;> simp_all
  exact Wfi
 case _|_=>
  obtain rfl:inter=d:=by simpa using h4
  exact Wfi
 obtain rfl:inter=d:=by simpa using h4
 have F:=Dm (show R=X from n.out.symm);have ad:=s.out rfl;have ae:=Dm ad;clear Q n s ad
 go_enter func57,ntmps57
 go_wp2
 rw[K.out,ao.out];have an:Hid (∀x,Below J.heap.size J x->(x.cell? ⟨A,5,none⟩=some (.slice p b.length cap)/\x.cell? ⟨A+1,5,none⟩=some (.slice M c.length r))/\BO x p b/\BO x M c/\Below w.heap.size w x):=Dm fun x L=>
  ⟨⟨(G4 (a:=⟨A,5,none⟩) (L.block A (Hl J ⟨A,5,none⟩ S))).trans S,(G4 (a:=⟨A+1,5,none⟩) (L.block (A+1) (Hl J ⟨A+1,5,none⟩ T))).trans T⟩,t.below L,l.below L,m.trans (L.mono m.size)⟩
 clear S T t l m h1 h2 h3 h4 h5 W
 go_loopw [5] (fun i wr=>∃j:Nat,j<=b.length/\i=.int .i64 j/\Below J.heap.size J wr/\Hid (∀i,i<j->b.getD i 0=c.getD i 0)) (fun i _=>b.length-(RowKit.intOf i).toNat)
 case atStart=>exact⟨0,Do _,rfl,Dn _ _,Dm fun i h=>absurd h (Fi i)⟩
 case round=>
  obtain⟨j,hj,rfl,af,ha⟩:=hrel;obtain⟨⟨S,T⟩,t,l,m⟩:=an.out _ af;clear an;by_cases ag:j<b.length
  ·have t1:decide ((j:Int)<(b.length:Int))=true:=sU;have ah:j<c.length:=by rw[<-ae.out];exact ag
   obtain⟨b1,o1,rfl,ap,ai⟩:=t.hold sX;obtain⟨b2,o2,rfl,aq,aj⟩:=l.hold sX;have k0:=ai _ (Dn _ _) j ag;have k1:=aj _ (Dn _ _) j ah;have ak:=Dm (B.out j);have al:=Dm (fun(e:b.getD j 0=c.getD j 0) i (hi:i<j+1)=>(by
    by_cases h:i<j
    ·exact ha.out i h
    ·obtain rfl:i=j:=sX;exact e:b.getD i 0=c.getD i 0))
   clear ai aj t l ha B Y;obtain⟨x,L⟩:=Ah (b.getD j 0);obtain⟨y,hy⟩:=Ah (c.getD j 0);rw[L] at k0 ak;rw[hy] at k1 ak;simp only[L,hy] at al;have V:=al;clear al;clear L hy;by_cases e:x=y
   ·subst e;have N:=Dm (V.out rfl);have gx:(x != x)=false:=sV;clear V ak
    go_wp2
    go_region
    go_wp2
    go_roundw
    case rel=>exact⟨j+1,sX,tP,af.drew,N⟩
    case measure=>simp[RowKit.intOf];omega
   ·have N:=Dm (ak.out e);have gx:(x != y)=true:=by rw[Fj];exact e
    have am:=m.drew;clear V ak e
    go_wp2
    go_region
    go_wp2
    go_ret
    exact⟨by rw[F.out,N.out];rfl,am⟩
  ·obtain rfl:b.length=j:=sX;have t1:decide ((b.length:Int)<(b.length:Int))=false:=sV;have N:=Dm (Y.out ae.out ha.out);clear t l ha Y B
   go_wp2
   go_ret
   exact⟨by rw[F.out,N.out];rfl,m⟩
end Go.Proofs.YtjjmalchelniiaaGreatDoor