/- Part 17 of StripsBack. No condition. -/
import Derived.Test.YtjjmalchelniiaaGreatDoorStripsBackMa
import Derived.Test.YtjjmalchelniiaaGreatDoorStripsBackMd
import Derived.Test.YtjjmalchelniiaaGreatDoorStripsBackMg
import Derived.Test.YtjjmalchelniiaaGreatDoorStripsBackMi
import Derived.Test.YtjjmalchelniiaaGreatDoorStripsBackMj
import Derived.Test.YtjjmalchelniiaaGreatDoorStripsBackMp
import Derived.RegionTactic
import Derived.Deep.RegionWith
import Derived.Deep.CutRange
import Derived.Deep.DeepCutAuto
import Derived.OwnWalk
import Derived.Laws.AppendOwn
import Derived.Laws.AppendOwnNone
import Derived.Deep.MidRow
namespace Go.Proofs.YtjjmalchelniiaaGreatDoor
open Go.RowKit Go.Lib Go.ChangeShapes Go.WideShapes Go.ChangeAt
def Yco {α:Type}(c:Nat)(V:World→α→List Value→Prop)(w:World)(q:Option Addr)(l:List α):Prop:=
 l=[]∨∃b o,q=some ⟨b,o,none⟩∧b<w.heap.size∧∀i,(h:i<l.length)→∃vs,V w l[i] vs∧∀(j:Nat) v,vs[j]? =some v→w.cell? ⟨b,o+i*c+j,none⟩=some v
theorem Yco.below {α:Type}{c:Nat}{V:World→α→List Value→Prop}{w x:World}{q:Option Addr}{l:List α}(h:Yco c V w q l)(hV:∀a vs,V w a vs→V x a vs)(hb:Below w.heap.size w x):Yco c V x q l:=by
 rcases h with h|⟨b,o,rfl,hl,h⟩
 ·exact .inl h
 ·refine .inr ⟨b,o,rfl,Nat.lt_of_lt_of_le hl hb.size,fun i hi=>?_⟩;obtain⟨vs,h1,h2⟩:=h i hi;exact⟨vs,hV _ _ h1,fun j v hj=>(World.cell?_of_block (a:=⟨b,o+i*c+j,none⟩) (hb.block b hl)).trans (h2 j v hj)⟩
theorem Yco.hold {α:Type}{c:Nat}{V:World→α→List Value→Prop}{w:World}{q:Option Addr}{l:List α}(h:Yco c V w q l)(h0:0<l.length):
  ∃b o,q=some ⟨b,o,none⟩∧b<w.heap.size∧∀x,Below w.heap.size w x→∀i,(h:i<l.length)→∃vs,V w l[i] vs∧∀(j:Nat) v,vs[j]? =some v→x.cell? ⟨b,o+i*c+j,none⟩=some v:=by
 rcases h with rfl|⟨b,o,rfl,hl,h⟩
 ·cases h0
 ·refine⟨b,o,rfl,hl,fun x hx i hi=>?_⟩;obtain⟨vs,h1,h2⟩:=h i hi;exact⟨vs,h1,fun j v hj=>(World.cell?_of_block (a:=⟨b,o+i*c+j,none⟩) (hx.block b hl)).trans (h2 j v hj)⟩
theorem Yps {α:Type}[Inhabited α]{c:Nat}{V:World→α→List Value→Prop}{w:World}{q:Option Addr}{n:Nat}(h:Y7w w (fun vs=>∃a,V w a vs) c q n):∃l:List α,l.length=n∧Yco c V w q l:=by
 rcases h with rfl|⟨b,o,rfl,hl,h⟩
 ·exact⟨[],rfl,.inl rfl⟩
 ·have each:∀i,∃a:α,i<n→∃vs,V w a vs∧∀(j:Nat) v,vs[j]? =some v→w.cell? ⟨b,o+i*c+j,none⟩=some v:=by
   intro i;by_cases hi:i<n
   ·obtain⟨vs,_,⟨a,ha⟩,hv⟩:=h i hi;exact⟨a,fun _=>⟨vs,ha,hv⟩⟩
   ·exact⟨default,fun h=>absurd h hi⟩
  refine⟨(List.range n).map fun i=>(each i).choose,by simp,.inr ⟨b,o,rfl,hl,fun i hi=>?_⟩⟩;have hi':i<n:=by simpa using hi
  have e:((List.range n).map fun i=>(each i).choose)[i]=(each i).choose:=by simp
  rw[e];exact(each i).choose_spec hi'
instance:Inhabited Cel:=⟨Ymj⟩
def Yy3 (w:World)(c:Cel)(vs:List Value):Prop:=
 ∃(p:Nat→Option Addr) (cap:Nat→Nat),vs=Ybe c (fun i=>.slice (p i) (c.ev i).length (cap i))∧((Lit.int .i64 c.mx).wf=true∧(Lit.int .i64 c.my).wf=true)∧∀i,i<6→(c.ev i).length≤maxLen∧Yel w (p i) (c.ev i)
theorem Yy3.below {w x:World}(hb:Below w.heap.size w x)(c:Cel)(vs:List Value)(h:Yy3 w c vs):Yy3 x c vs:=by
 obtain⟨p,cap,h1,h2,h3⟩:=h;exact⟨p,cap,h1,h2,fun i hi=>⟨(h3 i hi).1,(h3 i hi).2.below hb⟩⟩
def Ygg:World→Option Addr→List Cel→Prop:=Yco 18 Yy3
theorem Ygg.below {w x:World}{q:Option Addr}{l:List Cel}(h:Ygg w q l)(hb:Below w.heap.size w x):Ygg x q l:=Yco.below h (Yy3.below hb) hb
structure RowP where
 head:Bool
 id:Int
 quant:Int
 cels:List Cel
instance:Inhabited RowP:=⟨⟨false,0,0,[]⟩⟩
def Qdm (w:World)(r:RowP)(vs:List Value):Prop:=
 ∃(q:Option Addr) (cap:Nat),vs=[.bool r.head,.int .i64 r.id,.int .i64 r.quant,.slice q r.cels.length cap]∧(q=none→cap=0)∧r.cels.length≤maxLen∧Ygg w q r.cels
theorem Qdm.below {w x:World}(hb:Below w.heap.size w x)(r:RowP)(vs:List Value)(h:Qdm w r vs):Qdm x r vs:=by
 obtain⟨q,cap,h1,h0,h2,h3⟩:=h;exact⟨q,cap,h1,h0,h2,h3.below hb⟩
def Ye1:World→Option Addr→List RowP→Prop:=Yco 4 Qdm
theorem Ye1.below {w x:World}{q:Option Addr}{l:List RowP}(h:Ye1 w q l)(hb:Below w.heap.size w x):Ye1 x q l:=Yco.below h (Qdm.below hb) hb
structure ShP where
 hd:Shd
 rows:List RowP
 zeros:Int
def ShV (w:World)(S:ShP)(vs:List Value):Prop:=
 ∃(a b:Option Addr) (ca cb:Nat),vs=Ya1 S.hd (.slice a S.hd.supp.length ca) (.slice b S.rows.length cb) S.zeros∧S.hd.supp.length≤maxLen∧S.rows.length≤maxLen∧Yc2 w a S.hd.supp∧Ye1 w b S.rows
theorem ShV.below {w x:World}(hb:Below w.heap.size w x)(S:ShP)(vs:List Value)(h:ShV w S vs):ShV x S vs:=by
 obtain⟨a,b,ca,cb,h1,h2,h3,h4,h5⟩:=h;exact⟨a,b,ca,cb,h1,h2,h3,h4.below hb,h5.below hb⟩
section
variable {H:Type}{enc:TypeId×Value→H}{P:Program}
theorem Y6r {w:World}{base fuel:Nat}{sp:Nat→Bool}{held:Bool}{t e:TypeId}{n cap:Nat}{x:DataW H×List MemPlace}(ht:P.underlying t=some (.slice e))(hf:DataW.trod enc P w base sp held fuel t [.slice none n cap]=some x):cap=0:=by
 rcases Go.Deep.open_slice ht hf with ⟨h1,_⟩|⟨a',len',cap',m,n',D,Pl,h1,_⟩
 ·injection h1 with h1;injection h1
 ·injection h1 with h1;injection h1 with h1;cases h1
theorem Qio {w:World}{base:Nat}{sp:Nat→Bool}{held:Bool}{t tb ti t2 t6 te6 ts te:TypeId}{f0 f1 f2 f3 f4 f5 f6:Field}
  (ht:P.underlying t=some (.struct #[f0,f1,f2,f3,f4,f5,f6]))(hb:P.underlying tb=some .bool)(hi:P.underlying ti=some (.int .i64))(h2:P.underlying t2=some (.array 2 ti))(h6:P.underlying t6=some (.array 6 ti))(he6:P.underlying te6=some (.array 6 ts))(hs:P.underlying ts=some (.slice te))
  (e:f0.type=ti∧f1.type=tb∧f2.type=ti∧f3.type=ti∧f4.type=t2∧f5.type=t6∧f6.type=te6)(o:f0.offset=0∧f1.offset=1∧f2.offset=2∧f3.offset=3∧f4.offset=4∧f5.offset=6∧f6.offset=12)
  (cb:P.cellsOf tb=1)(ci:P.cellsOf ti=1)(cs:P.cellsOf ts=1)(c2:P.cellsOf t2=2)(c6:P.cellsOf t6=6)(ce6:P.cellsOf te6=6)(ce:P.cellsOf te=3)(hq:∀k vs y,vs.length=3→DataW.trod enc P w base sp held k te vs=some y→Yg1 vs):
  ∀k (vs:List Value) y,vs.length=18→DataW.trod enc P w base sp held k t vs=some y→∃c,Yy3 w c vs:=by
 intro k vs y hlen h;obtain⟨xs,m,hk,hxy,_,hxl,hfs⟩:=DataW.trod_struct ht h
 match vs,hlen,xs,hxl with
 |[u0,u1,u2,u3,u4,u5,u6,u7,u8,u9,u10,u11,u12,u13,u14,u15,u16,u17],_,[y0,y1,y2,y3,y4,y5,y6],_=>
  have g0:=hfs 0 f0 rfl;have g1:=hfs 1 f1 rfl;have g2:=hfs 2 f2 rfl;have g3:=hfs 3 f3 rfl;have g4:=hfs 4 f4 rfl;have g5:=hfs 5 f5 rfl;have g6:=hfs 6 f6 rfl;rw[e.1,o.1,ci] at g0;rw[e.2.1,o.2.1,cb] at g1;rw[e.2.2.1,o.2.2.1,ci] at g2;rw[e.2.2.2.1,o.2.2.2.1,ci] at g3;rw[e.2.2.2.2.1,o.2.2.2.2.1,c2] at g4;rw[e.2.2.2.2.2.1,o.2.2.2.2.2.1,c6] at g5;rw[e.2.2.2.2.2.2,o.2.2.2.2.2.2,ce6] at g6
  obtain⟨x0,rfl,_⟩:=Yfe hi (show DataW.trod _ P w base sp held m ti [u0]=some y0 from g0);obtain⟨x1,q1,_⟩:=DataW.trod_bool hb (show DataW.trod _ P w base sp held m tb [u1]=some y1 from g1);injection q1 with q1;subst q1;obtain⟨x2,rfl,_⟩:=Yfe hi (show DataW.trod _ P w base sp held m ti [u2]=some y2 from g2);obtain⟨x3,rfl,_⟩:=Yfe hi (show DataW.trod _ P w base sp held m ti [u3]=some y3 from g3)
  obtain⟨x4,x5,rfl,rfl,w4,w5⟩:=Y0r h2 hi ci (show DataW.trod _ P w base sp held m t2 [u4,u5]=some y4 from g4);obtain⟨m',z0,z1,z2,z3,z4,z5,a0,a1,a2,a3,a4,a5⟩:=Ypa h6 ci (show DataW.trod _ P w base sp held m t6 [u6,u7,u8,u9,u10,u11]=some y5 from g5);obtain⟨d0,rfl,_⟩:=Yfe hi a0;obtain⟨d1,rfl,_⟩:=Yfe hi a1;obtain⟨d2,rfl,_⟩:=Yfe hi a2;obtain⟨d3,rfl,_⟩:=Yfe hi a3;obtain⟨d4,rfl,_⟩:=Yfe hi a4
  obtain⟨d5,rfl,_⟩:=Yfe hi a5;obtain⟨m'',z0',z1',z2',z3',z4',z5',b0,b1,b2,b3,b4,b5⟩:=Ypa he6 cs (show DataW.trod _ P w base sp held m te6 [u12,u13,u14,u15,u16,u17]=some y6 from g6);obtain⟨p0,n0,k0,rfl,l0,r0⟩:=Yei 3 Yg1 hs ce (by decide) hq b0;obtain⟨p1,n1,k1,rfl,l1,r1⟩:=Yei 3 Yg1 hs ce (by decide) hq b1;obtain⟨p2,n2,k2,rfl,l2,r2⟩:=Yei 3 Yg1 hs ce (by decide) hq b2
  obtain⟨p3,n3,k3,rfl,l3,r3⟩:=Yei 3 Yg1 hs ce (by decide) hq b3;obtain⟨p4,n4,k4,rfl,l4,r4⟩:=Yei 3 Yg1 hs ce (by decide) hq b4;obtain⟨p5,n5,k5,rfl,l5,r5⟩:=Yei 3 Yg1 hs ce (by decide) hq b5;obtain⟨v0,rfl,s0,_⟩:=Yix r0;obtain⟨v1,rfl,s1,_⟩:=Yix r1;obtain⟨v2,rfl,s2,_⟩:=Yix r2;obtain⟨v3,rfl,s3,_⟩:=Yix r3;obtain⟨v4,rfl,s4,_⟩:=Yix r4;obtain⟨v5,rfl,s5,_⟩:=Yix r5
  refine⟨⟨x0,x1,x2,x3,x4,x5,six d0 d1 d2 d3 d4 d5,six v0 v1 v2 v3 v4 v5⟩,six p0 p1 p2 p3 p4 p5,six k0 k1 k2 k3 k4 k5,rfl,⟨w4,w5⟩,fun i hi=>?_⟩
  match i,hi with
  |0,_=>exact⟨l0,s0⟩
  |1,_=>exact⟨l1,s1⟩
  |2,_=>exact⟨l2,s2⟩
  |3,_=>exact⟨l3,s3⟩
  |4,_=>exact⟨l4,s4⟩
  |5,_=>exact⟨l5,s5⟩
theorem Qjo {w:World}{base:Nat}{sp:Nat→Bool}{held:Bool}{t tb ti ts te:TypeId}{f0 f1 f2 f3:Field}
  (ht:P.underlying t=some (.struct #[f0,f1,f2,f3]))(hb:P.underlying tb=some .bool)(hi:P.underlying ti=some (.int .i64))(hs:P.underlying ts=some (.slice te))
  (e:f0.type=tb∧f1.type=ti∧f2.type=ti∧f3.type=ts)(o:f0.offset=0∧f1.offset=1∧f2.offset=2∧f3.offset=3)
  (cb:P.cellsOf tb=1)(ci:P.cellsOf ti=1)(cs:P.cellsOf ts=1)(ce:P.cellsOf te=18)(hq:∀k vs y,vs.length=18→DataW.trod enc P w base sp held k te vs=some y→∃c,Yy3 w c vs):
  ∀k (vs:List Value) y,vs.length=4→DataW.trod enc P w base sp held k t vs=some y→∃r,Qdm w r vs:=by
 intro k vs y hlen h;obtain⟨xs,m,hk,hxy,_,hxl,hfs⟩:=DataW.trod_struct ht h
 match vs,hlen,xs,hxl with
 |[u0,u1,u2,u3],_,[y0,y1,y2,y3],_=>
  have g0:=hfs 0 f0 rfl;have g1:=hfs 1 f1 rfl;have g2:=hfs 2 f2 rfl;have g3:=hfs 3 f3 rfl;rw[e.1,o.1,cb] at g0;rw[e.2.1,o.2.1,ci] at g1;rw[e.2.2.1,o.2.2.1,ci] at g2;rw[e.2.2.2,o.2.2.2,cs] at g3;obtain⟨x0,q0,_⟩:=DataW.trod_bool hb (show DataW.trod _ P w base sp held m tb [u0]=some y0 from g0);injection q0 with q0;subst q0
  obtain⟨x1,rfl,_⟩:=Yfe hi (show DataW.trod _ P w base sp held m ti [u1]=some y1 from g1);obtain⟨x2,rfl,_⟩:=Yfe hi (show DataW.trod _ P w base sp held m ti [u2]=some y2 from g2);obtain⟨p,n,cap,rfl,hl,hr⟩:=Yei 18 (fun vs=>∃c,Yy3 w c vs) hs ce (by decide) hq (show DataW.trod _ P w base sp held m ts [u3]=some y3 from g3)
  have hcap:p=none→cap=0:=fun e=>by subst e;exact Y6r hs (show DataW.trod _ P w base sp held m ts [.slice none n cap]=some y3 from g3)
  obtain⟨L,rfl,hL⟩:=Yps hr;exact⟨⟨x0,x1,x2,L⟩,p,cap,rfl,hcap,hl,hL⟩
theorem Qk3 {w:World}{base:Nat}{sp:Nat→Bool}{held:Bool}{t ti tb ts tr te:TypeId}{f0 f1 f2 f3 f4 f5 f6 f7:Field}
  (ht:P.underlying t=some (.struct #[f0,f1,f2,f3,f4,f5,f6,f7]))(hi:P.underlying ti=some (.int .i64))(hb:P.underlying tb=some .bool)(hs:P.underlying ts=some (.slice ti))(hr:P.underlying tr=some (.slice te))
  (e:f0.type=ti∧f1.type=ti∧f2.type=ti∧f3.type=tb∧f4.type=ti∧f5.type=ts∧f6.type=tr∧f7.type=ti)(o:f0.offset=0∧f1.offset=1∧f2.offset=2∧f3.offset=3∧f4.offset=4∧f5.offset=5∧f6.offset=6∧f7.offset=7)
  (ci:P.cellsOf ti=1)(cb:P.cellsOf tb=1)(cs:P.cellsOf ts=1)(cr:P.cellsOf tr=1)(ce:P.cellsOf te=4)(hq:∀k vs y,vs.length=4→DataW.trod enc P w base sp held k te vs=some y→∃r,Qdm w r vs):
  ∀k (vs:List Value) y,vs.length=8→DataW.trod enc P w base sp held k t vs=some y→∃S,ShV w S vs:=by
 intro k vs y hlen h;obtain⟨xs,k,hk,hxy,_,hxl,hfs⟩:=DataW.trod_struct ht h
 match vs,hlen,xs,hxl with
 |[u0,u1,u2,u3,u4,u5,u6,u7],_,[y0,y1,y2,y3,y4,y5,y6,y7],_=>
  have g0:=hfs 0 f0 rfl;have g1:=hfs 1 f1 rfl;have g2:=hfs 2 f2 rfl;have g3:=hfs 3 f3 rfl;have g4:=hfs 4 f4 rfl;have g5:=hfs 5 f5 rfl;have g6:=hfs 6 f6 rfl;have g7:=hfs 7 f7 rfl;rw[e.1,o.1,ci] at g0;rw[e.2.1,o.2.1,ci] at g1;rw[e.2.2.1,o.2.2.1,ci] at g2;rw[e.2.2.2.1,o.2.2.2.1,cb] at g3;rw[e.2.2.2.2.1,o.2.2.2.2.1,ci] at g4;rw[e.2.2.2.2.2.1,o.2.2.2.2.2.1,cs] at g5
  rw[e.2.2.2.2.2.2.1,o.2.2.2.2.2.2.1,cr] at g6;rw[e.2.2.2.2.2.2.2,o.2.2.2.2.2.2.2,ci] at g7;obtain⟨x0,rfl,_⟩:=Yfe hi (show DataW.trod _ P w base sp held k ti [u0]=some y0 from g0);obtain⟨x1,rfl,_⟩:=Yfe hi (show DataW.trod _ P w base sp held k ti [u1]=some y1 from g1);obtain⟨x2,rfl,_⟩:=Yfe hi (show DataW.trod _ P w base sp held k ti [u2]=some y2 from g2)
  obtain⟨x3,q3,_⟩:=DataW.trod_bool hb (show DataW.trod _ P w base sp held k tb [u3]=some y3 from g3);injection q3 with q3;subst q3;obtain⟨x4,rfl,_⟩:=Yfe hi (show DataW.trod _ P w base sp held k ti [u4]=some y4 from g4);obtain⟨p,len,cap,f,rfl,hl,hin⟩:=Y98 hs hi ci (show DataW.trod _ P w base sp held k ts [u5]=some y5 from g5)
  obtain⟨q,n,cap',rfl,hn,hrw⟩:=Yei 4 (fun vs=>∃r,Qdm w r vs) hr ce (by decide) hq (show DataW.trod _ P w base sp held k tr [u6]=some y6 from g6);obtain⟨x7,rfl,_⟩:=Yfe hi (show DataW.trod _ P w base sp held k ti [u7]=some y7 from g7);obtain⟨L,rfl,hL⟩:=Y99 hin;obtain⟨M,rfl,hM⟩:=Yps hrw;exact⟨⟨⟨x0,x1,x2,x3,x4,L⟩,M,x7⟩,p,q,cap,cap',rfl,hl,hn,hL,hM⟩
end
end Go.Proofs.YtjjmalchelniiaaGreatDoor
namespace Go.Proofs.YtjjmalchelniiaaGreatDoor
open Go.RowKit Go.Lib
theorem Y2c {α:Type}{c:Nat}:∀(xs:List (List α)),(∀x∈xs,x.length=c)→∀(i:Nat) (h:i<xs.length) (j:Nat),j<c→xs.flatten[i*c+j]? =xs[i][j]?
 |[],_,i,h,_,_=>absurd h (Nat.not_lt_zero i)
 |x::xs,hx,0,_,j,hj=>by
  rw[List.flatten_cons,Nat.zero_mul,Nat.zero_add,List.getElem?_append_left (by rw[hx x (List.mem_cons_self ..)];exact hj)]
  rfl
 |x::xs,hx,i+1,h,j,hj=>by
  have hl:=hx x (List.mem_cons_self ..);rw[List.flatten_cons,List.getElem?_append_right (by rw[hl,Nat.add_mul];omega),hl,show (i+1)*c+j-c=i*c+j by rw[Nat.add_mul];omega];exact Y2c xs (fun y hy=>hx y (List.mem_cons_of_mem _ hy)) i (by simpa using h) j hj
def Qhl {α:Type}(c:Nat)(V:α→List Value→Prop)(l:List α)(xs:List (List Value)):Prop:=
 xs.length=l.length∧(∀x∈xs,x.length=c)∧∀i,(h:i<l.length)→∃x,xs[i]? =some x∧V l[i] x
theorem Qhl.nil {α:Type}(c:Nat)(V:α→List Value→Prop):Qhl c V [] []:=⟨rfl,(fun x h=>by cases h),fun i h=>absurd h (Nat.not_lt_zero i)⟩
theorem Qhl.app {α:Type}{c:Nat}{V:α→List Value→Prop}{l m:List α}{xs ys:List (List Value)}(h:Qhl c V l xs)(k:Qhl c V m ys):Qhl c V (l++m) (xs++ys):=by
 obtain⟨h1,h2,h3⟩:=h;obtain⟨k1,k2,k3⟩:=k;refine⟨by rw[List.length_append,List.length_append,h1,k1],fun x hx=>?_,fun i hi=>?_⟩
 ·rcases List.mem_append.1 hx with hx|hx
  ·exact h2 x hx
  ·exact k2 x hx
 ·by_cases hl:i<l.length
  ·obtain⟨x,e,hv⟩:=h3 i hl;exact⟨x,by rw[List.getElem?_append_left (by omega)];exact e,by rw[List.getElem_append_left hl];exact hv⟩
  ·rw[List.length_append] at hi;obtain⟨x,e,hv⟩:=k3 (i-l.length) (by omega);exact⟨x,by rw[List.getElem?_append_right (by omega),h1];exact e,by rw[List.getElem_append_right (by omega)];exact hv⟩
def Yd2 {α:Type}(c:Nat)(e:TypeId)(V:α→List Value→Prop)(w:World)(base:Nat)(v:Value)(l:List α):Prop:=
 ∃xs,Qhl c V l xs∧w.ownsRow base e c v l.length xs.flatten
theorem Yd2.nil {α:Type}(c:Nat)(e:TypeId)(V:α→List Value→Prop)(w:World)(base:Nat):Yd2 c e V w base (.slice none 0 0) ([]:List α):=⟨[],Qhl.nil c V,World.ownsRow_nil _ _ _ _⟩
theorem Yd2.kept {α:Type}{c:Nat}{e:TypeId}{V:α→List Value→Prop}{w w':World}{base:Nat}{v:Value}{l:List α}{row:Option Nat}(h:Yd2 c e V w base v l)(hg:w.grownBy w' row)(hne:v.ownBlock=none∨v.ownBlock≠row):Yd2 c e V w' base v l:=by
 obtain⟨xs,h1,h2⟩:=h;exact⟨xs,h1,h2.kept hg hne⟩
theorem Yd2.fresh {α:Type}{c:Nat}{e:TypeId}{V:α→List Value→Prop}{w:World}{base:Nat}{v:Value}{l:List α}(h:Yd2 c e V w base v l):∀k,v.ownBlock=some k→base≤k:=by
 obtain⟨xs,_,h2⟩:=h;exact Yfp h2
theorem Yd2.many {α:Type}{c:Nat}{e:TypeId}{V:α→List Value→Prop}{V':World→α→List Value→Prop}{w:World}{base:Nat}{v:Value}{l:List α}(h:Yd2 c e V w base v l)(hV:∀a vs,V a vs→V' w a vs):
  ∃(q:Option Addr) (cap:Nat),v=.slice q l.length cap∧Yco c V' w q l:=by
 obtain⟨xs,⟨h1,h2,h3⟩,h0⟩:=h;have h0':=h0;rcases h0.2 with ⟨rfl,hn⟩|⟨g,cap,cur,rfl,_,hg,_⟩
 ·exact⟨none,0,by rw[hn],.inl (List.eq_nil_of_length_eq_zero hn)⟩
 ·refine⟨_,cap,rfl,.inr ⟨g,0,rfl,(Array.getElem?_eq_some_iff.1 hg).1,fun i hi=>?_⟩⟩;obtain⟨x,e1,hv⟩:=h3 i hi;refine⟨x,hV _ _ hv,fun j u hj=>?_⟩;have hx:x.length=c:=h2 x (List.mem_of_getElem? e1);have hjc:j<c:=by rw[←hx];exact(List.getElem?_eq_some_iff.1 hj).1
  have hf:=Y2c xs h2 i (by omega) j hjc;have e2:xs[i]'(by omega)=x:=by
   have:=List.getElem?_eq_getElem (l:=xs) (i:=i) (by omega);rw[this] at e1;injection e1
  rw[e2,hj] at hf;have:=World.ownsRow.cells (g:=g) h0' rfl (i*c+j) u hf;rw[Addr.add_mid] at this;rw[Nat.zero_add] at this ⊢;exact this
theorem Yy3.shape {w:World}{c:Cel}{vs:List Value}(h:Yy3 w c vs):vs.length=18∧∀u∈vs,u.oneCell'=true:=by
 obtain⟨p,cap,rfl,-,-⟩:=h;refine⟨rfl,fun u hu=>?_⟩;simp only[Ybe,List.mem_cons,List.not_mem_nil,or_false] at hu;rcases hu with rfl|rfl|rfl|rfl|rfl|rfl|rfl|rfl|rfl|rfl|rfl|rfl|rfl|rfl|rfl|rfl|rfl|rfl <;> rfl
theorem Ydh {ops:Array Oper}{rest:List Oper}{op:Oper}{a:Act}{w:World}{Q:Exit→Act→World→Prop}(hgd:op.guard=none)(x:Operand)(ho:op.op=.load 77 x)
  (b o:Nat)(hx:a.eval x=.pointer (some ⟨b,o,none⟩))(vs:List Value)(hc:w.rangeAt b o vs)(hl:vs.length=18)(h:wpList Tryz.prog ops Q rest (a.put op.dst (.agg vs.toArray)) w):wpList Tryz.prog ops Q (op::rest) a w:=
 wpList_load_mid hgd _ x ho b o hx vs _ hc Tryz.underlying77 rfl (by rw[hl];kernel_rfl) h
theorem Ye0 {ops:Array Oper}{rest:List Oper}{op:Oper}{a:Act}{w:World}{Q:Exit→Act→World→Prop}(hgd:op.guard=none)(x:Operand)(ho:op.op=.load 46 x)
  (b o:Nat)(hx:a.eval x=.pointer (some ⟨b,o,none⟩))(vs:List Value)(hc:w.rangeAt b o vs)(hl:vs.length=4)(h:wpList Tryz.prog ops Q rest (a.put op.dst (.agg vs.toArray)) w):wpList Tryz.prog ops Q (op::rest) a w:=
 wpList_load_mid hgd _ x ho b o hx vs _ hc Tryz.underlying46 rfl (by rw[hl];kernel_rfl) h
theorem Yqd {ops:Array Oper}{rest:List Oper}{op:Oper}{a:Act}{w:World}{Q:Exit→Act→World→Prop}(hw:Region.wanted op (yielded ops a.tmps)=true)(x:Operand)(ho:op.op=.load 73 x)
  (b o:Nat)(hx:a.eval x=.pointer (some ⟨b,o,none⟩))(u v:Int)(hc:w.rangeAt b o [.int .i64 u,.int .i64 v])(h:wpList Tryz.prog ops Q rest (a.put op.dst (.agg (Y3p u v))) w):wpList Tryz.prog ops Q (op::rest) a w:=by
 unfold wpList;rw[if_pos hw];exact .inl (wp_load_mid _ x ho b o hx [.int .i64 u,.int .i64 v] _ hc Tryz.underlying73 rfl (by kernel_rfl) h)
theorem Yf4 {P:Program}{T:TypeId}{Z:Array Value}(h:(P.info? T).map (fun i=>i.zero)=some (some (.agg Z)))(w:World):(zeroValue T).run P w=.ok (.agg Z) w:=by
 cases hq:P.info? T with
 |none=>rw[hq] at h;cases h
 |some i=>
  rw[hq] at h;have h:i.zero=some (.agg Z):=by simpa using h
  simp[zeroValue,typeInfo,hq,h]
theorem Yft:∃Y:Array Value,Y.size=18∧∀w,(zeroValue 77).run Tryz.prog w=.ok (.agg Y) w:=⟨(Ybe Ymj nilS).toArray,rfl,Yf4 (by kernel_rfl)⟩
theorem Yk1:∃Y:Array Value,Y.size=4∧∀w,(zeroValue 46).run Tryz.prog w=.ok (.agg Y) w:=⟨#[.bool false,.int .i64 0,.int .i64 0,.slice none 0 0],rfl,Yf4 (by kernel_rfl)⟩
theorem Ygp {w:World}{c:Cel}{vs:List Value}(h:Yy3 w c vs):vs.toArray.all (·.oneCell')=true:=by
 rw[Array.all_eq_true_iff_forall_mem];exact fun u hu=>h.shape.2 u (by simpa using hu)
end Go.Proofs.YtjjmalchelniiaaGreatDoor