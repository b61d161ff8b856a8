/- No condition. -/
import Derived.Test.YtnamlooifcpoaaaGreatDoorScreensNextMa
import Derived.Test.YtnamlooifcpoaaaGreatDoorScreensNextMf
import Derived.Test.YtnamlooifcpoaaaGreatDoorScreensNextMg
import Derived.Test.YtnamlooifcpoaaaGreatDoorScreensNextMj
import Derived.Test.YtnamlooifcpoaaaGreatDoorScreensNextMk
import Derived.Test.YtnamlooifcpoaaaGreatDoorScreensNextMbf
import Derived.RegionTactic
import Derived.Deep.RegionWith
import Derived.Deep.CutRange
import Derived.Deep.DeepCutAuto
namespace Go.Proofs.YtnamlooifcpoaaaGreatDoor
open Go.RowKit Go.Lib Go.ChangeShapes Go.WideShapes Go.ChangeAt
def Yby {α:Type}(c:Nat)(V:World→α→List Value→Prop)(w:World)(q:Option Addr)(l:List α):Prop:=
 l=[]∨∃b o,q=some ⟨b,o,none⟩∧b<w.heap.size∧∀i,(h:i<l.length)→∃vs,V w l[i] vs∧∀(j:Nat) v,vs[j]? =some v→w.cell? ⟨b,o+i*c+j,none⟩=some v
theorem Yby.below {α:Type}{c:Nat}{V:World→α→List Value→Prop}{w x:World}{q:Option Addr}{l:List α}(h:Yby c V w q l)(hV:∀a vs,V w a vs→V x a vs)(hb:Below w.heap.size w x):Yby c V x q l:=by
 rcases h with h|⟨b,o,rfl,hl,h⟩
 ·exact .inl h
 ·refine .inr ⟨b,o,rfl,Nat.lt_of_lt_of_le hl hb.size,fun i hi=>?_⟩;obtain⟨vs,h1,h2⟩:=h i hi;exact⟨vs,hV _ _ h1,fun j v hj=>(World.cell?_of_block (a:=⟨b,o+i*c+j,none⟩) (hb.block b hl)).trans (h2 j v hj)⟩
theorem Yo3 {α:Type}[Inhabited α]{c:Nat}{V:World→α→List Value→Prop}{w:World}{q:Option Addr}{n:Nat}(h:Yvc w (fun vs=>∃a,V w a vs) c q n):∃l:List α,l.length=n∧Yby c V w q l:=by
 rcases h with rfl|⟨b,o,rfl,hl,h⟩
 ·exact⟨[],rfl,.inl rfl⟩
 ·have each:∀i,∃a:α,i<n→∃vs,V w a vs∧∀(j:Nat) v,vs[j]? =some v→w.cell? ⟨b,o+i*c+j,none⟩=some v:=by
   intro i;by_cases hi:i<n
   ·obtain⟨vs,_,⟨a,ha⟩,hv⟩:=h i hi;exact⟨a,fun _=>⟨vs,ha,hv⟩⟩
   ·exact⟨default,fun h=>absurd h hi⟩
  refine⟨(List.range n).map fun i=>(each i).choose,by simp,.inr ⟨b,o,rfl,hl,fun i hi=>?_⟩⟩;have hi':i<n:=by simpa using hi
  have e:((List.range n).map fun i=>(each i).choose)[i]=(each i).choose:=by simp
  rw[e];exact(each i).choose_spec hi'
instance:Inhabited Cel:=⟨Y3w⟩
def Yit (w:World)(c:Cel)(vs:List Value):Prop:=
 ∃(p:Nat→Option Addr) (cap:Nat→Nat),vs=Ycd c (fun i=>.slice (p i) (c.ev i).length (cap i))∧((Lit.int .i64 c.mx).wf=true∧(Lit.int .i64 c.my).wf=true)∧∀i,i<6→(c.ev i).length≤maxLen∧Yfi w (p i) (c.ev i)
theorem Yit.below {w x:World}(hb:Below w.heap.size w x)(c:Cel)(vs:List Value)(h:Yit w c vs):Yit x c vs:=by
 obtain⟨p,cap,h1,h2,h3⟩:=h;exact⟨p,cap,h1,h2,fun i hi=>⟨(h3 i hi).1,(h3 i hi).2.below hb⟩⟩
def Yib:World→Option Addr→List Cel→Prop:=Yby 18 Yit
theorem Yib.below {w x:World}{q:Option Addr}{l:List Cel}(h:Yib w q l)(hb:Below w.heap.size w x):Yib x q l:=Yby.below h (Yit.below hb) hb
structure RowP where
 head:Bool
 id:Int
 quant:Int
 cels:List Cel
instance:Inhabited RowP:=⟨⟨false,0,0,[]⟩⟩
def Yyx (w:World)(r:RowP)(vs:List Value):Prop:=
 ∃(q:Option Addr) (cap:Nat),vs=[.bool r.head,.int .i64 r.id,.int .i64 r.quant,.slice q r.cels.length cap]∧(q=none→cap=0)∧r.cels.length≤maxLen∧Yib w q r.cels
theorem Yyx.below {w x:World}(hb:Below w.heap.size w x)(r:RowP)(vs:List Value)(h:Yyx w r vs):Yyx x r vs:=by
 obtain⟨q,cap,h1,h0,h2,h3⟩:=h;exact⟨q,cap,h1,h0,h2,h3.below hb⟩
def Ycu:World→Option Addr→List RowP→Prop:=Yby 4 Yyx
theorem Ycu.below {w x:World}{q:Option Addr}{l:List RowP}(h:Ycu w q l)(hb:Below w.heap.size w x):Ycu x q l:=Yby.below h (Yyx.below hb) hb
structure ShP where
 hd:Shd
 rows:List RowP
 zeros:Int
def ShV (w:World)(S:ShP)(vs:List Value):Prop:=
 ∃(a b:Option Addr) (ca cb:Nat),vs=Yaz S.hd (.slice a S.hd.supp.length ca) (.slice b S.rows.length cb) S.zeros∧S.hd.supp.length≤maxLen∧S.rows.length≤maxLen∧Ydf w a S.hd.supp∧Ycu w b S.rows
section
variable {H:Type}{enc:TypeId×Value→H}{P:Program}
theorem Yum {w:World}{base fuel:Nat}{sp:Nat→Bool}{held:Bool}{t e:TypeId}{n cap:Nat}{x:DataW H×List MemPlace}(ht:P.underlying t=some (.slice e))(hf:DataW.trod enc P w base sp held fuel t [.slice none n cap]=some x):cap=0:=by
 rcases Go.Deep.open_slice ht hf with ⟨h1,_⟩|⟨a',len',cap',m,n',D,Pl,h1,_⟩
 ·injection h1 with h1;injection h1
 ·injection h1 with h1;injection h1 with h1;cases h1
theorem Y1v {w:World}{base:Nat}{sp:Nat→Bool}{held:Bool}{t tb ti t2 t6 te6 ts te:TypeId}{f0 f1 f2 f3 f4 f5 f6:Field}
  (ht:P.underlying t=some (.struct #[f0,f1,f2,f3,f4,f5,f6]))(hb:P.underlying tb=some .bool)(hi:P.underlying ti=some (.int .i64))(h2:P.underlying t2=some (.array 2 ti))(h6:P.underlying t6=some (.array 6 ti))(he6:P.underlying te6=some (.array 6 ts))(hs:P.underlying ts=some (.slice te))
  (e:f0.type=ti∧f1.type=tb∧f2.type=ti∧f3.type=ti∧f4.type=t2∧f5.type=t6∧f6.type=te6)(o:f0.offset=0∧f1.offset=1∧f2.offset=2∧f3.offset=3∧f4.offset=4∧f5.offset=6∧f6.offset=12)
  (cb:P.cellsOf tb=1)(ci:P.cellsOf ti=1)(cs:P.cellsOf ts=1)(c2:P.cellsOf t2=2)(c6:P.cellsOf t6=6)(ce6:P.cellsOf te6=6)(ce:P.cellsOf te=3)(hq:∀k vs y,vs.length=3→DataW.trod enc P w base sp held k te vs=some y→Yfh vs):
  ∀k (vs:List Value) y,vs.length=18→DataW.trod enc P w base sp held k t vs=some y→∃c,Yit w c vs:=by
 intro k vs y hlen h;obtain⟨xs,m,hk,hxy,_,hxl,hfs⟩:=DataW.trod_struct ht h
 match vs,hlen,xs,hxl with
 |[u0,u1,u2,u3,u4,u5,u6,u7,u8,u9,u10,u11,u12,u13,u14,u15,u16,u17],_,[y0,y1,y2,y3,y4,y5,y6],_=>
  have g0:=hfs 0 f0 rfl;have g1:=hfs 1 f1 rfl;have g2:=hfs 2 f2 rfl;have g3:=hfs 3 f3 rfl;have g4:=hfs 4 f4 rfl;have g5:=hfs 5 f5 rfl;have g6:=hfs 6 f6 rfl;rw[e.1,o.1,ci] at g0;rw[e.2.1,o.2.1,cb] at g1;rw[e.2.2.1,o.2.2.1,ci] at g2;rw[e.2.2.2.1,o.2.2.2.1,ci] at g3;rw[e.2.2.2.2.1,o.2.2.2.2.1,c2] at g4;rw[e.2.2.2.2.2.1,o.2.2.2.2.2.1,c6] at g5;rw[e.2.2.2.2.2.2,o.2.2.2.2.2.2,ce6] at g6
  obtain⟨x0,rfl,_⟩:=Yd7 hi (show DataW.trod _ P w base sp held m ti [u0]=some y0 from g0);obtain⟨x1,q1,_⟩:=DataW.trod_bool hb (show DataW.trod _ P w base sp held m tb [u1]=some y1 from g1);injection q1 with q1;subst q1;obtain⟨x2,rfl,_⟩:=Yd7 hi (show DataW.trod _ P w base sp held m ti [u2]=some y2 from g2);obtain⟨x3,rfl,_⟩:=Yd7 hi (show DataW.trod _ P w base sp held m ti [u3]=some y3 from g3)
  obtain⟨x4,x5,rfl,rfl,w4,w5⟩:=Yqb h2 hi ci (show DataW.trod _ P w base sp held m t2 [u4,u5]=some y4 from g4);obtain⟨m',z0,z1,z2,z3,z4,z5,a0,a1,a2,a3,a4,a5⟩:=Yjz h6 ci (show DataW.trod _ P w base sp held m t6 [u6,u7,u8,u9,u10,u11]=some y5 from g5);obtain⟨d0,rfl,_⟩:=Yd7 hi a0;obtain⟨d1,rfl,_⟩:=Yd7 hi a1;obtain⟨d2,rfl,_⟩:=Yd7 hi a2;obtain⟨d3,rfl,_⟩:=Yd7 hi a3;obtain⟨d4,rfl,_⟩:=Yd7 hi a4
  obtain⟨d5,rfl,_⟩:=Yd7 hi a5;obtain⟨m'',z0',z1',z2',z3',z4',z5',b0,b1,b2,b3,b4,b5⟩:=Yjz he6 cs (show DataW.trod _ P w base sp held m te6 [u12,u13,u14,u15,u16,u17]=some y6 from g6);obtain⟨p0,n0,k0,rfl,l0,r0⟩:=Yd2 3 Yfh hs ce (by decide) hq b0;obtain⟨p1,n1,k1,rfl,l1,r1⟩:=Yd2 3 Yfh hs ce (by decide) hq b1;obtain⟨p2,n2,k2,rfl,l2,r2⟩:=Yd2 3 Yfh hs ce (by decide) hq b2
  obtain⟨p3,n3,k3,rfl,l3,r3⟩:=Yd2 3 Yfh hs ce (by decide) hq b3;obtain⟨p4,n4,k4,rfl,l4,r4⟩:=Yd2 3 Yfh hs ce (by decide) hq b4;obtain⟨p5,n5,k5,rfl,l5,r5⟩:=Yd2 3 Yfh hs ce (by decide) hq b5;obtain⟨v0,rfl,s0,_⟩:=Yge r0;obtain⟨v1,rfl,s1,_⟩:=Yge r1;obtain⟨v2,rfl,s2,_⟩:=Yge r2;obtain⟨v3,rfl,s3,_⟩:=Yge r3;obtain⟨v4,rfl,s4,_⟩:=Yge r4;obtain⟨v5,rfl,s5,_⟩:=Yge r5
  refine⟨⟨x0,x1,x2,x3,x4,x5,six d0 d1 d2 d3 d4 d5,six v0 v1 v2 v3 v4 v5⟩,six p0 p1 p2 p3 p4 p5,six k0 k1 k2 k3 k4 k5,rfl,⟨w4,w5⟩,fun i hi=>?_⟩
  match i,hi with
  |0,_=>exact⟨l0,s0⟩
  |1,_=>exact⟨l1,s1⟩
  |2,_=>exact⟨l2,s2⟩
  |3,_=>exact⟨l3,s3⟩
  |4,_=>exact⟨l4,s4⟩
  |5,_=>exact⟨l5,s5⟩
theorem Y2r {w:World}{base:Nat}{sp:Nat→Bool}{held:Bool}{t tb ti ts te:TypeId}{f0 f1 f2 f3:Field}
  (ht:P.underlying t=some (.struct #[f0,f1,f2,f3]))(hb:P.underlying tb=some .bool)(hi:P.underlying ti=some (.int .i64))(hs:P.underlying ts=some (.slice te))
  (e:f0.type=tb∧f1.type=ti∧f2.type=ti∧f3.type=ts)(o:f0.offset=0∧f1.offset=1∧f2.offset=2∧f3.offset=3)
  (cb:P.cellsOf tb=1)(ci:P.cellsOf ti=1)(cs:P.cellsOf ts=1)(ce:P.cellsOf te=18)(hq:∀k vs y,vs.length=18→DataW.trod enc P w base sp held k te vs=some y→∃c,Yit w c vs):
  ∀k (vs:List Value) y,vs.length=4→DataW.trod enc P w base sp held k t vs=some y→∃r,Yyx w r vs:=by
 intro k vs y hlen h;obtain⟨xs,m,hk,hxy,_,hxl,hfs⟩:=DataW.trod_struct ht h
 match vs,hlen,xs,hxl with
 |[u0,u1,u2,u3],_,[y0,y1,y2,y3],_=>
  have g0:=hfs 0 f0 rfl;have g1:=hfs 1 f1 rfl;have g2:=hfs 2 f2 rfl;have g3:=hfs 3 f3 rfl;rw[e.1,o.1,cb] at g0;rw[e.2.1,o.2.1,ci] at g1;rw[e.2.2.1,o.2.2.1,ci] at g2;rw[e.2.2.2,o.2.2.2,cs] at g3;obtain⟨x0,q0,_⟩:=DataW.trod_bool hb (show DataW.trod _ P w base sp held m tb [u0]=some y0 from g0);injection q0 with q0;subst q0
  obtain⟨x1,rfl,_⟩:=Yd7 hi (show DataW.trod _ P w base sp held m ti [u1]=some y1 from g1);obtain⟨x2,rfl,_⟩:=Yd7 hi (show DataW.trod _ P w base sp held m ti [u2]=some y2 from g2);obtain⟨p,n,cap,rfl,hl,hr⟩:=Yd2 18 (fun vs=>∃c,Yit w c vs) hs ce (by decide) hq (show DataW.trod _ P w base sp held m ts [u3]=some y3 from g3)
  have hcap:p=none→cap=0:=fun e=>by subst e;exact Yum hs (show DataW.trod _ P w base sp held m ts [.slice none n cap]=some y3 from g3)
  obtain⟨L,rfl,hL⟩:=Yo3 hr;exact⟨⟨x0,x1,x2,L⟩,p,cap,rfl,hcap,hl,hL⟩
theorem Y3t {w:World}{base:Nat}{sp:Nat→Bool}{held:Bool}{t ti tb ts tr te:TypeId}{f0 f1 f2 f3 f4 f5 f6 f7:Field}
  (ht:P.underlying t=some (.struct #[f0,f1,f2,f3,f4,f5,f6,f7]))(hi:P.underlying ti=some (.int .i64))(hb:P.underlying tb=some .bool)(hs:P.underlying ts=some (.slice ti))(hr:P.underlying tr=some (.slice te))
  (e:f0.type=ti∧f1.type=ti∧f2.type=ti∧f3.type=tb∧f4.type=ti∧f5.type=ts∧f6.type=tr∧f7.type=ti)(o:f0.offset=0∧f1.offset=1∧f2.offset=2∧f3.offset=3∧f4.offset=4∧f5.offset=5∧f6.offset=6∧f7.offset=7)
  (ci:P.cellsOf ti=1)(cb:P.cellsOf tb=1)(cs:P.cellsOf ts=1)(cr:P.cellsOf tr=1)(ce:P.cellsOf te=4)(hq:∀k vs y,vs.length=4→DataW.trod enc P w base sp held k te vs=some y→∃r,Yyx w r vs):
  ∀k (vs:List Value) y,vs.length=8→DataW.trod enc P w base sp held k t vs=some y→∃S,ShV w S vs:=by
 intro k vs y hlen h;obtain⟨xs,k,hk,hxy,_,hxl,hfs⟩:=DataW.trod_struct ht h
 match vs,hlen,xs,hxl with
 |[u0,u1,u2,u3,u4,u5,u6,u7],_,[y0,y1,y2,y3,y4,y5,y6,y7],_=>
  have g0:=hfs 0 f0 rfl;have g1:=hfs 1 f1 rfl;have g2:=hfs 2 f2 rfl;have g3:=hfs 3 f3 rfl;have g4:=hfs 4 f4 rfl;have g5:=hfs 5 f5 rfl;have g6:=hfs 6 f6 rfl;have g7:=hfs 7 f7 rfl;rw[e.1,o.1,ci] at g0;rw[e.2.1,o.2.1,ci] at g1;rw[e.2.2.1,o.2.2.1,ci] at g2;rw[e.2.2.2.1,o.2.2.2.1,cb] at g3;rw[e.2.2.2.2.1,o.2.2.2.2.1,ci] at g4;rw[e.2.2.2.2.2.1,o.2.2.2.2.2.1,cs] at g5
  rw[e.2.2.2.2.2.2.1,o.2.2.2.2.2.2.1,cr] at g6;rw[e.2.2.2.2.2.2.2,o.2.2.2.2.2.2.2,ci] at g7;obtain⟨x0,rfl,_⟩:=Yd7 hi (show DataW.trod _ P w base sp held k ti [u0]=some y0 from g0);obtain⟨x1,rfl,_⟩:=Yd7 hi (show DataW.trod _ P w base sp held k ti [u1]=some y1 from g1);obtain⟨x2,rfl,_⟩:=Yd7 hi (show DataW.trod _ P w base sp held k ti [u2]=some y2 from g2)
  obtain⟨x3,q3,_⟩:=DataW.trod_bool hb (show DataW.trod _ P w base sp held k tb [u3]=some y3 from g3);injection q3 with q3;subst q3;obtain⟨x4,rfl,_⟩:=Yd7 hi (show DataW.trod _ P w base sp held k ti [u4]=some y4 from g4);obtain⟨p,len,cap,f,rfl,hl,hin⟩:=Ywj hs hi ci (show DataW.trod _ P w base sp held k ts [u5]=some y5 from g5)
  obtain⟨q,n,cap',rfl,hn,hrw⟩:=Yd2 4 (fun vs=>∃r,Yyx w r vs) hr ce (by decide) hq (show DataW.trod _ P w base sp held k tr [u6]=some y6 from g6);obtain⟨x7,rfl,_⟩:=Yd7 hi (show DataW.trod _ P w base sp held k ti [u7]=some y7 from g7);obtain⟨L,rfl,hL⟩:=Ywl hin;obtain⟨M,rfl,hM⟩:=Yo3 hrw;exact⟨⟨⟨x0,x1,x2,x3,x4,L⟩,M,x7⟩,p,q,cap,cap',rfl,hl,hn,hL,hM⟩
theorem Ytu {w:World}{r:Reach}{b0 base:Nat}{sp:Nat→Bool}{held:Bool}{t ti tb ts tr te:TypeId}{f0 f1 f2 f3 f4 f5 f6 f7:Field}{v:Value}{d:DataW H}{ps:List MemPlace}
  (ht:P.underlying t=some (.struct #[f0,f1,f2,f3,f4,f5,f6,f7]))(hi:P.underlying ti=some (.int .i64))(hb:P.underlying tb=some .bool)(hs:P.underlying ts=some (.slice ti))(hr:P.underlying tr=some (.slice te))
  (e:f0.type=ti∧f1.type=ti∧f2.type=ti∧f3.type=tb∧f4.type=ti∧f5.type=ts∧f6.type=tr∧f7.type=ti)(o:f0.offset=0∧f1.offset=1∧f2.offset=2∧f3.offset=3∧f4.offset=4∧f5.offset=5∧f6.offset=6∧f7.offset=7)
  (ci:P.cellsOf ti=1)(cb:P.cellsOf tb=1)(cs:P.cellsOf ts=1)(cr:P.cellsOf tr=1)(ce:P.cellsOf te=4)(hc:P.cellsOf t=8)(hq:∀k vs y,vs.length=4→DataW.trod enc P w base sp held k te vs=some y→∃r,Yyx w r vs)
  (hval:Value.okWide P w r b0 t v)(hd:DataW.Trod enc P w base sp held t v d ps):
  ∃(S:ShP) (vs:List Value),v=.agg vs.toArray∧ShV w S vs:=by
 obtain⟨cs',rfl,hsz,_⟩:∃cs,v=.agg cs∧cs.size=P.cellsOf t∧Row.okWide P w r b0 t cs:=by
  simpa [Value.okWide,ht] using hval
 rw[hc] at hsz;obtain⟨fuel,hf⟩:=hd;obtain⟨l⟩:=cs';obtain⟨S,h⟩:=Y3t ht hi hb hs hr e o ci cb cs cr ce hq fuel l _ hsz hf;exact⟨S,l,rfl,h⟩
end
end Go.Proofs.YtnamlooifcpoaaaGreatDoor