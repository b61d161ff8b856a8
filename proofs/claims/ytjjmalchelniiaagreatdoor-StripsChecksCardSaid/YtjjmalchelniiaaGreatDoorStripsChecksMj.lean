/- StripsChecks, 10. No condition. -/
import Derived.Test.YtjjmalchelniiaaGreatDoorStripsChecksMa
import Derived.Test.YtjjmalchelniiaaGreatDoorStripsChecksMh
import Derived.Test.YtjjmalchelniiaaGreatDoorStripsChecksMi
import Derived.Deep.WholeRow
open Go.Proofs.Tryz
open Go renaming Value->A0,World->A5,Addr->Aa,Calls->A9
set_option maxHeartbeats 2000000
namespace Go.Proofs.YtjjmalchelniiaaGreatDoor
section
open Go.RowKit Go.Lib Go.ChangeShapes Go.WideShapes Go.ChangeAt
abbrev Gp:=@decide_eq_false
abbrev Gq:=@decide_eq_true
abbrev Gr:=@List.take_succ_cons
abbrev Gs:=@List.drop_succ_cons
abbrev Gt:=@List.drop_zero
abbrev Gu:=@Nat.lt_succ_iff_lt_or_eq
abbrev Gv:=@Bool.and_false
abbrev Gw:=@Bool.true_and
abbrev Gx:=@underlying73
abbrev Gy:=@List.all_cons
abbrev Gz:=@Bool.not_true
abbrev H5:=@underlying3
abbrev H7:=@run_part_plain
abbrev H9:=@List.getElem?_cons_succ
abbrev Ha:=@Bool.not_false
abbrev Hb:=@Bool.false_and
abbrev Hc:=@Nat.mul_one
abbrev Hd:=@run_equalIn_int
abbrev He:=@ntmps58
theorem Aj{α}(a:α):∃b,a=b:=⟨a,rfl⟩
def arn (n:Nat)(f:Nat->Int):Array A0:=((List.range n).map fun i=>.int .i64 (f i)).toArray
theorem Xn {n:Nat}(f:Nat->Int){i:Nat}(h:i<n):(arn n f)[i]? =some (.int .i64 (f i)):=by simp[arn,h]
section
variable {P:Program}{T E:TypeId}{n:Nat}
end
theorem BZ {P:Program}{ops:Array Oper}{rest:List Oper}{op:Oper}{a:Act}{w:A5}{Q:Exit->Act->A5->Prop}(c:op.guard=none)(ty:TypeId)(x y:Operand)(ho:op.op=.store ty x y)
  (Z b:Array A0)(T:TypeId)(d:a.eval x=.pointer (some ⟨w.heap.size,0,none⟩))(e:a.eval y=.agg Z)(hi:(P.info? ty).map (·.size)=some Z.size)(hs:b.size=Z.size)(h1:Z.all (·.oneCell')=true)
  (h:wpList P ops Q rest (a.put op.dst undef) (w.alloc (.cells Z T (0,0)))):wpList P ops Q (op::rest) a (w.alloc (.cells b T (0,0))):=by
 refine wpList_store_row c ty x y ho w.heap.size Z d e T b (heap_alloc_last w _) hi hs h1 ?_;rw[World.setRow_alloc_new];exact h
theorem JF (w:A5)(b c:Obj):∃(B:Nat) (d a:A5),w.heap.size=B/\w.alloc b=d/\d.alloc c=a/\d.heap.size=B+1/\a.heap.size=B+2/\a.heap[B]? =some b/\a.heap[B+1]? =some c/\Below B w a:=
 ⟨_,_,_,rfl,rfl,rfl,by simp,by simp,CH (heap_alloc_new w _),by simpa using heap_alloc_new (w.alloc b) c,((Dw _ w).alloc (Ba _) _).alloc (by simp) _⟩
theorem Xw (w:A5)(b c d:Obj):∃(B:Nat) (e f a:A5),w.heap.size=B/\w.alloc b=e/\e.alloc c=f/\f.alloc d=a/\e.heap.size=B+1/\f.heap.size=B+2/\a.heap.size=B+3/\a.heap[B]? =some b/\a.heap[B+1]? =some c/\a.heap[B+2]? =some d/\Below B w a:=
 ⟨_,_,_,_,rfl,rfl,rfl,rfl,by simp,by simp,by simp,CH (CH (heap_alloc_new w _)),CH (by simpa using heap_alloc_new (w.alloc b) c),by simpa using heap_alloc_new ((w.alloc b).alloc c) d,(((Dw _ w).alloc (Ba _) _).alloc (by simp) _).alloc (by simp;omega) _⟩
end
section
open Go.RowKit Go.Lib
def F9 (a b:Int):Array A0:=#[.int .i64 a,.int .i64 b]
theorem Pv {w:A5}{B:Nat}{a b:Int}(h:w.heap[B]? =some (.cells (F9 a b) 73 (0,0))):w.cell? ⟨B,0,none⟩=some (.int .i64 a)/\w.cell? ⟨B,1,none⟩=some (.int .i64 b):=
 ⟨A2 (cs:=[.int .i64 a,.int .i64 b]) h rfl,A2 (cs:=[.int .i64 a,.int .i64 b]) h rfl⟩
theorem tJ:(prog.info? 73).map (·.size)=some 2:=by kernel_rfl
theorem yI (a b:Int):(F9 a b).all (·.oneCell')=true:=by simp[F9,Value.oneCell']
theorem Qd (a b c d:Int)(w:A5):(Op.equalIn 10000 73 (.agg #[.int .i64 a,.int .i64 b]) (.agg #[.int .i64 c,.int .i64 d])).run prog w=.ok (a==c&&b==d) w:=by
 obtain⟨j,hj⟩:=Q6;have h:=run_equalIn_array (P:=prog) w 9999 #[.int .i64 a,.int .i64 b] #[.int .i64 c,.int .i64 d] Gx hj;refine h.trans ?_;have e:=H7 (P:=prog) w LX (show (#[.int .i64 a,.int .i64 b]:Array A0)[0]? =some (.int .i64 a) from rfl)
 have f:=H7 (P:=prog) w LX (show (#[.int .i64 a,.int .i64 b]:Array A0)[1]? =some (.int .i64 b) from rfl);have g:=H7 (P:=prog) w LX (show (#[.int .i64 c,.int .i64 d]:Array A0)[0]? =some (.int .i64 c) from rfl);have i:=H7 (P:=prog) w LX (show (#[.int .i64 c,.int .i64 d]:Array A0)[1]? =some (.int .i64 d) from rfl)
 have k:=Hd (P:=prog) w 9998 3 .i64 .i64 a c H5;have l:=Hd (P:=prog) w 9998 3 .i64 .i64 b d H5;show (Op.eqItems 9999 3 (prog.cellsOf 3) _ _ [0,1]).run prog w=_;rw[NU];simp only[Op.eqItems,Ar,Hc,e,g,k,Ap];cases hq:(a==c) with
 |false=>simp
 |true=>
  simp only[Gz,B5,if_false,Ar,f,i,l,Ap,Gw];cases hq2:(b==d) <;> simp
def MQ (w:A5)(p:Option Aa)(n:Nat)(f:Nat->Int×Int):Prop:=
 n=0\/∃b o,p=some ⟨b,o,none⟩/\b<w.heap.size/\∀i,i<n->w.cell? ⟨b,o+i*2,none⟩=some (.int .i64 (f i).1)/\w.cell? ⟨b,o+i*2+1,none⟩=some (.int .i64 (f i).2)
theorem MQ.mono {w e:A5}{p:Option Aa}{n:Nat}{f:Nat->Int×Int}(h:MQ w p n f)(d:Below w.heap.size w e):MQ e p n f:=by
 rcases h with h|⟨b,o,rfl,c,hc⟩
 ·exact .inl h
 ·refine .inr ⟨b,o,rfl,by have:=d.size;omega,fun i hi=>?_⟩;obtain⟨g,h1⟩:=hc i hi;exact⟨(Fz (a:=⟨b,o+i*2,none⟩) (d.block b c)).trans g,(Fz (a:=⟨b,o+i*2+1,none⟩) (d.block b c)).trans h1⟩
theorem Zy {w:A5}{p:Option Aa}{n:Nat}{f:Nat->Int×Int}(h:MQ w p n f)(hn:0<n):∃b o,p=some ⟨b,o,none⟩/\∀x,Below w.heap.size w x->∀i,i<n->x.cell? ⟨b,o+i*2,none⟩=some (.int .i64 (f i).1)/\x.cell? ⟨b,o+i*2+1,none⟩=some (.int .i64 (f i).2):=by
 rcases h with h|⟨b,o,rfl,c,hc⟩
 ·omega
 ·refine⟨b,o,rfl,fun x d i hi=>?_⟩;obtain⟨e,h1⟩:=hc i hi;exact⟨(Fz (a:=⟨b,o+i*2,none⟩) (d.block b c)).trans e,(Fz (a:=⟨b,o+i*2+1,none⟩) (d.block b c)).trans h1⟩
set_option maxRecDepth 100000 in
theorem oN (p q:Option Aa)(l m:List Ev)(c c':Nat)(w:A5)(C:CE w p l)(D:CE w q m)(hm:l.length<=1048576):A9 prog 124 #[.slice p l.length c,.slice q m.length c'] w fun e L=>e=.returned (.bool (decide (l=m)))/\Below w.heap.size w L:=by
 by_cases hl:l.length=m.length
 ·have E:=Ft hl;obtain⟨n,hn⟩:=Aj l.length;have G:=Ft hn;rw[<-hl,hn];rw[hn] at hm;clear hl hn
  go_enter func124,ntmps124
  go_wp2
  go_loopw [13] (fun z wr=>∃i:Nat,i<=n/\z=.int .i64 i/\Hid (∀j,(h1:j<l.length)->(h2:j<m.length)->j<i->l[j]=m[j])/\Below w.heap.size w wr) (fun z _=>n-(intOf z).toNat)
  case atStart=>exact⟨0,Fx _,rfl,Ft fun j _ _ h=>absurd h (G0 j),Dw _ _⟩
  case round=>
   obtain⟨i,hi,rfl,hs,g⟩:=hrel;by_cases k:i<n
   ·have t0:decide ((i:Int)<(n:Int))=true:=by simp;omega
    have t1:decide (i<n)=true:=by simpa using k
    have r:i<l.length:=by rw[G.out];exact k
    have v:i<m.length:=by rw[<-E.out];exact r
    obtain⟨b,o,rfl,x,hc⟩:=(C.below g).at (by omega);obtain⟨O,P,rfl,s,hd⟩:=(D.below g).at (by omega);obtain⟨H,c1,c2⟩:=hc i r;obtain⟨d0,d1,d2⟩:=hd i v;have M:∀j,j<i+1->j<i\/j=i:=fun j h=>by omega
    obtain⟨⟨y,A,I⟩,d⟩:=Aj (l[i]);obtain⟨⟨y0,y1,y2⟩,f⟩:=Aj (m[i]);rw[d] at H c1 c2;rw[f] at d0 d1 d2;simp only at H c1 c2 d0 d1 d2;have t:=Ft d;have u:=Ft f;clear hc hd x s d f;by_cases e:y=y0/\A=y1/\I=y2
    ·obtain⟨rfl,rfl,rfl⟩:=e;have N:=Ft (show∀j,(h1:j<l.length)->(h2:j<m.length)->j<i+1->l[j]=m[j] from fun j h1 h2 h3=>by
      rcases M j h3 with h|h
      ·exact hs.out j h1 h2 h
      ·subst h;rw[t.out,u.out])
     clear hs;have a:=g.drew
     go_wp2
     go_region
     go_wp2
     go_roundw
     case rel=>exact⟨i+1,by omega,by go_num,N.out,a⟩
     case measure=>simp[intOf];omega
    ·have F:=Ft (show decide (l=m)=false by
      rw[G3];intro h;subst h;have h2:=t.out.symm.trans u.out;injection h2 with h2 h3;injection h3 with h3 h4;exact e ⟨h2,h3,h4⟩)
     have a:=g.drew;clear hs;by_cases J:y=y0
     ·subst J;by_cases K:A=y1
      ·subst K;have Q:(I==y2)=false:=by rw[Fv];intro h;exact e ⟨rfl,rfl,h⟩
       go_wp2
       go_region
       go_wp2
       go_ret
       exact⟨AB F.out.symm,a⟩
      ·have R:(A==y1)=false:=by rw[Fv];exact K
       go_wp2
       go_region
       go_wp2
       go_ret
       exact⟨AB F.out.symm,a⟩
     ·have B:(y==y0)=false:=by rw[Fv];exact J
      go_wp2
      go_region
      go_wp2
      go_ret
      exact⟨AB F.out.symm,a⟩
   ·obtain rfl:i=n:=by omega
    have t0:decide ((i:Int)<(i:Int))=false:=by simp
    have t1:decide (i<i)=false:=by simp
    have F:=Ft (show decide (l=m)=true by rw[Fy];exact Xe E.out hs.out (Gb G.out))
    go_wp2
    go_ret
    exact⟨AB F.out.symm,g⟩
 ·have F:=Ft (show decide (l=m)=false by rw[G3];intro e;exact hl (by rw[e]));have B:((l.length:Int)==(m.length:Int))=false:=by rw[Fv];omega
  clear C D;generalize l.length=S at hl B hm ⊢;generalize m.length=T at hl B ⊢
  go_enter func124,ntmps124
  go_wp2
  go_ret
  exact⟨AB F.out.symm,Dw _ _⟩
theorem UG (n d:Nat)(f g:Nat->Int)(w:A5):∀is:List Nat,(∀i∈is,i<n)->(Op.eqItems (d+1) 3 (prog.cellsOf 3) (arn n f) (arn n g) is).run prog w=.ok (is.all fun i=>f i==g i) w
 |[],_=>by simp[Op.eqItems]
 |i::is,h=>by
  have hi:=h i Eu;have b:=H7 (P:=prog) w LX (Xn f hi);have c:=H7 (P:=prog) w LX (Xn g hi);have e:=Hd (P:=prog) w d 3 .i64 .i64 (f i) (g i) H5;have a:=UG n d f g w is fun k j=>h k (Et _ j);rw[NU] at a ⊢
  simp only[Op.eqItems,Ar,Hc,b,c,e,Ap,Gy];cases hq:(f i==g i) with
  |false=>simp
  |true=>simpa using a
theorem T0 (f g:Nat->Int)(w:A5):(Op.equalIn 10000 74 (.agg #[.int .i64 (f 0),.int .i64 (f 1),.int .i64 (f 2),.int .i64 (f 3),.int .i64 (f 4),.int .i64 (f 5)]) (.agg #[.int .i64 (g 0),.int .i64 (g 1),.int .i64 (g 2),.int .i64 (g 3),.int .i64 (g 4),.int .i64 (g 5)])).run prog w=.ok ((List.range 6).all fun i=>f i==g i) w:=by
 obtain⟨j,hj⟩:=Q6;have h:=run_equalIn_array (P:=prog) w 9999 (arn 6 f) (arn 6 g) underlying74 hj;exact h.trans (UG 6 9998 f g w (List.range 6) fun i hi=>Bq.1 hi)
set_option maxRecDepth 100000 in
theorem cB (a b:Cel)(p q:Nat->Option Aa)(n m c c':Nat->Nat)(w:A5)(ha:FP w a p n)(v:FP w b q m):
  A9 prog 89 #[.agg (AF a fun i=>.slice (p i) (n i) (c i)).toArray,.agg (AF b fun i=>.slice (q i) (m i) (c' i)).toArray] w fun e w'=>e=.returned (.bool (CG a b))/\Below w.heap.size w w':=by
 obtain⟨A,N⟩:=Aj ((AF a fun i=>.slice (p i) (n i) (c i)).toArray);obtain⟨B,O⟩:=Aj ((AF b fun i=>.slice (q i) (m i) (c' i)).toArray);rw[N,O];obtain⟨R,wA,r,P,I,J,Q,T,D,E,G⟩:=JF w (.cells A 77 (0,0)) (.cells B 77 (0,0));rw[<-N] at D;rw[<-O] at E;have aa:=Ft (fun x (f:Below (R+2) r x)=>(f.block R (by omega)).trans D)
 have ab:=Ft (fun x (f:Below (R+2) r x)=>(f.block (R+1) (by omega)).trans E);have K:∀i,i<6->∀x,Below (R+2) r x->A9 prog 124 #[.slice (p i) (n i) (c i),.slice (q i) (m i) (c' i)] x fun e y=>e=.returned (.bool (decide (a.ev i=b.ev i)))/\Below (R+2) r y:=by
  intro i hi x f;have L:Below w.heap.size w x:=P▸(G.trans (f.mono (by omega)));obtain⟨e1,e2,e3⟩:=ha.below L i hi;obtain⟨f1,f2,f3⟩:=v.below L i hi;rw[e1,f1];exact(oN (p i) (q i) (a.ev i) (b.ev i) (c i) (c' i) x e3 f3 (by omega)).mono fun e y h=>⟨h.1,f.trans (h.2.mono (by have:=f.size;omega))⟩
 have af:=Ft K;have U:=Ft I;have V:=Ft J;have s:=Ft P;have g:=Ft G;have ag:=Qd a.mx a.my b.mx b.my;have ah:=T0 a.dc b.dc;have t:Hid (GO a b=(a.stuff==b.stuff&&a.skip==b.skip&&a.kind==b.kind&&a.step==b.step&&(a.mx==b.mx&&a.my==b.my)&&(List.range 6).all fun i=>a.dc i==b.dc i)):=Ft rfl;have ai:=Ft (fun h=>TC (c:=a) (d:=b) h)
 have aj:=Ft (fun i hi h=>Vq (c:=a) (d:=b) (i:=i) hi h);have ac:Hid (CG a b=(evB a b&&GO a b)):=Ft rfl;have ap:=Ft N;have aq:=Ft O;clear N O I J P D E G K ha v Q
 go_enter func89,ntmps89
 go_wp2
 rw[U.out,s.out,V.out]
 go_loopw [6] (fun z wr=>∃i:Nat,i<=6/\z=.int .i64 i/\Hid (∀j,j<i->a.ev j=b.ev j)/\Below (R+2) r wr) (fun z _=>6-(intOf z).toNat)
 case atStart=>exact⟨0,by omega,rfl,Ft fun j h=>absurd h (G0 j),T▸Dw _ _⟩
 case round=>
  obtain⟨i,ak,rfl,hs,v⟩:=hrel;by_cases u:i<6
  ·have t0:decide ((i:Int)<6)=true:=by simp;omega
   have ad:=Ft (fun x (f:Below (R+2) r x)=>A2 (o:=12+i) (aa.out x f) (HM a _ i u));have ae:=Ft (fun x (f:Below (R+2) r x)=>A2 (o:=12+i) (ab.out x f) (HM b _ i u));have C:=Ft (fun x f=>af.out i u x f);have M:=v.drew;by_cases H:a.ev i=b.ev i
   ·have W:=Ft H;rw[Gq H] at C;clear H
    go_wp2
    refine BU (S:=fun x=>Below (R+2) r x) 10 (by kernel_rfl) (by kernel_rfl) M ?_;simp only[Gr,Bk,Gs,Gt]
    iterate 2 (refine AJ ?_;simp only[A1])
    refine AT (by kernel_rfl) (fun x _=>by go_simp;rw[Bc (by omega)]) ?_;simp only[A1];refine AR 72 _ ⟨R,12+i,none⟩ (.slice (p i) (n i) (c i)) (by kernel_rfl) rfl rfl (fun x f=>by have X:=(ad.out x f);go_simp) ?_;simp only[A1]
    iterate 2 (refine AJ ?_;simp only[A1])
    refine AT (by kernel_rfl) (fun x _=>by go_simp;rw[Bc (by omega)]) ?_;simp only[A1];refine AR 72 _ ⟨R+1,12+i,none⟩ (.slice (q i) (m i) (c' i)) (by kernel_rfl) rfl rfl (fun x f=>by have X:=(ae.out x f);go_simp) ?_;simp only[A1];refine AY (by kernel_rfl) C.out (fun _=>by kernel_rfl) ?_;simp only[A1];refine AJ ?_;simp only[A1];refine BS fun x f=>?_
    go_wp2
    go_roundw
    case rel=>exact⟨i+1,by omega,by go_num,Ft (fun j hj=>(Gu.1 hj).elim (hs.out j) fun h=>h▸W.out),f⟩
    case measure=>simp[intOf];omega
   ·have W:=Ft (aj.out i u H);rw[Gp H] at C;clear H
    go_wp2
    refine BU (S:=fun x=>Below (R+2) r x) 10 (by kernel_rfl) (by kernel_rfl) M ?_;simp only[Gr,Bk,Gs,Gt]
    iterate 2 (refine AJ ?_;simp only[A1])
    refine AT (by kernel_rfl) (fun x _=>by go_simp;rw[Bc (by omega)]) ?_;simp only[A1];refine AR 72 _ ⟨R,12+i,none⟩ (.slice (p i) (n i) (c i)) (by kernel_rfl) rfl rfl (fun x f=>by have X:=(ad.out x f);go_simp) ?_;simp only[A1]
    iterate 2 (refine AJ ?_;simp only[A1])
    refine AT (by kernel_rfl) (fun x _=>by go_simp;rw[Bc (by omega)]) ?_;simp only[A1];refine AR 72 _ ⟨R+1,12+i,none⟩ (.slice (q i) (m i) (c' i)) (by kernel_rfl) rfl rfl (fun x f=>by have X:=(ae.out x f);go_simp) ?_;simp only[A1];refine AY (by kernel_rfl) C.out (fun _=>by kernel_rfl) ?_;simp only[A1];refine AJ ?_;simp only[A1];refine BS fun x f=>?_
    go_wp2
    go_ret
    exact⟨AB (by rw[ac.out,W.out,Hb]),s.out▸g.out.trans (f.mono (by omega))⟩
  ·obtain rfl:i=6:=by omega
   have t0:decide ((6:Int)<6)=false:=by simp
   have F:=Ft (show CG a b=GO a b by rw[ac.out,ai.out fun j hj=>hs.out j hj,Gw]);have l:=aa.out wr v;have h1:=ab.out wr v;have a0:=A2 (o:=0) l rfl;have a1:=A2 (o:=1) l rfl;have a2:=A2 (o:=2) l rfl;have a3:=A2 (o:=3) l rfl;have a4:=A2 (o:=4) l rfl;have a5:=A2 (o:=5) l rfl;have a6:=A2 (o:=6) l rfl;have a7:=A2 (o:=7) l rfl;have a8:=A2 (o:=8) l rfl
   have a9:=A2 (o:=9) l rfl;have al:=A2 (o:=10) l rfl;have am:=A2 (o:=11) l rfl;have b0:=A2 (o:=0) h1 rfl;have b1:=A2 (o:=1) h1 rfl;have b2:=A2 (o:=2) h1 rfl;have b3:=A2 (o:=3) h1 rfl;have b4:=A2 (o:=4) h1 rfl;have b5:=A2 (o:=5) h1 rfl;have b6:=A2 (o:=6) h1 rfl;have b7:=A2 (o:=7) h1 rfl;have b8:=A2 (o:=8) h1 rfl;have b9:=A2 (o:=9) h1 rfl;have an:=A2 (o:=10) h1 rfl
   have ao:=A2 (o:=11) h1 rfl;have k:=Ft v;clear l h1 hs v;generalize Y:(List.range 6).all (fun i=>a.dc i==b.dc i)=q5 at ah t;generalize Z:(a.mx==b.mx&&a.my==b.my)=q4 at ag t;clear Y Z;cases g0:(a.stuff==b.stuff) with
   |false=>
    go_wp2
    go_ret
    exact⟨AB (by rw[F.out,t.out];simp[g0]),s.out▸g.out.trans (k.out.mono (by omega))⟩
   |true=>
    cases g1:(a.skip==b.skip) with
    |false=>
     go_wp2
     go_ret
     exact⟨AB (by rw[F.out,t.out];simp[g0,g1]),s.out▸g.out.trans (k.out.mono (by omega))⟩
    |true=>
     cases g2:(a.kind==b.kind) with
     |false=>
      go_wp2
      go_ret
      exact⟨AB (by rw[F.out,t.out];simp[g0,g1,g2]),s.out▸g.out.trans (k.out.mono (by omega))⟩
     |true=>
      cases g3:(a.step==b.step) with
      |false=>
       go_wp2
       go_ret
       exact⟨AB (by rw[F.out,t.out];simp[g0,g1,g2,g3]),s.out▸g.out.trans (k.out.mono (by omega))⟩
      |true=>
       cases q4 with
       |false=>
        go_wp2
        go_ret
        exact⟨AB (by rw[F.out,t.out];simp[g0,g1,g2,g3]),s.out▸g.out.trans (k.out.mono (by omega))⟩
       |true=>
        cases q5 with
        |false=>
         go_wp2
         go_ret
         exact⟨AB (by rw[F.out,t.out];simp[g0,g1,g2,g3]),s.out▸g.out.trans (k.out.mono (by omega))⟩
        |true=>
         go_wp2
         go_ret
         exact⟨AB (by rw[F.out,t.out];simp[g0,g1,g2,g3]),s.out▸g.out.trans (k.out.mono (by omega))⟩
set_option maxRecDepth 100000 in
theorem oL (a b:Cel)(p q:Nat->Option Aa)(n m c c':Nat->Nat)(w:A5)(ha:FP w a p n)(K:FP w b q m):
  A9 prog 58 #[.agg (AF a fun i=>.slice (p i) (n i) (c i)).toArray,.agg (AF b fun i=>.slice (q i) (m i) (c' i)).toArray] w fun e w'=>e=.returned (.bool (CG a b))/\Below w.heap.size w w':=by
 obtain⟨A,Q⟩:=Aj ((AF a fun i=>.slice (p i) (n i) (c i)).toArray);obtain⟨B,T⟩:=Aj ((AF b fun i=>.slice (q i) (m i) (c' i)).toArray);rw[Q,T];obtain⟨R,wA,t,U,L,M,V,W,G,H,I⟩:=JF w (.cells A 77 (0,0)) (.cells B 77 (0,0));rw[<-Q] at G;rw[<-T] at H;have ac:=Ft (fun x (f:Below (R+2) t x)=>(f.block R (by omega)).trans G)
 have ad:=Ft (fun x (f:Below (R+2) t x)=>(f.block (R+1) (by omega)).trans H);have N:∀i,i<6->∀x,Below (R+2) t x->A9 prog 90 #[.slice (p i) (n i) (c i),.slice (q i) (m i) (c' i)] x fun e y=>e=.returned (.bool (decide (a.ev i=b.ev i)))/\Below (R+2) t y:=by
  intro i hi x f;have O:Below w.heap.size w x:=U▸(I.trans (f.mono (by omega)));obtain⟨e1,e2,e3⟩:=ha.below O i hi;obtain⟨f1,f2,f3⟩:=K.below O i hi;rw[e1,f1];exact(cJ (p i) (q i) (a.ev i) (b.ev i) (c i) (c' i) x e3 f3 (by omega)).mono fun e y h=>⟨h.1,f.trans (h.2.mono (by have:=f.size;omega))⟩
 have ae:=Ft N;have k:=Ft L;have l:=Ft M;have u:=Ft U;have g:=Ft I;have af:=Qd a.mx a.my b.mx b.my;have ag:=T0 a.dc b.dc;have v:Hid (GO a b=(a.stuff==b.stuff&&a.skip==b.skip&&a.kind==b.kind&&a.step==b.step&&(a.mx==b.mx&&a.my==b.my)&&(List.range 6).all fun i=>a.dc i==b.dc i)):=Ft rfl;have ah:=Ft (fun h=>TC (c:=a) (d:=b) h)
 have ai:=Ft (fun i hi h=>Vq (c:=a) (d:=b) (i:=i) hi h);have E:Hid (CG a b=(evB a b&&GO a b)):=Ft rfl;have r:=Ft Q;have s:=Ft T;clear Q T L M U G H I N ha K V;have a0:A[0]? =some (.int .i64 a.stuff):=by rw[<-r.out];rfl
 have a1:A[1]? =some (.bool a.skip):=by rw[<-r.out];rfl
 have a2:A[2]? =some (.int .i64 a.kind):=by rw[<-r.out];rfl
 have a3:A[3]? =some (.int .i64 a.step):=by rw[<-r.out];rfl
 have a4:A[4]? =some (.int .i64 a.mx):=by rw[<-r.out];rfl
 have a5:A[5]? =some (.int .i64 a.my):=by rw[<-r.out];rfl
 have a6:A[6]? =some (.int .i64 (a.dc 0)):=by rw[<-r.out];rfl
 have a7:A[7]? =some (.int .i64 (a.dc 1)):=by rw[<-r.out];rfl
 have a8:A[8]? =some (.int .i64 (a.dc 2)):=by rw[<-r.out];rfl
 have a9:A[9]? =some (.int .i64 (a.dc 3)):=by rw[<-r.out];rfl
 have aj:A[10]? =some (.int .i64 (a.dc 4)):=by rw[<-r.out];rfl
 have ak:A[11]? =some (.int .i64 (a.dc 5)):=by rw[<-r.out];rfl
 have b0:B[0]? =some (.int .i64 b.stuff):=by rw[<-s.out];rfl
 have b1:B[1]? =some (.bool b.skip):=by rw[<-s.out];rfl
 have b2:B[2]? =some (.int .i64 b.kind):=by rw[<-s.out];rfl
 have b3:B[3]? =some (.int .i64 b.step):=by rw[<-s.out];rfl
 have b4:B[4]? =some (.int .i64 b.mx):=by rw[<-s.out];rfl
 have b5:B[5]? =some (.int .i64 b.my):=by rw[<-s.out];rfl
 have b6:B[6]? =some (.int .i64 (b.dc 0)):=by rw[<-s.out];rfl
 have b7:B[7]? =some (.int .i64 (b.dc 1)):=by rw[<-s.out];rfl
 have b8:B[8]? =some (.int .i64 (b.dc 2)):=by rw[<-s.out];rfl
 have b9:B[9]? =some (.int .i64 (b.dc 3)):=by rw[<-s.out];rfl
 have al:B[10]? =some (.int .i64 (b.dc 4)):=by rw[<-s.out];rfl
 have am:B[11]? =some (.int .i64 (b.dc 5)):=by rw[<-s.out];rfl
 generalize X:(List.range 6).all (fun i=>a.dc i==b.dc i)=q5 at ag v;generalize Y:(a.mx==b.mx&&a.my==b.my)=q4 at af v;clear X Y;cases g0:(a.stuff==b.stuff) with
 |true=>
  have n0:(a.stuff != b.stuff)=false:=by simp only[bne,g0,Gz]
  cases g1:(a.skip==b.skip) with
  |true=>
   have n1:(a.skip != b.skip)=false:=by simp only[bne,g1,Gz]
   cases g2:(a.kind==b.kind) with
   |true=>
    have n2:(a.kind != b.kind)=false:=by simp only[bne,g2,Gz]
    cases g3:(a.step==b.step) with
    |true=>
     have n3:(a.step != b.step)=false:=by simp only[bne,g3,Gz]
     cases q4 with
     |true=>
      cases q5 with
      |true=>
       have F:=Ft (show GO a b=true by rw[v.out];simp[g0,g1,g2,g3])
       go_enter func58,He
       go_wp2
       rw[k.out,u.out,l.out]
       go_loopw [5] (fun z wr=>∃i:Nat,i<=6/\z=.int .i64 i/\Hid (∀j,j<i->a.ev j=b.ev j)/\Below (R+2) t wr) (fun z _=>6-(intOf z).toNat)
       case atStart=>exact⟨0,by omega,rfl,Ft fun j h=>absurd h (G0 j),W▸Dw _ _⟩
       case round=>
        obtain⟨i,an,rfl,hs,K⟩:=hrel;by_cases D:i<6
        ·have t0:decide ((i:Int)<6)=true:=by simp;omega
         have aa:=Ft (fun x (f:Below (R+2) t x)=>A2 (o:=12+i) (ac.out x f) (HM a _ i D));have ab:=Ft (fun x (f:Below (R+2) t x)=>A2 (o:=12+i) (ad.out x f) (HM b _ i D));have C:=Ft (fun x f=>ae.out i D x f);have P:=K.drew;by_cases J:a.ev i=b.ev i
         ·have Z:=Ft J;rw[Gq J] at C;clear J
          go_wp2
          refine BU (S:=fun x=>Below (R+2) t x) 10 (by kernel_rfl) (by kernel_rfl) P ?_;simp only[Gr,Bk,Gs,Gt]
          iterate 2 (refine AJ ?_;simp only[A1])
          refine AT (by kernel_rfl) (fun x _=>by go_simp;rw[Bc (by omega)]) ?_;simp only[A1];refine AR 72 _ ⟨R,12+i,none⟩ (.slice (p i) (n i) (c i)) (by kernel_rfl) rfl rfl (fun x f=>by have c0:=(aa.out x f);go_simp) ?_;simp only[A1]
          iterate 2 (refine AJ ?_;simp only[A1])
          refine AT (by kernel_rfl) (fun x _=>by go_simp;rw[Bc (by omega)]) ?_;simp only[A1];refine AR 72 _ ⟨R+1,12+i,none⟩ (.slice (q i) (m i) (c' i)) (by kernel_rfl) rfl rfl (fun x f=>by have c0:=(ab.out x f);go_simp) ?_;simp only[A1];refine AY (by kernel_rfl) C.out (fun _=>by kernel_rfl) ?_;simp only[A1];refine AJ ?_;simp only[A1];refine BS fun x f=>?_
          go_wp2
          go_roundw
          case rel=>exact⟨i+1,by omega,by go_num,Ft (fun j hj=>(Gu.1 hj).elim (hs.out j) fun h=>h▸Z.out),f⟩
          case measure=>simp[intOf];omega
         ·have Z:=Ft (ai.out i D J);rw[Gp J] at C;clear J
          go_wp2
          refine BU (S:=fun x=>Below (R+2) t x) 10 (by kernel_rfl) (by kernel_rfl) P ?_;simp only[Gr,Bk,Gs,Gt]
          iterate 2 (refine AJ ?_;simp only[A1])
          refine AT (by kernel_rfl) (fun x _=>by go_simp;rw[Bc (by omega)]) ?_;simp only[A1];refine AR 72 _ ⟨R,12+i,none⟩ (.slice (p i) (n i) (c i)) (by kernel_rfl) rfl rfl (fun x f=>by have c0:=(aa.out x f);go_simp) ?_;simp only[A1]
          iterate 2 (refine AJ ?_;simp only[A1])
          refine AT (by kernel_rfl) (fun x _=>by go_simp;rw[Bc (by omega)]) ?_;simp only[A1];refine AR 72 _ ⟨R+1,12+i,none⟩ (.slice (q i) (m i) (c' i)) (by kernel_rfl) rfl rfl (fun x f=>by have c0:=(ab.out x f);go_simp) ?_;simp only[A1];refine AY (by kernel_rfl) C.out (fun _=>by kernel_rfl) ?_;simp only[A1];refine AJ ?_;simp only[A1];refine BS fun x f=>?_
          go_wp2
          go_ret
          exact⟨AB (by rw[E.out,Z.out,Hb]),u.out▸g.out.trans (f.mono (by omega))⟩
        ·obtain rfl:i=6:=by omega
         have t0:decide ((6:Int)<6)=false:=by simp
         have ao:=Ft (show CG a b=true by rw[E.out,F.out,ah.out fun j hj=>hs.out j hj,Gw])
         go_wp2
         go_ret
         exact⟨AB ao.out.symm,u.out▸g.out.trans (K.mono (by omega))⟩
      |false=>
       have F:=Ft (show GO a b=false by rw[v.out];simp[g0,g1,g2,g3])
       go_enter func58,He
       go_wp2
       go_ret
       exact⟨AB (by rw[E.out,F.out,Gv]),by rw[k.out,l.out,u.out];exact g.out⟩
     |false=>
      have F:=Ft (show GO a b=false by rw[v.out];simp[g0,g1,g2,g3])
      go_enter func58,He
      go_wp2
      go_ret
      exact⟨AB (by rw[E.out,F.out,Gv]),by rw[k.out,l.out,u.out];exact g.out⟩
    |false=>
     have n3:(a.step != b.step)=true:=by simp only[bne,g3,Ha]
     have F:=Ft (show GO a b=false by rw[v.out];simp[g0,g1,g2,g3])
     go_enter func58,He
     go_wp2
     go_ret
     exact⟨AB (by rw[E.out,F.out,Gv]),by rw[k.out,l.out,u.out];exact g.out⟩
   |false=>
    have n2:(a.kind != b.kind)=true:=by simp only[bne,g2,Ha]
    have F:=Ft (show GO a b=false by rw[v.out];simp[g0,g1,g2])
    go_enter func58,He
    go_wp2
    go_ret
    exact⟨AB (by rw[E.out,F.out,Gv]),by rw[k.out,l.out,u.out];exact g.out⟩
  |false=>
   have n1:(a.skip != b.skip)=true:=by simp only[bne,g1,Ha]
   have F:=Ft (show GO a b=false by rw[v.out];simp[g0,g1])
   go_enter func58,He
   go_wp2
   go_ret
   exact⟨AB (by rw[E.out,F.out,Gv]),by rw[k.out,l.out,u.out];exact g.out⟩
 |false=>
  have n0:(a.stuff != b.stuff)=true:=by simp only[bne,g0,Ha]
  have F:=Ft (show GO a b=false by rw[v.out];simp[g0])
  go_enter func58,He
  go_wp2
  go_ret
  exact⟨AB (by rw[E.out,F.out,Gv]),by rw[k.out,l.out,u.out];exact g.out⟩
def HT (l:List (Int×Int)):List A0:=l.flatMap fun q=>[Value.int .i64 q.1,Value.int .i64 q.2]
theorem Vp (l:List (Int×Int))(q:Int×Int):HT (l++[q])=HT l++[.int .i64 q.1,.int .i64 q.2]:=by simp[HT]
theorem XS (l:List (Int×Int))(j:Nat)(h:j<l.length):(HT l)[j*2]? =some (.int .i64 l[j].1)/\(HT l)[j*2+1]? =some (.int .i64 l[j].2):=by
 induction l generalizing j with
 |nil=>exact absurd h (G0 j)
 |cons q l a=>
  have e:HT (q::l)=.int .i64 q.1 :: .int .i64 q.2::HT l:=by simp[HT]
  rw[e];cases j with
  |zero=>exact⟨rfl,rfl⟩
  |succ j=>
   rw[show (j+1)*2=j*2+1+1 by omega,show j*2+1+1+1=(j*2+1)+1+1 by omega,H9,H9,H9,H9];exact a j (by simpa using h)
theorem UM {w:A5}{base e:Nat}{v:A0}{l:List (Int×Int)}{n:Nat}(hl:l.length=n)(h:w.ownsRow base e 2 v n (HT l)):
  ∃(q:Option Aa) (cap:Nat),v=.slice q n cap/\MQ w q n (fun i=>l.getD i (0,0)):=by
 subst hl;have a:=h;rcases h.2 with ⟨rfl,h1⟩|⟨g,cap,d,rfl,_,f,_⟩
 ·exact⟨none,0,by rw[h1],.inl h1⟩
 ·refine⟨_,cap,rfl,.inr ⟨g,0,rfl,(An.1 f).1,fun i hi=>?_⟩⟩;have e:l.getD i (0,0)=l[i]:=by simp[List.getD,hi]
  have b:=Ge (g:=g) a rfl (i*2) _ (XS l i hi).1;have c:=Ge (g:=g) a rfl (i*2+1) _ (XS l i hi).2;rw[Gd] at b c;show w.cell? ⟨g,0+i*2,none⟩=some (.int .i64 (l.getD i (0,0)).1)/\w.cell? ⟨g,0+i*2+1,none⟩=some (.int .i64 (l.getD i (0,0)).2);rw[e];exact⟨b,c⟩
theorem Wt:∃i,prog.info? 73=some i/\i.zero=some (.agg #[.int .i64 0,.int .i64 0])/\i.size=2/\i.bytes=16:=by
 have h:(prog.info? 73).map (fun i=>(i.zero,i.size,i.bytes))=some (some (.agg #[.int .i64 0,.int .i64 0]),2,16):=by kernel_rfl
 cases hq:prog.info? 73 with
 |none=>simp[hq] at h
 |some i=>
  simp[hq] at h;exact⟨i,rfl,h.1,h.2.1,h.2.2⟩
end
end Go.Proofs.YtjjmalchelniiaaGreatDoor
