/- No condition. -/
import Derived.Test.YtjjmalchelniiaaGreatDoorZpa
import Derived.Test.YtjjmalchelniiaaGreatDoorZpf
import Derived.Test.YtjjmalchelniiaaGreatDoorZph
import Derived.Deep.WholeRow
open Go.Proofs.Tryz
open Go renaming Value->A0,World->A5
set_option maxHeartbeats 2000000
namespace Go.Proofs.YtjjmalchelniiaaGreatDoor
section
open Go.RowKit Go.Lib Go.ChangeShapes Go.WideShapes Go.ChangeAt
theorem Wb2{p:Prop}(h:p:=by
 have F:=Fx (show IR a b=false by rw[v.out];simp[g0,g1,g2,g3])
 exact Wb1):p:=h
theorem Wb1{p:Prop}(h:p:=by
 go_enter func58,H7
 go_wp2
 go_ret
 exact⟨AJ uV,uR⟩):p:=h
theorem uR{p:Prop}(h:p:=by rw[k.out,l.out,u.out];exact g.out):p:=h
theorem uS{p:Prop}(h:p:=by rw[<-s.out];rfl):p:=h
theorem uT{p:Prop}(h:p:=by rw[<-r.out];rfl):p:=h
theorem uU{p:Prop}(h:p:=by go_simp;rw[Bb (by omega)]):p:=h
theorem uV{p:Prop}(h:p:=by rw[E.out,F.out,Gv]):p:=h
abbrev Gl:=@decide_eq_false
abbrev Gm:=@decide_eq_true
abbrev Gn:=@List.take_succ_cons
abbrev Gp:=@List.drop_succ_cons
abbrev Gq:=@List.drop_zero
abbrev Gr:=@underlying73
abbrev Gs:=@Bool.true_and
abbrev Gt:=@List.all_cons
abbrev Gu:=@run_part_plain
abbrev Gv:=@Bool.and_false
abbrev Gw:=@List.getElem?_cons_succ
abbrev Gx:=@Bool.not_true
abbrev Gy:=@Bool.not_false
abbrev Gz:=@run_equalIn_int
abbrev H5:=@Nat.mul_one
abbrev H7:=@ntmps58
def arn (n:Nat)(f:Nat->Int):Array A0:=((List.range n).map fun i=>.int .i64 (f i)).toArray
theorem Yj {n:Nat}(f:Nat->Int){i:Nat}(h:i<n):(arn n f)[i]? =some (.int .i64 (f i)):=by simp[arn,h]
section
variable {P:Program}{T E:TypeId}{n:Nat}
end
theorem BL {P:Program}{ops:Array Oper}{rest:List Oper}{op:Oper}{a:Act}{w:A5}{Q:Exit->Act->A5->Prop}(c:op.guard=none)(ty:TypeId)(x y:Operand)(ho:op.op=.store ty x y)
  (Z b:Array A0)(T:TypeId)(d:a.eval x=.pointer (some ⟨w.heap.size,0,none⟩))(e:a.eval y=.agg Z)(hi:(P.info? ty).map (·.size)=some Z.size)(hs:b.size=Z.size)(h1:Z.all (·.oneCell')=true)
  (h:wpList P ops Q rest (a.put op.dst undef) (w.alloc (.cells Z T (0,0)))):wpList P ops Q (op::rest) a (w.alloc (.cells b T (0,0))):=by
 refine wpList_store_row c ty x y ho w.heap.size Z d e T b (heap_alloc_last w _) hi hs h1 ?_;rw[World.setRow_alloc_new];exact h
theorem JT (w:A5)(b c:Obj):∃(B:Nat) (d a:A5),w.heap.size=B/\w.alloc b=d/\d.alloc c=a/\d.heap.size=B+1/\a.heap.size=B+2/\a.heap[B]? =some b/\a.heap[B+1]? =some c/\Below B w a:=
 ⟨_,_,_,rfl,rfl,rfl,sV,sV,BM (heap_alloc_new w _),by simpa using heap_alloc_new (w.alloc b) c,((Ea _ w).alloc (B9 _) _).alloc sV _⟩
theorem eE (w:A5)(b c d:Obj):∃(B:Nat) (e f a:A5),w.heap.size=B/\w.alloc b=e/\e.alloc c=f/\f.alloc d=a/\e.heap.size=B+1/\f.heap.size=B+2/\a.heap.size=B+3/\a.heap[B]? =some b/\a.heap[B+1]? =some c/\a.heap[B+2]? =some d/\Below B w a:=
 ⟨_,_,_,_,rfl,rfl,rfl,rfl,sV,sV,sV,BM (BM (heap_alloc_new w _)),BM (by simpa using heap_alloc_new (w.alloc b) c),by simpa using heap_alloc_new ((w.alloc b).alloc c) d,(((Ea _ w).alloc (B9 _) _).alloc sV _).alloc sU _⟩
end
section
open Go.RowKit Go.Lib
def BK (a b:Int):Array A0:=#[.int .i64 a,.int .i64 b]
theorem HV {w:A5}{B:Nat}{a b:Int}(h:w.heap[B]? =some (.cells (BK a b) 73 (0,0))):w.cell? ⟨B,0,none⟩=some (.int .i64 a)/\w.cell? ⟨B,1,none⟩=some (.int .i64 b):=
 ⟨AA (cs:=[.int .i64 a,.int .i64 b]) h rfl,AA (cs:=[.int .i64 a,.int .i64 b]) h rfl⟩
theorem PG:(prog.info? 73).map (·.size)=some 2:=uN
theorem P6 (a b:Int):(BK a b).all (·.oneCell')=true:=by simp[BK,Value.oneCell']
theorem V1 (a b c d:Int)(w:A5):(Op.equalIn 10000 73 (.agg #[.int .i64 a,.int .i64 b]) (.agg #[.int .i64 c,.int .i64 d])).run prog w=.ok (a==c&&b==d) w:=by
 obtain⟨j,hj⟩:=VE;have h:=run_equalIn_array (P:=prog) w 9999 #[.int .i64 a,.int .i64 b] #[.int .i64 c,.int .i64 d] Gr hj;refine h.trans ?_;have e:=Gu (P:=prog) w NB (show (#[.int .i64 a,.int .i64 b]:Array A0)[0]? =some (.int .i64 a) from rfl);have f:=Gu (P:=prog) w NB (show (#[.int .i64 a,.int .i64 b]:Array A0)[1]? =some (.int .i64 b) from rfl);have g:=Gu (P:=prog) w NB (show (#[.int .i64 c,.int .i64 d]:Array A0)[0]? =some (.int .i64 c) from rfl);have i:=Gu (P:=prog) w NB (show (#[.int .i64 c,.int .i64 d]:Array A0)[1]? =some (.int .i64 d) from rfl);have k:=Gz (P:=prog) w 9998 3 .i64 .i64 a c underlying3;have l:=Gz (P:=prog) w 9998 3 .i64 .i64 b d underlying3;show (Op.eqItems 9999 3 (prog.cellsOf 3) _ _ [0,1]).run prog w=_;rw[RA];simp only[Op.eqItems,As,H5,e,g,k,Ap];cases hq:(a==c) with
 |false=>simp
 |true=>
  simp only[Gx,Ay,if_false,As,f,i,l,Ap,Gs];cases hq2:(b==d) <;> simp
def JF (w:A5)(p:Option Addr)(n:Nat)(f:Nat->Int×Int):Prop:=
 n=0\/∃b o,p=some ⟨b,o,none⟩/\b<w.heap.size/\∀i,i<n->w.cell? ⟨b,o+i*2,none⟩=some (.int .i64 (f i).1)/\w.cell? ⟨b,o+i*2+1,none⟩=some (.int .i64 (f i).2)
theorem JF.mono {w e:A5}{p:Option Addr}{n:Nat}{f:Nat->Int×Int}(h:JF w p n f)(d:Below w.heap.size w e):JF e p n f:=by
 rcases h with h|⟨b,o,rfl,c,hc⟩
 ·exact .inl h
 ·refine .inr ⟨b,o,rfl,by have:=d.size;omega,fun i hi=>?_⟩;obtain⟨g,h1⟩:=hc i hi;exact⟨(G4 (a:=⟨b,o+i*2,none⟩) (d.block b c)).trans g,(G4 (a:=⟨b,o+i*2+1,none⟩) (d.block b c)).trans h1⟩
theorem Zg {w:A5}{p:Option Addr}{n:Nat}{f:Nat->Int×Int}(h:JF w p n f)(hn:0<n):∃b o,p=some ⟨b,o,none⟩/\∀x,Below w.heap.size w x->∀i,i<n->x.cell? ⟨b,o+i*2,none⟩=some (.int .i64 (f i).1)/\x.cell? ⟨b,o+i*2+1,none⟩=some (.int .i64 (f i).2):=by
 rcases h with h|⟨b,o,rfl,c,hc⟩
 ·omega
 ·refine⟨b,o,rfl,fun x d i hi=>?_⟩;obtain⟨e,h1⟩:=hc i hi;exact⟨(G4 (a:=⟨b,o+i*2,none⟩) (d.block b c)).trans e,(G4 (a:=⟨b,o+i*2+1,none⟩) (d.block b c)).trans h1⟩
theorem cV (n d:Nat)(f g:Nat->Int)(w:A5):∀is:List Nat,(∀i∈is,i<n)->(Op.eqItems (d+1) 3 (prog.cellsOf 3) (arn n f) (arn n g) is).run prog w=.ok (is.all fun i=>f i==g i) w
 |[],_=>by simp[Op.eqItems]
 |i::is,h=>by
  have hi:=h i Ez;have b:=Gu (P:=prog) w NB (Yj f hi);have c:=Gu (P:=prog) w NB (Yj g hi);have e:=Gz (P:=prog) w d 3 .i64 .i64 (f i) (g i) underlying3;have a:=cV n d f g w is fun k hk=>h k (Ey _ hk);rw[RA] at a ⊢;simp only[Op.eqItems,As,H5,b,c,e,Ap,Gt];cases hq:(f i==g i) with
  |false=>simp
  |true=>simpa using a
theorem YD (f g:Nat->Int)(w:A5):(Op.equalIn 10000 74 (.agg #[.int .i64 (f 0),.int .i64 (f 1),.int .i64 (f 2),.int .i64 (f 3),.int .i64 (f 4),.int .i64 (f 5)]) (.agg #[.int .i64 (g 0),.int .i64 (g 1),.int .i64 (g 2),.int .i64 (g 3),.int .i64 (g 4),.int .i64 (g 5)])).run prog w=.ok ((List.range 6).all fun i=>f i==g i) w:=by
 obtain⟨j,hj⟩:=VE;have h:=run_equalIn_array (P:=prog) w 9999 (arn 6 f) (arn 6 g) underlying74 hj;exact h.trans (cV 6 9998 f g w (List.range 6) fun i hi=>Bs.1 hi)
set_option maxRecDepth 100000 in
theorem mI (a b:Cel)(p q:Nat->Option Addr)(n m c c':Nat->Nat)(w:A5)(ha:IF w a p n)(K:IF w b q m):
  Calls prog 58 #[.agg (AD a fun i=>.slice (p i) (n i) (c i)).toArray,.agg (AD b fun i=>.slice (q i) (m i) (c' i)).toArray] w fun e w'=>e=.returned (.bool (FH a b))/\Below w.heap.size w w':=by
 obtain⟨A,Q⟩:∃A,(AD a fun i=>.slice (p i) (n i) (c i)).toArray=A:=⟨_,rfl⟩;obtain⟨B,T⟩:∃A,(AD b fun i=>.slice (q i) (m i) (c' i)).toArray=A:=⟨_,rfl⟩;rw[Q,T];obtain⟨R,wA,t,U,L,M,V,W,G,H,I⟩:=JT w (.cells A 77 (0,0)) (.cells B 77 (0,0));rw[<-Q] at G;rw[<-T] at H;have ac:=Fx (fun x (f:Below (R+2) t x)=>(f.block R sX).trans G);have ad:=Fx (fun x (f:Below (R+2) t x)=>(f.block (R+1) sX).trans H);have N:∀i,i<6->∀x,Below (R+2) t x->Calls prog 90 #[.slice (p i) (n i) (c i),.slice (q i) (m i) (c' i)] x fun e y=>e=.returned (.bool (decide (a.ev i=b.ev i)))/\Below (R+2) t y:=by
  intro i hi x f;have O:Below w.heap.size w x:=U▸(I.trans (f.mono sX));obtain⟨e1,e2,e3⟩:=ha.below O i hi;obtain⟨f1,f2,f3⟩:=K.below O i hi;rw[e1,f1];exact(iC (p i) (q i) (a.ev i) (b.ev i) (c i) (c' i) x e3 f3 sX).mono fun e y h=>⟨h.1,f.trans (h.2.mono (by have:=f.size;omega))⟩
 have ae:=Fx N;have k:=Fx L;have l:=Fx M;have u:=Fx U;have g:=Fx I;have af:=V1 a.mx a.my b.mx b.my;have ag:=YD a.dc b.dc;have v:Hid (IR a b=(a.stuff==b.stuff&&a.skip==b.skip&&a.kind==b.kind&&a.step==b.step&&(a.mx==b.mx&&a.my==b.my)&&(List.range 6).all fun i=>a.dc i==b.dc i)):=Fx rfl;have ah:=Fx (fun h=>WH (c:=a) (d:=b) h);have ai:=Fx (fun i hi h=>Qos (c:=a) (d:=b) (i:=i) hi h);have E:Hid (FH a b=(evB a b&&IR a b)):=Fx rfl;have r:=Fx Q;have s:=Fx T;clear Q T L M U G H I N ha K V;have a0:A[0]? =some (.int .i64 a.stuff):=uT;have a1:A[1]? =some (.bool a.skip):=uT;have a2:A[2]? =some (.int .i64 a.kind):=uT;have a3:A[3]? =some (.int .i64 a.step):=uT;have a4:A[4]? =some (.int .i64 a.mx):=uT;have a5:A[5]? =some (.int .i64 a.my):=uT;have a6:A[6]? =some (.int .i64 (a.dc 0)):=uT;have a7:A[7]? =some (.int .i64 (a.dc 1)):=uT;have a8:A[8]? =some (.int .i64 (a.dc 2)):=uT;have a9:A[9]? =some (.int .i64 (a.dc 3)):=uT;have aj:A[10]? =some (.int .i64 (a.dc 4)):=uT;have ak:A[11]? =some (.int .i64 (a.dc 5)):=uT;have b0:B[0]? =some (.int .i64 b.stuff):=uS;have b1:B[1]? =some (.bool b.skip):=uS;have b2:B[2]? =some (.int .i64 b.kind):=uS;have b3:B[3]? =some (.int .i64 b.step):=uS;have b4:B[4]? =some (.int .i64 b.mx):=uS;have b5:B[5]? =some (.int .i64 b.my):=uS;have b6:B[6]? =some (.int .i64 (b.dc 0)):=uS;have b7:B[7]? =some (.int .i64 (b.dc 1)):=uS;have b8:B[8]? =some (.int .i64 (b.dc 2)):=uS;have b9:B[9]? =some (.int .i64 (b.dc 3)):=uS;have al:B[10]? =some (.int .i64 (b.dc 4)):=uS;have am:B[11]? =some (.int .i64 (b.dc 5)):=uS;generalize X:(List.range 6).all (fun i=>a.dc i==b.dc i)=q5 at ag v;generalize Y:(a.mx==b.mx&&a.my==b.my)=q4 at af v;clear X Y;cases g0:(a.stuff==b.stuff) with
 |true=>
  have n0:(a.stuff != b.stuff)=false:=by simp only[bne,g0,Gx]
  cases g1:(a.skip==b.skip) with
  |true=>
   have n1:(a.skip != b.skip)=false:=by simp only[bne,g1,Gx]
   cases g2:(a.kind==b.kind) with
   |true=>
    have n2:(a.kind != b.kind)=false:=by simp only[bne,g2,Gx]
    cases g3:(a.step==b.step) with
    |true=>
     have n3:(a.step != b.step)=false:=by simp only[bne,g3,Gx]
     cases q4 with
     |true=>
      cases q5 with
      |true=>
       have F:=Fx (show IR a b=true by rw[v.out];simp[g0,g1,g2,g3])
       go_enter func58,H7
       go_wp2
       rw[k.out,u.out,l.out]
       go_loopw [5] (fun z wr=>∃i:Nat,i<=6/\z=.int .i64 i/\Hid (∀j,j<i->a.ev j=b.ev j)/\Below (R+2) t wr) (fun z _=>6-(intOf z).toNat)
       case atStart=>exact⟨0,sX,rfl,Fx fun j h=>absurd h (G8 j),W▸Ea _ _⟩
       case round=>
        obtain⟨i,an,rfl,hs,K⟩:=hrel;by_cases D:i<6
        ·have t0:decide ((i:Int)<6)=true:=sU;have aa:=Fx (fun x (f:Below (R+2) t x)=>AA (o:=12+i) (ac.out x f) (OF a _ i D));have ab:=Fx (fun x (f:Below (R+2) t x)=>AA (o:=12+i) (ad.out x f) (OF b _ i D));have C:=Fx (fun x f=>ae.out i D x f);have P:=K.drew;by_cases J:a.ev i=b.ev i
         ·have Z:=Fx J;rw[Gm J] at C;clear J
          go_wp2
          refine E1 (S:=fun x=>Below (R+2) t x) 10 uN uN P ?_;simp only[Gn,Bk,Gp,Gq]
          iterate 2 (refine AQ ?_;simp only[A1])
          refine B1 uN (fun x _=>uU) ?_;simp only[A1];refine B4 72 _ ⟨R,12+i,none⟩ (.slice (p i) (n i) (c i)) uN rfl rfl (fun x f=>by have c0:=(aa.out x f);go_simp) ?_;simp only[A1]
          iterate 2 (refine AQ ?_;simp only[A1])
          refine B1 uN (fun x _=>uU) ?_;simp only[A1];refine B4 72 _ ⟨R+1,12+i,none⟩ (.slice (q i) (m i) (c' i)) uN rfl rfl (fun x f=>by have c0:=(ab.out x f);go_simp) ?_;simp only[A1];refine C2 uN C.out (fun _=>uN) ?_;simp only[A1];refine AQ ?_;simp only[A1];refine DX fun x f=>?_
          go_wp2
          go_roundw
          case rel=>exact⟨i+1,sX,uO,Fx (fun j hj=>(Nat.lt_succ_iff_lt_or_eq.1 hj).elim (hs.out j) fun h=>h▸Z.out),f⟩
          case measure=>simp[intOf];omega
         ·have Z:=Fx (ai.out i D J);rw[Gl J] at C;clear J
          go_wp2
          refine E1 (S:=fun x=>Below (R+2) t x) 10 uN uN P ?_;simp only[Gn,Bk,Gp,Gq]
          iterate 2 (refine AQ ?_;simp only[A1])
          refine B1 uN (fun x _=>uU) ?_;simp only[A1];refine B4 72 _ ⟨R,12+i,none⟩ (.slice (p i) (n i) (c i)) uN rfl rfl (fun x f=>by have c0:=(aa.out x f);go_simp) ?_;simp only[A1]
          iterate 2 (refine AQ ?_;simp only[A1])
          refine B1 uN (fun x _=>uU) ?_;simp only[A1];refine B4 72 _ ⟨R+1,12+i,none⟩ (.slice (q i) (m i) (c' i)) uN rfl rfl (fun x f=>by have c0:=(ab.out x f);go_simp) ?_;simp only[A1];refine C2 uN C.out (fun _=>uN) ?_;simp only[A1];refine AQ ?_;simp only[A1];refine DX fun x f=>?_
          go_wp2
          go_ret
          exact⟨AJ (by rw[E.out,Z.out,Bool.false_and]),u.out▸g.out.trans (f.mono sX)⟩
        ·obtain rfl:i=6:=sX;have t0:decide ((6:Int)<6)=false:=sV;have ao:=Fx (show FH a b=true by rw[E.out,F.out,ah.out fun j hj=>hs.out j hj,Gs])
         go_wp2
         go_ret
         exact⟨AJ ao.out.symm,u.out▸g.out.trans (K.mono sX)⟩
      |false=>
       exact Wb2
     |false=>
      exact Wb2
    |false=>
     have n3:(a.step != b.step)=true:=by simp only[bne,g3,Gy]
     exact Wb2
   |false=>
    have n2:(a.kind != b.kind)=true:=by simp only[bne,g2,Gy]
    have F:=Fx (show IR a b=false by rw[v.out];simp[g0,g1,g2])
    exact Wb1
  |false=>
   have n1:(a.skip != b.skip)=true:=by simp only[bne,g1,Gy]
   have F:=Fx (show IR a b=false by rw[v.out];simp[g0,g1])
   exact Wb1
 |false=>
  have n0:(a.stuff != b.stuff)=true:=by simp only[bne,g0,Gy]
  have F:=Fx (show IR a b=false by rw[v.out];simp[g0])
  exact Wb1
def GY (l:List (Int×Int)):List A0:=l.flatMap fun q=>[Value.int .i64 q.1,Value.int .i64 q.2]
theorem Wz (l:List (Int×Int))(q:Int×Int):GY (l++[q])=GY l++[.int .i64 q.1,.int .i64 q.2]:=by simp[GY]
theorem ZX (l:List (Int×Int))(j:Nat)(h:j<l.length):(GY l)[j*2]? =some (.int .i64 l[j].1)/\(GY l)[j*2+1]? =some (.int .i64 l[j].2):=by
 induction l generalizing j with
 |nil=>exact absurd h (G8 j)
 |cons q l a=>
  have e:GY (q::l)=.int .i64 q.1 :: .int .i64 q.2::GY l:=by simp[GY]
  rw[e];cases j with
  |zero=>exact⟨rfl,rfl⟩
  |succ j=>
   rw[show (j+1)*2=j*2+1+1 by omega,show j*2+1+1+1=(j*2+1)+1+1 by omega,Gw,Gw,Gw,Gw];exact a j uQ
theorem Uy {w:A5}{base e:Nat}{v:A0}{l:List (Int×Int)}{n:Nat}(hl:l.length=n)(h:w.ownsRow base e 2 v n (GY l)):
  ∃(q:Option Addr) (cap:Nat),v=.slice q n cap/\JF w q n (fun i=>l.getD i (0,0)):=by
 subst hl;have a:=h;rcases h.2 with ⟨rfl,h1⟩|⟨g,cap,d,rfl,_,hg,_⟩
 ·exact⟨none,0,by rw[h1],.inl h1⟩
 ·refine⟨_,cap,rfl,.inr ⟨g,0,rfl,(Am.1 hg).1,fun i hi=>?_⟩⟩;have e:l.getD i (0,0)=l[i]:=by simp[List.getD,hi]
  have b:=Gg (g:=g) a rfl (i*2) _ (ZX l i hi).1;have c:=Gg (g:=g) a rfl (i*2+1) _ (ZX l i hi).2;rw[Gh] at b c;show w.cell? ⟨g,0+i*2,none⟩=some (.int .i64 (l.getD i (0,0)).1)/\w.cell? ⟨g,0+i*2+1,none⟩=some (.int .i64 (l.getD i (0,0)).2);rw[e];exact⟨b,c⟩
theorem VP:∃i,prog.info? 73=some i/\i.zero=some (.agg #[.int .i64 0,.int .i64 0])/\i.size=2/\i.bytes=16:=by
 have h:(prog.info? 73).map (fun i=>(i.zero,i.size,i.bytes))=some (some (.agg #[.int .i64 0,.int .i64 0]),2,16):=uN;cases hq:prog.info? 73 with
 |none=>simp[hq] at h
 |some i=>
  simp[hq] at h;exact⟨i,rfl,h.1,h.2.1,h.2.2⟩
end
end Go.Proofs.YtjjmalchelniiaaGreatDoor
