/- Part 10 of StripsBack. No condition. -/
import Derived.Test.YtjjmalchelniiaaGreatDoorStripsBackMa
import Derived.Test.YtjjmalchelniiaaGreatDoorStripsBackMh
import Derived.Test.YtjjmalchelniiaaGreatDoorStripsBackMi
import Derived.Deep.WholeRow
import Derived.RegionTactic
import Derived.OwnWalk
import Derived.Laws.AppendOwn
import Derived.ChangeMaps5
namespace Go.Proofs.YtjjmalchelniiaaGreatDoor
open Go.RowKit Go.Lib Go.ChangeShapes Go.WideShapes Go.ChangeAt
def arn (n:Nat)(f:Nat→Int):Array Value:=((List.range n).map fun i=>.int .i64 (f i)).toArray
theorem Qho {n:Nat}(f:Nat→Int){i:Nat}(h:i<n):(arn n f)[i]? =some (.int .i64 (f i)):=by simp[arn,h]
section
variable {P:Program}{T E:TypeId}{n:Nat}
end
theorem Yam {P:Program}{ops:Array Oper}{rest:List Oper}{op:Oper}{a:Act}{w:World}{Q:Exit→Act→World→Prop}(hgd:op.guard=none)(ty:TypeId)(x y:Operand)(ho:op.op=.store ty x y)
  (Z old:Array Value)(T:TypeId)(hx:a.eval x=.pointer (some ⟨w.heap.size,0,none⟩))(hy:a.eval y=.agg Z)(hi:(P.info? ty).map (·.size)=some Z.size)(hs:old.size=Z.size)(h1:Z.all (·.oneCell')=true)
  (h:wpList P ops Q rest (a.put op.dst undef) (w.alloc (.cells Z T (0,0)))):wpList P ops Q (op::rest) a (w.alloc (.cells old T (0,0))):=by
 refine wpList_store_row hgd ty x y ho w.heap.size Z hx hy T old (heap_alloc_last w _) hi hs h1 ?_;rw[World.setRow_alloc_new];exact h
theorem Y0j (w:World)(o1 o2:Obj):∃(B:Nat) (wA wB:World),w.heap.size=B∧w.alloc o1=wA∧wA.alloc o2=wB∧wA.heap.size=B+1∧wB.heap.size=B+2∧wB.heap[B]? =some o1∧wB.heap[B+1]? =some o2∧Below B w wB:=
 ⟨_,_,_,rfl,rfl,rfl,by simp,by simp,Ya8 (heap_alloc_new w _),by simpa using heap_alloc_new (w.alloc o1) o2,((Below.refl _ w).alloc (Nat.le_refl _) _).alloc (by simp) _⟩
theorem Qkq (w:World)(o1 o2 o3:Obj):∃(B:Nat) (wA wB wC:World),w.heap.size=B∧w.alloc o1=wA∧wA.alloc o2=wB∧wB.alloc o3=wC∧wA.heap.size=B+1∧wB.heap.size=B+2∧wC.heap.size=B+3∧wC.heap[B]? =some o1∧wC.heap[B+1]? =some o2∧wC.heap[B+2]? =some o3∧Below B w wC:=
 ⟨_,_,_,_,rfl,rfl,rfl,rfl,by simp,by simp,by simp,Ya8 (Ya8 (heap_alloc_new w _)),Ya8 (by simpa using heap_alloc_new (w.alloc o1) o2),by simpa using heap_alloc_new ((w.alloc o1).alloc o2) o3,(((Below.refl _ w).alloc (Nat.le_refl _) _).alloc (by simp) _).alloc (by simp;omega) _⟩
end Go.Proofs.YtjjmalchelniiaaGreatDoor
namespace Go.Proofs.YtjjmalchelniiaaGreatDoor
open Go.RowKit Go.Lib
def Y3p (a b:Int):Array Value:=#[.int .i64 a,.int .i64 b]
theorem Y3q {w:World}{B:Nat}{a b:Int}(h:w.heap[B]? =some (.cells (Y3p a b) 73 (0,0))):w.cell? ⟨B,0,none⟩=some (.int .i64 a)∧w.cell? ⟨B,1,none⟩=some (.int .i64 b):=
 ⟨Yab (cs:=[.int .i64 a,.int .i64 b]) h rfl,Yab (cs:=[.int .i64 a,.int .i64 b]) h rfl⟩
theorem Qg7:(Tryz.prog.info? 73).map (·.size)=some 2:=by kernel_rfl
theorem Qj3 (a b:Int):(Y3p a b).all (·.oneCell')=true:=by simp[Y3p,Value.oneCell']
theorem Yp9 (a b c d:Int)(w:World):(Op.equalIn 10000 73 (.agg #[.int .i64 a,.int .i64 b]) (.agg #[.int .i64 c,.int .i64 d])).run Tryz.prog w=.ok (a==c&&b==d) w:=by
 obtain⟨j,hj⟩:=Y2l;have h:=run_equalIn_array (P:=Tryz.prog) w 9999 #[.int .i64 a,.int .i64 b] #[.int .i64 c,.int .i64 d] Tryz.underlying73 hj;refine h.trans ?_;have p1:=run_part_plain (P:=Tryz.prog) w Ygm (show (#[.int .i64 a,.int .i64 b]:Array Value)[0]? =some (.int .i64 a) from rfl)
 have p2:=run_part_plain (P:=Tryz.prog) w Ygm (show (#[.int .i64 a,.int .i64 b]:Array Value)[1]? =some (.int .i64 b) from rfl);have p3:=run_part_plain (P:=Tryz.prog) w Ygm (show (#[.int .i64 c,.int .i64 d]:Array Value)[0]? =some (.int .i64 c) from rfl);have p4:=run_part_plain (P:=Tryz.prog) w Ygm (show (#[.int .i64 c,.int .i64 d]:Array Value)[1]? =some (.int .i64 d) from rfl)
 have q1:=run_equalIn_int (P:=Tryz.prog) w 9998 3 .i64 .i64 a c Tryz.underlying3;have q2:=run_equalIn_int (P:=Tryz.prog) w 9998 3 .i64 .i64 b d Tryz.underlying3;show (Op.eqItems 9999 3 (Tryz.prog.cellsOf 3) _ _ [0,1]).run Tryz.prog w=_;rw[Ywz];simp only[Op.eqItems,Sem.run_bind,Nat.mul_one,p1,p3,q1,Result.andThen_ok];cases hq:(a==c) with
 |false=>simp
 |true=>
  simp only[Bool.not_true,Bool.false_eq_true,if_false,Sem.run_bind,p2,p4,q2,Result.andThen_ok,Bool.true_and];cases hq2:(b==d) <;> simp
def Ynx (w:World)(p:Option Addr)(n:Nat)(f:Nat→Int×Int):Prop:=
 n=0∨∃b o,p=some ⟨b,o,none⟩∧b<w.heap.size∧∀i,i<n→w.cell? ⟨b,o+i*2,none⟩=some (.int .i64 (f i).1)∧w.cell? ⟨b,o+i*2+1,none⟩=some (.int .i64 (f i).2)
theorem Ynx.mono {w w':World}{p:Option Addr}{n:Nat}{f:Nat→Int×Int}(h:Ynx w p n f)(hb:Below w.heap.size w w'):Ynx w' p n f:=by
 rcases h with h|⟨b,o,rfl,hlt,hc⟩
 ·exact .inl h
 ·refine .inr ⟨b,o,rfl,by have:=hb.size;omega,fun i hi=>?_⟩;obtain⟨h0,h1⟩:=hc i hi;exact⟨(World.cell?_of_block (a:=⟨b,o+i*2,none⟩) (hb.block b hlt)).trans h0,(World.cell?_of_block (a:=⟨b,o+i*2+1,none⟩) (hb.block b hlt)).trans h1⟩
theorem Qc6 {w:World}{p:Option Addr}{n:Nat}{f:Nat→Int×Int}(h:Ynx w p n f)(hn:0<n):∃b o,p=some ⟨b,o,none⟩∧∀x,Below w.heap.size w x→∀i,i<n→x.cell? ⟨b,o+i*2,none⟩=some (.int .i64 (f i).1)∧x.cell? ⟨b,o+i*2+1,none⟩=some (.int .i64 (f i).2):=by
 rcases h with h|⟨b,o,rfl,hlt,hc⟩
 ·omega
 ·refine⟨b,o,rfl,fun x hx i hi=>?_⟩;obtain⟨h0,h1⟩:=hc i hi;exact⟨(World.cell?_of_block (a:=⟨b,o+i*2,none⟩) (hx.block b hlt)).trans h0,(World.cell?_of_block (a:=⟨b,o+i*2+1,none⟩) (hx.block b hlt)).trans h1⟩
set_option maxRecDepth 100000 in
set_option maxHeartbeats 2000000 in
theorem Y9p (p q:Option Addr)(l m:List Ev)(c c':Nat)(w:World)(hp:Yel w p l)(hq:Yel w q m)(hm:l.length≤1048576):Calls Tryz.prog 124 #[.slice p l.length c,.slice q m.length c'] w fun e w'=>e=.returned (.bool (decide (l=m)))∧Below w.heap.size w w':=by
 by_cases hl:l.length=m.length
 ·have HL:=Lib.hid hl;obtain⟨n,hn⟩:∃n,l.length=n:=⟨_,rfl⟩;have HN:=Lib.hid hn;rw[←hl,hn];rw[hn] at hm;clear hl hn
  go_enter Tryz.func124,Tryz.ntmps124
  go_wp2
  go_loopw [13] (fun z wr=>∃i:Nat,i≤n∧z=.int .i64 i∧Hid (∀j,(h1:j<l.length)→(h2:j<m.length)→j<i→l[j]=m[j])∧Below w.heap.size w wr) (fun z _=>n-(intOf z).toNat)
  case atStart=>exact⟨0,Nat.zero_le _,rfl,Lib.hid fun j _ _ h=>absurd h (Nat.not_lt_zero j),Below.refl _ _⟩
  case round=>
   obtain⟨i,hi,rfl,hs,hb⟩:=hrel;by_cases hlt:i<n
   ·have t0:decide ((i:Int)<(n:Int))=true:=by simp;omega
    have t1:decide (i<n)=true:=by simpa using hlt
    have hil:i<l.length:=by rw[HN.out];exact hlt
    have him:i<m.length:=by rw[←HL.out];exact hil
    obtain⟨b,o,rfl,hbb,hc⟩:=(hp.below hb).at (by omega);obtain⟨b',o',rfl,hbb',hd⟩:=(hq.below hb).at (by omega);obtain⟨c0,c1,c2⟩:=hc i hil;obtain⟨d0,d1,d2⟩:=hd i him;have hx:∀j,j<i+1→j<i∨j=i:=fun j h=>by omega
    obtain⟨⟨x0,x1,x2⟩,hxe⟩:∃x,l[i]=x:=⟨_,rfl⟩;obtain⟨⟨y0,y1,y2⟩,hye⟩:∃x,m[i]=x:=⟨_,rfl⟩;rw[hxe] at c0 c1 c2;rw[hye] at d0 d1 d2;simp only at c0 c1 c2 d0 d1 d2;have HXE:=Lib.hid hxe;have HYE:=Lib.hid hye;clear hc hd hbb hbb' hxe hye;by_cases e:x0=y0∧x1=y1∧x2=y2
    ·obtain⟨rfl,rfl,rfl⟩:=e;have NX:=Lib.hid (show∀j,(h1:j<l.length)→(h2:j<m.length)→j<i+1→l[j]=m[j] from fun j h1 h2 h3=>by
      rcases hx j h3 with h|h
      ·exact hs.out j h1 h2 h
      ·subst h;rw[HXE.out,HYE.out])
     clear hs;have hbd:=hb.drew
     go_wp2
     go_region
     go_wp2
     go_roundw
     case rel=>exact⟨i+1,by omega,by go_num,NX.out,hbd⟩
     case measure=>simp[intOf];omega
    ·have F:=Lib.hid (show decide (l=m)=false by
      rw[decide_eq_false_iff_not];intro h;subst h;have h2:=HXE.out.symm.trans HYE.out;injection h2 with h2 h3;injection h3 with h3 h4;exact e ⟨h2,h3,h4⟩)
     have hbd:=hb.drew;clear hs;by_cases e0:x0=y0
     ·subst e0;by_cases e1:x1=y1
      ·subst e1;have g2:(x2==y2)=false:=by rw[beq_eq_false_iff_ne];intro h;exact e ⟨rfl,rfl,h⟩
       go_wp2
       go_region
       go_wp2
       go_ret
       exact⟨Yag F.out.symm,hbd⟩
      ·have g1:(x1==y1)=false:=by rw[beq_eq_false_iff_ne];exact e1
       go_wp2
       go_region
       go_wp2
       go_ret
       exact⟨Yag F.out.symm,hbd⟩
     ·have g0:(x0==y0)=false:=by rw[beq_eq_false_iff_ne];exact e0
      go_wp2
      go_region
      go_wp2
      go_ret
      exact⟨Yag F.out.symm,hbd⟩
   ·obtain rfl:i=n:=by omega
    have t0:decide ((i:Int)<(i:Int))=false:=by simp
    have t1:decide (i<i)=false:=by simp
    have F:=Lib.hid (show decide (l=m)=true by rw[decide_eq_true_iff];exact Qb5 HL.out hs.out (Nat.le_of_eq HN.out))
    go_wp2
    go_ret
    exact⟨Yag F.out.symm,hb⟩
 ·have F:=Lib.hid (show decide (l=m)=false by rw[decide_eq_false_iff_not];intro e;exact hl (by rw[e]));have g0:((l.length:Int)==(m.length:Int))=false:=by rw[beq_eq_false_iff_ne];omega
  clear hp hq;generalize l.length=n1 at hl g0 hm ⊢;generalize m.length=n2 at hl g0 ⊢
  go_enter Tryz.func124,Tryz.ntmps124
  go_wp2
  go_ret
  exact⟨Yag F.out.symm,Below.refl _ _⟩
theorem Ywj (n d:Nat)(f g:Nat→Int)(w:World):∀is:List Nat,(∀i∈is,i<n)→(Op.eqItems (d+1) 3 (Tryz.prog.cellsOf 3) (arn n f) (arn n g) is).run Tryz.prog w=.ok (is.all fun i=>f i==g i) w
 |[],_=>by simp[Op.eqItems]
 |i::is,h=>by
  have hi:=h i List.mem_cons_self;have p1:=run_part_plain (P:=Tryz.prog) w Ygm (Qho f hi);have p2:=run_part_plain (P:=Tryz.prog) w Ygm (Qho g hi);have p3:=run_equalIn_int (P:=Tryz.prog) w d 3 .i64 .i64 (f i) (g i) Tryz.underlying3;have ih:=Ywj n d f g w is fun k hk=>h k (List.mem_cons_of_mem _ hk);rw[Ywz] at ih ⊢
  simp only[Op.eqItems,Sem.run_bind,Nat.mul_one,p1,p2,p3,Result.andThen_ok,List.all_cons];cases hq:(f i==g i) with
  |false=>simp
  |true=>simpa using ih
theorem Yx0 (f g:Nat→Int)(w:World):(Op.equalIn 10000 74 (.agg #[.int .i64 (f 0),.int .i64 (f 1),.int .i64 (f 2),.int .i64 (f 3),.int .i64 (f 4),.int .i64 (f 5)]) (.agg #[.int .i64 (g 0),.int .i64 (g 1),.int .i64 (g 2),.int .i64 (g 3),.int .i64 (g 4),.int .i64 (g 5)])).run Tryz.prog w=.ok ((List.range 6).all fun i=>f i==g i) w:=by
 obtain⟨j,hj⟩:=Y2l;have h:=run_equalIn_array (P:=Tryz.prog) w 9999 (arn 6 f) (arn 6 g) Tryz.underlying74 hj;exact h.trans (Ywj 6 9998 f g w (List.range 6) fun i hi=>List.mem_range.1 hi)
set_option maxRecDepth 100000 in
set_option maxHeartbeats 2000000 in
theorem Yv0 (a b:Cel)(p q:Nat→Option Addr)(n m c c':Nat→Nat)(w:World)(ha:Yj7 w a p n)(hb:Yj7 w b q m):
  Calls Tryz.prog 89 #[.agg (Ybe a fun i=>.slice (p i) (n i) (c i)).toArray,.agg (Ybe b fun i=>.slice (q i) (m i) (c' i)).toArray] w fun e w'=>e=.returned (.bool (Yqo a b))∧Below w.heap.size w w':=by
 obtain⟨A,hA⟩:∃A,(Ybe a fun i=>.slice (p i) (n i) (c i)).toArray=A:=⟨_,rfl⟩;obtain⟨B,hB⟩:∃A,(Ybe b fun i=>.slice (q i) (m i) (c' i)).toArray=A:=⟨_,rfl⟩;rw[hA,hB];obtain⟨R,wA,wB,hR,hwA,hwB,hzA,hzB,hC0,hC1,hbC⟩:=Y0j w (.cells A 77 (0,0)) (.cells B 77 (0,0));rw[←hA] at hC0;rw[←hB] at hC1;have LA:=Lib.hid (fun x (hx:Below (R+2) wB x)=>(hx.block R (by omega)).trans hC0)
 have LB:=Lib.hid (fun x (hx:Below (R+2) wB x)=>(hx.block (R+1) (by omega)).trans hC1);have hEV:∀i,i<6→∀x,Below (R+2) wB x→Calls Tryz.prog 124 #[.slice (p i) (n i) (c i),.slice (q i) (m i) (c' i)] x fun e y=>e=.returned (.bool (decide (a.ev i=b.ev i)))∧Below (R+2) wB y:=by
  intro i hi x hx;have hwx:Below w.heap.size w x:=hR▸(hbC.trans (hx.mono (by omega)));obtain⟨e1,e2,e3⟩:=ha.below hwx i hi;obtain⟨f1,f2,f3⟩:=hb.below hwx i hi;rw[e1,f1];exact(Y9p (p i) (q i) (a.ev i) (b.ev i) (c i) (c' i) x e3 f3 (by omega)).mono fun e y h=>⟨h.1,hx.trans (h.2.mono (by have:=hx.size;omega))⟩
 have EV:=Lib.hid hEV;have HWA:=Lib.hid hwA;have HWB:=Lib.hid hwB;have HR:=Lib.hid hR;have HBC:=Lib.hid hbC;have E2:=Yp9 a.mx a.my b.mx b.my;have E6:=Yx0 a.dc b.dc;have NB:Hid (Qkh a b=(a.stuff==b.stuff&&a.skip==b.skip&&a.kind==b.kind&&a.step==b.step&&(a.mx==b.mx&&a.my==b.my)&&(List.range 6).all fun i=>a.dc i==b.dc i)):=Lib.hid rfl;have EA:=Lib.hid (fun h=>Y9t (c:=a) (d:=b) h)
 have EN:=Lib.hid (fun i hi h=>Qiw (c:=a) (d:=b) (i:=i) hi h);have CB:Hid (Yqo a b=(evB a b&&Qkh a b)):=Lib.hid rfl;have HA:=Lib.hid hA;have HB:=Lib.hid hB;clear hA hB hwA hwB hR hC0 hC1 hbC hEV ha hb hzA
 go_enter Tryz.func89,Tryz.ntmps89
 go_wp2
 rw[HWA.out,HR.out,HWB.out]
 go_loopw [6] (fun z wr=>∃i:Nat,i≤6∧z=.int .i64 i∧Hid (∀j,j<i→a.ev j=b.ev j)∧Below (R+2) wB wr) (fun z _=>6-(intOf z).toNat)
 case atStart=>exact⟨0,by omega,rfl,Lib.hid fun j h=>absurd h (Nat.not_lt_zero j),hzB▸Below.refl _ _⟩
 case round=>
  obtain⟨i,hi6,rfl,hs,hb⟩:=hrel;by_cases hlt:i<6
  ·have t0:decide ((i:Int)<6)=true:=by simp;omega
   have K0:=Lib.hid (fun x (hx:Below (R+2) wB x)=>Yab (o:=12+i) (LA.out x hx) (Yzi a _ i hlt));have K1:=Lib.hid (fun x (hx:Below (R+2) wB x)=>Yab (o:=12+i) (LB.out x hx) (Yzi b _ i hlt));have C:=Lib.hid (fun x hx=>EV.out i hlt x hx);have hbd:=hb.drew;by_cases he:a.ev i=b.ev i
   ·have HE:=Lib.hid he;rw[decide_eq_true he] at C;clear he
    go_wp2
    refine Ya0 (S:=fun x=>Below (R+2) wB x) 10 (by kernel_rfl) (by kernel_rfl) hbd ?_;simp only[List.take_succ_cons,List.take_zero,List.drop_succ_cons,List.drop_zero]
    iterate 2 (refine Yad (by kernel_rfl) (fun x _=>by go_simp;try with_reducible rfl) ?_;simp only[Yaa])
    refine Yad (by kernel_rfl) (fun x _=>by go_simp;rw[if_pos (by omega)]) ?_;simp only[Yaa];refine Ya4 72 _ ⟨R,12+i,none⟩ (.slice (p i) (n i) (c i)) (by kernel_rfl) rfl rfl (fun x hx=>by have c0:=(K0.out x hx);go_simp) ?_;simp only[Yaa]
    iterate 2 (refine Yad (by kernel_rfl) (fun x _=>by go_simp;try with_reducible rfl) ?_;simp only[Yaa])
    refine Yad (by kernel_rfl) (fun x _=>by go_simp;rw[if_pos (by omega)]) ?_;simp only[Yaa];refine Ya4 72 _ ⟨R+1,12+i,none⟩ (.slice (q i) (m i) (c' i)) (by kernel_rfl) rfl rfl (fun x hx=>by have c0:=(K1.out x hx);go_simp) ?_;simp only[Yaa];refine Ya7 (by kernel_rfl) C.out (fun _=>by kernel_rfl) ?_;simp only[Yaa]
    refine Yad (by kernel_rfl) (fun x _=>by go_simp;try with_reducible rfl) ?_;simp only[Yaa];refine Yb8 fun x hx=>?_
    go_wp2
    go_roundw
    case rel=>exact⟨i+1,by omega,by go_num,Lib.hid (fun j hj=>(Nat.lt_succ_iff_lt_or_eq.1 hj).elim (hs.out j) fun h=>h▸HE.out),hx⟩
    case measure=>simp[intOf];omega
   ·have HE:=Lib.hid (EN.out i hlt he);rw[decide_eq_false he] at C;clear he
    go_wp2
    refine Ya0 (S:=fun x=>Below (R+2) wB x) 10 (by kernel_rfl) (by kernel_rfl) hbd ?_;simp only[List.take_succ_cons,List.take_zero,List.drop_succ_cons,List.drop_zero]
    iterate 2 (refine Yad (by kernel_rfl) (fun x _=>by go_simp;try with_reducible rfl) ?_;simp only[Yaa])
    refine Yad (by kernel_rfl) (fun x _=>by go_simp;rw[if_pos (by omega)]) ?_;simp only[Yaa];refine Ya4 72 _ ⟨R,12+i,none⟩ (.slice (p i) (n i) (c i)) (by kernel_rfl) rfl rfl (fun x hx=>by have c0:=(K0.out x hx);go_simp) ?_;simp only[Yaa]
    iterate 2 (refine Yad (by kernel_rfl) (fun x _=>by go_simp;try with_reducible rfl) ?_;simp only[Yaa])
    refine Yad (by kernel_rfl) (fun x _=>by go_simp;rw[if_pos (by omega)]) ?_;simp only[Yaa];refine Ya4 72 _ ⟨R+1,12+i,none⟩ (.slice (q i) (m i) (c' i)) (by kernel_rfl) rfl rfl (fun x hx=>by have c0:=(K1.out x hx);go_simp) ?_;simp only[Yaa];refine Ya7 (by kernel_rfl) C.out (fun _=>by kernel_rfl) ?_;simp only[Yaa]
    refine Yad (by kernel_rfl) (fun x _=>by go_simp;try with_reducible rfl) ?_;simp only[Yaa];refine Yb8 fun x hx=>?_
    go_wp2
    go_ret
    exact⟨Yag (by rw[CB.out,HE.out,Bool.false_and]),HR.out▸HBC.out.trans (hx.mono (by omega))⟩
  ·obtain rfl:i=6:=by omega
   have t0:decide ((6:Int)<6)=false:=by simp
   have F:=Lib.hid (show Yqo a b=Qkh a b by rw[CB.out,EA.out fun j hj=>hs.out j hj,Bool.true_and]);have h0:=LA.out wr hb;have h1:=LB.out wr hb;have a0:=Yab (o:=0) h0 rfl;have a1:=Yab (o:=1) h0 rfl;have a2:=Yab (o:=2) h0 rfl;have a3:=Yab (o:=3) h0 rfl;have a4:=Yab (o:=4) h0 rfl;have a5:=Yab (o:=5) h0 rfl;have a6:=Yab (o:=6) h0 rfl;have a7:=Yab (o:=7) h0 rfl;have a8:=Yab (o:=8) h0 rfl
   have a9:=Yab (o:=9) h0 rfl;have a10:=Yab (o:=10) h0 rfl;have a11:=Yab (o:=11) h0 rfl;have b0:=Yab (o:=0) h1 rfl;have b1:=Yab (o:=1) h1 rfl;have b2:=Yab (o:=2) h1 rfl;have b3:=Yab (o:=3) h1 rfl;have b4:=Yab (o:=4) h1 rfl;have b5:=Yab (o:=5) h1 rfl;have b6:=Yab (o:=6) h1 rfl;have b7:=Yab (o:=7) h1 rfl;have b8:=Yab (o:=8) h1 rfl;have b9:=Yab (o:=9) h1 rfl;have b10:=Yab (o:=10) h1 rfl
   have b11:=Yab (o:=11) h1 rfl;have HB2:=Lib.hid hb;clear h0 h1 hs hb;generalize hq5:(List.range 6).all (fun i=>a.dc i==b.dc i)=q5 at E6 NB;generalize hq4:(a.mx==b.mx&&a.my==b.my)=q4 at E2 NB;clear hq5 hq4;cases g0:(a.stuff==b.stuff) with
   |false=>
    go_wp2
    go_ret
    exact⟨Yag (by rw[F.out,NB.out];simp[g0]),HR.out▸HBC.out.trans (HB2.out.mono (by omega))⟩
   |true=>
    cases g1:(a.skip==b.skip) with
    |false=>
     go_wp2
     go_ret
     exact⟨Yag (by rw[F.out,NB.out];simp[g0,g1]),HR.out▸HBC.out.trans (HB2.out.mono (by omega))⟩
    |true=>
     cases g2:(a.kind==b.kind) with
     |false=>
      go_wp2
      go_ret
      exact⟨Yag (by rw[F.out,NB.out];simp[g0,g1,g2]),HR.out▸HBC.out.trans (HB2.out.mono (by omega))⟩
     |true=>
      cases g3:(a.step==b.step) with
      |false=>
       go_wp2
       go_ret
       exact⟨Yag (by rw[F.out,NB.out];simp[g0,g1,g2,g3]),HR.out▸HBC.out.trans (HB2.out.mono (by omega))⟩
      |true=>
       cases q4 with
       |false=>
        go_wp2
        go_ret
        exact⟨Yag (by rw[F.out,NB.out];simp[g0,g1,g2,g3]),HR.out▸HBC.out.trans (HB2.out.mono (by omega))⟩
       |true=>
        cases q5 with
        |false=>
         go_wp2
         go_ret
         exact⟨Yag (by rw[F.out,NB.out];simp[g0,g1,g2,g3]),HR.out▸HBC.out.trans (HB2.out.mono (by omega))⟩
        |true=>
         go_wp2
         go_ret
         exact⟨Yag (by rw[F.out,NB.out];simp[g0,g1,g2,g3]),HR.out▸HBC.out.trans (HB2.out.mono (by omega))⟩
def Y7f (l:List (Int×Int)):List Value:=l.flatMap fun q=>[Value.int .i64 q.1,Value.int .i64 q.2]
theorem Yyr (l:List (Int×Int))(q:Int×Int):Y7f (l++[q])=Y7f l++[.int .i64 q.1,.int .i64 q.2]:=by simp[Y7f]
theorem Y3s (l:List (Int×Int))(j:Nat)(h:j<l.length):(Y7f l)[j*2]? =some (.int .i64 l[j].1)∧(Y7f l)[j*2+1]? =some (.int .i64 l[j].2):=by
 induction l generalizing j with
 |nil=>exact absurd h (Nat.not_lt_zero j)
 |cons q l ih=>
  have e:Y7f (q::l)=.int .i64 q.1 :: .int .i64 q.2::Y7f l:=by simp[Y7f]
  rw[e];cases j with
  |zero=>exact⟨rfl,rfl⟩
  |succ j=>
   rw[show (j+1)*2=j*2+1+1 by omega,show j*2+1+1+1=(j*2+1)+1+1 by omega,List.getElem?_cons_succ,List.getElem?_cons_succ,List.getElem?_cons_succ,List.getElem?_cons_succ];exact ih j (by simpa using h)
theorem Y3v {w:World}{base e:Nat}{v:Value}{l:List (Int×Int)}{n:Nat}(hl:l.length=n)(h:w.ownsRow base e 2 v n (Y7f l)):
  ∃(q:Option Addr) (cap:Nat),v=.slice q n cap∧Ynx w q n (fun i=>l.getD i (0,0)):=by
 subst hl;have h0:=h;rcases h.2 with ⟨rfl,h1⟩|⟨g,cap,cur,rfl,_,hg,_⟩
 ·exact⟨none,0,by rw[h1],.inl h1⟩
 ·refine⟨_,cap,rfl,.inr ⟨g,0,rfl,(Array.getElem?_eq_some_iff.1 hg).1,fun i hi=>?_⟩⟩;have e:l.getD i (0,0)=l[i]:=by simp[List.getD,hi]
  have k0:=World.ownsRow.cells (g:=g) h0 rfl (i*2) _ (Y3s l i hi).1;have k1:=World.ownsRow.cells (g:=g) h0 rfl (i*2+1) _ (Y3s l i hi).2;rw[Addr.add_mid] at k0 k1;show w.cell? ⟨g,0+i*2,none⟩=some (.int .i64 (l.getD i (0,0)).1)∧w.cell? ⟨g,0+i*2+1,none⟩=some (.int .i64 (l.getD i (0,0)).2);rw[e];exact⟨k0,k1⟩
theorem Y2k:∃i,Tryz.prog.info? 73=some i∧i.zero=some (.agg #[.int .i64 0,.int .i64 0])∧i.size=2∧i.bytes=16:=by
 have h:(Tryz.prog.info? 73).map (fun i=>(i.zero,i.size,i.bytes))=some (some (.agg #[.int .i64 0,.int .i64 0]),2,16):=by kernel_rfl
 cases hq:Tryz.prog.info? 73 with
 |none=>simp[hq] at h
 |some i=>
  simp[hq] at h;exact⟨i,rfl,h.1,h.2.1,h.2.2⟩
end Go.Proofs.YtjjmalchelniiaaGreatDoor