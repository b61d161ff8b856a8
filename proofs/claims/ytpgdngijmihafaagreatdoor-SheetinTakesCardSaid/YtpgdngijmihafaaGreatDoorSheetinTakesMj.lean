/- Texts that SheetinTakes's proof stands on, part 10 of 52. No condition of its own. -/
import Derived.Test.YtpgdngijmihafaaGreatDoorSheetinTakesMe
import Derived.Test.YtpgdngijmihafaaGreatDoorSheetinTakesMh
import Derived.Test.YtpgdngijmihafaaGreatDoorSheetinTakesMi
import Derived.Deep.WholeRow
import Derived.Deep.Slices
import Derived.Deep.MidRow
import Derived.OwnWalk
import Derived.Laws.AppendOwn
import Derived.ChangeMaps5
import Derived.RegionTactic
namespace Go.Proofs.YtpgdngijmihafaaGreatDoor
open Go.RowKit Go.Lib Go.ChangeShapes Go.WideShapes Go.ChangeAt
def arn (n:Nat) (f:Nat→Int):Array Value:=((List.range n).map fun i=> .int .i64 (f i)).toArray
theorem Y8g {n:Nat} (f:Nat→Int) {i:Nat} (h:i<n):(arn n f)[i]? = some (.int .i64 (f i)):=by simp [arn,h]
section
variable {P:Program} {T E:TypeId} {n:Nat}
end
theorem Yaj {P:Program} {ops:Array Oper} {rest:List Oper} {op:Oper} {a:Act} {w:World} {Q:Exit→Act→World→Prop} (hgd:op.guard=none) (ty:TypeId) (x y:Operand) (ho:op.op = .store ty x y)
  (Z old:Array Value) (T:TypeId) (hx:a.eval x = .pointer (some ⟨w.heap.size,0,none⟩)) (hy:a.eval y = .agg Z) (hi:(P.info? ty).map (·.size)=some Z.size) (hs:old.size=Z.size) (h1:Z.all (·.oneCell')=true)
  (h:wpList P ops Q rest (a.put op.dst undef) (w.alloc (.cells Z T (0,0)))):wpList P ops Q (op::rest) a (w.alloc (.cells old T (0,0))):=by
 refine wpList_store_row hgd ty x y ho w.heap.size Z hx hy T old (heap_alloc_last w _) hi hs h1 ?_
 rw [World.setRow_alloc_new]
 exact h
theorem Y28 (w:World) (o1 o2:Obj):∃(B:Nat) (wA wB:World),w.heap.size=B∧w.alloc o1=wA∧wA.alloc o2=wB∧wA.heap.size=B+1∧wB.heap.size=B+2∧wB.heap[B]? = some o1∧wB.heap[B+1]? = some o2∧Below B w wB:=
 ⟨_,_,_,rfl,rfl,rfl,by simp,by simp,Yat (heap_alloc_new w _),by simpa using heap_alloc_new (w.alloc o1) o2,((Below.refl _ w).alloc (Nat.le_refl _) _).alloc (by simp) _⟩
theorem Qb6 (w:World) (o1 o2 o3:Obj):∃(B:Nat) (wA wB wC:World),w.heap.size=B∧w.alloc o1=wA∧wA.alloc o2=wB∧wB.alloc o3=wC∧wA.heap.size=B+1∧wB.heap.size=B+2∧wC.heap.size=B+3∧wC.heap[B]? = some o1∧wC.heap[B+1]? = some o2∧wC.heap[B+2]? = some o3∧Below B w wC:=
 ⟨_,_,_,_,rfl,rfl,rfl,rfl,by simp,by simp,by simp,Yat (Yat (heap_alloc_new w _)),Yat (by simpa using heap_alloc_new (w.alloc o1) o2),by simpa using heap_alloc_new ((w.alloc o1).alloc o2) o3,(((Below.refl _ w).alloc (Nat.le_refl _) _).alloc (by simp) _).alloc (by simp;omega) _⟩
end Go.Proofs.YtpgdngijmihafaaGreatDoor
namespace Go.Proofs.YtpgdngijmihafaaGreatDoor
open Go.RowKit Go.Lib
def Yew (a b:Int):Array Value:=#[.int .i64 a,.int .i64 b]
theorem Yfj {w:World} {B:Nat} {a b:Int} (h:w.heap[B]? = some (.cells (Yew a b) 45 (0,0))):w.cell? ⟨B,0,none⟩=some (.int .i64 a)∧w.cell? ⟨B,1,none⟩=some (.int .i64 b):=
 ⟨Yaa (cs:=[.int .i64 a,.int .i64 b]) h rfl,Yaa (cs:=[.int .i64 a,.int .i64 b]) h rfl⟩
theorem Yhr:(Tryz.prog.info? 45).map (·.size)=some 2:=by kernel_rfl
theorem Yj7 (a b:Int):(Yew a b).all (·.oneCell')=true:=by simp [Yew,Value.oneCell']
theorem Y3u (a b c d:Int) (w:World):(Op.equalIn 10000 45 (.agg #[.int .i64 a,.int .i64 b]) (.agg #[.int .i64 c,.int .i64 d])).run Tryz.prog w = .ok (a==c&&b==d) w:=by
 obtain ⟨j,hj⟩:=Ypr
 have h:=run_equalIn_array (P:=Tryz.prog) w 9999 #[.int .i64 a,.int .i64 b] #[.int .i64 c,.int .i64 d] Tryz.underlying45 hj
 refine h.trans ?_
 have p1:=run_part_plain (P:=Tryz.prog) w Yeb (show (#[.int .i64 a,.int .i64 b]:Array Value)[0]? = some (.int .i64 a) from rfl)
 have p2:=run_part_plain (P:=Tryz.prog) w Yeb (show (#[.int .i64 a,.int .i64 b]:Array Value)[1]? = some (.int .i64 b) from rfl)
 have p3:=run_part_plain (P:=Tryz.prog) w Yeb (show (#[.int .i64 c,.int .i64 d]:Array Value)[0]? = some (.int .i64 c) from rfl)
 have p4:=run_part_plain (P:=Tryz.prog) w Yeb (show (#[.int .i64 c,.int .i64 d]:Array Value)[1]? = some (.int .i64 d) from rfl)
 have q1:=run_equalIn_int (P:=Tryz.prog) w 9998 3 .i64 .i64 a c Tryz.underlying3
 have q2:=run_equalIn_int (P:=Tryz.prog) w 9998 3 .i64 .i64 b d Tryz.underlying3
 show (Op.eqItems 9999 3 (Tryz.prog.cellsOf 3) _ _ [0,1]).run Tryz.prog w=_
 rw [Yjo]
 simp only [Op.eqItems,Sem.run_bind,Nat.mul_one,p1,p3,q1,Result.andThen_ok]
 cases hq:(a==c) with
 | false=> simp
 | true=>
  simp only [Bool.not_true,Bool.false_eq_true,if_false,Sem.run_bind,p2,p4,q2,Result.andThen_ok,Bool.true_and]
  cases hq2:(b==d) <;> simp
def Ygm (w:World) (p:Option Addr) (n:Nat) (f:Nat→Int×Int):Prop:=
 n=0∨∃b o,p=some ⟨b,o,none⟩∧b<w.heap.size∧∀i,i<n→w.cell? ⟨b,o+i*2,none⟩=some (.int .i64 (f i).1)∧w.cell? ⟨b,o+i*2+1,none⟩=some (.int .i64 (f i).2)
theorem Ygm.mono {w w':World} {p:Option Addr} {n:Nat} {f:Nat→Int×Int} (h:Ygm w p n f) (hb:Below w.heap.size w w'):Ygm w' p n f:=by
 rcases h with h | ⟨b,o,rfl,hlt,hc⟩
 ·exact .inl h
 ·refine .inr ⟨b,o,rfl,by have:=hb.size;omega,fun i hi=> ?_⟩
  obtain ⟨h0,h1⟩:=hc i hi
  exact ⟨(World.cell?_of_block (a:=⟨b,o+i*2,none⟩) (hb.block b hlt)).trans h0,(World.cell?_of_block (a:=⟨b,o+i*2+1,none⟩) (hb.block b hlt)).trans h1⟩
theorem Yui {w:World} {p:Option Addr} {n:Nat} {f:Nat→Int×Int} (h:Ygm w p n f) (hn:0<n):∃b o,p=some ⟨b,o,none⟩∧∀x,Below w.heap.size w x→∀i,i<n→x.cell? ⟨b,o+i*2,none⟩=some (.int .i64 (f i).1)∧x.cell? ⟨b,o+i*2+1,none⟩=some (.int .i64 (f i).2):=by
 rcases h with h | ⟨b,o,rfl,hlt,hc⟩
 ·omega
 ·refine ⟨b,o,rfl,fun x hx i hi=> ?_⟩
  obtain ⟨h0,h1⟩:=hc i hi
  exact ⟨(World.cell?_of_block (a:=⟨b,o+i*2,none⟩) (hx.block b hlt)).trans h0,(World.cell?_of_block (a:=⟨b,o+i*2+1,none⟩) (hx.block b hlt)).trans h1⟩
def Yxd (l:List (Int×Int)):List Value:=l.flatMap fun q=> [Value.int .i64 q.1,Value.int .i64 q.2]
theorem Yrq (l:List (Int×Int)) (q:Int×Int):Yxd (l ++ [q])=Yxd l ++ [.int .i64 q.1,.int .i64 q.2]:=by simp [Yxd]
theorem Ywv (l:List (Int×Int)) (j:Nat) (h:j<l.length):(Yxd l)[j*2]? = some (.int .i64 l[j].1)∧(Yxd l)[j*2+1]? = some (.int .i64 l[j].2):=by
 induction l generalizing j with
 | nil=> exact absurd h (Nat.not_lt_zero j)
 | cons q l ih=>
  have e:Yxd (q::l) = .int .i64 q.1 :: .int .i64 q.2::Yxd l:=by simp [Yxd]
  rw [e]
  cases j with
  | zero=> exact ⟨rfl,rfl⟩
  | succ j=>
   rw [show (j+1)*2=j*2+1+1 by omega,show j*2+1+1+1=(j*2+1)+1+1 by omega,List.getElem?_cons_succ,List.getElem?_cons_succ,List.getElem?_cons_succ,List.getElem?_cons_succ]
   exact ih j (by simpa using h)
theorem Yxj {w:World} {base e:Nat} {v:Value} {l:List (Int×Int)} {n:Nat} (hl:l.length=n) (h:w.ownsRow base e 2 v n (Yxd l)):
  ∃(q:Option Addr) (cap:Nat),v = .slice q n cap∧Ygm w q n (fun i=> l.getD i (0,0)):=by
 subst hl
 have h0:=h
 rcases h.2 with ⟨rfl,h1⟩ | ⟨g,cap,cur,rfl,_,hg,_⟩
 ·exact ⟨none,0,by rw [h1],.inl h1⟩
 ·refine ⟨_,cap,rfl,.inr ⟨g,0,rfl,(Array.getElem?_eq_some_iff.1 hg).1,fun i hi=> ?_⟩⟩
  have e:l.getD i (0,0)=l[i]:=by simp [List.getD,hi]
  have k0:=World.ownsRow.cells (g:=g) h0 rfl (i*2) _ (Ywv l i hi).1
  have k1:=World.ownsRow.cells (g:=g) h0 rfl (i*2+1) _ (Ywv l i hi).2
  rw [Addr.add_mid] at k0 k1
  show w.cell? ⟨g,0+i*2,none⟩=some (.int .i64 (l.getD i (0,0)).1)∧w.cell? ⟨g,0+i*2+1,none⟩=some (.int .i64 (l.getD i (0,0)).2)
  rw [e]
  exact ⟨k0,k1⟩
theorem Yxc:∃i,Tryz.prog.info? 45=some i∧i.zero=some (.agg #[.int .i64 0,.int .i64 0])∧i.size=2∧i.bytes=16:=by
 have h:(Tryz.prog.info? 45).map (fun i=> (i.zero,i.size,i.bytes))=some (some (.agg #[.int .i64 0,.int .i64 0]),2,16):=by kernel_rfl
 cases hq:Tryz.prog.info? 45 with
 | none=> simp [hq] at h
 | some i=>
  simp [hq] at h
  exact ⟨i,rfl,h.1,h.2.1,h.2.2⟩
theorem Yt4 (n d:Nat) (f g:Nat→Int) (w:World):∀is:List Nat,(∀i∈is,i<n)→(Op.eqItems (d+1) 3 (Tryz.prog.cellsOf 3) (arn n f) (arn n g) is).run Tryz.prog w = .ok (is.all fun i=> f i==g i) w
 | [],_=> by simp [Op.eqItems]
 | i::is,h=> by
  have hi:=h i List.mem_cons_self
  have p1:=run_part_plain (P:=Tryz.prog) w Yeb (Y8g f hi)
  have p2:=run_part_plain (P:=Tryz.prog) w Yeb (Y8g g hi)
  have p3:=run_equalIn_int (P:=Tryz.prog) w d 3 .i64 .i64 (f i) (g i) Tryz.underlying3
  have ih:=Yt4 n d f g w is fun k hk=> h k (List.mem_cons_of_mem _ hk)
  rw [Yjo] at ih ⊢
  simp only [Op.eqItems,Sem.run_bind,Nat.mul_one,p1,p2,p3,Result.andThen_ok,List.all_cons]
  cases hq:(f i==g i) with
  | false=> simp
  | true=> simpa using ih
theorem Y15 (f g:Nat→Int) (w:World):(Op.equalIn 10000 46 (.agg #[.int .i64 (f 0),.int .i64 (f 1),.int .i64 (f 2),.int .i64 (f 3),.int .i64 (f 4),.int .i64 (f 5)]) (.agg #[.int .i64 (g 0),.int .i64 (g 1),.int .i64 (g 2),.int .i64 (g 3),.int .i64 (g 4),.int .i64 (g 5)])).run Tryz.prog w = .ok ((List.range 6).all fun i=> f i==g i) w:=by
 obtain ⟨j,hj⟩:=Ypr
 have h:=run_equalIn_array (P:=Tryz.prog) w 9999 (arn 6 f) (arn 6 g) Tryz.underlying46 hj
 exact h.trans (Yt4 6 9998 f g w (List.range 6) fun i hi=> List.mem_range.1 hi)
set_option maxRecDepth 100000 in
set_option maxHeartbeats 2000000 in
theorem Yr2 (a b:Cel) (p q:Nat→Option Addr) (n m c c':Nat→Nat) (w:World) (ha:Y35 w a p n) (hb:Y35 w b q m):
  Calls Tryz.prog 27 #[.agg (Ya5 a fun i=> .slice (p i) (n i) (c i)).toArray,.agg (Ya5 b fun i=> .slice (q i) (m i) (c' i)).toArray] w fun e w'=> e = .returned (.bool (Yyr a b))∧Below w.heap.size w w':=by
 obtain ⟨A,hA⟩:∃A,(Ya5 a fun i=> .slice (p i) (n i) (c i)).toArray=A:=⟨_,rfl⟩
 obtain ⟨B,hB⟩:∃A,(Ya5 b fun i=> .slice (q i) (m i) (c' i)).toArray=A:=⟨_,rfl⟩
 rw [hA,hB]
 obtain ⟨R,wA,wB,hR,hwA,hwB,hzA,hzB,hC0,hC1,hbC⟩:=Y28 w (.cells A 50 (0,0)) (.cells B 50 (0,0))
 rw [←hA] at hC0
 rw [←hB] at hC1
 have LA:=Lib.hid (fun x (hx:Below (R+2) wB x)=> (hx.block R (by omega)).trans hC0)
 have LB:=Lib.hid (fun x (hx:Below (R+2) wB x)=> (hx.block (R+1) (by omega)).trans hC1)
 have hEV:∀i,i<6→∀x,Below (R+2) wB x→Calls Tryz.prog 48 #[.slice (p i) (n i) (c i),.slice (q i) (m i) (c' i)] x fun e y=> e = .returned (.bool (decide (a.ev i=b.ev i)))∧Below (R+2) wB y:=by
  intro i hi x hx
  have hwx:Below w.heap.size w x:=hR▸(hbC.trans (hx.mono (by omega)))
  obtain ⟨e1,e2,e3⟩:=ha.below hwx i hi
  obtain ⟨f1,f2,f3⟩:=hb.below hwx i hi
  rw [e1,f1]
  exact (Y2k (p i) (q i) (a.ev i) (b.ev i) (c i) (c' i) x e3 f3 (by omega)).mono fun e y h=> ⟨h.1,hx.trans (h.2.mono (by have:=hx.size;omega))⟩
 have EV:=Lib.hid hEV
 have HWA:=Lib.hid hwA
 have HWB:=Lib.hid hwB
 have HR:=Lib.hid hR
 have HBC:=Lib.hid hbC
 have E2:=Y3u a.mx a.my b.mx b.my
 have E6:=Y15 a.dc b.dc
 have NB:Hid (Y1m a b=(a.stuff==b.stuff&&a.skip==b.skip&&a.kind==b.kind&&a.step==b.step&&(a.mx==b.mx&&a.my==b.my)&&(List.range 6).all fun i=> a.dc i==b.dc i)):=Lib.hid rfl
 have EA:=Lib.hid (fun h=> Qal (c:=a) (d:=b) h)
 have EN:=Lib.hid (fun i hi h=> Y9f (c:=a) (d:=b) (i:=i) hi h)
 have CB:Hid (Yyr a b=(evB a b&&Y1m a b)):=Lib.hid rfl
 have HA:=Lib.hid hA
 have HB:=Lib.hid hB
 clear hA hB hwA hwB hR hC0 hC1 hbC hEV ha hb hzA
 have a0:A[0]? = some (.int .i64 a.stuff):=by rw [←HA.out];rfl
 have a1:A[1]? = some (.bool a.skip):=by rw [←HA.out];rfl
 have a2:A[2]? = some (.int .i64 a.kind):=by rw [←HA.out];rfl
 have a3:A[3]? = some (.int .i64 a.step):=by rw [←HA.out];rfl
 have a4:A[4]? = some (.int .i64 a.mx):=by rw [←HA.out];rfl
 have a5:A[5]? = some (.int .i64 a.my):=by rw [←HA.out];rfl
 have a6:A[6]? = some (.int .i64 (a.dc 0)):=by rw [←HA.out];rfl
 have a7:A[7]? = some (.int .i64 (a.dc 1)):=by rw [←HA.out];rfl
 have a8:A[8]? = some (.int .i64 (a.dc 2)):=by rw [←HA.out];rfl
 have a9:A[9]? = some (.int .i64 (a.dc 3)):=by rw [←HA.out];rfl
 have a10:A[10]? = some (.int .i64 (a.dc 4)):=by rw [←HA.out];rfl
 have a11:A[11]? = some (.int .i64 (a.dc 5)):=by rw [←HA.out];rfl
 have b0:B[0]? = some (.int .i64 b.stuff):=by rw [←HB.out];rfl
 have b1:B[1]? = some (.bool b.skip):=by rw [←HB.out];rfl
 have b2:B[2]? = some (.int .i64 b.kind):=by rw [←HB.out];rfl
 have b3:B[3]? = some (.int .i64 b.step):=by rw [←HB.out];rfl
 have b4:B[4]? = some (.int .i64 b.mx):=by rw [←HB.out];rfl
 have b5:B[5]? = some (.int .i64 b.my):=by rw [←HB.out];rfl
 have b6:B[6]? = some (.int .i64 (b.dc 0)):=by rw [←HB.out];rfl
 have b7:B[7]? = some (.int .i64 (b.dc 1)):=by rw [←HB.out];rfl
 have b8:B[8]? = some (.int .i64 (b.dc 2)):=by rw [←HB.out];rfl
 have b9:B[9]? = some (.int .i64 (b.dc 3)):=by rw [←HB.out];rfl
 have b10:B[10]? = some (.int .i64 (b.dc 4)):=by rw [←HB.out];rfl
 have b11:B[11]? = some (.int .i64 (b.dc 5)):=by rw [←HB.out];rfl
 generalize hq5:(List.range 6).all (fun i=> a.dc i==b.dc i)=q5 at E6 NB
 generalize hq4:(a.mx==b.mx&&a.my==b.my)=q4 at E2 NB
 clear hq5 hq4
 cases g0:(a.stuff==b.stuff) with
 | true=>
  have n0:(a.stuff != b.stuff)=false:=by simp only [bne,g0,Bool.not_true]
  cases g1:(a.skip==b.skip) with
  | true=>
   have n1:(a.skip != b.skip)=false:=by simp only [bne,g1,Bool.not_true]
   cases g2:(a.kind==b.kind) with
   | true=>
    have n2:(a.kind != b.kind)=false:=by simp only [bne,g2,Bool.not_true]
    cases g3:(a.step==b.step) with
    | true=>
     have n3:(a.step != b.step)=false:=by simp only [bne,g3,Bool.not_true]
     cases q4 with
     | true=>
      cases q5 with
      | true=>
       have F:=Lib.hid (show Y1m a b=true by rw [NB.out];simp [g0,g1,g2,g3])
       go_enter Tryz.func27,Tryz.ntmps27
       go_wp2
       rw [HWA.out,HR.out,HWB.out]
       go_loopw [5] (fun z wr=>∃i:Nat,i≤6∧z = .int .i64 i∧Hid (∀j,j<i→a.ev j=b.ev j)∧Below (R+2) wB wr) (fun z _=> 6-(intOf z).toNat)
       case atStart=> exact ⟨0,by omega,rfl,Lib.hid fun j h=> absurd h (Nat.not_lt_zero j),hzB▸Below.refl _ _⟩
       case round=>
        obtain ⟨i,hi6,rfl,hs,hb⟩:=hrel
        by_cases hlt:i<6
        ·have t0:decide ((i:Int)<6)=true:=by simp;omega
         have K0:=Lib.hid (fun x (hx:Below (R+2) wB x)=> Yaa (o:=12+i) (LA.out x hx) (Yfk a _ i hlt))
         have K1:=Lib.hid (fun x (hx:Below (R+2) wB x)=> Yaa (o:=12+i) (LB.out x hx) (Yfk b _ i hlt))
         have C:=Lib.hid (fun x hx=> EV.out i hlt x hx)
         have hbd:=hb.drew
         by_cases he:a.ev i=b.ev i
         ·have HE:=Lib.hid he
          rw [decide_eq_true he] at C
          clear he
          go_wp2
          refine Yay (S:=fun x=> Below (R+2) wB x) 10 (by kernel_rfl) (by kernel_rfl) hbd ?_
          simp only [List.take_succ_cons,List.take_zero,List.drop_succ_cons,List.drop_zero]
          iterate 2 (refine Yad (by kernel_rfl) (fun x _=> by go_simp;try with_reducible rfl) ?_;simp only [Act.put,List.setIfInBounds_toArray,List.set_cons_zero,List.set_cons_succ])
          refine Yad (by kernel_rfl) (fun x _=> by go_simp;rw [if_pos (by omega)]) ?_;simp only [Act.put,List.setIfInBounds_toArray,List.set_cons_zero,List.set_cons_succ]
          refine Yaq 47 _ ⟨R,12+i,none⟩ (.slice (p i) (n i) (c i)) (by kernel_rfl) rfl rfl (fun x hx=> by have c0:=(K0.out x hx);go_simp) ?_;simp only [Act.put,List.setIfInBounds_toArray,List.set_cons_zero,List.set_cons_succ]
          iterate 2 (refine Yad (by kernel_rfl) (fun x _=> by go_simp;try with_reducible rfl) ?_;simp only [Act.put,List.setIfInBounds_toArray,List.set_cons_zero,List.set_cons_succ])
          refine Yad (by kernel_rfl) (fun x _=> by go_simp;rw [if_pos (by omega)]) ?_;simp only [Act.put,List.setIfInBounds_toArray,List.set_cons_zero,List.set_cons_succ]
          refine Yaq 47 _ ⟨R+1,12+i,none⟩ (.slice (q i) (m i) (c' i)) (by kernel_rfl) rfl rfl (fun x hx=> by have c0:=(K1.out x hx);go_simp) ?_;simp only [Act.put,List.setIfInBounds_toArray,List.set_cons_zero,List.set_cons_succ]
          refine Yaz (by kernel_rfl) C.out (fun _=> by kernel_rfl) ?_;simp only [Act.put,List.setIfInBounds_toArray,List.set_cons_zero,List.set_cons_succ]
          refine Yad (by kernel_rfl) (fun x _=> by go_simp;try with_reducible rfl) ?_;simp only [Act.put,List.setIfInBounds_toArray,List.set_cons_zero,List.set_cons_succ]
          refine Ybz fun x hx=> ?_
          go_wp2
          go_roundw
          case rel=> exact ⟨i+1,by omega,by go_num,Lib.hid (fun j hj=> (Nat.lt_succ_iff_lt_or_eq.1 hj).elim (hs.out j) fun h=> h▸HE.out),hx⟩
          case measure=> simp [intOf];omega
         ·have HE:=Lib.hid (EN.out i hlt he)
          rw [decide_eq_false he] at C
          clear he
          go_wp2
          refine Yay (S:=fun x=> Below (R+2) wB x) 10 (by kernel_rfl) (by kernel_rfl) hbd ?_
          simp only [List.take_succ_cons,List.take_zero,List.drop_succ_cons,List.drop_zero]
          iterate 2 (refine Yad (by kernel_rfl) (fun x _=> by go_simp;try with_reducible rfl) ?_;simp only [Act.put,List.setIfInBounds_toArray,List.set_cons_zero,List.set_cons_succ])
          refine Yad (by kernel_rfl) (fun x _=> by go_simp;rw [if_pos (by omega)]) ?_;simp only [Act.put,List.setIfInBounds_toArray,List.set_cons_zero,List.set_cons_succ]
          refine Yaq 47 _ ⟨R,12+i,none⟩ (.slice (p i) (n i) (c i)) (by kernel_rfl) rfl rfl (fun x hx=> by have c0:=(K0.out x hx);go_simp) ?_;simp only [Act.put,List.setIfInBounds_toArray,List.set_cons_zero,List.set_cons_succ]
          iterate 2 (refine Yad (by kernel_rfl) (fun x _=> by go_simp;try with_reducible rfl) ?_;simp only [Act.put,List.setIfInBounds_toArray,List.set_cons_zero,List.set_cons_succ])
          refine Yad (by kernel_rfl) (fun x _=> by go_simp;rw [if_pos (by omega)]) ?_;simp only [Act.put,List.setIfInBounds_toArray,List.set_cons_zero,List.set_cons_succ]
          refine Yaq 47 _ ⟨R+1,12+i,none⟩ (.slice (q i) (m i) (c' i)) (by kernel_rfl) rfl rfl (fun x hx=> by have c0:=(K1.out x hx);go_simp) ?_;simp only [Act.put,List.setIfInBounds_toArray,List.set_cons_zero,List.set_cons_succ]
          refine Yaz (by kernel_rfl) C.out (fun _=> by kernel_rfl) ?_;simp only [Act.put,List.setIfInBounds_toArray,List.set_cons_zero,List.set_cons_succ]
          refine Yad (by kernel_rfl) (fun x _=> by go_simp;try with_reducible rfl) ?_;simp only [Act.put,List.setIfInBounds_toArray,List.set_cons_zero,List.set_cons_succ]
          refine Ybz fun x hx=> ?_
          go_wp2
          go_ret
          exact ⟨Yap (by rw [CB.out,HE.out,Bool.false_and]),HR.out▸HBC.out.trans (hx.mono (by omega))⟩
        ·obtain rfl:i=6:=by omega
         have t0:decide ((6:Int)<6)=false:=by simp
         have F2:=Lib.hid (show Yyr a b=true by rw [CB.out,F.out,EA.out fun j hj=> hs.out j hj,Bool.true_and])
         go_wp2
         go_ret
         exact ⟨Yap F2.out.symm,HR.out▸HBC.out.trans (hb.mono (by omega))⟩
      | false=>
       have F:=Lib.hid (show Y1m a b=false by rw [NB.out];simp [g0,g1,g2,g3])
       go_enter Tryz.func27,Tryz.ntmps27
       go_wp2
       go_ret
       exact ⟨Yap (by rw [CB.out,F.out,Bool.and_false]),by rw [HWA.out,HWB.out,HR.out];exact HBC.out⟩
     | false=>
      have F:=Lib.hid (show Y1m a b=false by rw [NB.out];simp [g0,g1,g2,g3])
      go_enter Tryz.func27,Tryz.ntmps27
      go_wp2
      go_ret
      exact ⟨Yap (by rw [CB.out,F.out,Bool.and_false]),by rw [HWA.out,HWB.out,HR.out];exact HBC.out⟩
    | false=>
     have n3:(a.step != b.step)=true:=by simp only [bne,g3,Bool.not_false]
     have F:=Lib.hid (show Y1m a b=false by rw [NB.out];simp [g0,g1,g2,g3])
     go_enter Tryz.func27,Tryz.ntmps27
     go_wp2
     go_ret
     exact ⟨Yap (by rw [CB.out,F.out,Bool.and_false]),by rw [HWA.out,HWB.out,HR.out];exact HBC.out⟩
   | false=>
    have n2:(a.kind != b.kind)=true:=by simp only [bne,g2,Bool.not_false]
    have F:=Lib.hid (show Y1m a b=false by rw [NB.out];simp [g0,g1,g2])
    go_enter Tryz.func27,Tryz.ntmps27
    go_wp2
    go_ret
    exact ⟨Yap (by rw [CB.out,F.out,Bool.and_false]),by rw [HWA.out,HWB.out,HR.out];exact HBC.out⟩
  | false=>
   have n1:(a.skip != b.skip)=true:=by simp only [bne,g1,Bool.not_false]
   have F:=Lib.hid (show Y1m a b=false by rw [NB.out];simp [g0,g1])
   go_enter Tryz.func27,Tryz.ntmps27
   go_wp2
   go_ret
   exact ⟨Yap (by rw [CB.out,F.out,Bool.and_false]),by rw [HWA.out,HWB.out,HR.out];exact HBC.out⟩
 | false=>
  have n0:(a.stuff != b.stuff)=true:=by simp only [bne,g0,Bool.not_false]
  have F:=Lib.hid (show Y1m a b=false by rw [NB.out];simp [g0])
  go_enter Tryz.func27,Tryz.ntmps27
  go_wp2
  go_ret
  exact ⟨Yap (by rw [CB.out,F.out,Bool.and_false]),by rw [HWA.out,HWB.out,HR.out];exact HBC.out⟩
end Go.Proofs.YtpgdngijmihafaaGreatDoor