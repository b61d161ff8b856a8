/- No condition. -/
import Derived.Test.YtjjmalchelniiaaGreatDoorZpp
import Derived.Test.YtjjmalchelniiaaGreatDoorZpbc
import Derived.RangeFuncNested
import Derived.RangeFuncBound
import Derived.Shelf.RegionOpen
import Derived.OwnWalkIn
import Derived.LoopNIn
import Derived.LoopIn
open Go.Proofs.Tryz
open Go renaming World->A5,Boxed->Af
set_option maxHeartbeats 4000000
namespace Go.Proofs.YtjjmalchelniiaaGreatDoor
open Go.RowKit Go.Lib
attribute [local go_sem] Oper.semAt_some
abbrev Mo:=@List.filter_append
abbrev Mp:=@List.cons_append
abbrev Mq:=@Boxed.new
def EA (inter:Bool)(i:Nat):ByteArray×Sym:=(BC inter ((i / 4:Nat):Int) ((i%4:Nat):Int),(⟨i / 4%6,Nat.mod_lt _ sY⟩,⟨i%4,Nat.mod_lt _ sY⟩))
def E6 (inter:Bool)(f:List UInt8)(i:Nat):List (ByteArray×Sym):=((List.range i).map (EA inter)).filter fun x=>f.isPrefixOf (rowCY x)
theorem Qm6 {inter:Bool}{f:List UInt8}{i:Nat}(h:f.isPrefixOf (rowCY (EA inter i))=true):E6 inter f (i+1)=E6 inter f i++[EA inter i]:=by
 unfold E6;rw[Ck,Cc,Mo];simp[h]
theorem Qp0 {inter:Bool}{f:List UInt8}{i:Nat}(h:f.isPrefixOf (rowCY (EA inter i))=false):E6 inter f (i+1)=E6 inter f i:=by
 unfold E6;rw[Ck,Cc,Mo];simp[h]
theorem Vx (inter:Bool)(f:List UInt8)(i:Nat):(E6 inter f i).length<=i:=by
 unfold E6;refine Ef (List.length_filter_le _ _) ?_;simp
theorem SX (inter:Bool)(k c:Nat)(hk:k<6)(hc:c<4):(EA inter (4*k+c)).1=BC inter (k:Int) (c:Int)/\sA (EA inter (4*k+c)).2=(k:Int)/\sB (EA inter (4*k+c)).2=(c:Int):=by
 have h1:(4*k+c) / 4=k:=sX;have h2:(4*k+c)%4=c:=sX;unfold EA sA sB;simp only[h1,h2];exact⟨trivial,by rw[Bq hk],trivial⟩
theorem qR {w x:A5}(h:Below w.heap.size w x):w.grownBy x none:=⟨h.os,h.tape,h.output,h.size,fun k hk _=>h.block k hk⟩
def QS (x:ByteArray×Sym):Array Value:=#[.agg #[.string x.1,.int .i64 (sA x.2),.int .i64 (sB x.2)]]
def Qg (a b:Nat)(inter:Bool)(f:ByteArray)(W c:A5):Prop:=
 (Af W a 4 (.bool inter)->Af c a 4 (.bool inter))/\(Af W b 9 (.string f)->Af c b 9 (.string f))
theorem Qg.grown {a b:Nat}{inter:Bool}{f:ByteArray}{W c:A5}{row:Option Nat}(hg:W.grownBy c row)(d:some a≠row)(h1:some b≠row):Qg a b inter f W c:=
 ⟨fun h=>h.kept hg d,fun h=>h.kept hg h1⟩
set_option maxRecDepth 100000 in
theorem Qey (n:Nat)(hn:1<=n)(l y z:Nat)(inter:Bool)(f:ByteArray)(J R:List (ByteArray×Sym)->A5->Prop)
  (W:A5)(X:AbidesFrom W.heap.size J)
  (Y:∀o x H,J o H->o.length<24->YieldAt Fence.wide (n-1) prog l (QS x) H fun e u=>
   (e=.returned (.bool true)/\J (o++[x]) u/\Qg y z inter f H u)\/(e=.returned (.bool false)/\R (o++[x]) u))
  (j:Af W y 4 (.bool inter)) (m:Af W z 9 (.string f)) (Z:J [] W):
  CallsIn Fence.wide n prog 257 #[.func (.yield l) #[] #[],.pointer (some ⟨y,0,none⟩),.pointer (some ⟨z,0,none⟩)] W fun e u=>(∃v,e=.returned v)/\
   ((∃S,S=E6 inter f.data.toList 24/\J S u)\/(∃o,True/\R o u)):=by
 refine callsIn_of_wp func257 rfl trivial ?_ rfl;simp only[ntmps257,Cl,Bi,Bu,Nat.reduceAdd,Nat.reduceSub,Array.replicate_succ,Array.replicate_zero,List.push_toArray,List.append_toArray,Cb,Mp]
 gi_wp2
 gi_loopw [7] (fun v wr=>∃k:Nat,k<=6/\v=.int .i64 k/\J (E6 inter f.data.toList (4*k)) wr/\Af wr y 4 (.bool inter)/\Af wr z 9 (.string f)) (fun v _=>6-(intOf v).toNat)
 case atStart=>exact⟨0,sX,rfl,Z,j,m⟩
 case round=>
  obtain⟨k,hk,rfl,hj,j,m⟩:=hrel;by_cases I:k<6
  ·have c0:=j.cell;obtain⟨a,b,d,g,hl⟩:=X1 inter k;have G:∀c:Nat,c<4->∀w,(Instr.index 214 (.agg #[.string a,.string b,.string d,.string g]) (.int .i64 (c:Int))).run prog w=.ok (.string (BC inter k c)) w:=by
    intro c hc w;have hr:BC inter k c=[a,b,d,g][c]?.getD ⟨#[]⟩:=by
     unfold BC;rw[Bb sX,hl,Dp]
    obtain⟨i0,i1,i2,i3⟩:=Qk a b d g w;rcases (by omega:c=0\/c=1\/c=2\/c=3) with rfl|rfl|rfl|rfl
    ·rw[hr];exact i0
    ·rw[hr];exact i1
    ·rw[hr];exact i2
    ·rw[hr];exact i3
   have aa:=Dm G;have ab:=Dm (show JZ (NS inter k)=.agg #[.string a,.string b,.string d,.string g] by rw[hl];rfl);clear G hl
   gi_wp2
   refine⟨trivial,(callsIn_wide.2 (Yo inter k _)).mono ?_⟩;rintro e w1 ⟨rfl,A⟩;rw[ab.out];have p:=qR A;have B:=X _ wr w1 none hj p (fun r e=>by cases e);have q:=j.kept p sZ;have s:=m.kept p sZ;clear hj j m p A c0
   gi_wp2
   gi_loopw [13] (fun v K=>∃c:Nat,c<=4/\v=.int .i64 c/\J (E6 inter f.data.toList (4*k+c)) K/\Af K y 4 (.bool inter)/\Af K z 9 (.string f)) (fun v _=>4-(intOf v).toNat)
   case atStart=>exact⟨0,sX,rfl,B,q,s⟩
   case round=>
    clear B q s;obtain⟨c,hc,rfl,hj,j,m⟩:=hrel;by_cases C:c<4
    ·have G:=aa.out c C;have c1:=m.cell;obtain⟨e1,e2,L⟩:=SX inter k c I C;obtain⟨x,M⟩:=Ah (EA inter (4*k+c));rw[M] at e1 e2 L;have T:QS x=#[.agg #[.string (BC inter k c),.int .i64 (k:Int),.int .i64 (c:Int)]]:=by unfold QS;rw[e1,e2,L]
     obtain⟨r,hr⟩:=Ah (BC inter k c);rw[hr] at G T e1;have N:=Dm M;have t:rowCY x=r.data.toList:=by unfold rowCY;rw[e1]
     have U:=Dm t;have V:=Vx inter f.data.toList (4*k+c);clear M hr e1 e2 L t
     gi_wp2
     refine⟨trivial,(callsIn_wide.2 (UV r f _)).mono ?_⟩;rintro e w2 ⟨rfl,rfl⟩;cases hpre:f.data.toList.isPrefixOf r.data.toList with
     |true=>
      have O:=Dm (Qm6 (inter:=inter) (f:=f.data.toList) (i:=4*k+c) (by rw[N.out,U.out];exact hpre));obtain⟨fn,tmps,assign,body,hy,hR⟩:=Y _ x w2 hj sX;rw[T] at hy;clear hpre
      gi_wp2
      refine hR.mono ?_;rintro e ac (⟨rfl,P,D⟩|⟨rfl,Q⟩)
      ·have E:=D.1 j;have F:=D.2 m
       gi_wp2
       go_roundw
       case rel=>exact⟨c+1,sX,tP,by rw[<-By,O.out,N.out];exact P,E,F⟩
       case measure=>simp[intOf];omega
      ·gi_wp2
       exact Is (results_none rfl _ _ _) rfl ⟨⟨_,rfl⟩,.inr ⟨_,trivial,Q⟩⟩
     |false=>
      have O:=Dm (Qp0 (inter:=inter) (f:=f.data.toList) (i:=4*k+c) (by rw[N.out,U.out];exact hpre));clear hpre
      gi_wp2
      refine⟨fun _ h=>uA,?_⟩
      gi_wp2
      go_roundw
      case rel=>exact⟨c+1,sX,tP,by rw[<-By,O.out];exact hj,j,m⟩
      case measure=>simp[intOf];omega
    ·obtain rfl:c=4:=sX
     gi_wp2
     go_roundw
     case rel=>exact⟨k+1,sX,tP,by rw[Nat.mul_add];exact hj,j,m⟩
     case measure=>simp[intOf];omega
  ·obtain rfl:k=6:=sX
   gi_wp2
   go_end0
   exact⟨⟨_,rfl⟩,.inl ⟨_,rfl,hj⟩⟩
theorem gO (n:Nat)(hn:1<=n)(a b:Nat)(inter:Bool)(f:ByteArray)(w:A5)(c:Af w a 4 (.bool inter))(d:Af w b 9 (.string f)):
  SeqStopsK Fence.wide n prog 257 #[.pointer (some ⟨a,0,none⟩),.pointer (some ⟨b,0,none⟩)] QS (Qg a b inter f) (fun g=>g=E6 inter f.data.toList 24) (fun _=>True) 24 w:=
 fun l J h W e i _ j k=>Qey n hn l a b inter f J h W i j ((e.block a c.lt).trans c) ((e.block b d.lt).trans d) k
attribute [local go_sem] Oper.semAt_some
def Qoi (x:ByteArray×Sym):Obj:=.cells (G5 x).toArray 274 (0,0)
theorem Qga (W:A5)(x:ByteArray×Sym):∀j u,[Value.string x.1,.int .i64 (sA x.2),.int .i64 (sB x.2)][j]? =some u->(W.alloc (.cells #[.string x.1,.int .i64 (sA x.2),.int .i64 (sB x.2)] 274)).cell? ((⟨W.heap.size,0,none⟩:Addr).add j)=some u:=by
 intro j u hj;rw[Ki,Bn];exact AA (cs:=[Value.string x.1,.int .i64 (sA x.2),.int .i64 (sB x.2)]) (heap_alloc_new W _) hj
set_option maxRecDepth 100000 in
theorem Yw (r u y:Nat)(inter:Bool)(f:ByteArray)(sl:Value)(w:A5)(C:r<=w.heap.size)(M:w.ownsRow r 274 3 sl 0 [])
  (N:∃p c,sl=.slice p 0 c)(E:Af w u 4 (.bool inter))(F:Af w y 9 (.string f)):
  Calls prog 243 #[sl,.func (.func 257) #[] #[.pointer (some ⟨u,0,none⟩),.pointer (some ⟨y,0,none⟩)]] w fun e w'=>
   ∃v,e=.returned v/\w'.ownsRow r 274 3 v (E6 inter f.data.toList 24).length (D5 (E6 inter f.data.toList 24))/\Below r w w':=by
 obtain⟨p,c,rfl⟩:=N;obtain⟨i0,hi,O,P,Q⟩:=Ds TI;have ab:=E.lt;have ac:=F.lt;refine(callsIn_wide (n:=3)).1 ?_;refine callsIn_of_wp_marks func243 rfl trivial ?_ rfl;simp only[ntmps243,Cl,Bi,Bu,Nat.reduceAdd,Nat.reduceSub,Array.replicate_succ,Array.replicate_zero,List.push_toArray,List.append_toArray,Cb,Mp]
 gi_wp2
 have bS:=Mq w 269 (.slice p 0 c);have z:=E.alloc (.cells #[.slice p 0 c] 269);have A:=F.alloc (.cells #[.slice p 0 c] 269);have G:=M.alloc (.cells #[.slice p 0 c] 269);have H:Below r w (w.alloc (.cells #[.slice p 0 c] 269)):=(Dn _ w).alloc C _;have R:(w.alloc (.cells #[.slice p 0 c] 269)).heap.size=w.heap.size+1:=sZ;obtain⟨ad,I⟩:=Ah (w.alloc (.cells #[.slice p 0 c] 269));rw[I] at bS z A G H R ⊢;clear I;refine wpIn_rangeFunc_ownH rfl sX (gf:=257) (lb:=#[.pointer (some ⟨u,0,none⟩),.pointer (some ⟨y,0,none⟩)]) rfl trivial (enters_of func257 tN rfl)
  (gO _ sX u y inter f ad z A) (fun h k=>⟨fun x=>k.1 (h.1 x),fun x=>k.2 (h.2 x)⟩)
  (fun W l o o' hl _ _ _=>Qg.grown (grownBy_putObj' W l o') tV tV) (Dn _ _) (fun _=>rfl)
  (fun a W=>((∃v,Af W w.heap.size 269 v/\W.ownsRow r 274 3 v a.length (D5 a)/\True)/\Af W u 4 (.bool inter)/\Af W y 9 (.string f))/\Below r w W)
  (fun _ _ _=>False)
  (OwnFrom.and (OwnFrom.and (Own.from (holdsRow_own r w.heap.size 269 274 3 (fun a=>a.length) D5 (fun _ _=>True)) _) (OwnFrom.and (Own.from (boxed_own _ _ _) _) (Own.from (boxed_own _ _ _) _))) (ownFrom_below C sX))
  (fun _ _ _ _ _ hs _ _=>hs)
  ⟨⟨⟨_,bS,G,trivial⟩,z,A⟩,H⟩
  (fun x S W=>∃s,W.heap[s]? =some (Qoi x)/\S = {tmps:=#[.slice p 0 c,.func (.func 257) #[] #[.pointer (some ⟨u,0,none⟩),.pointer (some ⟨y,0,none⟩)],.pointer (some ⟨w.heap.size,0,none⟩),undef,.slice none 0 0,.pointer (some ⟨s,0,none⟩),.func (.func 257) #[] #[.pointer (some ⟨u,0,none⟩),.pointer (some ⟨y,0,none⟩)],.agg #[.string x.1,.int .i64 (sA x.2),.int .i64 (sB x.2)],undef,undef,undef,undef,undef],defers:=[]})
  (fun x S _ X Y row hs hg hr=>by
   obtain⟨s,h1,h2⟩:=hs;refine⟨s,(hg.block s (E9.1 h1).1 (fun e=>?_)).trans h1,h2⟩;obtain⟨_,o,ho,hc⟩:=hr s e.symm;rw[h1] at ho;cases ho;cases hc)
  ?assign ?body ?done ?stop
 case assign=>
  rintro l a x W K ⟨⟨⟨v,i,b,_⟩,d,g⟩,j⟩ J;unfold QS
  gi_wp2
  exact J _ _ ((KeepsOthers.alloc _ _).from _) (Qg.grown (World.grownBy_alloc W _ none) sZ sZ) ⟨⟨⟨v,i.alloc _,b.alloc _,trivial⟩,d.alloc _,g.alloc _⟩,j.alloc (Ef C j.size) _⟩ ⟨W.heap.size,heap_alloc_new W _,rfl⟩
 case body=>
  rintro l a x S W hl _ ⟨⟨⟨v,i,b,_⟩,d,g⟩,j⟩ ⟨s,B,rfl⟩ ae;have cS:=i.cell;have fS:=i.frozen;have x0:W.cell? ⟨s,0,none⟩=some (.string x.1):=AA B rfl;have x1:W.cell? ⟨s,1,none⟩=some (.int .i64 (sA x.2)):=AA B rfl;have x2:W.cell? ⟨s,2,none⟩=some (.int .i64 (sB x.2)):=AA B rfl;have T:r<=W.heap.size:=Ef C j.size
  gi_wp2_with (gi_at_builtin;refine wpListIn_append_own _ rfl _ _ 269 rfl r 274 i0 _ 3 32 underlying269 hi O P Q rfl sY _ _ _ rfl (b.alloc _) ⟨W.heap.size,0,none⟩ 1 1 [.string x.1,.int .i64 (sA x.2),.int .i64 (sB x.2)] rfl rfl (Qga W x) (TX x) tK sX tO ?_;intro v' w1 q m _;obtain⟨g',t,rfl⟩:=ownsRow_succ q;obtain⟨L,U,V,Z,aa⟩:=i.appended sY b T C q m;have af:=L.cell;have ag:=L.frozen)
  have n0:=((d.alloc (.cells #[.string x.1,.int .i64 (sA x.2),.int .i64 (sB x.2)] 274)).kept m (d.not_row sY b)).other (B':=w.heap.size) sX (.slice (some ⟨g',0,none⟩) (a.length+1) t);have n1:=((g.alloc (.cells #[.string x.1,.int .i64 (sA x.2),.int .i64 (sB x.2)] 274)).kept m (g.not_row sY b)).other (B':=w.heap.size) sX (.slice (some ⟨g',0,none⟩) (a.length+1) t);refine⟨Z.from _,⟨fun _=>n0,fun _=>n1⟩,⟨⟨⟨_,U,?_,trivial⟩,n0,n1⟩,j.trans aa⟩⟩;rw[B8,pH];exact V
 case done=>
  rintro D zs W hD rfl ⟨⟨⟨v,i,b,_⟩,d,g⟩,j⟩ J;have cS:=i.cell
  gi_wp2
  refine⟨sZ,.inl ⟨_,_,rfl,run_takeDeferred J,?_⟩⟩;exact⟨_,results_tmp rfl _ _ _,_,rfl,ownsRow_putObj b _ J rfl,j.trans (belowK_b (w:=w) C W D _ _ sX J rfl rfl)⟩
 case stop=>
  rintro D c a W _ _ h _;exact h.elim
end Go.Proofs.YtjjmalchelniiaaGreatDoor