/- StripsWrites, 29. No condition. -/
import Derived.Test.YtjjmalchelniiaaGreatDoorStripsWritesMq
import Derived.Test.YtjjmalchelniiaaGreatDoorStripsWritesMbb
import Derived.RangeFuncNested
import Derived.RangeFuncBound
import Derived.Shelf.RegionOpen
import Derived.OwnWalkIn
import Derived.LoopNIn
import Derived.LoopIn
open Go.Proofs.Tryz
open Go renaming World->A5,Boxed->Ae
set_option maxHeartbeats 4000000
namespace Go.Proofs.YtjjmalchelniiaaGreatDoor
open Go.RowKit Go.Lib
attribute [local go_sem] Oper.semAt_some
abbrev Mf:=@List.cons_append
abbrev Mg:=@Boxed.new
def HU (inter:Bool)(i:Nat):ByteArray×Sym:=(AY inter ((i / 4:Nat):Int) ((i%4:Nat):Int),(⟨i / 4%6,Nat.mod_lt _ (by decide)⟩,⟨i%4,Nat.mod_lt _ (by decide)⟩))
def EF (inter:Bool)(f:List UInt8)(i:Nat):List (ByteArray×Sym):=((List.range i).map (HU inter)).filter fun x=>f.isPrefixOf (AK x)
theorem fC {inter:Bool}{f:List UInt8}{i:Nat}(h:f.isPrefixOf (AK (HU inter i))=true):EF inter f (i+1)=EF inter f i++[HU inter i]:=by
 unfold EF;rw[Cv,Cl,List.filter_append];simp[h]
theorem tM {inter:Bool}{f:List UInt8}{i:Nat}(h:f.isPrefixOf (AK (HU inter i))=false):EF inter f (i+1)=EF inter f i:=by
 unfold EF;rw[Cv,Cl,List.filter_append];simp[h]
theorem Uv (inter:Bool)(f:List UInt8)(i:Nat):(EF inter f i).length<=i:=by
 unfold EF;refine Eg (List.length_filter_le _ _) ?_;simp
theorem aR (inter:Bool)(k c:Nat)(a:k<6)(hc:c<4):(HU inter (4*k+c)).1=AY inter (k:Int) (c:Int)/\sA (HU inter (4*k+c)).2=(k:Int)/\sB (HU inter (4*k+c)).2=(c:Int):=by
 have h1:(4*k+c) / 4=k:=by omega
 have h2:(4*k+c)%4=c:=by omega
 unfold HU sA sB;simp only[h1,h2];exact⟨trivial,by rw[Bp a],trivial⟩
theorem dX {w x:A5}(h:Below w.heap.size w x):w.grownBy x none:=⟨h.os,h.tape,h.output,h.size,fun k a _=>h.block k a⟩
def Qn (x:ByteArray×Sym):Array Value:=#[.agg #[.string x.1,.int .i64 (sA x.2),.int .i64 (sB x.2)]]
def OQ (a b:Nat)(inter:Bool)(f:ByteArray)(W c:A5):Prop:=
 (Ae W a 4 (.bool inter)->Ae c a 4 (.bool inter))/\(Ae W b 9 (.string f)->Ae c b 9 (.string f))
theorem OQ.grown {a b:Nat}{inter:Bool}{f:ByteArray}{W c:A5}{row:Option Nat}(d:W.grownBy c row)(e:some a≠row)(h1:some b≠row):OQ a b inter f W c:=
 ⟨fun h=>h.kept d e,fun h=>h.kept d h1⟩
set_option maxRecDepth 100000 in
theorem lQ (n:Nat)(hn:1<=n)(l y z:Nat)(inter:Bool)(f:ByteArray)(J T:List (ByteArray×Sym)->A5->Prop)
  (W:A5)(Z:AbidesFrom W.heap.size J)
  (hY:∀o x I,J o I->o.length<24->YieldAt Fence.wide (n-1) prog l (Qn x) I fun e u=>
   (e=.returned (.bool true)/\J (o++[x]) u/\OQ y z inter f I u)\/(e=.returned (.bool false)/\T (o++[x]) u))
  (j:Ae W y 4 (.bool inter)) (m:Ae W z 9 (.string f)) (h0:J [] W):
  CallsIn Fence.wide n prog 257 #[.func (.yield l) #[] #[],.pointer (some ⟨y,0,none⟩),.pointer (some ⟨z,0,none⟩)] W fun e u=>(∃v,e=.returned v)/\
   ((∃U,U=EF inter f.data.toList 24/\J U u)\/(∃o,True/\T o u)):=by
 refine callsIn_of_wp func257 rfl trivial ?_ rfl;simp only[ntmps257,Cj,Bh,By,Nat.reduceAdd,Nat.reduceSub,Array.replicate_succ,Array.replicate_zero,List.push_toArray,List.append_toArray,Cc,Mf]
 gi_wp2
 gi_loopw [7] (fun v wr=>∃k:Nat,k<=6/\v=.int .i64 k/\J (EF inter f.data.toList (4*k)) wr/\Ae wr y 4 (.bool inter)/\Ae wr z 9 (.string f)) (fun v _=>6-(intOf v).toNat)
 case atStart=>exact⟨0,by omega,rfl,h0,j,m⟩
 case round=>
  obtain⟨k,hk,rfl,hj,j,m⟩:=hrel;by_cases K:k<6
  ·have c0:=j.cell;obtain⟨a,b,d,g,hl⟩:=aS inter k;have H:∀c:Nat,c<4->∀w,(Instr.index 214 (.agg #[.string a,.string b,.string d,.string g]) (.int .i64 (c:Int))).run prog w=.ok (.string (AY inter k c)) w:=by
    intro c hc w;have hr:AY inter k c=[a,b,d,g][c]?.getD ⟨#[]⟩:=by
     unfold AY;rw[Bc (by omega),hl,Dr]
    obtain⟨i0,i1,i2,i3⟩:=Qp a b d g w;rcases (by omega:c=0\/c=1\/c=2\/c=3) with rfl|rfl|rfl|rfl
    ·rw[hr];exact i0
    ·rw[hr];exact i1
    ·rw[hr];exact i2
    ·rw[hr];exact i3
   have aa:=Dp H;have ab:=Dp (show JY (NB inter k)=.agg #[.string a,.string b,.string d,.string g] by rw[hl];rfl);clear H hl
   gi_wp2
   refine⟨trivial,(callsIn_wide.2 (Wt inter k _)).mono ?_⟩;rintro e w1 ⟨rfl,A⟩;rw[ab.out];have p:=dX A;have B:=Z _ wr w1 none hj p (fun r e=>by cases e);have q:=j.kept p (by simp);have s:=m.kept p (by simp);clear hj j m p A c0
   gi_wp2
   gi_loopw [13] (fun v L=>∃c:Nat,c<=4/\v=.int .i64 c/\J (EF inter f.data.toList (4*k+c)) L/\Ae L y 4 (.bool inter)/\Ae L z 9 (.string f)) (fun v _=>4-(intOf v).toNat)
   case atStart=>exact⟨0,by omega,rfl,B,q,s⟩
   case round=>
    clear B q s;obtain⟨c,hc,rfl,hj,j,m⟩:=hrel;by_cases C:c<4
    ·have H:=aa.out c C;have c1:=m.cell;obtain⟨D,M,N⟩:=aR inter k c K C;obtain⟨x,O⟩:=Ah (HU inter (4*k+c));rw[O] at D M N;have V:Qn x=#[.agg #[.string (AY inter k c),.int .i64 (k:Int),.int .i64 (c:Int)]]:=by unfold Qn;rw[D,M,N]
     obtain⟨r,hr⟩:=Ah (AY inter k c);rw[hr] at H V D;have P:=Dp O;have t:AK x=r.data.toList:=by unfold AK;rw[D]
     have X:=Dp t;have Y:=Uv inter f.data.toList (4*k+c);clear O hr D M N t
     gi_wp2
     refine⟨trivial,(callsIn_wide.2 (Tm r f _)).mono ?_⟩;rintro e w2 ⟨rfl,rfl⟩;cases hpre:f.data.toList.isPrefixOf r.data.toList with
     |true=>
      have Q:=Dp (fC (inter:=inter) (f:=f.data.toList) (i:=4*k+c) (by rw[P.out,X.out];exact hpre));obtain⟨fn,tmps,assign,body,hy,hR⟩:=hY _ x w2 hj (by omega);rw[V] at hy;clear hpre
      gi_wp2
      refine hR.mono ?_;rintro e ac (⟨rfl,R,E⟩|⟨rfl,S⟩)
      ·have F:=E.1 j;have G:=E.2 m
       gi_wp2
       go_roundw
       case rel=>exact⟨c+1,by omega,by go_num,by rw[<-Bz,Q.out,P.out];exact R,F,G⟩
       case measure=>simp[intOf];omega
      ·gi_wp2
       exact J5 (results_none rfl _ _ _) rfl ⟨⟨_,rfl⟩,.inr ⟨_,trivial,S⟩⟩
     |false=>
      have Q:=Dp (tM (inter:=inter) (f:=f.data.toList) (i:=4*k+c) (by rw[P.out,X.out];exact hpre));clear hpre
      gi_wp2
      refine⟨fun _ h=>(by cases h),?_⟩
      gi_wp2
      go_roundw
      case rel=>exact⟨c+1,by omega,by go_num,by rw[<-Bz,Q.out];exact hj,j,m⟩
      case measure=>simp[intOf];omega
    ·obtain rfl:c=4:=by omega
     gi_wp2
     go_roundw
     case rel=>exact⟨k+1,by omega,by go_num,by rw[Nat.mul_add];exact hj,j,m⟩
     case measure=>simp[intOf];omega
  ·obtain rfl:k=6:=by omega
   gi_wp2
   go_end0
   exact⟨⟨_,rfl⟩,.inl ⟨_,rfl,hj⟩⟩
theorem mS (n:Nat)(hn:1<=n)(a b:Nat)(inter:Bool)(f:ByteArray)(w:A5)(c:Ae w a 4 (.bool inter))(d:Ae w b 9 (.string f)):
  SeqStopsK Fence.wide n prog 257 #[.pointer (some ⟨a,0,none⟩),.pointer (some ⟨b,0,none⟩)] Qn (OQ a b inter f) (fun g=>g=EF inter f.data.toList 24) (fun _=>True) 24 w:=
 fun l J h W e i _ j k=>lQ n hn l a b inter f J h W i j ((e.block a c.lt).trans c) ((e.block b d.lt).trans d) k
attribute [local go_sem] Oper.semAt_some
def eK (x:ByteArray×Sym):Obj:=.cells (GB x).toArray 274 (0,0)
theorem tN (W:A5)(x:ByteArray×Sym):∀j u,[Value.string x.1,.int .i64 (sA x.2),.int .i64 (sB x.2)][j]? =some u->(W.alloc (.cells #[.string x.1,.int .i64 (sA x.2),.int .i64 (sB x.2)] 274)).cell? ((⟨W.heap.size,0,none⟩:Addr).add j)=some u:=by
 intro j u hj;rw[Kr,Bo];exact AA (cs:=[Value.string x.1,.int .i64 (sA x.2),.int .i64 (sB x.2)]) (heap_alloc_new W _) hj
set_option maxRecDepth 100000 in
theorem V1 (r u y:Nat)(inter:Bool)(f:ByteArray)(sl:Value)(w:A5)(C:r<=w.heap.size)(M:w.ownsRow r 274 3 sl 0 [])
  (N:∃p c,sl=.slice p 0 c)(E:Ae w u 4 (.bool inter))(F:Ae w y 9 (.string f)):
  Calls prog 243 #[sl,.func (.func 257) #[] #[.pointer (some ⟨u,0,none⟩),.pointer (some ⟨y,0,none⟩)]] w fun e w'=>
   ∃v,e=.returned v/\w'.ownsRow r 274 3 v (EF inter f.data.toList 24).length (DB (EF inter f.data.toList 24))/\Below r w w':=by
 obtain⟨p,c,rfl⟩:=N;obtain⟨i0,hi,O,P,Q⟩:=Dv RW;have ab:=E.lt;have ac:=F.lt;refine(callsIn_wide (n:=3)).1 ?_;refine callsIn_of_wp_marks func243 rfl trivial ?_ rfl
 simp only[ntmps243,Cj,Bh,By,Nat.reduceAdd,Nat.reduceSub,Array.replicate_succ,Array.replicate_zero,List.push_toArray,List.append_toArray,Cc,Mf]
 gi_wp2
 have bS:=Mg w 269 (.slice p 0 c);have z:=E.alloc (.cells #[.slice p 0 c] 269);have A:=F.alloc (.cells #[.slice p 0 c] 269);have G:=M.alloc (.cells #[.slice p 0 c] 269);have H:Below r w (w.alloc (.cells #[.slice p 0 c] 269)):=(Dq _ w).alloc C _;have R:(w.alloc (.cells #[.slice p 0 c] 269)).heap.size=w.heap.size+1:=by simp
 obtain⟨ad,I⟩:=Ah (w.alloc (.cells #[.slice p 0 c] 269));rw[I] at bS z A G H R ⊢;clear I;refine wpIn_rangeFunc_ownH rfl (by omega) (gf:=257) (lb:=#[.pointer (some ⟨u,0,none⟩),.pointer (some ⟨y,0,none⟩)]) rfl trivial (enters_of func257 (by kernel_rfl) rfl)
  (mS _ (by omega) u y inter f ad z A) (fun h k=>⟨fun x=>k.1 (h.1 x),fun x=>k.2 (h.2 x)⟩)
  (fun W l o o' hl _ _ _=>OQ.grown (grownBy_putObj' W l o') (by intro e;injection e with e;omega) (by intro e;injection e with e;omega)) (Dq _ _) (fun _=>rfl)
  (fun a W=>((∃v,Ae W w.heap.size 269 v/\W.ownsRow r 274 3 v a.length (DB a)/\True)/\Ae W u 4 (.bool inter)/\Ae W y 9 (.string f))/\Below r w W)
  (fun _ _ _=>False)
  (OwnFrom.and (OwnFrom.and (Own.from (holdsRow_own r w.heap.size 269 274 3 (fun a=>a.length) DB (fun _ _=>True)) _) (OwnFrom.and (Own.from (boxed_own _ _ _) _) (Own.from (boxed_own _ _ _) _))) (ownFrom_below C (by omega)))
  (fun _ _ _ _ _ hs _ _=>hs)
  ⟨⟨⟨_,bS,G,trivial⟩,z,A⟩,H⟩
  (fun x S W=>∃s,W.heap[s]? =some (eK x)/\S = {tmps:=#[.slice p 0 c,.func (.func 257) #[] #[.pointer (some ⟨u,0,none⟩),.pointer (some ⟨y,0,none⟩)],.pointer (some ⟨w.heap.size,0,none⟩),undef,.slice none 0 0,.pointer (some ⟨s,0,none⟩),.func (.func 257) #[] #[.pointer (some ⟨u,0,none⟩),.pointer (some ⟨y,0,none⟩)],.agg #[.string x.1,.int .i64 (sA x.2),.int .i64 (sB x.2)],undef,undef,undef,undef,undef],defers:=[]})
  (fun x S _ X Y row hs hg hr=>by
   obtain⟨s,h1,h2⟩:=hs;refine⟨s,(hg.block s (Ed.1 h1).1 (fun e=>?_)).trans h1,h2⟩;obtain⟨_,o,ho,hc⟩:=hr s e.symm;rw[h1] at ho;cases ho;cases hc)
  ?assign ?body ?done ?stop
 case assign=>
  rintro l a x W K ⟨⟨⟨v,i,b,_⟩,d,g⟩,j⟩ J;unfold Qn
  gi_wp2
  exact J _ _ ((KeepsOthers.alloc _ _).from _) (OQ.grown (World.grownBy_alloc W _ none) (by simp) (by simp)) ⟨⟨⟨v,i.alloc _,b.alloc _,trivial⟩,d.alloc _,g.alloc _⟩,j.alloc (Eg C j.size) _⟩ ⟨W.heap.size,heap_alloc_new W _,rfl⟩
 case body=>
  rintro l a x S W hl _ ⟨⟨⟨v,i,b,_⟩,d,g⟩,j⟩ ⟨s,B,rfl⟩ ae;have cS:=i.cell;have fS:=i.frozen;have x0:W.cell? ⟨s,0,none⟩=some (.string x.1):=AA B rfl;have x1:W.cell? ⟨s,1,none⟩=some (.int .i64 (sA x.2)):=AA B rfl;have x2:W.cell? ⟨s,2,none⟩=some (.int .i64 (sB x.2)):=AA B rfl;have T:r<=W.heap.size:=Eg C j.size
  gi_wp2_with (gi_at_builtin;refine wpListIn_append_own _ rfl _ _ 269 rfl r 274 i0 _ 3 32 underlying269 hi O P Q rfl (by decide) _ _ _ rfl (b.alloc _) ⟨W.heap.size,0,none⟩ 1 1 [.string x.1,.int .i64 (sA x.2),.int .i64 (sB x.2)] rfl rfl (tN W x) (UA x) (by unfold maxLen;omega) (by omega) (by simp;omega) ?_;intro v' w1 q m _;obtain⟨g',t,rfl⟩:=ownsRow_succ q;obtain⟨L,U,V,Z,aa⟩:=i.appended (by decide) b T C q m;have af:=L.cell;have ag:=L.frozen)
  have n0:=((d.alloc (.cells #[.string x.1,.int .i64 (sA x.2),.int .i64 (sB x.2)] 274)).kept m (d.not_row (by decide) b)).other (B':=w.heap.size) (by omega) (.slice (some ⟨g',0,none⟩) (a.length+1) t)
  have n1:=((g.alloc (.cells #[.string x.1,.int .i64 (sA x.2),.int .i64 (sB x.2)] 274)).kept m (g.not_row (by decide) b)).other (B':=w.heap.size) (by omega) (.slice (some ⟨g',0,none⟩) (a.length+1) t);refine⟨Z.from _,⟨fun _=>n0,fun _=>n1⟩,⟨⟨⟨_,U,?_,trivial⟩,n0,n1⟩,j.trans aa⟩⟩;rw[B9,Yqn];exact V
 case done=>
  rintro D zs W hD rfl ⟨⟨⟨v,i,b,_⟩,d,g⟩,j⟩ J;have cS:=i.cell
  gi_wp2
  refine⟨by simp,.inl ⟨_,_,rfl,run_takeDeferred J,?_⟩⟩;exact⟨_,results_tmp rfl _ _ _,_,rfl,ownsRow_putObj b _ J rfl,j.trans (belowK_b (w:=w) C W D _ _ (by omega) J rfl rfl)⟩
 case stop=>
  rintro D c a W _ _ h _;exact h.elim
end Go.Proofs.YtjjmalchelniiaaGreatDoor