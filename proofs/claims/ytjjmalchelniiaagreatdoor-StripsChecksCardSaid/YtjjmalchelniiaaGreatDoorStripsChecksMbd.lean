/- StripsChecks, 30. No condition. -/
import Derived.Test.YtjjmalchelniiaaGreatDoorStripsChecksMs
import Derived.Test.YtjjmalchelniiaaGreatDoorStripsChecksMbc
import Derived.RangeFuncNested
import Derived.RangeFuncBound
import Derived.Shelf.RegionOpen
import Derived.OwnWalkIn
import Derived.LoopNIn
import Derived.LoopIn
open Go.Proofs.Tryz
open Go renaming World->A5,Boxed->Af
set_option maxHeartbeats 4000000
namespace Go.Proofs.YtjjmalchelniiaaGreatDoor
open Go.RowKit Go.Lib
attribute [local go_sem] Oper.semAt_some
abbrev Ma:=@List.cons_append
abbrev Mb:=@Boxed.new
def HN (inter:Bool)(i:Nat):ByteArray×Sym:=(B1 inter ((i / 4:Nat):Int) ((i%4:Nat):Int),(⟨i / 4%6,Nat.mod_lt _ (by decide)⟩,⟨i%4,Nat.mod_lt _ (by decide)⟩))
def DX (inter:Bool)(f:List UInt8)(i:Nat):List (ByteArray×Sym):=((List.range i).map (HN inter)).filter fun x=>f.isPrefixOf (AH x)
theorem fP {inter:Bool}{f:List UInt8}{i:Nat}(h:f.isPrefixOf (AH (HN inter i))=true):DX inter f (i+1)=DX inter f i++[HN inter i]:=by
 unfold DX;rw[Ct,Ck,List.filter_append];simp[h]
theorem sC {inter:Bool}{f:List UInt8}{i:Nat}(h:f.isPrefixOf (AH (HN inter i))=false):DX inter f (i+1)=DX inter f i:=by
 unfold DX;rw[Ct,Ck,List.filter_append];simp[h]
theorem Rl (inter:Bool)(f:List UInt8)(i:Nat):(DX inter f i).length<=i:=by
 unfold DX;refine Ea (List.length_filter_le _ _) ?_;simp
theorem Wk (inter:Bool)(k c:Nat)(a:k<6)(hc:c<4):(HN inter (4*k+c)).1=B1 inter (k:Int) (c:Int)/\sA (HN inter (4*k+c)).2=(k:Int)/\sB (HN inter (4*k+c)).2=(c:Int):=by
 have h1:(4*k+c) / 4=k:=by omega
 have h2:(4*k+c)%4=c:=by omega
 unfold HN sA sB;simp only[h1,h2];exact⟨trivial,by rw[Bn a],trivial⟩
theorem lI {w x:A5}(h:Below w.heap.size w x):w.grownBy x none:=⟨h.os,h.tape,h.output,h.size,fun k a _=>h.block k a⟩
def Pz (x:ByteArray×Sym):Array Value:=#[.agg #[.string x.1,.int .i64 (sA x.2),.int .i64 (sB x.2)]]
def NH (a b:Nat)(inter:Bool)(f:ByteArray)(W c:A5):Prop:=
 (Af W a 4 (.bool inter)->Af c a 4 (.bool inter))/\(Af W b 9 (.string f)->Af c b 9 (.string f))
theorem NH.grown {a b:Nat}{inter:Bool}{f:ByteArray}{W c:A5}{row:Option Nat}(d:W.grownBy c row)(e:some a≠row)(h1:some b≠row):NH a b inter f W c:=
 ⟨fun h=>h.kept d e,fun h=>h.kept d h1⟩
set_option maxRecDepth 100000 in
theorem dV (n:Nat)(hn:1<=n)(l y z:Nat)(inter:Bool)(f:ByteArray)(J T:List (ByteArray×Sym)->A5->Prop)
  (W:A5)(Z:AbidesFrom W.heap.size J)
  (hY:∀o x I,J o I->o.length<24->YieldAt Fence.wide (n-1) prog l (Pz x) I fun e u=>
   (e=.returned (.bool true)/\J (o++[x]) u/\NH y z inter f I u)\/(e=.returned (.bool false)/\T (o++[x]) u))
  (j:Af W y 4 (.bool inter)) (m:Af W z 9 (.string f)) (h0:J [] W):
  CallsIn Fence.wide n prog 257 #[.func (.yield l) #[] #[],.pointer (some ⟨y,0,none⟩),.pointer (some ⟨z,0,none⟩)] W fun e u=>(∃v,e=.returned v)/\
   ((∃U,U=DX inter f.data.toList 24/\J U u)\/(∃o,True/\T o u)):=by
 refine callsIn_of_wp func257 rfl trivial ?_ rfl;simp only[ntmps257,Cg,Bi,By,Nat.reduceAdd,Nat.reduceSub,Array.replicate_succ,Array.replicate_zero,List.push_toArray,List.append_toArray,Ce,Ma]
 gi_wp2
 gi_loopw [7] (fun v wr=>∃k:Nat,k<=6/\v=.int .i64 k/\J (DX inter f.data.toList (4*k)) wr/\Af wr y 4 (.bool inter)/\Af wr z 9 (.string f)) (fun v _=>6-(intOf v).toNat)
 case atStart=>exact⟨0,by omega,rfl,h0,j,m⟩
 case round=>
  obtain⟨k,hk,rfl,hj,j,m⟩:=hrel;by_cases K:k<6
  ·have c0:=j.cell;obtain⟨a,b,d,g,hl⟩:=Uq inter k;have H:∀c:Nat,c<4->∀w,(Instr.index 214 (.agg #[.string a,.string b,.string d,.string g]) (.int .i64 (c:Int))).run prog w=.ok (.string (B1 inter k c)) w:=by
    intro c hc w;have hr:B1 inter k c=[a,b,d,g][c]?.getD ⟨#[]⟩:=by
     unfold B1;rw[Bc (by omega),hl,Do]
    obtain⟨i0,i1,i2,i3⟩:=Pj a b d g w;rcases (by omega:c=0\/c=1\/c=2\/c=3) with rfl|rfl|rfl|rfl
    ·rw[hr];exact i0
    ·rw[hr];exact i1
    ·rw[hr];exact i2
    ·rw[hr];exact i3
   have aa:=Dl H;have ab:=Dl (show JE (MH inter k)=.agg #[.string a,.string b,.string d,.string g] by rw[hl];rfl);clear H hl
   gi_wp2
   refine⟨trivial,(callsIn_wide.2 (WQ inter k _)).mono ?_⟩;rintro e w1 ⟨rfl,A⟩;rw[ab.out];have p:=lI A;have B:=Z _ wr w1 none hj p (fun r e=>by cases e);have q:=j.kept p (by simp);have s:=m.kept p (by simp);clear hj j m p A c0
   gi_wp2
   gi_loopw [13] (fun v L=>∃c:Nat,c<=4/\v=.int .i64 c/\J (DX inter f.data.toList (4*k+c)) L/\Af L y 4 (.bool inter)/\Af L z 9 (.string f)) (fun v _=>4-(intOf v).toNat)
   case atStart=>exact⟨0,by omega,rfl,B,q,s⟩
   case round=>
    clear B q s;obtain⟨c,hc,rfl,hj,j,m⟩:=hrel;by_cases C:c<4
    ·have H:=aa.out c C;have c1:=m.cell;obtain⟨D,M,N⟩:=Wk inter k c K C;obtain⟨x,O⟩:=Ai (HN inter (4*k+c));rw[O] at D M N;have V:Pz x=#[.agg #[.string (B1 inter k c),.int .i64 (k:Int),.int .i64 (c:Int)]]:=by unfold Pz;rw[D,M,N]
     obtain⟨r,hr⟩:=Ai (B1 inter k c);rw[hr] at H V D;have P:=Dl O;have t:AH x=r.data.toList:=by unfold AH;rw[D]
     have X:=Dl t;have Y:=Rl inter f.data.toList (4*k+c);clear O hr D M N t
     gi_wp2
     refine⟨trivial,(callsIn_wide.2 (Rz r f _)).mono ?_⟩;rintro e w2 ⟨rfl,rfl⟩;cases hpre:f.data.toList.isPrefixOf r.data.toList with
     |true=>
      have Q:=Dl (fP (inter:=inter) (f:=f.data.toList) (i:=4*k+c) (by rw[P.out,X.out];exact hpre));obtain⟨fn,tmps,assign,body,hy,hR⟩:=hY _ x w2 hj (by omega);rw[V] at hy;clear hpre
      gi_wp2
      refine hR.mono ?_;rintro e ac (⟨rfl,R,E⟩|⟨rfl,S⟩)
      ·have F:=E.1 j;have G:=E.2 m
       gi_wp2
       go_roundw
       case rel=>exact⟨c+1,by omega,by go_num,by rw[<-Bz,Q.out,P.out];exact R,F,G⟩
       case measure=>simp[intOf];omega
      ·gi_wp2
       exact J7 (results_none rfl _ _ _) rfl ⟨⟨_,rfl⟩,.inr ⟨_,trivial,S⟩⟩
     |false=>
      have Q:=Dl (sC (inter:=inter) (f:=f.data.toList) (i:=4*k+c) (by rw[P.out,X.out];exact hpre));clear hpre
      gi_wp2
      refine⟨fun _ h=>(by cases h),?_⟩
      gi_wp2
      go_roundw
      case rel=>exact⟨c+1,by omega,by go_num,by rw[<-Bz,Q.out];exact hj,j,m⟩
      case measure=>simp[intOf];omega
    ·obtain rfl:c=4:=by omega
     gi_wp2
     go_roundw
     case rel=>exact⟨k+1,by omega,by go_num,by rw[Nat.mul_add];exact hj,j,m⟩
     case measure=>simp[intOf];omega
  ·obtain rfl:k=6:=by omega
   gi_wp2
   go_end0
   exact⟨⟨_,rfl⟩,.inl ⟨_,rfl,hj⟩⟩
theorem pC (n:Nat)(hn:1<=n)(a b:Nat)(inter:Bool)(f:ByteArray)(w:A5)(c:Af w a 4 (.bool inter))(d:Af w b 9 (.string f)):
  SeqStopsK Fence.wide n prog 257 #[.pointer (some ⟨a,0,none⟩),.pointer (some ⟨b,0,none⟩)] Pz (NH a b inter f) (fun g=>g=DX inter f.data.toList 24) (fun _=>True) 24 w:=
 fun l J h W e i _ j k=>dV n hn l a b inter f J h W i j ((e.block a c.lt).trans c) ((e.block b d.lt).trans d) k
attribute [local go_sem] Oper.semAt_some
def lA (x:ByteArray×Sym):Obj:=.cells (FV x).toArray 274 (0,0)
theorem nA (W:A5)(x:ByteArray×Sym):∀j u,[Value.string x.1,.int .i64 (sA x.2),.int .i64 (sB x.2)][j]? =some u->(W.alloc (.cells #[.string x.1,.int .i64 (sA x.2),.int .i64 (sB x.2)] 274)).cell? ((⟨W.heap.size,0,none⟩:Addr).add j)=some u:=by
 intro j u hj;rw[Lp,Br];exact A2 (cs:=[Value.string x.1,.int .i64 (sA x.2),.int .i64 (sB x.2)]) (heap_alloc_new W _) hj
set_option maxRecDepth 100000 in
theorem Ua (r u y:Nat)(inter:Bool)(f:ByteArray)(sl:Value)(w:A5)(C:r<=w.heap.size)(M:w.ownsRow r 274 3 sl 0 [])
  (N:∃p c,sl=.slice p 0 c)(E:Af w u 4 (.bool inter))(F:Af w y 9 (.string f)):
  Calls prog 243 #[sl,.func (.func 257) #[] #[.pointer (some ⟨u,0,none⟩),.pointer (some ⟨y,0,none⟩)]] w fun e w'=>
   ∃v,e=.returned v/\w'.ownsRow r 274 3 v (DX inter f.data.toList 24).length (CV (DX inter f.data.toList 24))/\Below r w w':=by
 obtain⟨p,c,rfl⟩:=N;obtain⟨i0,hi,O,P,Q⟩:=Dr Tn;have ab:=E.lt;have ac:=F.lt;refine(callsIn_wide (n:=3)).1 ?_;refine callsIn_of_wp_marks func243 rfl trivial ?_ rfl
 simp only[ntmps243,Cg,Bi,By,Nat.reduceAdd,Nat.reduceSub,Array.replicate_succ,Array.replicate_zero,List.push_toArray,List.append_toArray,Ce,Ma]
 gi_wp2
 have bS:=Mb w 269 (.slice p 0 c);have z:=E.alloc (.cells #[.slice p 0 c] 269);have A:=F.alloc (.cells #[.slice p 0 c] 269);have G:=M.alloc (.cells #[.slice p 0 c] 269);have H:Below r w (w.alloc (.cells #[.slice p 0 c] 269)):=(Dm _ w).alloc C _;have R:(w.alloc (.cells #[.slice p 0 c] 269)).heap.size=w.heap.size+1:=by simp
 obtain⟨ad,I⟩:=Ai (w.alloc (.cells #[.slice p 0 c] 269));rw[I] at bS z A G H R ⊢;clear I;refine wpIn_rangeFunc_ownH rfl (by omega) (gf:=257) (lb:=#[.pointer (some ⟨u,0,none⟩),.pointer (some ⟨y,0,none⟩)]) rfl trivial (enters_of func257 (by kernel_rfl) rfl)
  (pC _ (by omega) u y inter f ad z A) (fun h k=>⟨fun x=>k.1 (h.1 x),fun x=>k.2 (h.2 x)⟩)
  (fun W l o o' hl _ _ _=>NH.grown (grownBy_putObj' W l o') (by intro e;injection e with e;omega) (by intro e;injection e with e;omega)) (Dm _ _) (fun _=>rfl)
  (fun a W=>((∃v,Af W w.heap.size 269 v/\W.ownsRow r 274 3 v a.length (CV a)/\True)/\Af W u 4 (.bool inter)/\Af W y 9 (.string f))/\Below r w W)
  (fun _ _ _=>False)
  (OwnFrom.and (OwnFrom.and (Own.from (holdsRow_own r w.heap.size 269 274 3 (fun a=>a.length) CV (fun _ _=>True)) _) (OwnFrom.and (Own.from (boxed_own _ _ _) _) (Own.from (boxed_own _ _ _) _))) (ownFrom_below C (by omega)))
  (fun _ _ _ _ _ hs _ _=>hs)
  ⟨⟨⟨_,bS,G,trivial⟩,z,A⟩,H⟩
  (fun x S W=>∃s,W.heap[s]? =some (lA x)/\S = {tmps:=#[.slice p 0 c,.func (.func 257) #[] #[.pointer (some ⟨u,0,none⟩),.pointer (some ⟨y,0,none⟩)],.pointer (some ⟨w.heap.size,0,none⟩),undef,.slice none 0 0,.pointer (some ⟨s,0,none⟩),.func (.func 257) #[] #[.pointer (some ⟨u,0,none⟩),.pointer (some ⟨y,0,none⟩)],.agg #[.string x.1,.int .i64 (sA x.2),.int .i64 (sB x.2)],undef,undef,undef,undef,undef],defers:=[]})
  (fun x S _ X Y row hs hg hr=>by
   obtain⟨s,h1,h2⟩:=hs;refine⟨s,(hg.block s (Dy.1 h1).1 (fun e=>?_)).trans h1,h2⟩;obtain⟨_,o,ho,hc⟩:=hr s e.symm;rw[h1] at ho;cases ho;cases hc)
  ?assign ?body ?done ?stop
 case assign=>
  rintro l a x W K ⟨⟨⟨v,i,b,_⟩,d,g⟩,j⟩ J;unfold Pz
  gi_wp2
  exact J _ _ ((KeepsOthers.alloc _ _).from _) (NH.grown (World.grownBy_alloc W _ none) (by simp) (by simp)) ⟨⟨⟨v,i.alloc _,b.alloc _,trivial⟩,d.alloc _,g.alloc _⟩,j.alloc (Ea C j.size) _⟩ ⟨W.heap.size,heap_alloc_new W _,rfl⟩
 case body=>
  rintro l a x S W hl _ ⟨⟨⟨v,i,b,_⟩,d,g⟩,j⟩ ⟨s,B,rfl⟩ ae;have cS:=i.cell;have fS:=i.frozen;have x0:W.cell? ⟨s,0,none⟩=some (.string x.1):=A2 B rfl;have x1:W.cell? ⟨s,1,none⟩=some (.int .i64 (sA x.2)):=A2 B rfl;have x2:W.cell? ⟨s,2,none⟩=some (.int .i64 (sB x.2)):=A2 B rfl;have T:r<=W.heap.size:=Ea C j.size
  gi_wp2_with (gi_at_builtin;refine wpListIn_append_own _ rfl _ _ 269 rfl r 274 i0 _ 3 32 underlying269 hi O P Q rfl (by decide) _ _ _ rfl (b.alloc _) ⟨W.heap.size,0,none⟩ 1 1 [.string x.1,.int .i64 (sA x.2),.int .i64 (sB x.2)] rfl rfl (nA W x) (S1 x) (by unfold maxLen;omega) (by omega) (by simp;omega) ?_;intro v' w1 q m _;obtain⟨g',t,rfl⟩:=ownsRow_succ q;obtain⟨L,U,V,Z,aa⟩:=i.appended (by decide) b T C q m;have af:=L.cell;have ag:=L.frozen)
  have n0:=((d.alloc (.cells #[.string x.1,.int .i64 (sA x.2),.int .i64 (sB x.2)] 274)).kept m (d.not_row (by decide) b)).other (B':=w.heap.size) (by omega) (.slice (some ⟨g',0,none⟩) (a.length+1) t)
  have n1:=((g.alloc (.cells #[.string x.1,.int .i64 (sA x.2),.int .i64 (sB x.2)] 274)).kept m (g.not_row (by decide) b)).other (B':=w.heap.size) (by omega) (.slice (some ⟨g',0,none⟩) (a.length+1) t);refine⟨Z.from _,⟨fun _=>n0,fun _=>n1⟩,⟨⟨⟨_,U,?_,trivial⟩,n0,n1⟩,j.trans aa⟩⟩;rw[B9,qM];exact V
 case done=>
  rintro D zs W hD rfl ⟨⟨⟨v,i,b,_⟩,d,g⟩,j⟩ J;have cS:=i.cell
  gi_wp2
  refine⟨by simp,.inl ⟨_,_,rfl,run_takeDeferred J,?_⟩⟩;exact⟨_,results_tmp rfl _ _ _,_,rfl,ownsRow_putObj b _ J rfl,j.trans (belowK_b (w:=w) C W D _ _ (by omega) J rfl rfl)⟩
 case stop=>
  rintro D c a W _ _ h _;exact h.elim
end Go.Proofs.YtjjmalchelniiaaGreatDoor