/- StripsWrites, 44. No condition. -/
import Derived.Test.YtjjmalchelniiaaGreatDoorStripsWritesMa
import Derived.Test.YtjjmalchelniiaaGreatDoorStripsWritesMi
import Derived.Test.YtjjmalchelniiaaGreatDoorStripsWritesMn
import Derived.Test.YtjjmalchelniiaaGreatDoorStripsWritesMo
import Derived.Test.YtjjmalchelniiaaGreatDoorStripsWritesMx
import Derived.Test.YtjjmalchelniiaaGreatDoorStripsWritesMbk
import Derived.Test.YtjjmalchelniiaaGreatDoorStripsWritesMbo
import Derived.Test.YtjjmalchelniiaaGreatDoorStripsWritesMbq
open Go.Proofs.Tryz
open Go renaming World->A5,Value->A0,Addr->Aa,Calls->A9
set_option maxHeartbeats 4000000
namespace Go.Proofs.YtjjmalchelniiaaGreatDoor
open Go.RowKit Go.Lib
abbrev Oa:=@underlying39
abbrev Ob:=@List.mem_flatMap
abbrev Oc:=@List.flatMap_append
abbrev Od:=@underlying78
abbrev Oe:=@underlying44
def HM (S:ShP)(i:Nat):List Cel:=(S.rows.take i).flatMap (·.cels)
theorem Zd (S:ShP){n:Nat}(h:S.rows.length=n):HM S n=C2 S:=by subst h;rw[HM,J1];rfl
theorem Vf (S:ShP){i:Nat}(h:i<S.rows.length):HM S (i+1)=HM S i++S.rows[i].cels:=by
 unfold HM;rw[Be h,Oc];simp
theorem Y74 (S:ShP)(i:Nat):(HM S i).length<=(C2 S).length:=by
 have h:C2 S=HM S i++(S.rows.drop i).flatMap (·.cels):=by
  unfold HM C2;rw[<-Oc,Bs]
 rw[h,B9];omega
theorem eW:(prog.info? 77).map (fun i=>(i.zero.map (·.cells.size),i.size,i.bytes))=some (some 18,18,240):=by kernel_rfl
theorem X4:∃i z,prog.info? 77=some i/\i.zero=some z/\z.cells.size=18/\i.size=18/\i.bytes=240:=by
 have h:=eW;generalize prog.info? 77=x at h
 match x,h with
 |some i,h=>
  rw[Lm] at h;injection h with h;injection h with h1 h2;injection h2 with h2 h3;cases hz:i.zero with
  |none=>rw[hz] at h1;cases h1
  |some z=>
   rw[hz] at h1;injection h1 with h1;exact⟨i,z,rfl,hz,h1,h2,h3⟩
theorem CD.each {α:Type}{c:Nat}{V:A5->α->List A0->Prop}{w:A5}{q:Option Aa}{l:List α}(h:CD c V w q l)(d:0<l.length):
  ∃b o,q=some ⟨b,o,none⟩/\b<w.heap.size/\∀i,(h:i<l.length)->∃vs,V w l[i] vs/\∀x,Below w.heap.size w x->∀(j:Nat) v,vs[j]? =some v->x.cell? ⟨b,o+i*c+j,none⟩=some v:=by
 rcases h with rfl|⟨b,o,rfl,hl,h⟩
 ·cases d
 ·refine⟨b,o,rfl,hl,fun i hi=>?_⟩;obtain⟨vs,h1,h2⟩:=h i hi;exact⟨vs,h1,fun x e j v hj=>(G3 (a:=⟨b,o+i*c+j,none⟩) (e.block b hl)).trans (h2 j v hj)⟩
theorem WO {α:Type}{f:α->Bool}{l:List α}{j:Nat}(hj:j<l.length)(h:(l.take j).all f=true)(h2:f l[j]=true):(l.take (j+1)).all f=true:=by
 rw[Be hj,E9,h,Gs,h2]
 rfl
theorem aL {α:Type}{f:α->Bool}{l:List α}{j:Nat}(hj:j<l.length)(h2:f l[j]=false):l.all f=false:=by
 rw[Hs];exact⟨l[j],Bn hj,by rw[h2];decide⟩
theorem MU {w:A5}{q:Option Aa}{l:List RowP}(h:H0 w q l)(d:0<l.length):
  ∃b o,q=some ⟨b,o,none⟩/\b<w.heap.size/\∀i,(hi:i<l.length)->∃(r:Option Aa) (cap:Nat),(r=none->cap=0)/\l[i].cels.length<=maxLen/\LS w r l[i].cels/\
   ∀x,Below w.heap.size w x->x.cell? ⟨b,o+i*4,none⟩=some (.bool l[i].head)/\x.cell? ⟨b,o+i*4+1,none⟩=some (.int .i64 l[i].id)/\x.cell? ⟨b,o+i*4+2,none⟩=some (.int .i64 l[i].quant)/\x.cell? ⟨b,o+i*4+3,none⟩=some (.slice r l[i].cels.length cap):=by
 rcases h with rfl|⟨b,o,rfl,hl,h⟩
 ·cases d
 ·refine⟨b,o,rfl,hl,fun i hi=>?_⟩;obtain⟨vs,⟨r,cap,rfl,e,hn,hc⟩,h2⟩:=h i hi;have at_:∀x,Below w.heap.size w x->∀(j:Nat) v,[Value.bool l[i].head,.int .i64 l[i].id,.int .i64 l[i].quant,.slice r l[i].cels.length cap][j]? =some v->x.cell? ⟨b,o+i*4+j,none⟩=some v:=
   fun x c j v hj=>(G3 (a:=⟨b,o+i*4+j,none⟩) (c.block b hl)).trans (h2 j v hj)
  exact⟨r,cap,e,hn,hc,fun x c=>⟨at_ x c 0 _ rfl,at_ x c 1 _ rfl,at_ x c 2 _ rfl,at_ x c 3 _ rfl⟩⟩
set_option maxRecDepth 100000 in
theorem eB (S:ShP)(p b:Option Aa)(ca cb:Nat)(w:A5)(hn:S.rows.length<=maxLen)(hr:H0 w b S.rows)(hm:(C2 S).length<=1048576):
  A9 prog 51 #[.agg (Bx S.hd (.slice p S.hd.supp.length ca) (.slice b S.rows.length cb) S.zeros).toArray] w fun e K=>∃v,e=.returned v/\AX 18 77 (F5 w) K w.heap.size v (C2 S)/\Below w.heap.size w K:=by
 unfold maxLen at hn;obtain⟨n,d⟩:=Ah S.rows.length;rw[d] at hn ⊢;obtain⟨zs,y⟩:=Ah (Bx S.hd (.slice p S.hd.supp.length ca) (.slice b n cb) S.zeros);have N:zs[6]? =some (.slice b n cb):=by rw[<-y];rfl
 rw[y];obtain⟨B,z⟩:=Ah w.heap.size;obtain⟨A,a⟩:=Ah (w.alloc (.cells zs.toArray 39 (0,0)));have C:A.heap[B]? =some (.cells zs.toArray 39 (0,0)):=by rw[<-a,<-z];exact heap_alloc_new w _
 have D:Below w.heap.size w A:=by rw[<-a];exact(Dq _ w).alloc (Ba _) _
 have O:A.heap.size=B+1:=by rw[<-a,<-z];simp
 have E:=Dp a;have aa:=Dp z;have L:=Dp d;have P:=Dp hr;have F:=Dp (Zd S d);have j:=Dp fun i=>Eg (Y74 S i) hm;clear a y d hr hm
 go_enter func51,ntmps51
 go_wp2
 rw[E.out]
 go_loopw [3,4] (fun v t wr=>∃i:Nat,t=.int .i64 (i:Int)/\i<=n/\AX 18 77 (F5 w) wr (B+1) v (HM S i)/\Below w.heap.size w wr/\wr.heap[B]? =some (.cells zs.toArray 39 (0,0))/\B+1<=wr.heap.size) (fun _ t _=>n-(intOf t).toNat)
 case atStart=>exact⟨0,rfl,Ds _,AX.nil ..,D,C,by omega⟩
 case round=>
  obtain⟨i,rfl,hi,ho,x,M,hs⟩:=hrel;have k6:wr.cell? ⟨B,6,none⟩=some (.slice b n cb):=AA M N;by_cases G:i<n
  ·have t1:decide ((i:Int)<(n:Int))=true:=by simp;omega
   obtain⟨b1,o1,rfl,Q,o⟩:=MU P.out (by rw[L.out];omega);have s:i<S.rows.length:=by rw[L.out];exact G
   obtain⟨r,cap,R,T,f,u⟩:=o i s;obtain⟨-,-,-,c3⟩:=u _ x;have H:=Vf S s;have U:=j.out (i+1);rw[H,B9] at U;have W:=Dp H;have I:=CD.const f x;obtain⟨ti,tz,X,Y,Z,j3,j4⟩:=X4;clear u f o H;generalize S.rows[i].cels=m at *
   go_wp2_with (at_builtin;refine qG (V:=fun _=>F5 w) (w0:=w) (c:=18) (bytes:=240) (base:=B+1) (v:=u3) (l:=HM S i) (m:=m) (q:=r) (cap:=cap) rfl rfl Oe X Y Z j3 j4 (by decide) ?d1 ?d2 R ho I (fun _ _ h=>h) (fun _ _ h=>h.shape) ?d3 ?d4 ?d5 ?_;(case d1=>kernel_rfl);(case d2=>kernel_rfl);(case d3=>(unfold maxLen;omega));(case d4=>omega);(case d5=>exact hs);intro v2 w2 J g)
   go_roundw
   case rel=>exact⟨i+1,by go_num,by omega,by rw[W.out];exact J,x.grown g (by omega) (fun k hk=>by have:=ho.fresh k hk;omega),(g.block B (by omega) (fun e=>by have:=ho.fresh B e.symm;omega)).trans M,Eg hs g.size⟩
   case measure=>simp[intOf];omega
  ·obtain rfl:n=i:=by omega
   have t1:decide ((n:Int)<(n:Int))=false:=by simp
   rw[F.out] at ho
   go_wp2
   go_ret
   exact⟨_,rfl,ho.less (by omega),x⟩
set_option maxRecDepth 100000 in
theorem Sj (a b c d:Int)(w:A5):(Instr.index 81 (.agg #[.int .i64 a,.int .i64 b,.int .i64 c,.int .i64 d]) (.int .i64 3)).run prog w=.ok (.int .i64 d) w/\
  (Instr.index 81 (.agg #[.int .i64 a,.int .i64 b,.int .i64 c,.int .i64 d]) (.int .i64 2)).run prog w=.ok (.int .i64 c) w:=by
 obtain⟨j,hj⟩:=QF;have e:(0:Int)<=3/\(3:Int)<((4:Nat):Int):=by omega
 have h1:(0:Int)<=2/\(2:Int)<((4:Nat):Int):=by omega
 constructor
 ·simp only[Instr.index,asIntOf,Aq,Av,Ao,Iw H7,Bc e,run_sizeOf w hj,Pt,Gw]
  rfl
 ·simp only[Instr.index,asIntOf,Aq,Av,Ao,Iw H7,Bc h1,run_sizeOf w hj,Pt,Gw]
  rfl
theorem TG {P:Program}(w:A5)(b o:Nat)(ty:TypeId)(cs:List A0)(d:TypeDesc)(h:∀(j:Nat) v,cs[j]? =some v->w.cell? ⟨b,o+j,none⟩=some v)
  (c:P.underlying ty=some d)(hd:(match d with|.struct _|.array _ _=>true|_=>false)=true)(hi:(P.info? ty).map (·.size)=some cs.length):
  (loadVar ty ⟨b,o,none⟩).run P w=.ok (.agg cs.toArray) w:=by
 have hl:(loadCells ⟨b,o,none⟩ cs.length).run P w=.ok cs.toArray w:=run_loadCells_list (P:=P) w ⟨b,o,none⟩ cs (fun j v hv=>by rw[Gc];exact h j v hv);cases hq:P.info? ty with
 |none=>simp[hq] at hi
 |some i=>
  have hs:i.size=cs.length:=by simpa [hq] using hi
  have a:(isAgg ty).run P w=.ok true w:=by
   unfold isAgg;rw[Aq,Iw c w];cases d <;> simp_all
  simp[loadVar,Sem.run_bind,a,sizeOf,typeInfo,hq,hs,hl]
theorem Pw (k:Int):-10000<=BI k/\BI k<=10000:=by
 unfold BI;rcases K1 k with rfl|rfl|rfl|rfl|rfl|rfl|⟨h,hv⟩
 case _|_|_|_|_|_=>decide +kernel
 unfold BP;rw[hv];simp
theorem eM (k:Int):BI k=(acr k:Int)*BP k:=by unfold BI;rw[(HH k).1]
set_option maxRecDepth 100000 in
theorem Y4i (S:ShP)(p b:Option Aa)(ca cb:Nat)(i:Nat)(w:A5)(hi:i<S.rows.length)(hn:S.rows.length<=maxLen)(hr:H0 w b S.rows)(hc:∀c∈S.rows[i].cels,∀k,k<6->(c.ev k).length<=1048576):
  A9 prog 50 #[.agg (Bx S.hd (.slice p S.hd.supp.length ca) (.slice b S.rows.length cb) S.zeros).toArray,.int .i64 (i:Int)] w fun e w'=>e=.returned (.bool (DZ S.hd.inter (BI S.hd.fmt) i S.rows[i]))/\Below w.heap.size w w':=by
 unfold maxLen at hn;obtain⟨b1,o1,rfl,av,U⟩:=MU hr (by omega);obtain⟨r,cap,hq,C,o,D⟩:=U i hi;clear U hr;generalize S.rows[i]=R at hc C o D ⊢;generalize S.rows.length=n at hi hn ⊢;obtain⟨H,I,Q,m⟩:=R;dsimp only at *;obtain⟨zs,V⟩:=Ah (Bx S.hd (.slice p S.hd.supp.length ca) (.slice (some ⟨b1,o1,none⟩) n cb) S.zeros)
 have z6:zs[6]? =some (.slice (some ⟨b1,o1,none⟩) n cb):=by rw[<-V];rfl
 have z2:zs[2]? =some (.int .i64 S.hd.fmt):=by rw[<-V];rfl
 have z3:zs[3]? =some (.bool S.hd.inter):=by rw[<-V];rfl
 rw[V];clear V;generalize S.hd.fmt=a at *;generalize S.hd.inter=inter at *;obtain⟨B,v⟩:=Ah w.heap.size;have E:Below w.heap.size w (w.alloc (.cells zs.toArray 39 (0,0))):=(Dq _ w).alloc (Ba _) _;have X:(w.alloc (.cells zs.toArray 39 (0,0))).heap[B]? =some (.cells zs.toArray 39 (0,0)):=by rw[<-v];exact heap_alloc_new w _
 obtain⟨Y,c1,c2,c3⟩:=D _ E;obtain⟨g,l⟩:=Ah ((w.alloc (.cells zs.toArray 39 (0,0))).alloc (.cells #[.bool H,.int .i64 I,.int .i64 Q,.slice r m.length cap] 46 (0,0)));have J:Below w.heap.size w g:=by rw[<-l];exact E.alloc (by simp) _
 have Z:g.heap.size=B+2:=by rw[<-l,<-v];simp
 have aa:g.heap[B]? =some (.cells zs.toArray 39 (0,0)):=by rw[<-l];exact BW X
 have ab:g.heap[B+1]? =some (.cells [.bool H,.int .i64 I,.int .i64 Q,.slice r m.length cap].toArray 46 (0,0)):=by
  rw[<-l];have:=heap_alloc_new (w.alloc (.cells zs.toArray 39 (0,0))) (.cells [.bool H,.int .i64 I,.int .i64 Q,.slice r m.length cap].toArray 46 (0,0));rw[show (w.alloc (.cells zs.toArray 39 (0,0))).heap.size=B+1 by rw[<-v];simp] at this;exact this
 have s:Hid (∀x,Below (B+2) g x->x.cell? ⟨B,2,none⟩=some (.int .i64 a)/\x.cell? ⟨B,3,none⟩=some (.bool inter)/\x.cell? ⟨B+1,0,none⟩=some (.bool H)/\x.cell? ⟨B+1,1,none⟩=some (.int .i64 I)/\x.cell? ⟨B+1,2,none⟩=some (.int .i64 Q)/\x.cell? ⟨B+1,3,none⟩=some (.slice r m.length cap)/\Below w.heap.size w x):=Dp fun x d=>by
  have h1:=(d.block B (by omega)).trans aa;have h2:=(d.block (B+1) (by omega)).trans ab;exact⟨AA h1 z2,AA h1 z3,AA h2 rfl,AA h2 rfl,AA h2 rfl,AA h2 rfl,J.trans (d.mono (by omega))⟩
 have K:∀(x y:A5),Below (B+2) g x->Below x.heap.size x y->Below (B+2) g y:=fun x y d hy=>d.trans (hy.mono (by have:=d.size;omega));have aw:=Dp (fun(x:A5) (d:Below (B+2) g x)=>((Uh a x).mono fun e y h=>⟨h.1,K x y d h.2⟩:A9 prog 65 #[.int .i64 a] x fun e y=>e=.returned (.int .i64 (acr a:Int))/\Below (B+2) g y))
 have aq:=Dp (fun(x:A5) (d:Below (B+2) g x)=>((O2 a x).mono fun e y h=>⟨h.1,K x y d h.2⟩:A9 prog 49 #[.int .i64 a] x fun e y=>e=.returned (.agg (JH a))/\Below (B+2) g y));have ax:=fun w=>(Sj (CU a) (D4 a) (BJ a) (BP a) w).1;have wN:IntKind.i64.wrap ((acr a:Int)*BP a)=BI a:=by rw[<-eM];exact CL (by have:=Pw a;omega)
 unfold JH at aq;have al:=Dp l;have ay:=Dp C;have P:=Dp v;have az:=Dp Z;have am:=Dp J;have an:=Dp o;have ao:Below (B+2) g g:=Dq _ _;clear l aa ab J X E D o C K z2 z3 Z;unfold DZ;dsimp only;obtain⟨G,q⟩:=Ah ((if H=true then decide (i≠0/\0<=I/\I<=3/\1<=Q/\Q<=31) else decide (I=0/\Q=0)));rw[q];have ar:=Dp q;clear q
 generalize BI a=N at *;generalize acr a=A at *;generalize BP a=L at *;generalize CU a=W at *;generalize D4 a=a4 at *;generalize BJ a=a5 at *
 go_enter func50,ntmps50
 go_wp2
 rw[al.out];refine BY (S:=fun x=>Below (B+2) g x) 12 (by kernel_rfl) (by kernel_rfl) ao.drew ?_;simp only[Dt,Bi,Hb,I0];refine AG ?_;simp only[A1];refine AN 44 _ ⟨B+1,3,none⟩ (.slice r m.length cap) (by kernel_rfl) rfl rfl (fun x d=>by have Y:=(s.out x d).2.2.2.2.2.1;go_simp) ?_;simp only[A1]
 iterate 2 (refine AG ?_;simp only[A1])
 refine AN 3 _ ⟨B,2,none⟩ (.int .i64 a) (by kernel_rfl) rfl rfl (fun x d=>by have Y:=(s.out x d).1;go_simp) ?_;simp only[A1];refine AS (by kernel_rfl) aw.out (fun _=>by kernel_rfl) ?_;simp only[A1];refine AG ?_;simp only[A1];refine AN 3 _ ⟨B,2,none⟩ (.int .i64 a) (by kernel_rfl) rfl rfl (fun x d=>by have Y:=(s.out x d).1;go_simp) ?_;simp only[A1]
 refine AS (by kernel_rfl) aq.out (fun _=>by kernel_rfl) ?_;simp only[A1]
 iterate 3 (refine AG ?_;simp only[A1])
 refine BV fun x d=>?_;by_cases T:(m.length:Int)=N
 case neg=>
  have t0:((m.length:Int) != N)=true:=by rw[Fl];exact T
  have F:=Dp (I3 T);have ac:=(s.out x d).2.2.2.2.2.2;clear T
  go_wp2
  go_ret
  exact⟨AH (by rw[F.out];rfl),by first|exact ac|(rw[<-P.out];exact ac)⟩
 have t0:((m.length:Int) != N)=false:=by rw[T];simp
 have F:=Dp (I4 T);obtain⟨-,-,r0,r1,r2,r3,t⟩:=s.out x d;clear T;have q:=ar.out;clear ar;cases H
 case' true=>
  rw[Bc rfl] at q;obtain⟨d1,h1⟩:=Ah (((i:Int)==0));obtain⟨d2,h2⟩:=Ah (decide (I<0));obtain⟨d3,h3⟩:=Ah (decide (3<I));obtain⟨d4,h4⟩:=Ah (decide (Q<1));obtain⟨d5,h5⟩:=Ah (decide (31<Q));have hd:G=(!d1&&(!d2&&(!d3&&(!d4 && !d5)))):=by
   rw[<-q,<-h1,<-h2,<-h3,<-h4,<-h5,I6];simp <;> omega
  have v:d1=true\/(d1=false/\d2=true)\/(d1=false/\d2=false/\d3=true)\/(d1=false/\d2=false/\d3=false/\d4=true)\/(d1=false/\d2=false/\d3=false/\d4=false/\d5=true)\/(d1=false/\d2=false/\d3=false/\d4=false/\d5=false):=by
   clear hd h1 h2 h3 h4 h5;cases d1 <;> cases d2 <;> cases d3 <;> cases d4 <;> cases d5 <;> simp
  clear q;rcases v with rfl|⟨rfl,rfl⟩|⟨rfl,rfl,rfl⟩|⟨rfl,rfl,rfl,rfl⟩|⟨rfl,rfl,rfl,rfl,rfl⟩|⟨rfl,rfl,rfl,rfl,rfl⟩
  case _|_|_|_|_=>
   have M:=Dp hd;clear hd
   go_wp2
   go_ret
   exact⟨AH (by rw[M.out,F.out];rfl),by first|exact t|(rw[<-P.out];exact t)⟩
  have M:=Dp (show G=true from hd);clear hd
  go_wp2
 case' false=>
  rw[Bb (by decide)] at q;obtain⟨d1,h1⟩:=Ah (I != 0);obtain⟨d2,h2⟩:=Ah (Q != 0);have hd:G=(!d1 && !d2):=by
   rw[<-q,<-h1,<-h2,I6];simp
  have v:d1=true\/(d1=false/\d2=true)\/(d1=false/\d2=false):=by
   clear hd h1 h2;cases d1 <;> cases d2 <;> simp
  clear q;rcases v with rfl|⟨rfl,rfl⟩|⟨rfl,rfl⟩
  case _|_=>
   have M:=Dp hd;clear hd
   go_wp2
   go_ret
   exact⟨AH (by rw[M.out,F.out];rfl),by first|exact t|(rw[<-P.out];exact t)⟩
  have M:=Dp (show G=true from hd);clear hd
  go_wp2
 all_goals
  clear r0 r1 r2 r3
  go_loopw [6] (fun z wr=>∃j:Nat,z=.int .i64 (j:Int)/\j<=m.length/\Hid ((m.take j).all (BL inter)=true)/\Below (B+2) g wr) (fun z _=>m.length-(intOf z).toNat)
  case atStart=>exact⟨0,rfl,Ds _,Dp rfl,d⟩
  case round=>
   obtain⟨j,rfl,hj,ha,hb⟩:=hrel;have kk:=(s.out wr hb).2.2.2.2.2;obtain⟨k3,ad⟩:=kk;have a0:m.length<=9223372036854775807:=by have:=ay.out;unfold maxLen at this;omega
   by_cases u:j<m.length
   ·have t1:decide ((j:Int)<(m.length:Int))=true:=by simp;omega
    obtain⟨b2,o2,rfl,a1,ae⟩:=CD.each an.out (by omega);obtain⟨vs,⟨p3,af,O,-,ag⟩,ah⟩:=ae j u;have ac:=Dp (fun(x:A5) (d:Below (B+2) g x)=>(am.out.trans (d.mono (by have:=P.out;omega)):Below w.heap.size w x));have a2:=Dp ah;have ap:Hid ((prog.info? 77).map (·.size)=some vs.length):=Dp (by rw[show vs.length=18 by rw[O];rfl];kernel_rfl)
    have au:=Dp (fun(x:A5) (d:Below (B+2) g x)=>(by
     rw[O];exact(zL inter m[j] p3 (fun i=>(m[j].ev i).length) af x (fun i hi=>⟨rfl,hc _ (Bn u) i hi,(ag i hi).2.below (ac.out x d)⟩)).mono fun e y h=>⟨h.1,d.trans (h.2.mono (by have:=d.size;have:=az.out;omega))⟩:A9 prog 86 #[.bool inter,.agg vs.toArray] x fun e y=>e=.returned (.bool (BL inter m[j]))/\Below (B+2) g y))
    have aj:=Dp (fun h=>WO u ha.out (f:=BL inter) h);have ak:=Dp (fun h=>aL (f:=BL inter) u h);clear ae O ag ah hc ha;generalize BL inter m[j]=y at au aj ak
    go_wp2
    refine BY (S:=fun x=>Below (B+2) g x) 9 (by kernel_rfl) (by kernel_rfl) hb.drew ?_;simp only[Dt,Bi,Hb,I0];refine AG ?_;simp only[A1];refine AN 4 _ ⟨B,3,none⟩ (.bool inter) (by kernel_rfl) rfl rfl (fun x d=>by have Y:=(s.out x d).2.1;go_simp) ?_;simp only[A1];refine AG ?_;simp only[A1]
    refine AN 44 _ ⟨B+1,3,none⟩ (.slice (some ⟨b2,o2,none⟩) m.length cap) (by kernel_rfl) rfl rfl (fun x d=>by have Y:=(s.out x d).2.2.2.2.2.1;go_simp) ?_;simp only[A1];refine AG ?_;simp only[A1];refine AG ?_;simp only[A1]
    refine AN 77 _ ⟨b2,o2+j*18,none⟩ (.agg vs.toArray) (by kernel_rfl) rfl rfl (fun x d=>TG x b2 (o2+j*18) 77 vs _ (a2.out x (ac.out x d)) N0 rfl ap.out) ?_;simp only[A1];refine AS (by kernel_rfl) au.out (fun _=>by kernel_rfl) ?_;simp only[A1];refine AG ?_;simp only[A1];refine BV fun x d=>?_;cases y with
    |false=>
     have N:=Dp (ak.out rfl);clear aj ak;have ai:=(s.out x d).2.2.2.2.2.2
     go_wp2
     go_ret
     exact⟨AH (by rw[M.out,F.out,N.out];rfl),by first|exact ai|(rw[<-P.out];exact ai)⟩
    |true=>
     have N:=Dp (aj.out rfl);clear aj ak
     go_wp2
     go_roundw
     case rel=>exact⟨j+1,by go_num,by omega,N,d⟩
     case measure=>simp[intOf];omega
   ·obtain rfl:m.length=j:=by omega
    have t1:decide ((m.length:Int)<(m.length:Int))=false:=by simp
    have a3:=Dp (show m.all (BL inter)=true by have:=ha.out;rwa [J1] at this)
    go_wp2
    go_ret
    exact⟨AH (by rw[M.out,F.out,a3.out];rfl),by first|exact ad|(rw[<-P.out];exact ad)⟩
def N2 (c:Cel):Bool:=c.skip || (c.kind==0 || c.kind==1)
theorem eG (c:Cel)(sl:Nat->A0)(w:A5):A9 prog 83 #[.agg (AJ c sl).toArray] w fun e d=>e=.returned (.bool (N2 c))/\Below w.heap.size w d:=by
 obtain⟨A,b,f0,f1,f2,f3,f4,f5,-,-⟩:=JL c sl;rw[b];clear b;have a:Hid (N2 c=(c.skip || (c.kind==0 || c.kind==1))):=Dp rfl;generalize N2 c=f at a ⊢;generalize c.skip=s at f1 a;generalize c.kind=k at f2 a;cases s
 case true=>
  go_enter func83,ntmps83
  go_wp2
  go_ret
  exact⟨AH (by rw[a.out];rfl),(Dq _ w).alloc (Ba _) _⟩
 rcases N3 (k==0) with t0|t0
 ·go_enter func83,ntmps83
  go_wp2
  go_ret
  exact⟨AH (by rw[a.out,t0];rfl),(Dq _ w).alloc (Ba _) _⟩
 ·rcases N3 (k==1) with t1|t1
  ·go_enter func83,ntmps83
   go_wp2
   go_ret
   exact⟨AH (by rw[a.out,t0,t1];rfl),(Dq _ w).alloc (Ba _) _⟩
  ·go_enter func83,ntmps83
   go_wp2
   go_ret
   exact⟨AH (by rw[a.out,t0,t1];rfl),(Dq _ w).alloc (Ba _) _⟩
def LQ (n:Int)(H:Bool)(I Q:Int):Bool:=if H then decide (n≠0/\0<=I/\I<=3/\1<=Q/\Q<=31) else decide (I=0/\Q=0)
set_option maxRecDepth 100000 in
theorem mQ (n:Int)(hn:0<=n)(H:Bool)(I Q:Int)(sl:A0)(w:A5):A9 prog 80 #[.int .i64 n,.agg #[.bool H,.int .i64 I,.int .i64 Q,sl]] w fun e d=>e=.returned (.bool (LQ n H I Q))/\Below w.heap.size w d:=by
 cases H
 case false=>
  obtain⟨G,a⟩:=Ah (LQ n false I Q);obtain⟨d1,h1⟩:=Ah (I==0);obtain⟨d2,h2⟩:=Ah (Q==0);have hd:G=(d1&&d2):=by
   rw[<-a,<-h1,<-h2,I6];simp[LQ]
  rw[a];clear a;have b:=Dp hd;clear hd;cases d1 <;> cases d2 <;>
  (go_enter func80,ntmps80
   go_wp2
   go_ret
   exact⟨AH b.out.symm,(Dq _ w).alloc (Ba _) _⟩)
 case true=>
  obtain⟨G,a⟩:=Ah (LQ n true I Q);obtain⟨d1,h1⟩:=Ah (decide (0<n));obtain⟨d2,h2⟩:=Ah (decide (0<=I));obtain⟨d3,h3⟩:=Ah (decide (I<=3));obtain⟨d4,h4⟩:=Ah (decide (1<=Q));obtain⟨d5,c⟩:=Ah (decide (Q<=31));have hd:G=(d1&&(d2&&(d3&&(d4&&d5)))):=by
   rw[<-a,<-h1,<-h2,<-h3,<-h4,<-c,I6];simp[LQ] <;> omega
  rw[a];clear a hn;have b:=Dp hd;have f:d1=false\/(d1=true/\d2=false)\/(d1=true/\d2=true/\d3=false)\/(d1=true/\d2=true/\d3=true/\d4=false)\/(d1=true/\d2=true/\d3=true/\d4=true/\d5=false)\/(d1=true/\d2=true/\d3=true/\d4=true/\d5=true):=by
   clear hd h1 h2 h3 h4 c b;cases d1 <;> cases d2 <;> cases d3 <;> cases d4 <;> cases d5 <;> simp
  clear hd;rcases f with rfl|⟨rfl,rfl⟩|⟨rfl,rfl,rfl⟩|⟨rfl,rfl,rfl,rfl⟩|⟨rfl,rfl,rfl,rfl,rfl⟩|⟨rfl,rfl,rfl,rfl,rfl⟩
  all_goals
   go_enter func80,ntmps80
   go_wp2
   go_ret
   exact⟨AH b.out.symm,(Dq _ w).alloc (Ba _) _⟩
theorem V8 (h:Shd)(a b:A0)(z:Int)(w:A5):A9 prog 81 #[.agg (Bx h a b z).toArray] w fun e d=>e=.returned (.int .i64 (BI h.fmt))/\Below w.heap.size w d:=by
 obtain⟨A,c⟩:=Ah ((Bx h a b z).toArray);have f2:A[2]? =some (.int .i64 h.fmt):=by rw[<-c];rfl
 rw[c];clear c;generalize h.fmt=k at f2 ⊢;have c1:=fun w=>PQ k w;have c2:=fun w=>QI k w;have g:IntKind.i64.wrap (B1 k*BP k)=BI k:=CL (by have:=Pw k;unfold BI at this;omega);generalize BI k=N at *;generalize B1 k=x at *;generalize JQ k=i at *;generalize BJ k=j at *;generalize BP k=l at *
 go_enter func81,ntmps81
 go_wp2_with fail
 refine(c1 _).mono ?_;rintro e f ⟨rfl,rfl⟩
 go_wp2_with fail
 refine(c2 _).mono ?_;rintro e f ⟨rfl,rfl⟩
 go_wp2
 go_ret
 exact⟨rfl,(Dq _ w).alloc (Ba _) _⟩
theorem VA (d:FuncId)(X:Array A0)(n:Nat)(f:Nat->Bool)(b:Bool)(w:A5)(hn:n<=4611686018427387904)(r:∀args x,(callFunc d args).run prog x=.ok (.enter d args) x)
  (hc:∀i,i<n->(∀j,j<i->f j=true)->∀x,Below w.heap.size w x->A9 prog d #[.agg X,.int .i64 (i:Int)] x fun e y=>e=.returned (.bool (f i))/\Below x.heap.size x y)
  (p:(∀i,i<n->f i=true)->b=true)(q:∀i,i<n->f i=false->b=false):
  A9 prog 45 #[.int .i64 (n:Int),.func (.func d) #[.agg X] #[]] w fun e s=>e=.returned (.bool b)/\Below w.heap.size w s:=by
 have t:=Dp hc;have u:=Dp p;have v:=Dp q;clear hc p q
 go_enter func45,ntmps45
 go_wp2
 go_loopw [7] (fun z wr=>∃i:Nat,i<=n/\z=.int .i64 (i:Int)/\Hid (∀j,j<i->f j=true)/\Below w.heap.size w wr) (fun z _=>n-(intOf z).toNat)
 case atStart=>exact⟨0,Ds _,rfl,Dp fun j h=>absurd h (Fk j),Dq _ _⟩
 case round=>
  obtain⟨i,hi,rfl,g,k⟩:=hrel;by_cases a:i<n
  ·have t0:decide ((i:Int)<(n:Int))=true:=by simp;omega
   have c1:=t.out i a g.out wr k;have l:=Dp (fun(e:f i=true)=>(fun j hj=>(by
    by_cases h:j<i
    ·exact g.out j h
    ·obtain rfl:j=i:=by omega
     exact e):∀j,j<i+1->f j=true))
   have m:=Dp (v.out i a);clear g;generalize f i=y at c1 l m
   go_wp2_with fail
   refine c1.mono ?_;rintro e A ⟨rfl,o⟩;have c:Below w.heap.size w A:=k.trans (o.mono k.size);cases y with
   |true=>
    have N:=Dp (l.out rfl);clear l m
    go_wp2
    go_roundw
    case rel=>exact⟨i+1,by omega,by go_num,N,c⟩
    case measure=>simp[intOf];omega
   |false=>
    have N:=Dp (m.out rfl);clear l m
    go_wp2
    go_ret
    exact⟨AH N.out.symm,c⟩
  ·obtain rfl:n=i:=by omega
   have t0:decide ((n:Int)<(n:Int))=false:=by simp
   have N:=Dp (u.out g.out)
   go_wp2
   go_ret
   exact⟨AH N.out.symm,k⟩
theorem eC {α:Type}{f:Nat->α->Bool}{s:Nat}{l:List α}{j:Nat}(hj:j<l.length)(h:AT f s (l.take j)=true)(h1:f (s+j) l[j]=true):AT f s (l.take (j+1))=true:=by
 rw[Be hj,S7,h,Bf,show s+min j l.length=s+j by omega,h1];rfl
theorem pP {α:Type}{f:Nat->α->Bool}{s:Nat}{l:List α}{j:Nat}(hj:j<l.length)(h1:f (s+j) l[j]=false):AT f s l=false:=by
 cases h:AT f s l with
 |false=>rfl
 |true=>
  have:=Pn.1 h j hj;rw[h1] at this;cases this
def IG (k:Int)(n:Nat)(c:Cel):Bool:=!N2 c || GJ k (n:Int) c.mx c.my
set_option maxRecDepth 100000 in
theorem dF (S:ShP)(p b:Option Aa)(ca cb i N:Nat)(w:A5)(hi:i<S.rows.length)(hn:S.rows.length<=1000)(hN:BI S.hd.fmt=(N:Int))(hl:S.rows[i].cels.length=N)(hr:H0 w b S.rows):
  A9 prog 47 #[.agg (Bx S.hd (.slice p S.hd.supp.length ca) (.slice b S.rows.length cb) S.zeros).toArray,.int .i64 (i:Int)] w fun e w'=>e=.returned (.bool (AT (IG S.hd.fmt) (i*N) S.rows[i].cels))/\Below w.heap.size w w':=by
 have au:N<=10000:=by have:=Pw S.hd.fmt;omega
 obtain⟨P,T,rfl,G,U⟩:=MU hr (by omega);obtain⟨r,cap,hq,av,c,J⟩:=U i hi;clear U hr;have cE:=fun x=>V8 S.hd (.slice p S.hd.supp.length ca) (.slice (some ⟨P,T,none⟩) S.rows.length cb) S.zeros x;rw[hN] at cE;have cM:=fun n x y w=>Zm S.hd.fmt n x y w;generalize S.rows[i]=R at av c J hl ⊢;generalize S.rows.length=n at hi hn cE ⊢;obtain⟨H,I,Q,m⟩:=R;dsimp only at *
 obtain⟨zs,V⟩:=Ah (Bx S.hd (.slice p S.hd.supp.length ca) (.slice (some ⟨P,T,none⟩) n cb) S.zeros);have z6:zs[6]? =some (.slice (some ⟨P,T,none⟩) n cb):=by rw[<-V];rfl
 have z2:zs[2]? =some (.int .i64 S.hd.fmt):=by rw[<-V];rfl
 have aw:(prog.info? 78).map (·.size)=some zs.toArray.size:=by rw[show zs.toArray.size=8 by rw[<-V];rfl];kernel_rfl
 rw[V] at cE ⊢;clear V hN;generalize S.hd.fmt=a at *;obtain⟨B,hB⟩:=Ah w.heap.size;obtain⟨t,d⟩:=Ah (w.alloc (.cells zs.toArray 78 (0,0)));have K:t.heap[B]? =some (.cells zs.toArray 78 (0,0)):=by rw[<-d,<-hB];exact heap_alloc_new w _
 have L:Below w.heap.size w t:=by rw[<-d];exact(Dq _ w).alloc (Ba _) _
 have W:t.heap.size=B+1:=by rw[<-d,<-hB];simp
 have ao:Hid (∀x,Below (B+1) t x->x.cell? ⟨B,2,none⟩=some (.int .i64 a)/\x.cell? ⟨B,6,none⟩=some (.slice (some ⟨P,T,none⟩) n cb)/\x.cell? ⟨P,T+i*4+3,none⟩=some (.slice r m.length cap)/\Below w.heap.size w x):=Dp fun x hx=>by
  have h1:=(hx.block B (by omega)).trans K;have X:=L.trans (hx.mono (by omega));exact⟨AA h1 z2,AA h1 z6,(J x X).2.2.2,X⟩
 obtain⟨F,hF⟩:=Ah (i*N);have a7:F<=10000000:=by rw[<-hF];exact Ha (show i<=1000 by omega) au
 have hm:IntKind.i64.wrap ((i:Int)*(N:Int))=(F:Int):=by rw[<-hF,<-Iy];exact CL (by rw[hF];omega)
 rw[hF];have ax:=Dp d;have a5:=Dp hB;have ap:=Dp W;have Z:=Dp c;have a8:=Dp L;have a6:=Dp hl;obtain⟨Y,ay,a9⟩:=Pr;clear d J L hF W z2 z6 c hl
 go_enter func47,ntmps47
 go_wp2_with (rw[ax.out];with_reducible refine N5 rfl 78 _ rfl B rfl 78 zs.toArray (0,0) _ K Od rfl aw ?_)
 refine(cE _).mono ?_;rintro e w1 ⟨rfl,G⟩;have h1:Below (B+1) t w1:=G.mono (by have:=ap.out;omega);obtain⟨k2,k6,k3,az⟩:=ao.out w1 h1;have t1:decide ((i:Int)<(n:Int))=true:=by simp;omega
 clear G K
 go_wp2
 clear k2 k6 k3 t1 hm
 go_loopw [19] (fun z wr=>∃j:Nat,z=.int .i64 (j:Int)/\j<=m.length/\Hid (AT (IG a) F (m.take j)=true)/\Below (B+1) t wr) (fun z _=>m.length-(intOf z).toNat)
 case atStart=>exact⟨0,rfl,Ds _,Dp rfl,h1⟩
 case round=>
  clear h1 az;obtain⟨j,rfl,hj,ha,hb⟩:=hrel;obtain⟨-,-,-,M⟩:=ao.out wr hb;have ba:m.length<=10000:=by have:=a6.out;omega
  by_cases O:j<m.length
  ·have t1:decide ((j:Int)<(m.length:Int))=true:=by simp;omega
   obtain⟨b2,o2,rfl,bb,aa⟩:=CD.each Z.out (by omega);obtain⟨vs,hV,ab⟩:=aa j O;have g:=hV.shape.1;have ac:=QP hV;obtain⟨p3,ad,u,-,-⟩:=hV;have ae:wr.rangeAt b2 (o2+j*18) vs:=fun k v l=>ab wr M k v l;have af:=Dp (fun h=>eC (f:=IG a) O ha.out h);have aq:=Dp (fun h=>pP (s:=F) (f:=IG a) O h)
   have cP:=fun x=>eG m[j] (fun i=>.slice (p3 i) (m[j].ev i).length (ad i)) x;rw[<-u] at cP;have a0:=fun x=>cM ((F:Int)+(j:Int)) m[j].mx m[j].my x;have hs:IntKind.i64.wrap ((F:Int)+(j:Int))=(F:Int)+(j:Int):=CL (by have:=a6.out;omega);have ar:=Dp (show IG a (F+j) m[j]=(!N2 m[j] || GJ a ((F:Int)+(j:Int)) m[j].mx m[j].my) by unfold IG;rw[Int.natCast_add])
   obtain⟨wC,o⟩:=Ah (wr.alloc (.cells vs.toArray 77 (0,0)));obtain⟨C,hC⟩:=Ah wr.heap.size;have A:wC.heap[C]? =some (.cells vs.toArray 77 (0,0)):=by rw[<-o,<-hC];exact heap_alloc_new wr _
   have ag:Below (B+1) t wC:=by rw[<-o];exact hb.alloc (by have:=hb.size;have:=ap.out;omega) _
   have ah:wC.heap.size=C+1:=by rw[<-o,<-hC];simp
   have bc:B+1<=C:=by rw[<-hC];have:=hb.size;have:=ap.out;omega
   have ai:(prog.info? 77).map (·.size)=some vs.toArray.size:=by rw[show vs.toArray.size=18 from g];kernel_rfl
   have a1:Y.size=vs.toArray.size:=by rw[ay];exact g.symm
   have v4:vs[4]? =some (.int .i64 m[j].mx):=by rw[u];rfl
   have v5:vs[5]? =some (.int .i64 m[j].my):=by rw[u];rfl
   have a2:=Dp o;have bd:=Dp A;have aj:=Dp ah;clear u ab aa ha o ah;generalize m[j].mx=mx at *;generalize m[j].my=my at *;generalize IG a (F+j) m[j]=y at *;generalize N2 m[j]=pk at *;have bf:=Dp hC;clear hC
   go_wp2_with (first|(with_reducible refine TT rfl _ rfl b2 (o2+j*18) rfl vs ae g ?_)|(with_reducible refine DA rfl 77 _ _ rfl vs.toArray Y 77 rfl rfl ai a1 ac ?_;rw[a2.out])|(rw[bf.out];with_reducible refine N5 rfl 77 _ rfl C rfl 77 vs.toArray (0,0) _ A N0 rfl ai ?_))
   refine(cP _).mono ?_;rintro e w2 ⟨rfl,q⟩;have D:Below (B+1) t w2:=ag.trans (q.mono (by have:=aj.out;omega));have ak:w2.heap[C]? =some (.cells vs.toArray 77 (0,0)):=(q.block C (by have:=aj.out;omega)).trans A;clear q A ae ag;obtain⟨k2,-,-,bg⟩:=ao.out w2 D;cases pk with
   |false=>
    have al:=Dp (af.out (by rw[ar.out];rfl));clear af aq ar
    go_wp2
    go_roundw
    case rel=>exact⟨j+1,by go_num,by omega,al,D⟩
    case measure=>simp[intOf];omega
   |true=>
    have a3:w2.rangeAt C 4 [.int .i64 mx,.int .i64 my]:=fun k v l=>by
     match k,l with
     |0,l=>injection l with l;subst l;exact AA ak v4
     |1,l=>injection l with l;subst l;exact AA ak v5
    have E:=Dp (show y=GJ a ((F:Int)+(j:Int)) mx my from ar.out);clear ar
    go_wp2_with (with_reducible refine tA (by kernel_rfl) _ rfl C 4 rfl mx my a3 ?_)
    refine(a0 _).mono ?_;rintro e w3 ⟨rfl,a4⟩;have am:Below (B+1) t w3:=D.trans (a4.mono (by have:=D.size;have:=ap.out;omega));have an:=(ao.out w3 am).2.2.2;generalize GJ a ((F:Int)+(j:Int)) mx my=mv at *;cases mv with
    |true=>
     have al:=Dp (af.out E.out);clear af aq E
     go_wp2
     go_roundw
     case rel=>exact⟨j+1,by go_num,by omega,al,am⟩
     case measure=>simp[intOf];omega
    |false=>
     have al:=Dp (aq.out E.out);clear af aq E
     go_wp2
     go_ret
     exact⟨AH al.out.symm,by first|exact an|(rw[<-a5.out];exact an)⟩
  ·obtain rfl:m.length=j:=by omega
   have t1:decide ((m.length:Int)<(m.length:Int))=false:=by simp
   have bh:=Dp (show AT (IG a) F m=true by have:=ha.out;rwa [J1] at this)
   go_wp2
   go_ret
   exact⟨AH bh.out.symm,by first|exact M|(rw[<-a5.out];exact M)⟩
structure Yk2 (S:ShP):Prop where
 rows:S.rows.length<=30
 supp:S.hd.supp.length<=100
 cels:∀i (h:i<S.rows.length),S.rows[i].cels.length<=200
 evs:∀i (h:i<S.rows.length),∀j (h':j<S.rows[i].cels.length),∀k,k<6->(S.rows[i].cels[j].ev k).length<=100
 all:(C2 S).length<=200
theorem Yk2.mem {S:ShP}(h:Yk2 S):∀c∈C2 S,∀k,k<6->(c.ev k).length<=100:=by
 intro c hc k a;obtain⟨r,hr,hc⟩:=Ob.1 hc;obtain⟨i,hi,rfl⟩:=Lk.1 hr;obtain⟨j,hj,rfl⟩:=Lk.1 hc;exact h.evs i hi j hj k a
def LY (S:ShP)(w:A5)(e:Ending)(a:A5):Prop:=(∃y,e=.returned (.bool y)/\(y=true->Yk2 S))/\Below w.heap.size w a
theorem LY.no {S:ShP}{w a:A5}(h:Below w.heap.size w a):LY S w (.returned (.bool false)) a:=⟨⟨false,rfl,fun h=>by cases h⟩,h⟩
theorem Qcf (c:Cel)(sl:Nat->A0){e:Nat}(a:e<6):(AJ c sl)[12+e]? =some (sl e):=by
 match e,a with
 |0,_|1,_|2,_|3,_|4,_|5,_=>rfl
set_option maxRecDepth 100000 in
theorem Qd2 (S:ShP)(p b:Option Aa)(ca cb:Nat)(w:A5)(hl:S.hd.supp.length<=maxLen)(hn:S.rows.length<=maxLen)(hr:H0 w b S.rows):
  A9 prog 18 #[.agg (Bx S.hd (.slice p S.hd.supp.length ca) (.slice b S.rows.length cb) S.zeros).toArray] w (LY S w):=by
 unfold maxLen at hn hl;obtain⟨n,u⟩:=Ah S.rows.length;obtain⟨q,x⟩:=Ah S.hd.supp.length;rw[u] at hn ⊢;rw[x] at hl ⊢;obtain⟨zs,M⟩:=Ah (Bx S.hd (.slice p q ca) (.slice b n cb) S.zeros);have Y:zs[6]? =some (.slice b n cb):=by rw[<-M];rfl
 have z5:zs[5]? =some (.slice p q ca):=by rw[<-M];rfl
 rw[M];obtain⟨B,Z⟩:=Ah w.heap.size;obtain⟨O,d⟩:=Ah (w.alloc (.cells zs.toArray 39 (0,0)));have C:O.heap[B]? =some (.cells zs.toArray 39 (0,0)):=by rw[<-d,<-Z];exact heap_alloc_new w _
 have D:Below w.heap.size w O:=by rw[<-d];exact(Dq _ w).alloc (Ba _) _
 have y:=Dp d;have al:=Dp Z;have a:=Dp D;have E:=Dp u;have af:=Dp x;have ag:=Dp hr;have aa:=Dp (AA C Y);clear d D M u x hr;by_cases h1:30<n
 ·have t1:decide (30<(n:Int))=true:=by simp;omega
  go_enter func18,ntmps18
  go_wp2
  go_ret
  rw[y.out];exact LY.no a.out
 have t1:decide (30<(n:Int))=false:=by simp;omega
 by_cases h2:100<q
 ·have t2:decide (100<(q:Int))=true:=by simp;omega
  go_enter func18,ntmps18
  go_wp2
  go_ret
  rw[y.out];exact LY.no a.out
 have t2:decide (100<(q:Int))=false:=by simp;omega
 go_enter func18,ntmps18
 go_wp2
 rw[y.out];have k6:=aa.out;clear z5 Y t1 t2 aa C
 go_loop [3,4] (fun v t=>∃i:Nat,t=.int .i64 (i:Int)/\v=.int .i64 ((HM S i).length:Int)/\i<=n/\(HM S i).length<=200*i/\Hid ((∀j (h:j<S.rows.length),j<i->S.rows[j].cels.length<=200)/\∀j (h:j<S.rows.length),j<i->∀m (h':m<S.rows[j].cels.length),∀k,k<6->(S.rows[j].cels[m].ev k).length<=100)) (fun _ t=>n-(intOf t).toNat)
 case atStart=>exact⟨0,rfl,rfl,Ds _,Ds _,Dp ⟨fun j _ h=>absurd h (Fk j),fun j _ h=>absurd h (Fk j)⟩⟩
 case round=>
  obtain⟨i,rfl,rfl,hi,hL,P⟩:=hrel;by_cases R:i<n
  ·have t1:decide ((i:Int)<(n:Int))=true:=by simp;omega
   have F:i<S.rows.length:=by rw[E.out];exact R
   obtain⟨b1,o1,rfl,ah,G⟩:=MU ag.out (by omega);obtain⟨r,cap,hq,ai,H,I⟩:=G i F;obtain⟨-,-,-,c3⟩:=I _ a.out;have nx:=Vf S F;have ab:=Dp (fun(h1:S.rows[i].cels.length<=200) (h2:∀m (h':m<S.rows[i].cels.length),∀k,k<6->(S.rows[i].cels[m].ev k).length<=100)=>(⟨fun j h hj=>(by
     by_cases e:j<i
     ·exact P.out.1 j h e
     ·obtain rfl:j=i:=by omega
      exact h1),fun j h hj=>(by
     by_cases e:j<i
     ·exact P.out.2 j h e
     ·obtain rfl:j=i:=by omega
      exact h2)⟩:(∀j (h:j<S.rows.length),j<i+1->S.rows[j].cels.length<=200)/\∀j (h:j<S.rows.length),j<i+1->∀m (h':m<S.rows[j].cels.length),∀k,k<6->(S.rows[j].cels[m].ev k).length<=100))
   clear G I P;generalize S.rows[i].cels=m at *;have ac:=Dp (show (HM S (i+1)).length=(HM S i).length+m.length by rw[nx,B9]);generalize (HM S i).length=L at *;clear nx;by_cases hm:200<m.length
   ·have t2:decide (200<(m.length:Int))=true:=by simp;omega
    go_wp2
    go_ret
    exact LY.no a.out
   have t2:decide (200<(m.length:Int))=false:=by simp;omega
   go_wp2
   clear t1 t2
   go_loop [3,5] (fun v t=>∃k:Nat,t=.int .i64 (k:Int)/\v=.int .i64 ((L+k:Nat):Int)/\k<=m.length/\Hid (∀j (h:j<m.length),j<k->∀e,e<6->(m[j].ev e).length<=100)) (fun _ t=>m.length-(intOf t).toNat)
   case atStart=>exact⟨0,rfl,rfl,Ds _,Dp fun j _ h=>absurd h (Fk j)⟩
   case round=>
    obtain⟨k,rfl,rfl,hk,f⟩:=hrel;by_cases T:k<m.length
    ·have t3:decide ((k:Int)<(m.length:Int))=true:=by simp;omega
     obtain⟨b2,U,rfl,aj,J⟩:=CD.each H (by omega);obtain⟨vs,⟨p3,s,z,-,-⟩,K⟩:=J k T;have ad:=Dp (fun(h2:∀e,e<6->(m[k].ev e).length<=100)=>(fun j h hj=>(by
      by_cases e:j<k
      ·exact f.out j h e
      ·obtain rfl:j=k:=by omega
       exact h2):∀j (h:j<m.length),j<k+1->∀e,e<6->(m[j].ev e).length<=100))
     clear J f;generalize m[k]=c at z ad;have Q:=Dp (fun(e:Nat) (he:e<6)=>(by
      have h4:=K O a.out (12+e) (.slice (p3 e) (c.ev e).length (s e)) (by rw[z];exact Qcf c _ he);rwa [show U+k*18+(12+e)=U+k*18+12+e by omega] at h4:O.cell? ⟨b2,U+k*18+12+e,none⟩=some (.slice (p3 e) (c.ev e).length (s e))))
     clear z K
     go_wp2
     clear t3
     go_loop [6] (fun t=>∃e:Nat,t=.int .i64 (e:Int)/\e<=6/\Hid (∀g,g<e->(c.ev g).length<=100)) (fun t=>6-(intOf t).toNat)
     case atStart=>exact⟨0,rfl,Ds _,Dp fun j h=>absurd h (Fk j)⟩
     case round=>
      obtain⟨e,rfl,he,o⟩:=hrel;by_cases V:e<6
      ·have t3:decide ((e:Int)<6)=true:=by simp;omega
       have ce:=Q.out e V;have ae:=o;clear o;obtain⟨l,A⟩:=Ah ((c.ev e).length);rw[A] at ce;have W:=Dp A;clear A;by_cases X:100<l
       ·have t4:decide (100<(l:Int))=true:=by simp;omega
        go_wp2
        go_ret
        exact LY.no a.out
       ·have t4:decide (100<(l:Int))=false:=by simp;omega
        have N:=Dp (show∀g,g<e+1->(c.ev g).length<=100 from fun g h=>by
         by_cases h3:g<e
         ·exact ae.out g h3
         ·obtain rfl:g=e:=by omega
          rw[W.out];omega)
        clear ae
        go_wp2
        go_round
        case rel=>exact⟨e+1,by go_num,by omega,N⟩
        case measure=>simp[intOf];omega
      ·obtain rfl:e=6:=by omega
       have t3:decide (((6:Nat):Int)<6)=false:=by simp
       have N:=Dp (ad.out o.out);clear o
       go_wp2
       go_round
       case rel=>exact⟨k+1,by go_num,by go_num,by omega,N⟩
       case measure=>simp[intOf];omega
    ·obtain rfl:m.length=k:=by omega
     have t3:decide ((m.length:Int)<(m.length:Int))=false:=by simp
     have N:=Dp (ab.out (by omega) (fun j h=>f.out j h h));clear f ab
     go_wp2
     go_round
     case rel=>exact⟨i+1,by go_num,by rw[ac.out],by omega,by rw[ac.out];omega,N⟩
     case measure=>simp[intOf];omega
  ·obtain rfl:n=i:=by omega
   have t1:decide ((n:Int)<(n:Int))=false:=by simp
   have ak:=Dp (Zd S E.out);have Q:=Dp P.out;rw[ak.out];by_cases h3:(C2 S).length<=200
   ·have t2:decide (((C2 S).length:Int)<=200)=true:=by simp;omega
    go_wp2
    go_ret
    exact⟨⟨true,rfl,fun _=>⟨by rw[E.out];omega,by rw[af.out];omega,fun j h=>Q.out.1 j h (by rw[<-E.out];exact h),fun j h=>Q.out.2 j h (by rw[<-E.out];exact h),h3⟩⟩,a.out⟩
   ·have t2:decide (((C2 S).length:Int)<=200)=false:=by simp;omega
    go_wp2
    go_ret
    exact LY.no a.out
set_option maxRecDepth 100000 in
theorem yD (S:ShP)(p b:Option Aa)(ca cb:Nat)(w:A5)(hl:S.hd.supp.length<=maxLen)(hn:S.rows.length<=maxLen)(hs:CA w p S.hd.supp)(hr:H0 w b S.rows)(hm:(C2 S).length<=1048576)(hc:∀c∈C2 S,∀k,k<6->(c.ev k).length<=1048576):
  A9 prog 22 #[.agg (Bx S.hd (.slice p S.hd.supp.length ca) (.slice b S.rows.length cb) S.zeros).toArray] w fun e w'=>e=.returned (.int .i64 (C4 S))/\Below w.heap.size w w':=by
 unfold maxLen at hn;have n1:∀i (h:i<S.rows.length),∀c∈S.rows[i].cels,c∈C2 S:=fun i h c hc=>Ob.2 ⟨_,Bn h,hc⟩;obtain⟨zs,J⟩:=Ah (Bx S.hd (.slice p S.hd.supp.length ca) (.slice b S.rows.length cb) S.zeros);have z6:zs[6]? =some (.slice b S.rows.length cb):=by rw[<-J];rfl
 have z2:zs[2]? =some (.int .i64 S.hd.fmt):=by rw[<-J];rfl
 have z7:zs[7]? =some (.int .i64 S.zeros):=by rw[<-J];rfl
 have ag:zs.length=8:=by rw[<-J];rfl
 obtain⟨B,hB⟩:=Ah w.heap.size;obtain⟨o,D⟩:=Ah (w.alloc (.cells zs.toArray 39 (0,0)));have ah:o.heap[B]? =some (.cells zs.toArray 39 (0,0)):=by rw[<-D,<-hB];exact heap_alloc_new w _
 have ai:Below w.heap.size w o:=by rw[<-D];exact(Dq _ w).alloc (Ba _) _
 have aj:o.heap.size=B+1:=by rw[<-D,<-hB];simp
 have ak:∀x,Below (B+1) o x->Below w.heap.size w x:=fun x d=>ai.trans (d.mono (by omega));have K:∀(x y:A5),Below (B+1) o x->Below x.heap.size x y->Below (B+1) o y:=fun x y d hy=>d.trans (hy.mono (by have:=d.size;omega));have L:=Dp (fun(x:A5) (d:Below (B+1) o x)=>(d.block B (by omega)).trans ah)
 have m:=Dp (fun(x:A5) (d:Below (B+1) o x)=>(⟨AA (L.out x d) z2,AA (L.out x d) z6,AA (L.out x d) z7,ak x d⟩:x.cell? ⟨B,2,none⟩=some (.int .i64 S.hd.fmt)/\x.cell? ⟨B,6,none⟩=some (.slice b S.rows.length cb)/\x.cell? ⟨B,7,none⟩=some (.int .i64 S.zeros)/\Below w.heap.size w x));have U:=Dp (fun(x:A5) (d:Below (B+1) o x)=>(by
  rw[<-J];exact(Y4n S.hd p ca (.slice b S.rows.length cb) S.zeros hl x (hs.below (ak x d))).mono fun e y h=>⟨h.1,K x y d h.2⟩:A9 prog 48 #[.agg zs.toArray] x fun e y=>e=.returned (.bool (E5 S.hd))/\Below (B+1) o y))
 have al:=Dp (fun(x:A5) (d:Below (B+1) o x)=>((O2 S.hd.fmt x).mono fun e y h=>⟨h.1,K x y d h.2⟩:A9 prog 49 #[.int .i64 S.hd.fmt] x fun e y=>e=.returned (.agg (JH S.hd.fmt))/\Below (B+1) o y));have a3:=Dp (fun(i:Nat) (hi:i<S.rows.length) (x:A5) (d:Below (B+1) o x)=>(by
  rw[<-J];exact Y4i S p b ca cb i x hi (by unfold maxLen;exact hn) (hr.below (ak x d)) (fun c h k hk=>hc c (n1 i hi c h) k hk):A9 prog 50 #[.agg zs.toArray,.int .i64 (i:Int)] x fun e y=>e=.returned (.bool (DZ S.hd.inter (BI S.hd.fmt) i S.rows[i]))/\Below x.heap.size x y))
 have bd:=Dp (fun(x:A5) (d:Below (B+1) o x)=>(by
  rw[<-J];exact eB S p b ca cb x (by unfold maxLen;exact hn) (hr.below (ak x d)) hm:A9 prog 51 #[.agg zs.toArray] x fun e y=>∃v,e=.returned v/\AX 18 77 (F5 x) y x.heap.size v (C2 S)/\Below x.heap.size x y))
 have am:=fun w=>(Sj (CU S.hd.fmt) (D4 S.hd.fmt) (BJ S.hd.fmt) (BP S.hd.fmt) w).2;unfold JH at al;have a4:=Dp (fun(h:E5 S.hd=false)=>(P8 (by unfold EV;rw[h];rfl):C4 S=12));have an:=Dp (fun(h:S.zeros<0\/262144<S.zeros)=>(P8 (by unfold EV;rw[I3 (by omega:¬ (0<=S.zeros/\S.zeros<=262144)),Kv,Jw]):C4 S=12))
 have ao:=Dp (fun(h:¬ (S.rows.length:Int)=BJ S.hd.fmt)=>(P8 (by unfold EV;rw[I3 h,Kv,Jw,Jw]):C4 S=12));have az:=Dp (fun(h:AT (DZ S.hd.inter (BI S.hd.fmt)) 0 S.rows=false)=>(P8 (by unfold EV;rw[h,Jw,Jw,Jw]):C4 S=12))
 have a0:=Dp (fun(h1:E5 S.hd=true) (h2:¬ S.zeros<0) (h3:¬ 262144<S.zeros) (h4:(S.rows.length:Int)=BJ S.hd.fmt) (h5:AT (DZ S.hd.inter (BI S.hd.fmt)) 0 S.rows=true)=>(by unfold EV;rw[h1,I4 (by omega:0<=S.zeros/\S.zeros<=262144),I4 h4,h5];rfl:EV S=true));have a5:=Dp (fun h (h1:AT (CP S.hd.fmt) 0 (C2 S)=false)=>ZE h h1)
 have a6:=Dp (fun h (h1:AT (CP S.hd.fmt) 0 (C2 S)=true)=>Tl h h1);have s:(prog.info? 39).map (·.size)=some zs.toArray.size:=by rw[show zs.toArray.size=8 from ag];kernel_rfl
 have a7:=Dp D;have V:=Dp hB;have bk:=Dp aj;have bf:=Dp K;have bl:=Dp hm;have O:Below (B+1) o o:=Dq _ _;rw[J];clear D ah ai aj ak K z2 z6 z7 ag J n1 hs hr hl hc hm;obtain⟨E,hE⟩:=Ah (C4 S);rw[hE] at a4 an ao az a5 a6 ⊢;clear hE;obtain⟨l,hf⟩:=Ah S.hd.fmt;obtain⟨inter,ap⟩:=Ah S.hd.inter
 obtain⟨A,aq⟩:=Ah S.zeros;simp only[hf,ap,aq] at m U al a3 am an ao az a0 a5 a6 hn;obtain⟨n,W⟩:=Ah S.rows.length;rw[W] at m hn;have a1:=Dp W;clear hf ap aq W;generalize CU l=bo at *;generalize D4 l=bp at *;obtain⟨a8,X⟩:=Ah (BJ l);rw[X] at ao a0 al;simp only[X] at am;clear X;generalize BP l=bq at *
 go_enter func22,ntmps22
 go_wp2
 rw[a7.out];cases hd:E5 S.hd with
 |false=>
  rw[hd] at U;have t:=Dp (a4.out hd);clear hd;refine BY (S:=fun x=>Below (B+1) o x) 23 (by kernel_rfl) (by kernel_rfl) O.drew ?_;simp only[Dt,Bi,Hb,I0];refine IZ 39 _ B 39 zs.toArray (0,0) _ (by kernel_rfl) rfl rfl (fun x d=>L.out x d) Oa rfl s ?_;simp only[A1]
  refine AS (by kernel_rfl) U.out (fun _=>by kernel_rfl) ?_;simp only[A1]
  iterate 2 (refine AG ?_;simp only[A1])
  iterate 3 (refine EA (by kernel_rfl) ?_;simp only[A1])
  iterate 2 (refine AG ?_;simp only[A1])
  iterate 3 (refine EA (by kernel_rfl) ?_;simp only[A1])
  iterate 2 (refine AG ?_;simp only[A1])
  iterate 8 (refine EA (by kernel_rfl) ?_;simp only[A1])
  refine AG ?_;simp only[A1];refine BV fun x d=>?_
  go_wp2
  go_ret
  exact⟨by rw[t.out];rfl,by first|exact(m.out x d).2.2.2|(rw[<-V.out];exact(m.out x d).2.2.2)⟩
 |true=>
 rw[hd] at U;by_cases h1:A<0
 ·have t0:decide (A<0)=true:=I4 h1;have t:=Dp (an.out (.inl h1));clear h1 hd;refine BY (S:=fun x=>Below (B+1) o x) 23 (by kernel_rfl) (by kernel_rfl) O.drew ?_;simp only[Dt,Bi,Hb,I0];refine IZ 39 _ B 39 zs.toArray (0,0) _ (by kernel_rfl) rfl rfl (fun x d=>L.out x d) Oa rfl s ?_;simp only[A1]
  refine AS (by kernel_rfl) U.out (fun _=>by kernel_rfl) ?_;simp only[A1]
  iterate 3 (refine AG ?_;simp only[A1])
  refine AN 3 _ ⟨B,7,none⟩ (.int .i64 A) (by kernel_rfl) rfl rfl (fun x d=>by have F:=(m.out x d).2.2.1;go_simp) ?_;simp only[A1]
  iterate 3 (refine AG ?_;simp only[A1])
  iterate 3 (refine EA (by kernel_rfl) ?_;simp only[A1])
  iterate 2 (refine AG ?_;simp only[A1])
  iterate 8 (refine EA (by kernel_rfl) ?_;simp only[A1])
  refine AG ?_;simp only[A1];refine BV fun x d=>?_
  go_wp2
  go_ret
  exact⟨by rw[t.out];rfl,by first|exact(m.out x d).2.2.2|(rw[<-V.out];exact(m.out x d).2.2.2)⟩
 by_cases h2:262144<A
 ·have t0:decide (A<0)=false:=I3 h1;have t1:decide (262144<A)=true:=I4 h2;have t:=Dp (an.out (.inr h2));clear h1 h2 hd;refine BY (S:=fun x=>Below (B+1) o x) 23 (by kernel_rfl) (by kernel_rfl) O.drew ?_;simp only[Dt,Bi,Hb,I0]
  refine IZ 39 _ B 39 zs.toArray (0,0) _ (by kernel_rfl) rfl rfl (fun x d=>L.out x d) Oa rfl s ?_;simp only[A1];refine AS (by kernel_rfl) U.out (fun _=>by kernel_rfl) ?_;simp only[A1]
  iterate 3 (refine AG ?_;simp only[A1])
  refine AN 3 _ ⟨B,7,none⟩ (.int .i64 A) (by kernel_rfl) rfl rfl (fun x d=>by have F:=(m.out x d).2.2.1;go_simp) ?_;simp only[A1]
  iterate 4 (refine AG ?_;simp only[A1])
  refine AN 3 _ ⟨B,7,none⟩ (.int .i64 A) (by kernel_rfl) rfl rfl (fun x d=>by have F:=(m.out x d).2.2.1;go_simp) ?_;simp only[A1]
  iterate 3 (refine AG ?_;simp only[A1])
  iterate 8 (refine EA (by kernel_rfl) ?_;simp only[A1])
  refine AG ?_;simp only[A1];refine BV fun x d=>?_
  go_wp2
  go_ret
  exact⟨by rw[t.out];rfl,by first|exact(m.out x d).2.2.2|(rw[<-V.out];exact(m.out x d).2.2.2)⟩
 have t0:decide (A<0)=false:=I3 h1;have t1:decide (262144<A)=false:=I3 h2;have ar:=Dp (a0.out hd (by omega) (by omega));clear h1 h2 hd a4 an a0;refine BY (S:=fun x=>Below (B+1) o x) 23 (by kernel_rfl) (by kernel_rfl) O.drew ?_;simp only[Dt,Bi,Hb,I0]
 refine IZ 39 _ B 39 zs.toArray (0,0) _ (by kernel_rfl) rfl rfl (fun x d=>L.out x d) Oa rfl s ?_;simp only[A1];refine AS (by kernel_rfl) U.out (fun _=>by kernel_rfl) ?_;simp only[A1]
 iterate 3 (refine AG ?_;simp only[A1])
 refine AN 3 _ ⟨B,7,none⟩ (.int .i64 A) (by kernel_rfl) rfl rfl (fun x d=>by have F:=(m.out x d).2.2.1;go_simp) ?_;simp only[A1]
 iterate 4 (refine AG ?_;simp only[A1])
 refine AN 3 _ ⟨B,7,none⟩ (.int .i64 A) (by kernel_rfl) rfl rfl (fun x d=>by have F:=(m.out x d).2.2.1;go_simp) ?_;simp only[A1]
 iterate 4 (refine AG ?_;simp only[A1])
 refine AN 37 _ ⟨B,6,none⟩ (.slice b n cb) (by kernel_rfl) rfl rfl (fun x d=>by have F:=(m.out x d).2.1;go_simp) ?_;simp only[A1]
 iterate 2 (refine AG ?_;simp only[A1])
 refine AN 3 _ ⟨B,2,none⟩ (.int .i64 l) (by kernel_rfl) rfl rfl (fun x d=>by have F:=(m.out x d).1;go_simp) ?_;simp only[A1];refine AS (by kernel_rfl) al.out (fun _=>by kernel_rfl) ?_;simp only[A1]
 iterate 3 (refine AG ?_;simp only[A1])
 refine BV fun x d=>?_;clear U al;by_cases e0:(n:Int)=a8
 case neg=>
  have t3:((n:Int) != a8)=true:=by rw[Fl];exact e0
  have t:=Dp (ao.out (by rw[a1.out];exact e0));clear e0
  go_wp2
  go_ret
  exact⟨by rw[t.out];rfl,by first|exact(m.out x d).2.2.2|(rw[<-V.out];exact(m.out x d).2.2.2)⟩
 have t3:((n:Int) != a8)=false:=by rw[e0];simp
 have bg:=Dp (ar.out (by rw[a1.out];exact e0));clear e0 ar ao;have c6:=(m.out x d).2.1;rw[t3]
 go_wp2
 clear c6
 go_loopw [3] (fun z wr=>∃i:Nat,z=.int .i64 (i:Int)/\i<=n/\Hid (AT (DZ inter (BI l)) 0 (S.rows.take i)=true)/\Below (B+1) o wr) (fun z _=>n-(intOf z).toNat)
 case atStart=>exact⟨0,rfl,Ds _,Dp rfl,d⟩
 case round=>
  obtain⟨i,rfl,hi,P,u⟩:=hrel;have c6:=(m.out wr u).2.1;by_cases Z:i<n
  ·have t1:decide ((i:Int)<(n:Int))=true:=by simp;omega
   have Q:i<S.rows.length:=by rw[a1.out];exact Z
   have cr:=a3.out i Q wr u;have C:=Dp (fun h=>Zs Q P.out h);have G:=Dp (fun h=>Ud (f:=DZ inter (BI l)) Q h);have hl:=L.out wr u;clear P;generalize DZ inter (BI l) i S.rows[i]=y at cr C G;clear Q
   go_wp2_with (with_reducible refine N5 rfl 39 _ rfl B rfl 39 zs.toArray (0,0) _ hl Oa rfl s ?_)
   refine cr.mono ?_;rintro e x ⟨rfl,au⟩;have d:=bf.out _ _ u au;clear cr au hl c6;cases y with
   |false=>
    have t:=Dp (az.out (G.out rfl));clear C G
    go_wp2
    go_ret
    exact⟨by rw[t.out];rfl,by first|exact(m.out x d).2.2.2|(rw[<-V.out];exact(m.out x d).2.2.2)⟩
   |true=>
    have N:=Dp (C.out rfl);clear C G
    go_wp2
    go_roundw
    case rel=>
     exact⟨i+1,by go_num,by omega,N,d⟩
    case measure=>simp[intOf];omega
  ·obtain rfl:n=i:=by omega
   have t1:decide ((n:Int)<(n:Int))=false:=by simp
   have bh:=Dp (bg.out (by have:=P.out;rwa [<-a1.out,J1] at this));have hl:=L.out wr u;have cc:=bd.out wr u;clear P bg az a3 bd
   go_wp2_with (with_reducible refine N5 rfl 39 _ rfl B rfl 39 zs.toArray (0,0) _ hl Oa rfl s ?_)
   refine cc.mono ?_;rintro e r ⟨v,rfl,av,aa⟩;have ab:=bf.out _ _ u aa
   obtain⟨q,cap,rfl,a9⟩:=av.many (V':=F5) (fun a vs h=>F5.below aa a vs h);clear cc hl c6 av aa u;obtain⟨M,hM⟩:=Ah ((C2 S).length);have aw:=Dp hM;have bm:M<=1048576:=by have:=bl.out;omega
   rw[hM];obtain⟨Y,hY⟩:=Ah r.heap.size;have ac:=Dp hY;have ba:Below Y r r:=Dq _ _;have ad:=Dp (fun(x:A5) (d:Below Y r x)=>(ab.trans (d.mono (by rw[<-hY];have:=ab.size;have:=bk.out;omega)):Below (B+1) o x));clear hM hY ab
   go_wp2
   go_loopw [5] (fun z wr=>∃j:Nat,z=.int .i64 (j:Int)/\j<=M/\Hid (AT (CP l) 0 ((C2 S).take j)=true)/\Below Y r wr) (fun z _=>M-(intOf z).toNat)
   case atStart=>exact⟨0,rfl,Ds _,Dp rfl,ba⟩
   case round=>
    obtain⟨j,rfl,hj,P,u⟩:=hrel;by_cases Z:j<M
    ·have t2:decide ((j:Int)<(M:Int))=true:=by simp;omega
     have R:j<(C2 S).length:=by rw[aw.out];exact Z
     obtain⟨b2,I,rfl,bn,ax⟩:=CD.each a9 (by omega);obtain⟨vs,⟨p3,bi,T,-,-⟩,ae⟩:=ax j R;have C:=Dp (fun h=>Zs (f:=CP l) R P.out h);have G:=Dp (fun h=>Ud (f:=CP l) R h);clear P ax;generalize (C2 S)[j]=c at T C G;clear R;have bb:=Dp (fun(x:A5) (d:Below Y r x)=>ae x (ac.out▸d) 2 (.int .i64 c.kind) (by rw[T];rfl))
     have bc:=Dp (fun(x:A5) (d:Below Y r x) (j':Nat) (v:A0) (h:[Value.int .i64 c.mx,.int .i64 c.my][j']? =some v)=>(by
      have h4:=ae x (ac.out▸d) (4+j') v (by
       rw[T]
       match j',h with
       |0,h=>exact h
       |1,h=>exact h)
      rwa [show I+j*18+(4+j')=I+j*18+4+j' by omega] at h4:x.cell? ⟨b2,I+j*18+4+j',none⟩=some v))
     have bj:=Dp (fun(x:A5) (d:Below Y r x)=>(m.out x (ad.out x d)).1);have ay:=Dp (fun(x:A5) (d:Below Y r x)=>(Ul c.kind x).mono fun e y h=>(⟨h.1,h.2▸d⟩:e=.returned (.bool (AD c.kind))/\Below Y r y))
     have a2:=Dp (fun(x:A5) (d:Below Y r x)=>(vD l (j:Int) c.mx c.my x).mono fun e y h=>(⟨h.1,d.trans (h.2.mono (by have:=d.size;have:=ac.out;omega))⟩:e=.returned (.bool (GJ l (j:Int) c.mx c.my))/\Below Y r y));have af:Hid (CP l j c=(AD c.kind || GJ l (j:Int) c.mx c.my)):=Dp rfl;clear T ae;generalize CP l j c=y at C G af
     generalize GJ l (j:Int) c.mx c.my=g at a2 af;cases hk:AD c.kind with
     |true=>
      rw[hk] at ay af;have N:=Dp (C.out af.out);clear C G hk a2 bc
      go_wp2
      refine BY (S:=fun x=>Below Y r x) 19 (by kernel_rfl) (by kernel_rfl) u.drew ?_;simp only[Dt,Bi,Hb,I0]
      iterate 4 (refine AG ?_;simp only[A1])
      refine AN 3 _ ⟨b2,I+j*18+2,none⟩ (.int .i64 c.kind) (by kernel_rfl) rfl rfl (fun x d=>by have F:=(bb.out x d);go_simp) ?_;simp only[A1];refine AS (by kernel_rfl) ay.out (fun _=>by kernel_rfl) ?_;simp only[A1]
      iterate 2 (refine AG ?_;simp only[A1])
      iterate 10 (refine EA (by kernel_rfl) ?_;simp only[A1])
      refine AG ?_;simp only[A1];refine BV fun x d=>?_
      go_wp2
      go_roundw
      case rel=>exact⟨j+1,by go_num,by omega,N,d⟩
      case measure=>simp[intOf];omega
     |false=>
      rw[hk] at ay af;clear hk;cases g with
      |true=>
       have N:=Dp (C.out af.out);clear C G
       go_wp2
       refine BY (S:=fun x=>Below Y r x) 19 (by kernel_rfl) (by kernel_rfl) u.drew ?_;simp only[Dt,Bi,Hb,I0]
       iterate 4 (refine AG ?_;simp only[A1])
       refine AN 3 _ ⟨b2,I+j*18+2,none⟩ (.int .i64 c.kind) (by kernel_rfl) rfl rfl (fun x d=>by have F:=(bb.out x d);go_simp) ?_;simp only[A1];refine AS (by kernel_rfl) ay.out (fun _=>by kernel_rfl) ?_;simp only[A1]
       iterate 3 (refine AG ?_;simp only[A1])
       refine AN 3 _ ⟨B,2,none⟩ (.int .i64 l) (by kernel_rfl) rfl rfl (fun x d=>by have F:=(bj.out x d);go_simp) ?_;simp only[A1]
       iterate 5 (refine AG ?_;simp only[A1])
       refine AN 73 _ ⟨b2,I+j*18+4,none⟩ (.agg (BN c.mx c.my)) (by kernel_rfl) rfl rfl (fun x d=>TG x b2 (I+j*18+4) 73 [.int .i64 c.mx,.int .i64 c.my] _ (bc.out x d) Gq rfl rfl) ?_;simp only[A1];refine AS (by kernel_rfl) a2.out (fun _=>by kernel_rfl) ?_;simp only[A1]
       iterate 2 (refine AG ?_;simp only[A1])
       refine BV fun x d=>?_
       go_wp2
       go_roundw
       case rel=>exact⟨j+1,by go_num,by omega,N,d⟩
       case measure=>simp[intOf];omega
      |false=>
       have t:=Dp (a5.out bh.out (G.out af.out));clear C G
       go_wp2
       refine BY (S:=fun x=>Below Y r x) 19 (by kernel_rfl) (by kernel_rfl) u.drew ?_;simp only[Dt,Bi,Hb,I0]
       iterate 4 (refine AG ?_;simp only[A1])
       refine AN 3 _ ⟨b2,I+j*18+2,none⟩ (.int .i64 c.kind) (by kernel_rfl) rfl rfl (fun x d=>by have F:=(bb.out x d);go_simp) ?_;simp only[A1];refine AS (by kernel_rfl) ay.out (fun _=>by kernel_rfl) ?_;simp only[A1]
       iterate 3 (refine AG ?_;simp only[A1])
       refine AN 3 _ ⟨B,2,none⟩ (.int .i64 l) (by kernel_rfl) rfl rfl (fun x d=>by have F:=(bj.out x d);go_simp) ?_;simp only[A1]
       iterate 5 (refine AG ?_;simp only[A1])
       refine AN 73 _ ⟨b2,I+j*18+4,none⟩ (.agg (BN c.mx c.my)) (by kernel_rfl) rfl rfl (fun x d=>TG x b2 (I+j*18+4) 73 [.int .i64 c.mx,.int .i64 c.my] _ (bc.out x d) Gq rfl rfl) ?_;simp only[A1];refine AS (by kernel_rfl) a2.out (fun _=>by kernel_rfl) ?_;simp only[A1]
       iterate 2 (refine AG ?_;simp only[A1])
       refine BV fun x d=>?_;have H:=(m.out x (ad.out x d)).2.2.2
       go_wp2
       go_ret
       exact⟨by rw[t.out];rfl,by first|exact H|(rw[<-V.out];exact H)⟩
    ·obtain rfl:M=j:=by omega
     have t2:decide ((M:Int)<(M:Int))=false:=by simp
     have t:=Dp (a6.out bh.out (by have:=P.out;rwa [<-aw.out,J1] at this));have H:=(m.out wr (ad.out wr u)).2.2.2;clear P
     go_wp2
     go_ret
     exact⟨by rw[t.out];rfl,by first|exact H|(rw[<-V.out];exact H)⟩
end Go.Proofs.YtjjmalchelniiaaGreatDoor