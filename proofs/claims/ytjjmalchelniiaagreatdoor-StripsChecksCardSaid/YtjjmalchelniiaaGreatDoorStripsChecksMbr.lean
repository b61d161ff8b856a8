/- StripsChecks, 44. No condition. -/
import Derived.Test.YtjjmalchelniiaaGreatDoorStripsChecksMa
import Derived.Test.YtjjmalchelniiaaGreatDoorStripsChecksMj
import Derived.Test.YtjjmalchelniiaaGreatDoorStripsChecksMp
import Derived.Test.YtjjmalchelniiaaGreatDoorStripsChecksMq
import Derived.Test.YtjjmalchelniiaaGreatDoorStripsChecksMr
import Derived.Test.YtjjmalchelniiaaGreatDoorStripsChecksMy
import Derived.Test.YtjjmalchelniiaaGreatDoorStripsChecksMbm
import Derived.Test.YtjjmalchelniiaaGreatDoorStripsChecksMbq
open Go.Proofs.Tryz
open Go renaming World->A5,Value->A0,Addr->Aa,Calls->A9
set_option maxHeartbeats 4000000
namespace Go.Proofs.YtjjmalchelniiaaGreatDoor
open Go.RowKit Go.Lib
abbrev Nv:=@underlying39
abbrev Nw:=@List.mem_flatMap
abbrev Nx:=@underlying78
abbrev Ny:=@underlying44
def GZ (S:ShP)(i:Nat):List Cel:=(S.rows.take i).flatMap (·.cels)
theorem Vt (S:ShP){n:Nat}(h:S.rows.length=n):GZ S n=BI S:=by subst h;rw[GZ,Iy];rfl
theorem Uk (S:ShP){i:Nat}(h:i<S.rows.length):GZ S (i+1)=GZ S i++S.rows[i].cels:=by
 unfold GZ;rw[Bd h,List.flatMap_append];simp
theorem wY (S:ShP)(i:Nat):(GZ S i).length<=(BI S).length:=by
 have h:BI S=GZ S i++(S.rows.drop i).flatMap (·.cels):=by
  unfold GZ BI;rw[<-List.flatMap_append,Bs]
 rw[h,B9];omega
theorem vL:(prog.info? 77).map (fun i=>(i.zero.map (·.cells.size),i.size,i.bytes))=some (some 18,18,240):=by kernel_rfl
theorem TZ:∃i z,prog.info? 77=some i/\i.zero=some z/\z.cells.size=18/\i.size=18/\i.bytes=240:=by
 have h:=vL;generalize prog.info? 77=x at h
 match x,h with
 |some i,h=>
  rw[Ld] at h;injection h with h;injection h with h1 h2;injection h2 with h2 h3;cases hz:i.zero with
  |none=>rw[hz] at h1;cases h1
  |some z=>
   rw[hz] at h1;injection h1 with h1;exact⟨i,z,rfl,hz,h1,h2,h3⟩
theorem BO.each {α:Type}{c:Nat}{V:A5->α->List A0->Prop}{w:A5}{q:Option Aa}{l:List α}(h:BO c V w q l)(d:0<l.length):
  ∃b o,q=some ⟨b,o,none⟩/\b<w.heap.size/\∀i,(h:i<l.length)->∃vs,V w l[i] vs/\∀x,Below w.heap.size w x->∀(j:Nat) v,vs[j]? =some v->x.cell? ⟨b,o+i*c+j,none⟩=some v:=by
 rcases h with rfl|⟨b,o,rfl,hl,h⟩
 ·cases d
 ·refine⟨b,o,rfl,hl,fun i hi=>?_⟩;obtain⟨vs,h1,h2⟩:=h i hi;exact⟨vs,h1,fun x e j v hj=>(Fz (a:=⟨b,o+i*c+j,none⟩) (e.block b hl)).trans (h2 j v hj)⟩
theorem Y6 {α:Type}{f:α->Bool}{l:List α}{j:Nat}(hj:j<l.length)(h:(l.take j).all f=true)(h2:f l[j]=true):(l.take (j+1)).all f=true:=by
 rw[Bd hj,Dv,h,Gy,h2]
 rfl
theorem Y5 {α:Type}{f:α->Bool}{l:List α}{j:Nat}(hj:j<l.length)(h2:f l[j]=false):l.all f=false:=by
 rw[Gh];exact⟨l[j],Bl hj,by rw[h2];decide⟩
theorem JM {w:A5}{q:Option Aa}{l:List RowP}(h:EC w q l)(d:0<l.length):
  ∃b o,q=some ⟨b,o,none⟩/\b<w.heap.size/\∀i,(hi:i<l.length)->∃(r:Option Aa) (cap:Nat),(r=none->cap=0)/\l[i].cels.length<=maxLen/\HY w r l[i].cels/\
   ∀x,Below w.heap.size w x->x.cell? ⟨b,o+i*4,none⟩=some (.bool l[i].head)/\x.cell? ⟨b,o+i*4+1,none⟩=some (.int .i64 l[i].id)/\x.cell? ⟨b,o+i*4+2,none⟩=some (.int .i64 l[i].quant)/\x.cell? ⟨b,o+i*4+3,none⟩=some (.slice r l[i].cels.length cap):=by
 rcases h with rfl|⟨b,o,rfl,hl,h⟩
 ·cases d
 ·refine⟨b,o,rfl,hl,fun i hi=>?_⟩;obtain⟨vs,⟨r,cap,rfl,e,hn,hc⟩,h2⟩:=h i hi;have at_:∀x,Below w.heap.size w x->∀(j:Nat) v,[Value.bool l[i].head,.int .i64 l[i].id,.int .i64 l[i].quant,.slice r l[i].cels.length cap][j]? =some v->x.cell? ⟨b,o+i*4+j,none⟩=some v:=
   fun x c j v hj=>(Fz (a:=⟨b,o+i*4+j,none⟩) (c.block b hl)).trans (h2 j v hj)
  exact⟨r,cap,e,hn,hc,fun x c=>⟨at_ x c 0 _ rfl,at_ x c 1 _ rfl,at_ x c 2 _ rfl,at_ x c 3 _ rfl⟩⟩
set_option maxRecDepth 100000 in
theorem iI (S:ShP)(p b:Option Aa)(ca cb:Nat)(w:A5)(hn:S.rows.length<=maxLen)(hr:EC w b S.rows)(hm:(BI S).length<=1048576):
  A9 prog 51 #[.agg (AQ S.hd (.slice p S.hd.supp.length ca) (.slice b S.rows.length cb) S.zeros).toArray] w fun e K=>∃v,e=.returned v/\AV 18 77 (EZ w) K w.heap.size v (BI S)/\Below w.heap.size w K:=by
 unfold maxLen at hn;obtain⟨n,d⟩:=Ai S.rows.length;rw[d] at hn ⊢;obtain⟨zs,y⟩:=Ai (AQ S.hd (.slice p S.hd.supp.length ca) (.slice b n cb) S.zeros);have N:zs[6]? =some (.slice b n cb):=by rw[<-y];rfl
 rw[y];obtain⟨B,z⟩:=Ai w.heap.size;obtain⟨A,a⟩:=Ai (w.alloc (.cells zs.toArray 39 (0,0)));have C:A.heap[B]? =some (.cells zs.toArray 39 (0,0)):=by rw[<-a,<-z];exact heap_alloc_new w _
 have D:Below w.heap.size w A:=by rw[<-a];exact(Dm _ w).alloc (Ba _) _
 have O:A.heap.size=B+1:=by rw[<-a,<-z];simp
 have E:=Dl a;have aa:=Dl z;have L:=Dl d;have P:=Dl hr;have F:=Dl (Vt S d);have j:=Dl fun i=>Ea (wY S i) hm;clear a y d hr hm
 go_enter func51,ntmps51
 go_wp2
 rw[E.out]
 go_loopw [3,4] (fun v t wr=>∃i:Nat,t=.int .i64 (i:Int)/\i<=n/\AV 18 77 (EZ w) wr (B+1) v (GZ S i)/\Below w.heap.size w wr/\wr.heap[B]? =some (.cells zs.toArray 39 (0,0))/\B+1<=wr.heap.size) (fun _ t _=>n-(intOf t).toNat)
 case atStart=>exact⟨0,rfl,Dn _,AV.nil ..,D,C,by omega⟩
 case round=>
  obtain⟨i,rfl,hi,ho,x,M,hs⟩:=hrel;have k6:wr.cell? ⟨B,6,none⟩=some (.slice b n cb):=A2 M N;by_cases G:i<n
  ·have t1:decide ((i:Int)<(n:Int))=true:=by simp;omega
   obtain⟨b1,o1,rfl,Q,o⟩:=JM P.out (by rw[L.out];omega);have s:i<S.rows.length:=by rw[L.out];exact G
   obtain⟨r,cap,R,T,f,u⟩:=o i s;obtain⟨-,-,-,c3⟩:=u _ x;have H:=Uk S s;have U:=j.out (i+1);rw[H,B9] at U;have W:=Dl H;have I:=BO.const f x;obtain⟨ti,tz,X,Y,Z,j3,j4⟩:=TZ;clear u f o H;generalize S.rows[i].cels=m at *
   go_wp2_with (at_builtin;refine xS (V:=fun _=>EZ w) (w0:=w) (c:=18) (bytes:=240) (base:=B+1) (v:=u3) (l:=GZ S i) (m:=m) (q:=r) (cap:=cap) rfl rfl Ny X Y Z j3 j4 (by decide) ?d1 ?d2 R ho I (fun _ _ h=>h) (fun _ _ h=>h.shape) ?d3 ?d4 ?d5 ?_;(case d1=>kernel_rfl);(case d2=>kernel_rfl);(case d3=>(unfold maxLen;omega));(case d4=>omega);(case d5=>exact hs);intro v2 w2 J g)
   go_roundw
   case rel=>exact⟨i+1,by go_num,by omega,by rw[W.out];exact J,x.grown g (by omega) (fun k hk=>by have:=ho.fresh k hk;omega),(g.block B (by omega) (fun e=>by have:=ho.fresh B e.symm;omega)).trans M,Ea hs g.size⟩
   case measure=>simp[intOf];omega
  ·obtain rfl:n=i:=by omega
   have t1:decide ((n:Int)<(n:Int))=false:=by simp
   rw[F.out] at ho
   go_wp2
   go_ret
   exact⟨_,rfl,ho.less (by omega),x⟩
set_option maxRecDepth 100000 in
theorem Za (a b c d:Int)(w:A5):(Instr.index 81 (.agg #[.int .i64 a,.int .i64 b,.int .i64 c,.int .i64 d]) (.int .i64 3)).run prog w=.ok (.int .i64 d) w/\
  (Instr.index 81 (.agg #[.int .i64 a,.int .i64 b,.int .i64 c,.int .i64 d]) (.int .i64 2)).run prog w=.ok (.int .i64 c) w:=by
 obtain⟨j,hj⟩:=Q6;have e:(0:Int)<=3/\(3:Int)<((4:Nat):Int):=by omega
 have h1:(0:Int)<=2/\(2:Int)<((4:Nat):Int):=by omega
 constructor
 ·simp only[Instr.index,asIntOf,Ar,Aw,Ap,Iv Hk,Bc e,run_sizeOf w hj,NU,Hc]
  rfl
 ·simp only[Instr.index,asIntOf,Ar,Aw,Ap,Iv Hk,Bc h1,run_sizeOf w hj,NU,Hc]
  rfl
theorem MR {P:Program}(w:A5)(b o:Nat)(ty:TypeId)(cs:List A0)(d:TypeDesc)(h:∀(j:Nat) v,cs[j]? =some v->w.cell? ⟨b,o+j,none⟩=some v)
  (c:P.underlying ty=some d)(hd:(match d with|.struct _|.array _ _=>true|_=>false)=true)(hi:(P.info? ty).map (·.size)=some cs.length):
  (loadVar ty ⟨b,o,none⟩).run P w=.ok (.agg cs.toArray) w:=by
 have hl:(loadCells ⟨b,o,none⟩ cs.length).run P w=.ok cs.toArray w:=run_loadCells_list (P:=P) w ⟨b,o,none⟩ cs (fun j v hv=>by rw[Gd];exact h j v hv);cases hq:P.info? ty with
 |none=>simp[hq] at hi
 |some i=>
  have hs:i.size=cs.length:=by simpa [hq] using hi
  have a:(isAgg ty).run P w=.ok true w:=by
   unfold isAgg;rw[Ar,Iv c w];cases d <;> simp_all
  simp[loadVar,Sem.run_bind,a,sizeOf,typeInfo,hq,hs,hl]
theorem NI (k:Int):-10000<=BA k/\BA k<=10000:=by
 unfold BA;rcases JO k with rfl|rfl|rfl|rfl|rfl|rfl|⟨h,hv⟩
 case _|_|_|_|_|_=>decide +kernel
 unfold BG;rw[hv];simp
theorem uS (k:Int):BA k=(acr k:Int)*BG k:=by unfold BA;rw[(HR k).1]
set_option maxRecDepth 100000 in
theorem Z2 (S:ShP)(p b:Option Aa)(ca cb:Nat)(i:Nat)(w:A5)(hi:i<S.rows.length)(hn:S.rows.length<=maxLen)(hr:EC w b S.rows)(hc:∀c∈S.rows[i].cels,∀k,k<6->(c.ev k).length<=1048576):
  A9 prog 50 #[.agg (AQ S.hd (.slice p S.hd.supp.length ca) (.slice b S.rows.length cb) S.zeros).toArray,.int .i64 (i:Int)] w fun e w'=>e=.returned (.bool (DJ S.hd.inter (BA S.hd.fmt) i S.rows[i]))/\Below w.heap.size w w':=by
 unfold maxLen at hn;obtain⟨b1,o1,rfl,av,U⟩:=JM hr (by omega);obtain⟨r,cap,hq,C,o,D⟩:=U i hi;clear U hr;generalize S.rows[i]=R at hc C o D ⊢;generalize S.rows.length=n at hi hn ⊢;obtain⟨H,I,Q,m⟩:=R;dsimp only at *;obtain⟨zs,V⟩:=Ai (AQ S.hd (.slice p S.hd.supp.length ca) (.slice (some ⟨b1,o1,none⟩) n cb) S.zeros)
 have z6:zs[6]? =some (.slice (some ⟨b1,o1,none⟩) n cb):=by rw[<-V];rfl
 have z2:zs[2]? =some (.int .i64 S.hd.fmt):=by rw[<-V];rfl
 have z3:zs[3]? =some (.bool S.hd.inter):=by rw[<-V];rfl
 rw[V];clear V;generalize S.hd.fmt=a at *;generalize S.hd.inter=inter at *;obtain⟨B,v⟩:=Ai w.heap.size;have E:Below w.heap.size w (w.alloc (.cells zs.toArray 39 (0,0))):=(Dm _ w).alloc (Ba _) _;have X:(w.alloc (.cells zs.toArray 39 (0,0))).heap[B]? =some (.cells zs.toArray 39 (0,0)):=by rw[<-v];exact heap_alloc_new w _
 obtain⟨Y,c1,c2,c3⟩:=D _ E;obtain⟨g,l⟩:=Ai ((w.alloc (.cells zs.toArray 39 (0,0))).alloc (.cells #[.bool H,.int .i64 I,.int .i64 Q,.slice r m.length cap] 46 (0,0)));have J:Below w.heap.size w g:=by rw[<-l];exact E.alloc (by simp) _
 have Z:g.heap.size=B+2:=by rw[<-l,<-v];simp
 have aa:g.heap[B]? =some (.cells zs.toArray 39 (0,0)):=by rw[<-l];exact CH X
 have ab:g.heap[B+1]? =some (.cells [.bool H,.int .i64 I,.int .i64 Q,.slice r m.length cap].toArray 46 (0,0)):=by
  rw[<-l];have:=heap_alloc_new (w.alloc (.cells zs.toArray 39 (0,0))) (.cells [.bool H,.int .i64 I,.int .i64 Q,.slice r m.length cap].toArray 46 (0,0));rw[show (w.alloc (.cells zs.toArray 39 (0,0))).heap.size=B+1 by rw[<-v];simp] at this;exact this
 have s:Hid (∀x,Below (B+2) g x->x.cell? ⟨B,2,none⟩=some (.int .i64 a)/\x.cell? ⟨B,3,none⟩=some (.bool inter)/\x.cell? ⟨B+1,0,none⟩=some (.bool H)/\x.cell? ⟨B+1,1,none⟩=some (.int .i64 I)/\x.cell? ⟨B+1,2,none⟩=some (.int .i64 Q)/\x.cell? ⟨B+1,3,none⟩=some (.slice r m.length cap)/\Below w.heap.size w x):=Dl fun x d=>by
  have h1:=(d.block B (by omega)).trans aa;have h2:=(d.block (B+1) (by omega)).trans ab;exact⟨A2 h1 z2,A2 h1 z3,A2 h2 rfl,A2 h2 rfl,A2 h2 rfl,A2 h2 rfl,J.trans (d.mono (by omega))⟩
 have K:∀(x y:A5),Below (B+2) g x->Below x.heap.size x y->Below (B+2) g y:=fun x y d hy=>d.trans (hy.mono (by have:=d.size;omega));have aw:=Dl (fun(x:A5) (d:Below (B+2) g x)=>((UY a x).mono fun e y h=>⟨h.1,K x y d h.2⟩:A9 prog 65 #[.int .i64 a] x fun e y=>e=.returned (.int .i64 (acr a:Int))/\Below (B+2) g y))
 have aq:=Dl (fun(x:A5) (d:Below (B+2) g x)=>((P3 a x).mono fun e y h=>⟨h.1,K x y d h.2⟩:A9 prog 49 #[.int .i64 a] x fun e y=>e=.returned (.agg (JN a))/\Below (B+2) g y));have ax:=fun w=>(Za (CS a) (CY a) (BC a) (BG a) w).1;have wN:IntKind.i64.wrap ((acr a:Int)*BG a)=BA a:=by rw[<-uS];exact DA (by have:=NI a;omega)
 unfold JN at aq;have al:=Dl l;have ay:=Dl C;have P:=Dl v;have az:=Dl Z;have am:=Dl J;have an:=Dl o;have ao:Below (B+2) g g:=Dm _ _;clear l aa ab J X E D o C K z2 z3 Z;unfold DJ;dsimp only;obtain⟨G,q⟩:=Ai ((if H=true then decide (i≠0/\0<=I/\I<=3/\1<=Q/\Q<=31) else decide (I=0/\Q=0)));rw[q];have ar:=Dl q;clear q
 generalize BA a=N at *;generalize acr a=A at *;generalize BG a=L at *;generalize CS a=W at *;generalize CY a=a4 at *;generalize BC a=a5 at *
 go_enter func50,ntmps50
 go_wp2
 rw[al.out];refine BU (S:=fun x=>Below (B+2) g x) 12 (by kernel_rfl) (by kernel_rfl) ao.drew ?_;simp only[Dp,Bk,Gs,Gt];refine AJ ?_;simp only[A1];refine AR 44 _ ⟨B+1,3,none⟩ (.slice r m.length cap) (by kernel_rfl) rfl rfl (fun x d=>by have Y:=(s.out x d).2.2.2.2.2.1;go_simp) ?_;simp only[A1]
 iterate 2 (refine AJ ?_;simp only[A1])
 refine AR 3 _ ⟨B,2,none⟩ (.int .i64 a) (by kernel_rfl) rfl rfl (fun x d=>by have Y:=(s.out x d).1;go_simp) ?_;simp only[A1];refine AY (by kernel_rfl) aw.out (fun _=>by kernel_rfl) ?_;simp only[A1];refine AJ ?_;simp only[A1];refine AR 3 _ ⟨B,2,none⟩ (.int .i64 a) (by kernel_rfl) rfl rfl (fun x d=>by have Y:=(s.out x d).1;go_simp) ?_;simp only[A1]
 refine AY (by kernel_rfl) aq.out (fun _=>by kernel_rfl) ?_;simp only[A1]
 iterate 3 (refine AJ ?_;simp only[A1])
 refine BS fun x d=>?_;by_cases T:(m.length:Int)=N
 case neg=>
  have t0:((m.length:Int) != N)=true:=by rw[Ff];exact T
  have F:=Dl (Gp T);have ac:=(s.out x d).2.2.2.2.2.2;clear T
  go_wp2
  go_ret
  exact⟨AB (by rw[F.out];rfl),by first|exact ac|(rw[<-P.out];exact ac)⟩
 have t0:((m.length:Int) != N)=false:=by rw[T];simp
 have F:=Dl (Gq T);obtain⟨-,-,r0,r1,r2,r3,t⟩:=s.out x d;clear T;have q:=ar.out;clear ar;cases H
 case' true=>
  rw[Bc rfl] at q;obtain⟨d1,h1⟩:=Ai (((i:Int)==0));obtain⟨d2,h2⟩:=Ai (decide (I<0));obtain⟨d3,h3⟩:=Ai (decide (3<I));obtain⟨d4,h4⟩:=Ai (decide (Q<1));obtain⟨d5,h5⟩:=Ai (decide (31<Q));have hd:G=(!d1&&(!d2&&(!d3&&(!d4 && !d5)))):=by
   rw[<-q,<-h1,<-h2,<-h3,<-h4,<-h5,Iz];simp <;> omega
  have v:d1=true\/(d1=false/\d2=true)\/(d1=false/\d2=false/\d3=true)\/(d1=false/\d2=false/\d3=false/\d4=true)\/(d1=false/\d2=false/\d3=false/\d4=false/\d5=true)\/(d1=false/\d2=false/\d3=false/\d4=false/\d5=false):=by
   clear hd h1 h2 h3 h4 h5;cases d1 <;> cases d2 <;> cases d3 <;> cases d4 <;> cases d5 <;> simp
  clear q;rcases v with rfl|⟨rfl,rfl⟩|⟨rfl,rfl,rfl⟩|⟨rfl,rfl,rfl,rfl⟩|⟨rfl,rfl,rfl,rfl,rfl⟩|⟨rfl,rfl,rfl,rfl,rfl⟩
  case _|_|_|_|_=>
   have M:=Dl hd;clear hd
   go_wp2
   go_ret
   exact⟨AB (by rw[M.out,F.out];rfl),by first|exact t|(rw[<-P.out];exact t)⟩
  have M:=Dl (show G=true from hd);clear hd
  go_wp2
 case' false=>
  rw[Bb (by decide)] at q;obtain⟨d1,h1⟩:=Ai (I != 0);obtain⟨d2,h2⟩:=Ai (Q != 0);have hd:G=(!d1 && !d2):=by
   rw[<-q,<-h1,<-h2,Iz];simp
  have v:d1=true\/(d1=false/\d2=true)\/(d1=false/\d2=false):=by
   clear hd h1 h2;cases d1 <;> cases d2 <;> simp
  clear q;rcases v with rfl|⟨rfl,rfl⟩|⟨rfl,rfl⟩
  case _|_=>
   have M:=Dl hd;clear hd
   go_wp2
   go_ret
   exact⟨AB (by rw[M.out,F.out];rfl),by first|exact t|(rw[<-P.out];exact t)⟩
  have M:=Dl (show G=true from hd);clear hd
  go_wp2
 all_goals
  clear r0 r1 r2 r3
  go_loopw [6] (fun z wr=>∃j:Nat,z=.int .i64 (j:Int)/\j<=m.length/\Hid ((m.take j).all (BE inter)=true)/\Below (B+2) g wr) (fun z _=>m.length-(intOf z).toNat)
  case atStart=>exact⟨0,rfl,Dn _,Dl rfl,d⟩
  case round=>
   obtain⟨j,rfl,hj,ha,hb⟩:=hrel;have kk:=(s.out wr hb).2.2.2.2.2;obtain⟨k3,ad⟩:=kk;have a0:m.length<=9223372036854775807:=by have:=ay.out;unfold maxLen at this;omega
   by_cases u:j<m.length
   ·have t1:decide ((j:Int)<(m.length:Int))=true:=by simp;omega
    obtain⟨b2,o2,rfl,a1,ae⟩:=BO.each an.out (by omega);obtain⟨vs,⟨p3,af,O,-,ag⟩,ah⟩:=ae j u;have ac:=Dl (fun(x:A5) (d:Below (B+2) g x)=>(am.out.trans (d.mono (by have:=P.out;omega)):Below w.heap.size w x));have a2:=Dl ah;have ap:Hid ((prog.info? 77).map (·.size)=some vs.length):=Dl (by rw[show vs.length=18 by rw[O];rfl];kernel_rfl)
    have au:=Dl (fun(x:A5) (d:Below (B+2) g x)=>(by
     rw[O];exact(ZH inter m[j] p3 (fun i=>(m[j].ev i).length) af x (fun i hi=>⟨rfl,hc _ (Bl u) i hi,(ag i hi).2.below (ac.out x d)⟩)).mono fun e y h=>⟨h.1,d.trans (h.2.mono (by have:=d.size;have:=az.out;omega))⟩:A9 prog 86 #[.bool inter,.agg vs.toArray] x fun e y=>e=.returned (.bool (BE inter m[j]))/\Below (B+2) g y))
    have aj:=Dl (fun h=>Y6 u ha.out (f:=BE inter) h);have ak:=Dl (fun h=>Y5 (f:=BE inter) u h);clear ae O ag ah hc ha;generalize BE inter m[j]=y at au aj ak
    go_wp2
    refine BU (S:=fun x=>Below (B+2) g x) 9 (by kernel_rfl) (by kernel_rfl) hb.drew ?_;simp only[Dp,Bk,Gs,Gt];refine AJ ?_;simp only[A1];refine AR 4 _ ⟨B,3,none⟩ (.bool inter) (by kernel_rfl) rfl rfl (fun x d=>by have Y:=(s.out x d).2.1;go_simp) ?_;simp only[A1];refine AJ ?_;simp only[A1]
    refine AR 44 _ ⟨B+1,3,none⟩ (.slice (some ⟨b2,o2,none⟩) m.length cap) (by kernel_rfl) rfl rfl (fun x d=>by have Y:=(s.out x d).2.2.2.2.2.1;go_simp) ?_;simp only[A1];refine AJ ?_;simp only[A1];refine AJ ?_;simp only[A1]
    refine AR 77 _ ⟨b2,o2+j*18,none⟩ (.agg vs.toArray) (by kernel_rfl) rfl rfl (fun x d=>MR x b2 (o2+j*18) 77 vs _ (a2.out x (ac.out x d)) J2 rfl ap.out) ?_;simp only[A1];refine AY (by kernel_rfl) au.out (fun _=>by kernel_rfl) ?_;simp only[A1];refine AJ ?_;simp only[A1];refine BS fun x d=>?_;cases y with
    |false=>
     have N:=Dl (ak.out rfl);clear aj ak;have ai:=(s.out x d).2.2.2.2.2.2
     go_wp2
     go_ret
     exact⟨AB (by rw[M.out,F.out,N.out];rfl),by first|exact ai|(rw[<-P.out];exact ai)⟩
    |true=>
     have N:=Dl (aj.out rfl);clear aj ak
     go_wp2
     go_roundw
     case rel=>exact⟨j+1,by go_num,by omega,N,d⟩
     case measure=>simp[intOf];omega
   ·obtain rfl:m.length=j:=by omega
    have t1:decide ((m.length:Int)<(m.length:Int))=false:=by simp
    have a3:=Dl (show m.all (BE inter)=true by have:=ha.out;rwa [Iy] at this)
    go_wp2
    go_ret
    exact⟨AB (by rw[M.out,F.out,a3.out];rfl),by first|exact ad|(rw[<-P.out];exact ad)⟩
def ME (c:Cel):Bool:=c.skip || (c.kind==0 || c.kind==1)
theorem wU (c:Cel)(sl:Nat->A0)(w:A5):A9 prog 83 #[.agg (AF c sl).toArray] w fun e d=>e=.returned (.bool (ME c))/\Below w.heap.size w d:=by
 obtain⟨A,b,f0,f1,f2,f3,f4,f5,-,-⟩:=IJ c sl;rw[b];clear b;have a:Hid (ME c=(c.skip || (c.kind==0 || c.kind==1))):=Dl rfl;generalize ME c=f at a ⊢;generalize c.skip=s at f1 a;generalize c.kind=k at f2 a;cases s
 case true=>
  go_enter func83,ntmps83
  go_wp2
  go_ret
  exact⟨AB (by rw[a.out];rfl),(Dm _ w).alloc (Ba _) _⟩
 rcases N4 (k==0) with t0|t0
 ·go_enter func83,ntmps83
  go_wp2
  go_ret
  exact⟨AB (by rw[a.out,t0];rfl),(Dm _ w).alloc (Ba _) _⟩
 ·rcases N4 (k==1) with t1|t1
  ·go_enter func83,ntmps83
   go_wp2
   go_ret
   exact⟨AB (by rw[a.out,t0,t1];rfl),(Dm _ w).alloc (Ba _) _⟩
  ·go_enter func83,ntmps83
   go_wp2
   go_ret
   exact⟨AB (by rw[a.out,t0,t1];rfl),(Dm _ w).alloc (Ba _) _⟩
def KJ (n:Int)(H:Bool)(I Q:Int):Bool:=if H then decide (n≠0/\0<=I/\I<=3/\1<=Q/\Q<=31) else decide (I=0/\Q=0)
set_option maxRecDepth 100000 in
theorem tO (n:Int)(hn:0<=n)(H:Bool)(I Q:Int)(sl:A0)(w:A5):A9 prog 80 #[.int .i64 n,.agg #[.bool H,.int .i64 I,.int .i64 Q,sl]] w fun e d=>e=.returned (.bool (KJ n H I Q))/\Below w.heap.size w d:=by
 cases H
 case false=>
  obtain⟨G,a⟩:=Ai (KJ n false I Q);obtain⟨d1,h1⟩:=Ai (I==0);obtain⟨d2,h2⟩:=Ai (Q==0);have hd:G=(d1&&d2):=by
   rw[<-a,<-h1,<-h2,Iz];simp[KJ]
  rw[a];clear a;have b:=Dl hd;clear hd;cases d1 <;> cases d2 <;>
  (go_enter func80,ntmps80
   go_wp2
   go_ret
   exact⟨AB b.out.symm,(Dm _ w).alloc (Ba _) _⟩)
 case true=>
  obtain⟨G,a⟩:=Ai (KJ n true I Q);obtain⟨d1,h1⟩:=Ai (decide (0<n));obtain⟨d2,h2⟩:=Ai (decide (0<=I));obtain⟨d3,h3⟩:=Ai (decide (I<=3));obtain⟨d4,h4⟩:=Ai (decide (1<=Q));obtain⟨d5,c⟩:=Ai (decide (Q<=31));have hd:G=(d1&&(d2&&(d3&&(d4&&d5)))):=by
   rw[<-a,<-h1,<-h2,<-h3,<-h4,<-c,Iz];simp[KJ] <;> omega
  rw[a];clear a hn;have b:=Dl hd;have f:d1=false\/(d1=true/\d2=false)\/(d1=true/\d2=true/\d3=false)\/(d1=true/\d2=true/\d3=true/\d4=false)\/(d1=true/\d2=true/\d3=true/\d4=true/\d5=false)\/(d1=true/\d2=true/\d3=true/\d4=true/\d5=true):=by
   clear hd h1 h2 h3 h4 c b;cases d1 <;> cases d2 <;> cases d3 <;> cases d4 <;> cases d5 <;> simp
  clear hd;rcases f with rfl|⟨rfl,rfl⟩|⟨rfl,rfl,rfl⟩|⟨rfl,rfl,rfl,rfl⟩|⟨rfl,rfl,rfl,rfl,rfl⟩|⟨rfl,rfl,rfl,rfl,rfl⟩
  all_goals
   go_enter func80,ntmps80
   go_wp2
   go_ret
   exact⟨AB b.out.symm,(Dm _ w).alloc (Ba _) _⟩
theorem X6 (h:Shd)(a b:A0)(z:Int)(w:A5):A9 prog 81 #[.agg (AQ h a b z).toArray] w fun e d=>e=.returned (.int .i64 (BA h.fmt))/\Below w.heap.size w d:=by
 obtain⟨A,c⟩:=Ai ((AQ h a b z).toArray);have f2:A[2]? =some (.int .i64 h.fmt):=by rw[<-c];rfl
 rw[c];clear c;generalize h.fmt=k at f2 ⊢;have c1:=fun w=>Pb k w;have c2:=fun w=>PN k w;have g:IntKind.i64.wrap (Bx k*BG k)=BA k:=DA (by have:=NI k;unfold BA at this;omega);generalize BA k=N at *;generalize Bx k=x at *;generalize IV k=i at *;generalize BC k=j at *;generalize BG k=l at *
 go_enter func81,ntmps81
 go_wp2_with fail
 refine(c1 _).mono ?_;rintro e f ⟨rfl,rfl⟩
 go_wp2_with fail
 refine(c2 _).mono ?_;rintro e f ⟨rfl,rfl⟩
 go_wp2
 go_ret
 exact⟨rfl,(Dm _ w).alloc (Ba _) _⟩
theorem WR (d:FuncId)(X:Array A0)(n:Nat)(f:Nat->Bool)(b:Bool)(w:A5)(hn:n<=4611686018427387904)(r:∀args x,(callFunc d args).run prog x=.ok (.enter d args) x)
  (hc:∀i,i<n->(∀j,j<i->f j=true)->∀x,Below w.heap.size w x->A9 prog d #[.agg X,.int .i64 (i:Int)] x fun e y=>e=.returned (.bool (f i))/\Below x.heap.size x y)
  (p:(∀i,i<n->f i=true)->b=true)(q:∀i,i<n->f i=false->b=false):
  A9 prog 45 #[.int .i64 (n:Int),.func (.func d) #[.agg X] #[]] w fun e s=>e=.returned (.bool b)/\Below w.heap.size w s:=by
 have t:=Dl hc;have u:=Dl p;have v:=Dl q;clear hc p q
 go_enter func45,ntmps45
 go_wp2
 go_loopw [7] (fun z wr=>∃i:Nat,i<=n/\z=.int .i64 (i:Int)/\Hid (∀j,j<i->f j=true)/\Below w.heap.size w wr) (fun z _=>n-(intOf z).toNat)
 case atStart=>exact⟨0,Dn _,rfl,Dl fun j h=>absurd h (Fc j),Dm _ _⟩
 case round=>
  obtain⟨i,hi,rfl,g,k⟩:=hrel;by_cases a:i<n
  ·have t0:decide ((i:Int)<(n:Int))=true:=by simp;omega
   have c1:=t.out i a g.out wr k;have l:=Dl (fun(e:f i=true)=>(fun j hj=>(by
    by_cases h:j<i
    ·exact g.out j h
    ·obtain rfl:j=i:=by omega
     exact e):∀j,j<i+1->f j=true))
   have m:=Dl (v.out i a);clear g;generalize f i=y at c1 l m
   go_wp2_with fail
   refine c1.mono ?_;rintro e A ⟨rfl,o⟩;have c:Below w.heap.size w A:=k.trans (o.mono k.size);cases y with
   |true=>
    have N:=Dl (l.out rfl);clear l m
    go_wp2
    go_roundw
    case rel=>exact⟨i+1,by omega,by go_num,N,c⟩
    case measure=>simp[intOf];omega
   |false=>
    have N:=Dl (m.out rfl);clear l m
    go_wp2
    go_ret
    exact⟨AB N.out.symm,c⟩
  ·obtain rfl:n=i:=by omega
   have t0:decide ((n:Int)<(n:Int))=false:=by simp
   have N:=Dl (u.out g.out)
   go_wp2
   go_ret
   exact⟨AB N.out.symm,k⟩
theorem yS {α:Type}{f:Nat->α->Bool}{s:Nat}{l:List α}{j:Nat}(hj:j<l.length)(h:AP f s (l.take j)=true)(h1:f (s+j) l[j]=true):AP f s (l.take (j+1))=true:=by
 rw[Bd hj,SY,h,Be,show s+min j l.length=s+j by omega,h1];rfl
theorem rO {α:Type}{f:Nat->α->Bool}{s:Nat}{l:List α}{j:Nat}(hj:j<l.length)(h1:f (s+j) l[j]=false):AP f s l=false:=by
 cases h:AP f s l with
 |false=>rfl
 |true=>
  have:=NM.1 h j hj;rw[h1] at this;cases this
def HA (k:Int)(n:Nat)(c:Cel):Bool:=!ME c || GJ k (n:Int) c.mx c.my
set_option maxRecDepth 100000 in
theorem dG (S:ShP)(p b:Option Aa)(ca cb i N:Nat)(w:A5)(hi:i<S.rows.length)(hn:S.rows.length<=1000)(hN:BA S.hd.fmt=(N:Int))(hl:S.rows[i].cels.length=N)(hr:EC w b S.rows):
  A9 prog 47 #[.agg (AQ S.hd (.slice p S.hd.supp.length ca) (.slice b S.rows.length cb) S.zeros).toArray,.int .i64 (i:Int)] w fun e w'=>e=.returned (.bool (AP (HA S.hd.fmt) (i*N) S.rows[i].cels))/\Below w.heap.size w w':=by
 have au:N<=10000:=by have:=NI S.hd.fmt;omega
 obtain⟨P,T,rfl,G,U⟩:=JM hr (by omega);obtain⟨r,cap,hq,av,c,J⟩:=U i hi;clear U hr;have cE:=fun x=>X6 S.hd (.slice p S.hd.supp.length ca) (.slice (some ⟨P,T,none⟩) S.rows.length cb) S.zeros x;rw[hN] at cE;have cM:=fun n x y w=>Uu S.hd.fmt n x y w;generalize S.rows[i]=R at av c J hl ⊢;generalize S.rows.length=n at hi hn cE ⊢;obtain⟨H,I,Q,m⟩:=R;dsimp only at *
 obtain⟨zs,V⟩:=Ai (AQ S.hd (.slice p S.hd.supp.length ca) (.slice (some ⟨P,T,none⟩) n cb) S.zeros);have z6:zs[6]? =some (.slice (some ⟨P,T,none⟩) n cb):=by rw[<-V];rfl
 have z2:zs[2]? =some (.int .i64 S.hd.fmt):=by rw[<-V];rfl
 have aw:(prog.info? 78).map (·.size)=some zs.toArray.size:=by rw[show zs.toArray.size=8 by rw[<-V];rfl];kernel_rfl
 rw[V] at cE ⊢;clear V hN;generalize S.hd.fmt=a at *;obtain⟨B,hB⟩:=Ai w.heap.size;obtain⟨t,d⟩:=Ai (w.alloc (.cells zs.toArray 78 (0,0)));have K:t.heap[B]? =some (.cells zs.toArray 78 (0,0)):=by rw[<-d,<-hB];exact heap_alloc_new w _
 have L:Below w.heap.size w t:=by rw[<-d];exact(Dm _ w).alloc (Ba _) _
 have W:t.heap.size=B+1:=by rw[<-d,<-hB];simp
 have ao:Hid (∀x,Below (B+1) t x->x.cell? ⟨B,2,none⟩=some (.int .i64 a)/\x.cell? ⟨B,6,none⟩=some (.slice (some ⟨P,T,none⟩) n cb)/\x.cell? ⟨P,T+i*4+3,none⟩=some (.slice r m.length cap)/\Below w.heap.size w x):=Dl fun x hx=>by
  have h1:=(hx.block B (by omega)).trans K;have X:=L.trans (hx.mono (by omega));exact⟨A2 h1 z2,A2 h1 z6,(J x X).2.2.2,X⟩
 obtain⟨F,hF⟩:=Ai (i*N);have a7:F<=10000000:=by rw[<-hF];exact Hm (show i<=1000 by omega) au
 have hm:IntKind.i64.wrap ((i:Int)*(N:Int))=(F:Int):=by rw[<-hF,<-Iw];exact DA (by rw[hF];omega)
 rw[hF];have ax:=Dl d;have a5:=Dl hB;have ap:=Dl W;have Z:=Dl c;have a8:=Dl L;have a6:=Dl hl;obtain⟨Y,ay,a9⟩:=MK;clear d J L hF W z2 z6 c hl
 go_enter func47,ntmps47
 go_wp2_with (rw[ax.out];with_reducible refine N5 rfl 78 _ rfl B rfl 78 zs.toArray (0,0) _ K Nx rfl aw ?_)
 refine(cE _).mono ?_;rintro e w1 ⟨rfl,G⟩;have h1:Below (B+1) t w1:=G.mono (by have:=ap.out;omega);obtain⟨k2,k6,k3,az⟩:=ao.out w1 h1;have t1:decide ((i:Int)<(n:Int))=true:=by simp;omega
 clear G K
 go_wp2
 clear k2 k6 k3 t1 hm
 go_loopw [19] (fun z wr=>∃j:Nat,z=.int .i64 (j:Int)/\j<=m.length/\Hid (AP (HA a) F (m.take j)=true)/\Below (B+1) t wr) (fun z _=>m.length-(intOf z).toNat)
 case atStart=>exact⟨0,rfl,Dn _,Dl rfl,h1⟩
 case round=>
  clear h1 az;obtain⟨j,rfl,hj,ha,hb⟩:=hrel;obtain⟨-,-,-,M⟩:=ao.out wr hb;have ba:m.length<=10000:=by have:=a6.out;omega
  by_cases O:j<m.length
  ·have t1:decide ((j:Int)<(m.length:Int))=true:=by simp;omega
   obtain⟨b2,o2,rfl,bb,aa⟩:=BO.each Z.out (by omega);obtain⟨vs,hV,ab⟩:=aa j O;have g:=hV.shape.1;have ac:=OA hV;obtain⟨p3,ad,u,-,-⟩:=hV;have ae:wr.rangeAt b2 (o2+j*18) vs:=fun k v l=>ab wr M k v l;have af:=Dl (fun h=>yS (f:=HA a) O ha.out h);have aq:=Dl (fun h=>rO (s:=F) (f:=HA a) O h)
   have cP:=fun x=>wU m[j] (fun i=>.slice (p3 i) (m[j].ev i).length (ad i)) x;rw[<-u] at cP;have a0:=fun x=>cM ((F:Int)+(j:Int)) m[j].mx m[j].my x;have hs:IntKind.i64.wrap ((F:Int)+(j:Int))=(F:Int)+(j:Int):=DA (by have:=a6.out;omega);have ar:=Dl (show HA a (F+j) m[j]=(!ME m[j] || GJ a ((F:Int)+(j:Int)) m[j].mx m[j].my) by unfold HA;rw[Int.natCast_add])
   obtain⟨wC,o⟩:=Ai (wr.alloc (.cells vs.toArray 77 (0,0)));obtain⟨C,hC⟩:=Ai wr.heap.size;have A:wC.heap[C]? =some (.cells vs.toArray 77 (0,0)):=by rw[<-o,<-hC];exact heap_alloc_new wr _
   have ag:Below (B+1) t wC:=by rw[<-o];exact hb.alloc (by have:=hb.size;have:=ap.out;omega) _
   have ah:wC.heap.size=C+1:=by rw[<-o,<-hC];simp
   have bc:B+1<=C:=by rw[<-hC];have:=hb.size;have:=ap.out;omega
   have ai:(prog.info? 77).map (·.size)=some vs.toArray.size:=by rw[show vs.toArray.size=18 from g];kernel_rfl
   have a1:Y.size=vs.toArray.size:=by rw[ay];exact g.symm
   have v4:vs[4]? =some (.int .i64 m[j].mx):=by rw[u];rfl
   have v5:vs[5]? =some (.int .i64 m[j].my):=by rw[u];rfl
   have a2:=Dl o;have bd:=Dl A;have aj:=Dl ah;clear u ab aa ha o ah;generalize m[j].mx=mx at *;generalize m[j].my=my at *;generalize HA a (F+j) m[j]=y at *;generalize ME m[j]=pk at *;have bf:=Dl hC;clear hC
   go_wp2_with (first|(with_reducible refine Pu rfl _ rfl b2 (o2+j*18) rfl vs ae g ?_)|(with_reducible refine BZ rfl 77 _ _ rfl vs.toArray Y 77 rfl rfl ai a1 ac ?_;rw[a2.out])|(rw[bf.out];with_reducible refine N5 rfl 77 _ rfl C rfl 77 vs.toArray (0,0) _ A J2 rfl ai ?_))
   refine(cP _).mono ?_;rintro e w2 ⟨rfl,q⟩;have D:Below (B+1) t w2:=ag.trans (q.mono (by have:=aj.out;omega));have ak:w2.heap[C]? =some (.cells vs.toArray 77 (0,0)):=(q.block C (by have:=aj.out;omega)).trans A;clear q A ae ag;obtain⟨k2,-,-,bg⟩:=ao.out w2 D;cases pk with
   |false=>
    have al:=Dl (af.out (by rw[ar.out];rfl));clear af aq ar
    go_wp2
    go_roundw
    case rel=>exact⟨j+1,by go_num,by omega,al,D⟩
    case measure=>simp[intOf];omega
   |true=>
    have a3:w2.rangeAt C 4 [.int .i64 mx,.int .i64 my]:=fun k v l=>by
     match k,l with
     |0,l=>injection l with l;subst l;exact A2 ak v4
     |1,l=>injection l with l;subst l;exact A2 ak v5
    have E:=Dl (show y=GJ a ((F:Int)+(j:Int)) mx my from ar.out);clear ar
    go_wp2_with (with_reducible refine tM (by kernel_rfl) _ rfl C 4 rfl mx my a3 ?_)
    refine(a0 _).mono ?_;rintro e w3 ⟨rfl,a4⟩;have am:Below (B+1) t w3:=D.trans (a4.mono (by have:=D.size;have:=ap.out;omega));have an:=(ao.out w3 am).2.2.2;generalize GJ a ((F:Int)+(j:Int)) mx my=mv at *;cases mv with
    |true=>
     have al:=Dl (af.out E.out);clear af aq E
     go_wp2
     go_roundw
     case rel=>exact⟨j+1,by go_num,by omega,al,am⟩
     case measure=>simp[intOf];omega
    |false=>
     have al:=Dl (aq.out E.out);clear af aq E
     go_wp2
     go_ret
     exact⟨AB al.out.symm,by first|exact an|(rw[<-a5.out];exact an)⟩
  ·obtain rfl:m.length=j:=by omega
   have t1:decide ((m.length:Int)<(m.length:Int))=false:=by simp
   have bh:=Dl (show AP (HA a) F m=true by have:=ha.out;rwa [Iy] at this)
   go_wp2
   go_ret
   exact⟨AB bh.out.symm,by first|exact M|(rw[<-a5.out];exact M)⟩
theorem U9 {l m:List Int}(hl:l.length=m.length)(h:∀i,i<l.length->l.getD i 0=m.getD i 0):l=m:=by
 refine List.ext_getElem hl fun i h1 h2=>?_;have:=h i h1;rw[show l.getD i 0=l[i] by simp[List.getD,h1],show m.getD i 0=m[i] by simp[List.getD,h2]] at this;exact this
set_option maxRecDepth 100000 in
theorem xW (h Z:Shd)(p M:Option Aa)(cap r:Nat)(H I:A0)(z z':Int)(hl:h.supp.length<=maxLen)(w:A5)(hs:BH w p h.supp)(aa:BH w M Z.supp):
  A9 prog 57 #[.agg (AQ h (.slice p h.supp.length cap) H z).toArray,.agg (AQ Z (.slice M Z.supp.length r) I z').toArray] w fun e w'=>e=.returned (.bool (JJ h Z))/\Below w.heap.size w w':=by
 unfold maxLen at hl;obtain⟨C,o,D,inter,q,b⟩:=h;obtain⟨u,f,v,d,g,c⟩:=Z;unfold AQ;dsimp only at *;obtain⟨d1,h1⟩:=Ai (C != u);obtain⟨d2,h2⟩:=Ai (o != f);obtain⟨d3,h3⟩:=Ai (D != v);obtain⟨d4,h4⟩:=Ai (inter != d);obtain⟨d5,h5⟩:=Ai (q != g)
 obtain⟨d6,W⟩:=Ai (((b.length:Int) != (c.length:Int)));obtain⟨X,E⟩:=Ai (decide (b=c));have hd:JJ ⟨C,o,D,inter,q,b⟩ ⟨u,f,v,d,g,c⟩=(!d1&&(!d2&&(!d3&&(!d4&&(!d5&&X))))):=by
  rw[<-h1,<-h2,<-h3,<-h4,<-h5,<-E];simp[JJ,bne]
 have ab:d6=true->X=false:=fun e=>by
  rw[<-E,G3];rintro rfl;rw[e] at W;simp at W
 have O:d6=false->b.length=c.length:=fun e=>by
  rw[e,bne_eq_false_iff_eq] at W;exact Int.ofNat.inj W
 have P:b.length=c.length->(∀i,i<b.length->b.getD i 0=c.getD i 0)->X=true:=fun e k=>by rw[<-E,Fb];exact U9 e k
 have ac:∀i,b.getD i 0≠c.getD i 0->X=false:=fun i k=>by
  rw[<-E,G3];rintro rfl;exact k rfl
 rw[hd];obtain⟨R,hR⟩:=Ai ((!d1&&(!d2&&(!d3&&(!d4&&(!d5&&X))))));rw[hR];clear E hd;obtain⟨A,hA⟩:=Ai w.heap.size
 obtain⟨J,G⟩:=Ai ((w.alloc (.cells #[.int .i64 C,.int .i64 o,.int .i64 D,.bool inter,.int .i64 q,.slice p b.length cap,H,.int .i64 z] 39 (0,0))).alloc (.cells #[.int .i64 u,.int .i64 f,.int .i64 v,.bool d,.int .i64 g,.slice M c.length r,I,.int .i64 z'] 39 (0,0)))
 have m:Below w.heap.size w J:=by rw[<-G];exact((Dm _ w).alloc (Ba _) _).alloc (by simp) _
 have S:J.cell? ⟨A,5,none⟩=some (.slice p b.length cap):=A2 (cs:=[.int .i64 C,.int .i64 o,.int .i64 D,.bool inter,.int .i64 q,.slice p b.length cap,H,.int .i64 z]) (by rw[<-G,<-hA];exact CH (heap_alloc_new w _)) rfl
 have T:J.cell? ⟨A+1,5,none⟩=some (.slice M c.length r):=A2 (cs:=[.int .i64 u,.int .i64 f,.int .i64 v,.bool d,.int .i64 g,.slice M c.length r,I,.int .i64 z']) (by
  rw[<-G,<-hA];have:=heap_alloc_new (w.alloc (.cells #[.int .i64 C,.int .i64 o,.int .i64 D,.bool inter,.int .i64 q,.slice p b.length cap,H,.int .i64 z] 39 (0,0))) (.cells #[.int .i64 u,.int .i64 f,.int .i64 v,.bool d,.int .i64 g,.slice M c.length r,I,.int .i64 z'] 39 (0,0))
  simpa using this) rfl
 have t:=hs.below m;have l:=aa.below m;have K:=Dl G;have ao:=Dl hA;have n:=Dl hR;have U:=Dl m;have Q:=Dl ab;have s:=Dl O;have Y:=Dl P;have B:=Dl ac;clear hR ab O P ac
 have hB:d1=true\/(d1=false/\d2=true)\/(d1=false/\d2=false/\d3=true)\/(d1=false/\d2=false/\d3=false/\d4=true)\/(d1=false/\d2=false/\d3=false/\d4=false/\d5=true)\/(d1=false/\d2=false/\d3=false/\d4=false/\d5=false/\d6=true)\/(d1=false/\d2=false/\d3=false/\d4=false/\d5=false/\d6=false):=by
  clear h1 h2 h3 h4 h5 W Q s n;cases d1 <;> cases d2 <;> cases d3 <;> cases d4 <;> cases d5 <;> cases d6 <;> simp
 clear G hs aa hA;rcases hB with rfl|⟨rfl,rfl⟩|⟨rfl,rfl,rfl⟩|⟨rfl,rfl,rfl,rfl⟩|⟨rfl,rfl,rfl,rfl,rfl⟩|⟨rfl,rfl,rfl,rfl,rfl,rfl⟩|⟨rfl,rfl,rfl,rfl,rfl,rfl⟩
 case _|_|_=>
  have F:=Dl (show R=false by first|exact n.out.symm|(rw[<-n.out,Q.out rfl];rfl));clear n Q s Y B S T t l m
  go_enter func57,ntmps57
  go_wp2
  go_ret
  rw[K.out];exact⟨by rw[F.out];rfl,U.out⟩
 case _=>
  obtain rfl:inter = !d:=by cases inter <;> cases d <;> simp_all
  have F:=Dl (show R=false by first|exact n.out.symm|(rw[<-n.out,Q.out rfl];rfl));clear n Q s Y B S T t l m
  go_enter func57,ntmps57
  go_wp2
  go_ret
  rw[K.out];exact⟨by rw[F.out];rfl,U.out⟩
 case _|_=>
  obtain rfl:inter=d:=by simpa using h4
  have F:=Dl (show R=false by first|exact n.out.symm|(rw[<-n.out,Q.out rfl];rfl));clear n Q s Y B S T t l m
  go_enter func57,ntmps57
  go_wp2
  go_ret
  rw[K.out];exact⟨by rw[F.out];rfl,U.out⟩
 obtain rfl:inter=d:=by simpa using h4
 have F:=Dl (show R=X from n.out.symm);have ad:=s.out rfl;have ae:=Dl ad;clear Q n s ad
 go_enter func57,ntmps57
 go_wp2
 rw[K.out,ao.out];have an:Hid (∀x,Below J.heap.size J x->(x.cell? ⟨A,5,none⟩=some (.slice p b.length cap)/\x.cell? ⟨A+1,5,none⟩=some (.slice M c.length r))/\BH x p b/\BH x M c/\Below w.heap.size w x):=Dl fun x L=>
  ⟨⟨(Fz (a:=⟨A,5,none⟩) (L.block A (Fs J ⟨A,5,none⟩ S))).trans S,(Fz (a:=⟨A+1,5,none⟩) (L.block (A+1) (Fs J ⟨A+1,5,none⟩ T))).trans T⟩,t.below L,l.below L,m.trans (L.mono m.size)⟩
 clear S T t l m h1 h2 h3 h4 h5 W
 go_loopw [5] (fun i wr=>∃j:Nat,j<=b.length/\i=.int .i64 j/\Below J.heap.size J wr/\Hid (∀i,i<j->b.getD i 0=c.getD i 0)) (fun i _=>b.length-(RowKit.intOf i).toNat)
 case atStart=>exact⟨0,Dn _,rfl,Dm _ _,Dl fun i h=>absurd h (Fc i)⟩
 case round=>
  obtain⟨j,hj,rfl,af,ha⟩:=hrel;obtain⟨⟨S,T⟩,t,l,m⟩:=an.out _ af;clear an;by_cases ag:j<b.length
  ·have t1:decide ((j:Int)<(b.length:Int))=true:=by simp;omega
   have ah:j<c.length:=by rw[<-ae.out];exact ag
   obtain⟨b1,o1,rfl,ap,ai⟩:=t.hold (by omega);obtain⟨b2,o2,rfl,aq,aj⟩:=l.hold (by omega);have k0:=ai _ (Dm _ _) j ag;have k1:=aj _ (Dm _ _) j ah;have ak:=Dl (B.out j);have al:=Dl (fun(e:b.getD j 0=c.getD j 0) i (hi:i<j+1)=>(by
    by_cases h:i<j
    ·exact ha.out i h
    ·obtain rfl:i=j:=by omega
     exact e:b.getD i 0=c.getD i 0))
   clear ai aj t l ha B Y;obtain⟨x,L⟩:=Ai (b.getD j 0);obtain⟨y,hy⟩:=Ai (c.getD j 0);rw[L] at k0 ak;rw[hy] at k1 ak;simp only[L,hy] at al;have V:=al;clear al;clear L hy;by_cases e:x=y
   ·subst e;have N:=Dl (V.out rfl);have gx:(x != x)=false:=by simp
    clear V ak
    go_wp2
    go_region
    go_wp2
    go_roundw
    case rel=>exact⟨j+1,by omega,by go_num,af.drew,N⟩
    case measure=>simp[RowKit.intOf];omega
   ·have N:=Dl (ak.out e);have gx:(x != y)=true:=by rw[Ff];exact e
    have am:=m.drew;clear V ak e
    go_wp2
    go_region
    go_wp2
    go_ret
    exact⟨by rw[F.out,N.out];rfl,am⟩
  ·obtain rfl:b.length=j:=by omega
   have t1:decide ((b.length:Int)<(b.length:Int))=false:=by simp
   have N:=Dl (Y.out ae.out ha.out);clear t l ha Y B
   go_wp2
   go_ret
   exact⟨by rw[F.out,N.out];rfl,m⟩
set_option maxRecDepth 100000 in
theorem vK (p q:Option Aa)(l m:List Int)(c c':Nat)(w:A5)(v:BH w p l)(A:BH w q m)(hm:l.length<=maxLen):A9 prog 54 #[.slice p l.length c,.slice q m.length c'] w fun e E=>e=.returned (.bool (decide (l=m)))/\Below w.heap.size w E:=by
 unfold maxLen at hm;by_cases hl:l.length=m.length
 ·have B:=Dl hl;obtain⟨n,hn⟩:=Ai l.length;have C:=Dl hn;rw[<-hl,hn];rw[hn] at hm;clear hl hn
  go_enter func54,ntmps54
  go_wp2
  go_loopw [13] (fun z wr=>∃i:Nat,i<=n/\z=.int .i64 i/\Hid (∀j,j<i->l.getD j 0=m.getD j 0)/\Below w.heap.size w wr) (fun z _=>n-(intOf z).toNat)
  case atStart=>exact⟨0,Dn _,rfl,Dl fun j h=>absurd h (Fc j),Dm _ _⟩
  case round=>
   obtain⟨i,hi,rfl,hs,k⟩:=hrel;by_cases a:i<n
   ·have t0:decide ((i:Int)<(n:Int))=true:=by simp;omega
    have t1:decide (i<n)=true:=by simpa using a
    have d:i<l.length:=by rw[C.out];exact a
    have r:i<m.length:=by rw[<-B.out];exact d
    obtain⟨b,o,rfl,s,hc⟩:=(v.below k).hold (by omega);obtain⟨H,I,rfl,f,hd⟩:=(A.below k).hold (by omega);have J:=hc _ (Dm _ _) i d;have d0:=hd _ (Dm _ _) i r;have t:=Dl (fun(e:l.getD i 0=m.getD i 0) j (hj:j<i+1)=>(by
     by_cases h:j<i
     ·exact hs.out j h
     ·obtain rfl:j=i:=by omega
      exact e:l.getD j 0=m.getD j 0))
    have u:=Dl (fun(e:¬ l.getD i 0=m.getD i 0)=>(Gp (fun h=>e (by rw[h])):decide (l=m)=false));clear hc hd s f hs;have g:=k.drew;generalize l.getD i 0=x at *;generalize m.getD i 0=y at *;by_cases e:x=y
    ·have N:=Dl (t.out e);subst e;have G:(x != x)=false:=by simp
     clear t u
     go_wp2
     go_region
     go_wp2
     go_roundw
     case rel=>exact⟨i+1,by omega,by go_num,N,g⟩
     case measure=>simp[intOf];omega
    ·have N:=Dl (u.out e);have G:(x != y)=true:=by rw[Ff];exact e
     clear t u e
     go_wp2
     go_region
     go_wp2
     go_ret
     exact⟨AB N.out.symm,g⟩
   ·obtain rfl:i=n:=by omega
    have t0:decide ((i:Int)<(i:Int))=false:=by simp
    have t1:decide (i<i)=false:=by simp
    have F:=Dl (show decide (l=m)=true by rw[Fb];exact U9 B.out fun j hj=>hs.out j (by rw[<-C.out];exact hj))
    go_wp2
    go_ret
    exact⟨AB F.out.symm,k⟩
 ·have F:=Dl (show decide (l=m)=false by rw[G3];intro e;exact hl (by rw[e]));have D:((l.length:Int) != (m.length:Int))=true:=by rw[Ff];omega
  clear v A;generalize l.length=K at hl D hm ⊢;generalize m.length=L at hl D ⊢
  go_enter func54,ntmps54
  go_wp2
  go_ret
  exact⟨AB F.out.symm,Dm _ _⟩
set_option maxRecDepth 100000 in
theorem mW (p q:Option Aa)(l m:List Cel)(c c':Nat)(w:A5)(hp:HY w p l)(hq:HY w q m)(hm:l.length<=maxLen)(af:∀c∈l,∀k,k<6->(c.ev k).length<=1048576)(ag:∀c∈m,∀k,k<6->(c.ev k).length<=1048576):
  A9 prog 88 #[.slice p l.length c,.slice q m.length c',.func (.func 89) #[] #[]] w fun e w'=>e=.returned (.bool (decide (l.length=m.length)&&(l.zip m).all fun p=>CG p.1 p.2))/\Below w.heap.size w w':=by
 unfold maxLen at hm;obtain⟨R,L⟩:=Ai ((decide (l.length=m.length)&&(l.zip m).all fun p=>CG p.1 p.2));rw[L];by_cases hl:l.length=m.length
 case neg=>
  have F:=Dl (show R=false by rw[<-L,Gp hl];rfl);have g0:((l.length:Int) != (m.length:Int))=true:=by rw[Ff];omega
  clear hp hq L;generalize l.length=n1 at hl g0 hm ⊢;generalize m.length=n2 at hl g0 ⊢
  go_enter func88,ntmps88
  go_wp2
  go_ret
  exact⟨AB F.out.symm,Dm _ _⟩
 have av:=Dl (show R=(l.zip m).all (fun p=>CG p.1 p.2) by rw[<-L,Gq hl];rfl);have aw:=Dl hl;obtain⟨n,hn⟩:=Ai l.length;have ah:=Dl hn;rw[<-hl,hn];rw[hn] at hm;have ax:=Dl hp;have ay:=Dl hq;obtain⟨Y,M,az⟩:=MK;clear hl hn L hp hq
 go_enter func88,ntmps88
 go_wp2
 go_loopw [17] (fun z wr=>∃i:Nat,i<=n/\z=.int .i64 i/\Hid ((((l.take i).zip (m.take i)).all fun p=>CG p.1 p.2)=true)/\Below w.heap.size w wr) (fun z _=>n-(intOf z).toNat)
 case atStart=>exact⟨0,Dn _,rfl,Dl rfl,Dm _ _⟩
 case round=>
  obtain⟨i,hi,rfl,ha,J⟩:=hrel;by_cases O:i<n
  ·have t0:decide ((i:Int)<(n:Int))=true:=by simp;omega
   have t1:decide (i<n)=true:=by simpa using O
   have b:i<l.length:=by rw[ah.out];exact O
   have j:i<m.length:=by rw[<-aw.out];exact b
   obtain⟨b1,o1,rfl,a0,u⟩:=BO.each ax.out (by omega);obtain⟨o,D,P⟩:=u i b;have E:=D.shape.1;have ai:=OA D;obtain⟨px,kx,Q,-,S⟩:=D;have T:=af l[i] (Bl b);clear u;obtain⟨b2,o2,rfl,a1,x⟩:=BO.each ay.out (by omega);obtain⟨r,G,U⟩:=x i j;have H:=G.shape.1;have aj:=OA G;obtain⟨py,ky,V,-,W⟩:=G
   have X:=ag m[i] (Bl j);clear x;have ak:=Dl (fun h=>ND (f:=CG) b j ha.out h);have al:=Dl (fun h=>NF (f:=CG) b j h);obtain⟨C,hC⟩:=Ai wr.heap.size;obtain⟨K,d⟩:=Ai (wr.alloc (.cells o.toArray 77 (0,0)));obtain⟨wD,g⟩:=Ai (K.alloc (.cells r.toArray 77 (0,0)));have I:K.heap.size=C+1:=by rw[<-d,<-hC];simp
   have s:Below wr.heap.size wr K:=by rw[<-d];exact(Dm _ wr).alloc (Ba _) _
   have Z:Below wr.heap.size wr wD:=by rw[<-g];exact s.alloc s.size _
   have aa:K.rangeAt b2 (o2+i*18) r:=fun k v t=>U K (J.trans (s.mono J.size)) k v t;have ab:wr.rangeAt b1 (o1+i*18) o:=fun k v t=>P wr J k v t;have am:wD.heap[C]? =some (.cells o.toArray 77 (0,0)):=by rw[<-g];refine CH ?_;rw[<-d,<-hC];exact heap_alloc_new wr _
   have an:wD.heap[C+1]? =some (.cells r.toArray 77 (0,0)):=by rw[<-g,<-I];exact heap_alloc_new K _
   have a:=J.trans (Z.mono J.size);have ac:(prog.info? 77).map (·.size)=some o.toArray.size:=by rw[show o.toArray.size=18 from E];kernel_rfl
   have ad:(prog.info? 77).map (·.size)=some r.toArray.size:=by rw[show r.toArray.size=18 from H];kernel_rfl
   have ao:Y.size=o.toArray.size:=by rw[M];exact E.symm
   have ap:Y.size=r.toArray.size:=by rw[M];exact H.symm
   have A:=cB l[i] m[i] px py (fun k=>(l[i].ev k).length) (fun k=>(m[i].ev k).length) kx ky wD (fun k t=>⟨rfl,T k t,(S k t).2.below a⟩) (fun k t=>⟨rfl,X k t,(W k t).2.below a⟩);rw[<-Q,<-V] at A;clear Q V S W T X;have aq:=Dl d;have ar:=Dl g;have a2:=Dl hC;have au:=Dl I;clear d g hC I s Z P U ha
   generalize CG l[i] m[i]=y at *
   go_wp2_with (first|(with_reducible refine Pu rfl _ rfl b1 (o1+i*18) rfl o ab E ?_)|(with_reducible refine Pu rfl _ rfl b2 (o2+i*18) rfl r aa H ?_)|(with_reducible refine BZ rfl 77 _ _ rfl o.toArray Y 77 rfl rfl ac ao ai ?_;rw[aq.out,a2.out])|(with_reducible refine BZ rfl 77 _ _ rfl r.toArray Y 77 rfl rfl ad ap aj ?_;rw[ar.out,au.out])|(with_reducible refine N5 rfl 77 _ rfl C rfl 77 o.toArray (0,0) _ am J2 rfl ac ?_)|(with_reducible refine N5 rfl 77 _ rfl (C+1) rfl 77 r.toArray (0,0) _ an J2 rfl ad ?_))
   refine A.mono ?_;rintro e w2 ⟨rfl,ae⟩;have B:=a.trans (ae.mono a.size);cases y with
   |true=>
    have N:=Dl (ak.out rfl);clear ak al
    go_wp2
    go_roundw
    case rel=>exact⟨i+1,by omega,by go_num,N,B⟩
    case measure=>simp[intOf];omega
   |false=>
    have N:=Dl (al.out rfl);clear ak al
    go_wp2
    go_ret
    exact⟨AB (by rw[av.out,N.out]),B⟩
  ·obtain rfl:i=n:=by omega
   have t0:decide ((i:Int)<(i:Int))=false:=by simp
   have t1:decide (i<i)=false:=by simp
   have N:=Dl (show (l.zip m).all (fun p=>CG p.1 p.2)=true by
    have h:=ha.out;rw[Bh (by have:=ah.out;omega),Bh (by have:=ah.out;have:=aw.out;omega)] at h;exact h)
   go_wp2
   go_ret
   exact⟨AB (by rw[av.out,N.out]),J⟩
set_option maxRecDepth 100000 in
theorem eR (a b:RowP)(p q:Option Aa)(c c':Nat)(w:A5)(z:HY w p a.cels)(A:HY w q b.cels)(hm:a.cels.length<=maxLen)(n:∀c∈a.cels,∀k,k<6->(c.ev k).length<=1048576)(o:∀c∈b.cels,∀k,k<6->(c.ev k).length<=1048576):
  A9 prog 56 #[.agg #[.bool a.head,.int .i64 a.id,.int .i64 a.quant,.slice p a.cels.length c],.agg #[.bool b.head,.int .i64 b.id,.int .i64 b.quant,.slice q b.cels.length c']] w fun e E=>e=.returned (.bool (rwB a b))/\Below w.heap.size w E:=by
 obtain⟨H,I,Q,l⟩:=a;obtain⟨g,r,Q',m⟩:=b;dsimp only at *;have i:=fun x (B:Below w.heap.size w x)=>mW p q l m c c' x (z.below B) (A.below B) hm n o;have d:rwB ⟨H,I,Q,l⟩ ⟨g,r,Q',m⟩=((H==g&&(I==r&&Q==Q'))&&(decide (l.length=m.length)&&(l.zip m).all fun p=>CG p.1 p.2)):=rfl;generalize (decide (l.length=m.length)&&(l.zip m).all fun p=>CG p.1 p.2)=C at *
 obtain⟨R,D⟩:=Ai (rwB ⟨H,I,Q,l⟩ ⟨g,r,Q',m⟩);rw[D] at d ⊢;obtain⟨d2,h2⟩:=Ai (I==r);obtain⟨d3,h3⟩:=Ai (Q==Q');rw[h2,h3] at d
 have s:Below w.heap.size w ((w.alloc (.cells #[.bool H,.int .i64 I,.int .i64 Q,.slice p l.length c] 46 (0,0))).alloc (.cells #[.bool g,.int .i64 r,.int .i64 Q',.slice q m.length c'] 46 (0,0))):=((Dm _ w).alloc (Ba _) _).alloc (by simp) _;have f:=Dl s;clear D z A n o s;have G:g=H\/g = !H:=by cases H <;> cases g <;> simp
 rcases G with rfl|rfl
 case inr=>
  have F:=Dl (show R=false by rw[d];cases H <;> rfl);clear d;cases H <;>
  (go_enter func56,ntmps56
   go_wp2
   go_ret
   exact⟨AB F.out.symm,f.out⟩)
 have j:R=((d2&&d3)&&C):=by rw[d];simp
 have h:=Dl j;clear d j;have J:d2=false\/(d2=true/\d3=false)\/(d2=true/\d3=true):=by
  clear h2 h3 h;cases d2 <;> cases d3 <;> simp
 rcases J with rfl|⟨rfl,rfl⟩|⟨rfl,rfl⟩
 case _|_=>
  cases g <;>
  (go_enter func56,ntmps56
   go_wp2
   go_ret
   exact⟨AB h.out.symm,f.out⟩)
 have c1:=i _ f.out;have t:=Dl (show R=C from h.out);have v:=Dl c1;clear i h c1;cases g <;>
 (go_enter func56,ntmps56
  go_wp2_with fail
  refine v.out.mono ?_;rintro e K ⟨rfl,y⟩;have u:=f.out.trans (y.mono f.out.size)
  go_wp2
  go_ret
  exact⟨AB t.out.symm,u⟩)
set_option maxRecDepth 100000 in
theorem rZ (p q:Option Aa)(l m:List RowP)(c c':Nat)(w:A5)(hp:EC w p l)(hq:EC w q m)(hm:l.length<=maxLen)(ai:∀r∈l,∀c∈r.cels,∀k,k<6->(c.ev k).length<=1048576)(aj:∀r∈m,∀c∈r.cels,∀k,k<6->(c.ev k).length<=1048576):
  A9 prog 55 #[.slice p l.length c,.slice q m.length c',.func (.func 56) #[] #[]] w fun e w'=>e=.returned (.bool (decide (l.length=m.length)&&(l.zip m).all fun p=>rwB p.1 p.2))/\Below w.heap.size w w':=by
 unfold maxLen at hm;obtain⟨R,T⟩:=Ai ((decide (l.length=m.length)&&(l.zip m).all fun p=>rwB p.1 p.2));rw[T];by_cases hl:l.length=m.length
 case neg=>
  have F:=Dl (show R=false by rw[<-T,Gp hl];rfl);have g0:((l.length:Int) != (m.length:Int))=true:=by rw[Ff];omega
  clear hp hq T;generalize l.length=n1 at hl g0 hm ⊢;generalize m.length=n2 at hl g0 ⊢
  go_enter func55,ntmps55
  go_wp2
  go_ret
  exact⟨AB F.out.symm,Dm _ _⟩
 have az:=Dl (show R=(l.zip m).all (fun p=>rwB p.1 p.2) by rw[<-T,Gq hl];rfl);have a4:=Dl hl;obtain⟨n,hn⟩:=Ai l.length;have ak:=Dl hn;rw[<-hl,hn];rw[hn] at hm;have a5:=Dl hp;have a6:=Dl hq;obtain⟨Y,U,a7⟩:=Ps;clear hl hn T hp hq
 go_enter func55,ntmps55
 go_wp2
 go_loopw [17] (fun z wr=>∃i:Nat,i<=n/\z=.int .i64 i/\Hid ((((l.take i).zip (m.take i)).all fun p=>rwB p.1 p.2)=true)/\Below w.heap.size w wr) (fun z _=>n-(intOf z).toNat)
 case atStart=>exact⟨0,Dn _,rfl,Dl rfl,Dm _ _⟩
 case round=>
  obtain⟨i,hi,rfl,ha,Q⟩:=hrel;by_cases V:i<n
  ·have t0:decide ((i:Int)<(n:Int))=true:=by simp;omega
   have t1:decide (i<n)=true:=by simpa using V
   have j:i<l.length:=by rw[ak.out];exact V
   have D:i<m.length:=by rw[<-a4.out];exact j
   obtain⟨b1,o1,rfl,a8,G⟩:=JM a5.out (by omega);obtain⟨rx,kx,a9,W,o,H⟩:=G i j;obtain⟨d,s⟩:=Ai ([Value.bool l[i].head,.int .i64 l[i].id,.int .i64 l[i].quant,.slice rx l[i].cels.length kx]);have M:d.length=4:=by rw[<-s];rfl
   have al:d.toArray.all (·.oneCell')=true:=by rw[<-s];simp[Value.oneCell']
   have X:∀x,Below w.heap.size w x->∀(k:Nat) v,d[k]? =some v->x.cell? ⟨b1,o1+i*4+k,none⟩=some v:=fun x hx k v a=>by
    obtain⟨a0,a1,a2,a3⟩:=H x hx;rw[<-s] at a
    match k,a with
    |0,a=>injection a with a;subst a;exact a0
    |1,a=>injection a with a;subst a;exact a1
    |2,a=>injection a with a;subst a;exact a2
    |3,a=>injection a with a;subst a;exact a3
   have Z:=ai l[i] (Bl j);clear G H;obtain⟨b2,o2,rfl,ba,I⟩:=JM a6.out (by omega);obtain⟨ry,ky,bb,am,t,J⟩:=I i D;obtain⟨g,u⟩:=Ai ([Value.bool m[i].head,.int .i64 m[i].id,.int .i64 m[i].quant,.slice ry m[i].cels.length ky]);have O:g.length=4:=by rw[<-u];rfl
   have an:g.toArray.all (·.oneCell')=true:=by rw[<-u];simp[Value.oneCell']
   have aa:∀x,Below w.heap.size w x->∀(k:Nat) v,g[k]? =some v->x.cell? ⟨b2,o2+i*4+k,none⟩=some v:=fun x hx k v a=>by
    obtain⟨a0,a1,a2,a3⟩:=J x hx;rw[<-u] at a
    match k,a with
    |0,a=>injection a with a;subst a;exact a0
    |1,a=>injection a with a;subst a;exact a1
    |2,a=>injection a with a;subst a;exact a2
    |3,a=>injection a with a;subst a;exact a3
   have ab:=aj m[i] (Bl D);clear I J;have ao:=Dl (fun h=>ND (f:=rwB) j D ha.out h);have ap:=Dl (fun h=>NF (f:=rwB) j D h);obtain⟨C,hC⟩:=Ai wr.heap.size;obtain⟨S,A⟩:=Ai (wr.alloc (.cells d.toArray 46 (0,0)));obtain⟨wD,B⟩:=Ai (S.alloc (.cells g.toArray 46 (0,0)));have P:S.heap.size=C+1:=by rw[<-A,<-hC];simp
   have E:Below wr.heap.size wr S:=by rw[<-A];exact(Dm _ wr).alloc (Ba _) _
   have ac:Below wr.heap.size wr wD:=by rw[<-B];exact E.alloc E.size _
   have ad:S.rangeAt b2 (o2+i*4) g:=fun k v a=>aa S (Q.trans (E.mono Q.size)) k v a;have ae:wr.rangeAt b1 (o1+i*4) d:=fun k v a=>X wr Q k v a;have aq:wD.heap[C]? =some (.cells d.toArray 46 (0,0)):=by rw[<-B];refine CH ?_;rw[<-A,<-hC];exact heap_alloc_new wr _
   have ar:wD.heap[C+1]? =some (.cells g.toArray 46 (0,0)):=by rw[<-B,<-P];exact heap_alloc_new S _
   have b:=Q.trans (ac.mono Q.size);have af:(prog.info? 46).map (·.size)=some d.toArray.size:=by rw[show d.toArray.size=4 from M];kernel_rfl
   have ag:(prog.info? 46).map (·.size)=some g.toArray.size:=by rw[show g.toArray.size=4 from O];kernel_rfl
   have au:Y.size=d.toArray.size:=by rw[U];exact M.symm
   have av:Y.size=g.toArray.size:=by rw[U];exact O.symm
   have K:=eR l[i] m[i] rx ry kx ky wD (o.below b) (t.below b) W Z ab;rw[show (#[Value.bool l[i].head,.int .i64 l[i].id,.int .i64 l[i].quant,.slice rx l[i].cels.length kx]:Array A0)=d.toArray by rw[<-s],show (#[Value.bool m[i].head,.int .i64 m[i].id,.int .i64 m[i].quant,.slice ry m[i].cels.length ky]:Array A0)=g.toArray by rw[<-u]] at K
   clear s u o t Z ab W am;have aw:=Dl A;have ax:=Dl B;have bc:=Dl hC;have ay:=Dl P;clear A B hC P E ac X aa ha;generalize rwB l[i] m[i]=y at *
   go_wp2_with (first|(with_reducible refine Qg rfl _ rfl b1 (o1+i*4) rfl d ae M ?_)|(with_reducible refine Qg rfl _ rfl b2 (o2+i*4) rfl g ad O ?_)|(with_reducible refine BZ rfl 46 _ _ rfl d.toArray Y 46 rfl rfl af au al ?_;rw[aw.out,bc.out])|(with_reducible refine BZ rfl 46 _ _ rfl g.toArray Y 46 rfl rfl ag av an ?_;rw[ax.out,ay.out])|(with_reducible refine N5 rfl 46 _ rfl C rfl 46 d.toArray (0,0) _ aq J3 rfl af ?_)|(with_reducible refine N5 rfl 46 _ rfl (C+1) rfl 46 g.toArray (0,0) _ ar J3 rfl ag ?_))
   refine K.mono ?_;rintro e w2 ⟨rfl,ah⟩;have L:=b.trans (ah.mono b.size);cases y with
   |true=>
    have N:=Dl (ao.out rfl);clear ao ap
    go_wp2
    go_roundw
    case rel=>exact⟨i+1,by omega,by go_num,N,L⟩
    case measure=>simp[intOf];omega
   |false=>
    have N:=Dl (ap.out rfl);clear ao ap
    go_wp2
    go_ret
    exact⟨AB (by rw[az.out,N.out]),L⟩
  ·obtain rfl:i=n:=by omega
   have t0:decide ((i:Int)<(i:Int))=false:=by simp
   have t1:decide (i<i)=false:=by simp
   have N:=Dl (show (l.zip m).all (fun p=>rwB p.1 p.2)=true by
    have h:=ha.out;rw[Bh (by have:=ak.out;omega),Bh (by have:=ak.out;have:=a4.out;omega)] at h;exact h)
   go_wp2
   go_ret
   exact⟨AB (by rw[az.out,N.out]),Q⟩
set_option maxRecDepth 100000 in
theorem rP (S D:ShP)(p b Q P:Option Aa)(ca cb J C:Nat)(w:A5)(hl:S.hd.supp.length<=maxLen)(hn:S.rows.length<=maxLen)(hs:BH w p S.hd.supp)(T:BH w Q D.hd.supp)(hr:EC w b S.rows)(U:EC w P D.rows)
  (hc:∀c∈BI S,∀k,k<6->(c.ev k).length<=1048576)(V:∀c∈BI D,∀k,k<6->(c.ev k).length<=1048576):
  A9 prog 25 #[.agg (AQ S.hd (.slice p S.hd.supp.length ca) (.slice b S.rows.length cb) S.zeros).toArray,.agg (AQ D.hd (.slice Q D.hd.supp.length J) (.slice P D.rows.length C) D.zeros).toArray] w fun e w'=>e=.returned (.bool (shB S D))/\Below w.heap.size w w':=by
 have W:=fun x (K:Below w.heap.size w x)=>vK p Q S.hd.supp D.hd.supp ca J x (hs.below K) (T.below K) hl;have X:=fun x (K:Below w.heap.size w x)=>rZ b P S.rows D.rows cb C x (hr.below K) (U.below K) hn (fun r h c h2=>hc c (Nw.2 ⟨r,h,h2⟩)) (fun r h c h2=>V c (Nw.2 ⟨r,h,h2⟩));obtain⟨⟨y,j,z,inter,l,v⟩,rows,m⟩:=S
 obtain⟨⟨s,f,t,d,g,q⟩,o,i⟩:=D;unfold AQ;dsimp only at *;clear hs T hr U hc V
 have u:shB ⟨⟨y,j,z,inter,l,v⟩,rows,m⟩ ⟨⟨s,f,t,d,g,q⟩,o,i⟩=((y==s&&(j==f&&(z==t&&(inter==d&&(l==g&&decide (v=q))))))&&(m==i&&(decide (rows.length=o.length)&&(rows.zip o).all fun p=>rwB p.1 p.2))):=rfl
 generalize (decide (rows.length=o.length)&&(rows.zip o).all fun p=>rwB p.1 p.2)=er at *;generalize decide (v=q)=es at *;generalize rows.length=n at *;generalize o.length=n' at *;generalize v.length=k at *;generalize q.length=k' at *;obtain⟨R,hR⟩:=Ai (shB ⟨⟨y,j,z,inter,l,v⟩,rows,m⟩ ⟨⟨s,f,t,d,g,q⟩,o,i⟩)
 rw[hR] at u ⊢;clear hR;obtain⟨d1,h1⟩:=Ai (y==s);obtain⟨d2,h2⟩:=Ai (j==f);obtain⟨d3,h3⟩:=Ai (z==t);obtain⟨d5,h5⟩:=Ai (l==g);obtain⟨d6,h6⟩:=Ai (m==i);rw[h1,h2,h3,h5,h6] at u;obtain⟨A,hA⟩:=Ai w.heap.size
 obtain⟨zs,ad⟩:=Ai ([Value.int .i64 y,.int .i64 j,.int .i64 z,.bool inter,.int .i64 l,.slice p k ca,.slice b n cb,.int .i64 m])
 obtain⟨N,E⟩:=Ai ((w.alloc (.cells #[.int .i64 y,.int .i64 j,.int .i64 z,.bool inter,.int .i64 l,.slice p k ca,.slice b n cb,.int .i64 m] 39 (0,0))).alloc (.cells #[.int .i64 s,.int .i64 f,.int .i64 t,.bool d,.int .i64 g,.slice Q k' J,.slice P n' C,.int .i64 i] 39 (0,0)))
 have G:Below w.heap.size w N:=by rw[<-E];exact((Dm _ w).alloc (Ba _) _).alloc (by simp) _
 have k6:N.cell? ⟨A,6,none⟩=some (.slice b n cb):=A2 (cs:=[.int .i64 y,.int .i64 j,.int .i64 z,.bool inter,.int .i64 l,.slice p k ca,.slice b n cb,.int .i64 m]) (by rw[<-E,<-hA];exact CH (heap_alloc_new w _)) rfl
 have L:N.cell? ⟨A+1,6,none⟩=some (.slice P n' C):=A2 (cs:=[.int .i64 s,.int .i64 f,.int .i64 t,.bool d,.int .i64 g,.slice Q k' J,.slice P n' C,.int .i64 i]) (by
  rw[<-E,<-hA];exact R2 w _ _) rfl
 have aa:Hid (∀x,Below N.heap.size N x->(x.cell? ⟨A,6,none⟩=some (.slice b n cb)/\x.cell? ⟨A+1,6,none⟩=some (.slice P n' C))/\Below w.heap.size w x):=Dl fun x K=>
  ⟨⟨(Fz (a:=⟨A,6,none⟩) (K.block A (Fs N ⟨A,6,none⟩ k6))).trans k6,(Fz (a:=⟨A+1,6,none⟩) (K.block (A+1) (Fs N ⟨A+1,6,none⟩ L))).trans L⟩,G.trans (K.mono G.size)⟩
 have ab:=Dl (W N G);have ac:=Dl X;have H:=Dl E;have ag:=Dl hA;have M:=Dl G;clear E hA G k6 L W X ad;have hB:d1=false\/(d1=true/\d2=false)\/(d1=true/\d2=true/\d3=false)\/(d1=true/\d2=true/\d3=true):=by
  clear h1 h2 h3 u;cases d1 <;> cases d2 <;> cases d3 <;> simp
 rcases hB with rfl|⟨rfl,rfl⟩|⟨rfl,rfl,rfl⟩|⟨rfl,rfl,rfl⟩
 case _|_|_=>
  have F:=Dl (show R=false from u);clear u aa ab ac
  go_enter func25,ntmps25
  go_wp2
  go_ret
  rw[H.out];exact⟨by rw[F.out];rfl,M.out⟩
 have hH:d=inter\/d = !inter:=by cases inter <;> cases d <;> simp
 rcases hH with rfl|rfl
 case inr=>
  have F:=Dl (show R=false by rw[u];cases inter <;> rfl);clear u aa ab ac;cases inter <;>
  (go_enter func25,ntmps25
   go_wp2
   go_ret
   first|(rw[H.out];exact⟨by rw[F.out];rfl,M.out⟩)|(have h:=H.out;simp only[Gz,Ha] at h;rw[h];exact⟨by rw[F.out];rfl,M.out⟩))
 have O:R=((d5&&es)&&(d6&&er)):=by rw[u];simp
 have I:=Dl O;clear u O;have hB:d5=false\/(d5=true/\d6=false)\/(d5=true/\d6=true):=by
  clear h5 h6 I;cases d5 <;> cases d6 <;> simp
 rcases hB with rfl|⟨rfl,rfl⟩|⟨rfl,rfl⟩
 case _|_=>
  have F:=Dl (show R=false by rw[I.out];first|rfl|(cases es <;> rfl));clear I aa ab ac;cases d <;>
  (go_enter func25,ntmps25
   go_wp2
   go_ret
   rw[H.out];exact⟨by rw[F.out];rfl,M.out⟩)
 have Y:=Dl (show R=(es&&er) by rw[I.out];simp);clear I;cases d <;>
 (go_enter func25,ntmps25
  go_wp2_with fail
  rw[H.out,ag.out];refine ab.out.mono ?_;rintro e w2 ⟨rfl,ae⟩;obtain⟨⟨k6,L⟩,B⟩:=aa.out w2 ae;cases es with
  |false=>
   have F:=Dl (show R=false from Y.out)
   go_wp2
   go_ret
   exact⟨by rw[F.out];rfl,B⟩
  |true=>
   have F:=Dl (show R=er from Y.out);have cR:=ac.out w2 B
   go_wp2_with fail
   refine cR.mono ?_;rintro e w3 ⟨rfl,af⟩;have Z:=B.trans (af.mono B.size)
   go_wp2
   go_ret
   exact⟨by rw[F.out];rfl,Z⟩)
structure Yj4 (S:ShP):Prop where
 rows:S.rows.length<=30
 supp:S.hd.supp.length<=100
 cels:∀i (h:i<S.rows.length),S.rows[i].cels.length<=200
 evs:∀i (h:i<S.rows.length),∀j (h':j<S.rows[i].cels.length),∀k,k<6->(S.rows[i].cels[j].ev k).length<=100
 all:(BI S).length<=200
theorem Yj4.mem {S:ShP}(h:Yj4 S):∀c∈BI S,∀k,k<6->(c.ev k).length<=100:=by
 intro c hc k a;obtain⟨r,hr,hc⟩:=Nw.1 hc;obtain⟨i,hi,rfl⟩:=J4.1 hr;obtain⟨j,hj,rfl⟩:=J4.1 hc;exact h.evs i hi j hj k a
def KG (S:ShP)(w:A5)(e:Ending)(a:A5):Prop:=(∃y,e=.returned (.bool y)/\(y=true->Yj4 S))/\Below w.heap.size w a
theorem KG.no {S:ShP}{w a:A5}(h:Below w.heap.size w a):KG S w (.returned (.bool false)) a:=⟨⟨false,rfl,fun h=>by cases h⟩,h⟩
theorem dX (c:Cel)(sl:Nat->A0){e:Nat}(a:e<6):(AF c sl)[12+e]? =some (sl e):=by
 match e,a with
 |0,_|1,_|2,_|3,_|4,_|5,_=>rfl
set_option maxRecDepth 100000 in
theorem mQ (S:ShP)(p b:Option Aa)(ca cb:Nat)(w:A5)(hl:S.hd.supp.length<=maxLen)(hn:S.rows.length<=maxLen)(hr:EC w b S.rows):
  A9 prog 18 #[.agg (AQ S.hd (.slice p S.hd.supp.length ca) (.slice b S.rows.length cb) S.zeros).toArray] w (KG S w):=by
 unfold maxLen at hn hl;obtain⟨n,u⟩:=Ai S.rows.length;obtain⟨q,x⟩:=Ai S.hd.supp.length;rw[u] at hn ⊢;rw[x] at hl ⊢;obtain⟨zs,M⟩:=Ai (AQ S.hd (.slice p q ca) (.slice b n cb) S.zeros);have Y:zs[6]? =some (.slice b n cb):=by rw[<-M];rfl
 have z5:zs[5]? =some (.slice p q ca):=by rw[<-M];rfl
 rw[M];obtain⟨B,Z⟩:=Ai w.heap.size;obtain⟨O,d⟩:=Ai (w.alloc (.cells zs.toArray 39 (0,0)));have C:O.heap[B]? =some (.cells zs.toArray 39 (0,0)):=by rw[<-d,<-Z];exact heap_alloc_new w _
 have D:Below w.heap.size w O:=by rw[<-d];exact(Dm _ w).alloc (Ba _) _
 have y:=Dl d;have al:=Dl Z;have a:=Dl D;have E:=Dl u;have af:=Dl x;have ag:=Dl hr;have aa:=Dl (A2 C Y);clear d D M u x hr;by_cases h1:30<n
 ·have t1:decide (30<(n:Int))=true:=by simp;omega
  go_enter func18,ntmps18
  go_wp2
  go_ret
  rw[y.out];exact KG.no a.out
 have t1:decide (30<(n:Int))=false:=by simp;omega
 by_cases h2:100<q
 ·have t2:decide (100<(q:Int))=true:=by simp;omega
  go_enter func18,ntmps18
  go_wp2
  go_ret
  rw[y.out];exact KG.no a.out
 have t2:decide (100<(q:Int))=false:=by simp;omega
 go_enter func18,ntmps18
 go_wp2
 rw[y.out];have k6:=aa.out;clear z5 Y t1 t2 aa C
 go_loop [3,4] (fun v t=>∃i:Nat,t=.int .i64 (i:Int)/\v=.int .i64 ((GZ S i).length:Int)/\i<=n/\(GZ S i).length<=200*i/\Hid ((∀j (h:j<S.rows.length),j<i->S.rows[j].cels.length<=200)/\∀j (h:j<S.rows.length),j<i->∀m (h':m<S.rows[j].cels.length),∀k,k<6->(S.rows[j].cels[m].ev k).length<=100)) (fun _ t=>n-(intOf t).toNat)
 case atStart=>exact⟨0,rfl,rfl,Dn _,Dn _,Dl ⟨fun j _ h=>absurd h (Fc j),fun j _ h=>absurd h (Fc j)⟩⟩
 case round=>
  obtain⟨i,rfl,rfl,hi,hL,P⟩:=hrel;by_cases R:i<n
  ·have t1:decide ((i:Int)<(n:Int))=true:=by simp;omega
   have F:i<S.rows.length:=by rw[E.out];exact R
   obtain⟨b1,o1,rfl,ah,G⟩:=JM ag.out (by omega);obtain⟨r,cap,hq,ai,H,I⟩:=G i F;obtain⟨-,-,-,c3⟩:=I _ a.out;have nx:=Uk S F;have ab:=Dl (fun(h1:S.rows[i].cels.length<=200) (h2:∀m (h':m<S.rows[i].cels.length),∀k,k<6->(S.rows[i].cels[m].ev k).length<=100)=>(⟨fun j h hj=>(by
     by_cases e:j<i
     ·exact P.out.1 j h e
     ·obtain rfl:j=i:=by omega
      exact h1),fun j h hj=>(by
     by_cases e:j<i
     ·exact P.out.2 j h e
     ·obtain rfl:j=i:=by omega
      exact h2)⟩:(∀j (h:j<S.rows.length),j<i+1->S.rows[j].cels.length<=200)/\∀j (h:j<S.rows.length),j<i+1->∀m (h':m<S.rows[j].cels.length),∀k,k<6->(S.rows[j].cels[m].ev k).length<=100))
   clear G I P;generalize S.rows[i].cels=m at *;have ac:=Dl (show (GZ S (i+1)).length=(GZ S i).length+m.length by rw[nx,B9]);generalize (GZ S i).length=L at *;clear nx;by_cases hm:200<m.length
   ·have t2:decide (200<(m.length:Int))=true:=by simp;omega
    go_wp2
    go_ret
    exact KG.no a.out
   have t2:decide (200<(m.length:Int))=false:=by simp;omega
   go_wp2
   clear t1 t2
   go_loop [3,5] (fun v t=>∃k:Nat,t=.int .i64 (k:Int)/\v=.int .i64 ((L+k:Nat):Int)/\k<=m.length/\Hid (∀j (h:j<m.length),j<k->∀e,e<6->(m[j].ev e).length<=100)) (fun _ t=>m.length-(intOf t).toNat)
   case atStart=>exact⟨0,rfl,rfl,Dn _,Dl fun j _ h=>absurd h (Fc j)⟩
   case round=>
    obtain⟨k,rfl,rfl,hk,f⟩:=hrel;by_cases T:k<m.length
    ·have t3:decide ((k:Int)<(m.length:Int))=true:=by simp;omega
     obtain⟨b2,U,rfl,aj,J⟩:=BO.each H (by omega);obtain⟨vs,⟨p3,s,z,-,-⟩,K⟩:=J k T;have ad:=Dl (fun(h2:∀e,e<6->(m[k].ev e).length<=100)=>(fun j h hj=>(by
      by_cases e:j<k
      ·exact f.out j h e
      ·obtain rfl:j=k:=by omega
       exact h2):∀j (h:j<m.length),j<k+1->∀e,e<6->(m[j].ev e).length<=100))
     clear J f;generalize m[k]=c at z ad;have Q:=Dl (fun(e:Nat) (he:e<6)=>(by
      have h4:=K O a.out (12+e) (.slice (p3 e) (c.ev e).length (s e)) (by rw[z];exact dX c _ he);rwa [show U+k*18+(12+e)=U+k*18+12+e by omega] at h4:O.cell? ⟨b2,U+k*18+12+e,none⟩=some (.slice (p3 e) (c.ev e).length (s e))))
     clear z K
     go_wp2
     clear t3
     go_loop [6] (fun t=>∃e:Nat,t=.int .i64 (e:Int)/\e<=6/\Hid (∀g,g<e->(c.ev g).length<=100)) (fun t=>6-(intOf t).toNat)
     case atStart=>exact⟨0,rfl,Dn _,Dl fun j h=>absurd h (Fc j)⟩
     case round=>
      obtain⟨e,rfl,he,o⟩:=hrel;by_cases V:e<6
      ·have t3:decide ((e:Int)<6)=true:=by simp;omega
       have ce:=Q.out e V;have ae:=o;clear o;obtain⟨l,A⟩:=Ai ((c.ev e).length);rw[A] at ce;have W:=Dl A;clear A;by_cases X:100<l
       ·have t4:decide (100<(l:Int))=true:=by simp;omega
        go_wp2
        go_ret
        exact KG.no a.out
       ·have t4:decide (100<(l:Int))=false:=by simp;omega
        have N:=Dl (show∀g,g<e+1->(c.ev g).length<=100 from fun g h=>by
         by_cases h3:g<e
         ·exact ae.out g h3
         ·obtain rfl:g=e:=by omega
          rw[W.out];omega)
        clear ae
        go_wp2
        go_round
        case rel=>exact⟨e+1,by go_num,by omega,N⟩
        case measure=>simp[intOf];omega
      ·obtain rfl:e=6:=by omega
       have t3:decide (((6:Nat):Int)<6)=false:=by simp
       have N:=Dl (ad.out o.out);clear o
       go_wp2
       go_round
       case rel=>exact⟨k+1,by go_num,by go_num,by omega,N⟩
       case measure=>simp[intOf];omega
    ·obtain rfl:m.length=k:=by omega
     have t3:decide ((m.length:Int)<(m.length:Int))=false:=by simp
     have N:=Dl (ab.out (by omega) (fun j h=>f.out j h h));clear f ab
     go_wp2
     go_round
     case rel=>exact⟨i+1,by go_num,by rw[ac.out],by omega,by rw[ac.out];omega,N⟩
     case measure=>simp[intOf];omega
  ·obtain rfl:n=i:=by omega
   have t1:decide ((n:Int)<(n:Int))=false:=by simp
   have ak:=Dl (Vt S E.out);have Q:=Dl P.out;rw[ak.out];by_cases h3:(BI S).length<=200
   ·have t2:decide (((BI S).length:Int)<=200)=true:=by simp;omega
    go_wp2
    go_ret
    exact⟨⟨true,rfl,fun _=>⟨by rw[E.out];omega,by rw[af.out];omega,fun j h=>Q.out.1 j h (by rw[<-E.out];exact h),fun j h=>Q.out.2 j h (by rw[<-E.out];exact h),h3⟩⟩,a.out⟩
   ·have t2:decide (((BI S).length:Int)<=200)=false:=by simp;omega
    go_wp2
    go_ret
    exact KG.no a.out
set_option maxRecDepth 100000 in
theorem fN (S:ShP)(p b:Option Aa)(ca cb:Nat)(w:A5)(hl:S.hd.supp.length<=maxLen)(hn:S.rows.length<=maxLen)(hs:BH w p S.hd.supp)(hr:EC w b S.rows)(hm:(BI S).length<=1048576)(hc:∀c∈BI S,∀k,k<6->(c.ev k).length<=1048576):
  A9 prog 22 #[.agg (AQ S.hd (.slice p S.hd.supp.length ca) (.slice b S.rows.length cb) S.zeros).toArray] w fun e w'=>e=.returned (.int .i64 (BT S))/\Below w.heap.size w w':=by
 unfold maxLen at hn;have n1:∀i (h:i<S.rows.length),∀c∈S.rows[i].cels,c∈BI S:=fun i h c hc=>Nw.2 ⟨_,Bl h,hc⟩;obtain⟨zs,J⟩:=Ai (AQ S.hd (.slice p S.hd.supp.length ca) (.slice b S.rows.length cb) S.zeros);have z6:zs[6]? =some (.slice b S.rows.length cb):=by rw[<-J];rfl
 have z2:zs[2]? =some (.int .i64 S.hd.fmt):=by rw[<-J];rfl
 have z7:zs[7]? =some (.int .i64 S.zeros):=by rw[<-J];rfl
 have ag:zs.length=8:=by rw[<-J];rfl
 obtain⟨B,hB⟩:=Ai w.heap.size;obtain⟨o,D⟩:=Ai (w.alloc (.cells zs.toArray 39 (0,0)));have ah:o.heap[B]? =some (.cells zs.toArray 39 (0,0)):=by rw[<-D,<-hB];exact heap_alloc_new w _
 have ai:Below w.heap.size w o:=by rw[<-D];exact(Dm _ w).alloc (Ba _) _
 have aj:o.heap.size=B+1:=by rw[<-D,<-hB];simp
 have ak:∀x,Below (B+1) o x->Below w.heap.size w x:=fun x d=>ai.trans (d.mono (by omega));have K:∀(x y:A5),Below (B+1) o x->Below x.heap.size x y->Below (B+1) o y:=fun x y d hy=>d.trans (hy.mono (by have:=d.size;omega));have L:=Dl (fun(x:A5) (d:Below (B+1) o x)=>(d.block B (by omega)).trans ah)
 have m:=Dl (fun(x:A5) (d:Below (B+1) o x)=>(⟨A2 (L.out x d) z2,A2 (L.out x d) z6,A2 (L.out x d) z7,ak x d⟩:x.cell? ⟨B,2,none⟩=some (.int .i64 S.hd.fmt)/\x.cell? ⟨B,6,none⟩=some (.slice b S.rows.length cb)/\x.cell? ⟨B,7,none⟩=some (.int .i64 S.zeros)/\Below w.heap.size w x));have U:=Dl (fun(x:A5) (d:Below (B+1) o x)=>(by
  rw[<-J];exact(wK S.hd p ca (.slice b S.rows.length cb) S.zeros hl x (hs.below (ak x d))).mono fun e y h=>⟨h.1,K x y d h.2⟩:A9 prog 48 #[.agg zs.toArray] x fun e y=>e=.returned (.bool (Ec S.hd))/\Below (B+1) o y))
 have al:=Dl (fun(x:A5) (d:Below (B+1) o x)=>((P3 S.hd.fmt x).mono fun e y h=>⟨h.1,K x y d h.2⟩:A9 prog 49 #[.int .i64 S.hd.fmt] x fun e y=>e=.returned (.agg (JN S.hd.fmt))/\Below (B+1) o y));have a3:=Dl (fun(i:Nat) (hi:i<S.rows.length) (x:A5) (d:Below (B+1) o x)=>(by
  rw[<-J];exact Z2 S p b ca cb i x hi (by unfold maxLen;exact hn) (hr.below (ak x d)) (fun c h k hk=>hc c (n1 i hi c h) k hk):A9 prog 50 #[.agg zs.toArray,.int .i64 (i:Int)] x fun e y=>e=.returned (.bool (DJ S.hd.inter (BA S.hd.fmt) i S.rows[i]))/\Below x.heap.size x y))
 have bd:=Dl (fun(x:A5) (d:Below (B+1) o x)=>(by
  rw[<-J];exact iI S p b ca cb x (by unfold maxLen;exact hn) (hr.below (ak x d)) hm:A9 prog 51 #[.agg zs.toArray] x fun e y=>∃v,e=.returned v/\AV 18 77 (EZ x) y x.heap.size v (BI S)/\Below x.heap.size x y))
 have am:=fun w=>(Za (CS S.hd.fmt) (CY S.hd.fmt) (BC S.hd.fmt) (BG S.hd.fmt) w).2;unfold JN at al;have a4:=Dl (fun(h:Ec S.hd=false)=>(Pk (by unfold EL;rw[h];rfl):BT S=12));have an:=Dl (fun(h:S.zeros<0\/262144<S.zeros)=>(Pk (by unfold EL;rw[Gp (by omega:¬ (0<=S.zeros/\S.zeros<=262144)),Hb,Gv]):BT S=12))
 have ao:=Dl (fun(h:¬ (S.rows.length:Int)=BC S.hd.fmt)=>(Pk (by unfold EL;rw[Gp h,Hb,Gv,Gv]):BT S=12));have az:=Dl (fun(h:AP (DJ S.hd.inter (BA S.hd.fmt)) 0 S.rows=false)=>(Pk (by unfold EL;rw[h,Gv,Gv,Gv]):BT S=12))
 have a0:=Dl (fun(h1:Ec S.hd=true) (h2:¬ S.zeros<0) (h3:¬ 262144<S.zeros) (h4:(S.rows.length:Int)=BC S.hd.fmt) (h5:AP (DJ S.hd.inter (BA S.hd.fmt)) 0 S.rows=true)=>(by unfold EL;rw[h1,Gq (by omega:0<=S.zeros/\S.zeros<=262144),Gq h4,h5];rfl:EL S=true));have a5:=Dl (fun h (h1:AP (CC S.hd.fmt) 0 (BI S)=false)=>V2 h h1)
 have a6:=Dl (fun h (h1:AP (CC S.hd.fmt) 0 (BI S)=true)=>Sw h h1);have s:(prog.info? 39).map (·.size)=some zs.toArray.size:=by rw[show zs.toArray.size=8 from ag];kernel_rfl
 have a7:=Dl D;have V:=Dl hB;have bk:=Dl aj;have bf:=Dl K;have bl:=Dl hm;have O:Below (B+1) o o:=Dm _ _;rw[J];clear D ah ai aj ak K z2 z6 z7 ag J n1 hs hr hl hc hm;obtain⟨E,hE⟩:=Ai (BT S);rw[hE] at a4 an ao az a5 a6 ⊢;clear hE;obtain⟨l,hf⟩:=Ai S.hd.fmt;obtain⟨inter,ap⟩:=Ai S.hd.inter
 obtain⟨A,aq⟩:=Ai S.zeros;simp only[hf,ap,aq] at m U al a3 am an ao az a0 a5 a6 hn;obtain⟨n,W⟩:=Ai S.rows.length;rw[W] at m hn;have a1:=Dl W;clear hf ap aq W;generalize CS l=bo at *;generalize CY l=bp at *;obtain⟨a8,X⟩:=Ai (BC l);rw[X] at ao a0 al;simp only[X] at am;clear X;generalize BG l=bq at *
 go_enter func22,ntmps22
 go_wp2
 rw[a7.out];cases hd:Ec S.hd with
 |false=>
  rw[hd] at U;have t:=Dl (a4.out hd);clear hd;refine BU (S:=fun x=>Below (B+1) o x) 23 (by kernel_rfl) (by kernel_rfl) O.drew ?_;simp only[Dp,Bk,Gs,Gt];refine FJ 39 _ B 39 zs.toArray (0,0) _ (by kernel_rfl) rfl rfl (fun x d=>L.out x d) Nv rfl s ?_;simp only[A1]
  refine AY (by kernel_rfl) U.out (fun _=>by kernel_rfl) ?_;simp only[A1]
  iterate 2 (refine AJ ?_;simp only[A1])
  iterate 3 (refine DW (by kernel_rfl) ?_;simp only[A1])
  iterate 2 (refine AJ ?_;simp only[A1])
  iterate 3 (refine DW (by kernel_rfl) ?_;simp only[A1])
  iterate 2 (refine AJ ?_;simp only[A1])
  iterate 8 (refine DW (by kernel_rfl) ?_;simp only[A1])
  refine AJ ?_;simp only[A1];refine BS fun x d=>?_
  go_wp2
  go_ret
  exact⟨by rw[t.out];rfl,by first|exact(m.out x d).2.2.2|(rw[<-V.out];exact(m.out x d).2.2.2)⟩
 |true=>
 rw[hd] at U;by_cases h1:A<0
 ·have t0:decide (A<0)=true:=Gq h1;have t:=Dl (an.out (.inl h1));clear h1 hd;refine BU (S:=fun x=>Below (B+1) o x) 23 (by kernel_rfl) (by kernel_rfl) O.drew ?_;simp only[Dp,Bk,Gs,Gt];refine FJ 39 _ B 39 zs.toArray (0,0) _ (by kernel_rfl) rfl rfl (fun x d=>L.out x d) Nv rfl s ?_;simp only[A1]
  refine AY (by kernel_rfl) U.out (fun _=>by kernel_rfl) ?_;simp only[A1]
  iterate 3 (refine AJ ?_;simp only[A1])
  refine AR 3 _ ⟨B,7,none⟩ (.int .i64 A) (by kernel_rfl) rfl rfl (fun x d=>by have F:=(m.out x d).2.2.1;go_simp) ?_;simp only[A1]
  iterate 3 (refine AJ ?_;simp only[A1])
  iterate 3 (refine DW (by kernel_rfl) ?_;simp only[A1])
  iterate 2 (refine AJ ?_;simp only[A1])
  iterate 8 (refine DW (by kernel_rfl) ?_;simp only[A1])
  refine AJ ?_;simp only[A1];refine BS fun x d=>?_
  go_wp2
  go_ret
  exact⟨by rw[t.out];rfl,by first|exact(m.out x d).2.2.2|(rw[<-V.out];exact(m.out x d).2.2.2)⟩
 by_cases h2:262144<A
 ·have t0:decide (A<0)=false:=Gp h1;have t1:decide (262144<A)=true:=Gq h2;have t:=Dl (an.out (.inr h2));clear h1 h2 hd;refine BU (S:=fun x=>Below (B+1) o x) 23 (by kernel_rfl) (by kernel_rfl) O.drew ?_;simp only[Dp,Bk,Gs,Gt]
  refine FJ 39 _ B 39 zs.toArray (0,0) _ (by kernel_rfl) rfl rfl (fun x d=>L.out x d) Nv rfl s ?_;simp only[A1];refine AY (by kernel_rfl) U.out (fun _=>by kernel_rfl) ?_;simp only[A1]
  iterate 3 (refine AJ ?_;simp only[A1])
  refine AR 3 _ ⟨B,7,none⟩ (.int .i64 A) (by kernel_rfl) rfl rfl (fun x d=>by have F:=(m.out x d).2.2.1;go_simp) ?_;simp only[A1]
  iterate 4 (refine AJ ?_;simp only[A1])
  refine AR 3 _ ⟨B,7,none⟩ (.int .i64 A) (by kernel_rfl) rfl rfl (fun x d=>by have F:=(m.out x d).2.2.1;go_simp) ?_;simp only[A1]
  iterate 3 (refine AJ ?_;simp only[A1])
  iterate 8 (refine DW (by kernel_rfl) ?_;simp only[A1])
  refine AJ ?_;simp only[A1];refine BS fun x d=>?_
  go_wp2
  go_ret
  exact⟨by rw[t.out];rfl,by first|exact(m.out x d).2.2.2|(rw[<-V.out];exact(m.out x d).2.2.2)⟩
 have t0:decide (A<0)=false:=Gp h1;have t1:decide (262144<A)=false:=Gp h2;have ar:=Dl (a0.out hd (by omega) (by omega));clear h1 h2 hd a4 an a0;refine BU (S:=fun x=>Below (B+1) o x) 23 (by kernel_rfl) (by kernel_rfl) O.drew ?_;simp only[Dp,Bk,Gs,Gt]
 refine FJ 39 _ B 39 zs.toArray (0,0) _ (by kernel_rfl) rfl rfl (fun x d=>L.out x d) Nv rfl s ?_;simp only[A1];refine AY (by kernel_rfl) U.out (fun _=>by kernel_rfl) ?_;simp only[A1]
 iterate 3 (refine AJ ?_;simp only[A1])
 refine AR 3 _ ⟨B,7,none⟩ (.int .i64 A) (by kernel_rfl) rfl rfl (fun x d=>by have F:=(m.out x d).2.2.1;go_simp) ?_;simp only[A1]
 iterate 4 (refine AJ ?_;simp only[A1])
 refine AR 3 _ ⟨B,7,none⟩ (.int .i64 A) (by kernel_rfl) rfl rfl (fun x d=>by have F:=(m.out x d).2.2.1;go_simp) ?_;simp only[A1]
 iterate 4 (refine AJ ?_;simp only[A1])
 refine AR 37 _ ⟨B,6,none⟩ (.slice b n cb) (by kernel_rfl) rfl rfl (fun x d=>by have F:=(m.out x d).2.1;go_simp) ?_;simp only[A1]
 iterate 2 (refine AJ ?_;simp only[A1])
 refine AR 3 _ ⟨B,2,none⟩ (.int .i64 l) (by kernel_rfl) rfl rfl (fun x d=>by have F:=(m.out x d).1;go_simp) ?_;simp only[A1];refine AY (by kernel_rfl) al.out (fun _=>by kernel_rfl) ?_;simp only[A1]
 iterate 3 (refine AJ ?_;simp only[A1])
 refine BS fun x d=>?_;clear U al;by_cases e0:(n:Int)=a8
 case neg=>
  have t3:((n:Int) != a8)=true:=by rw[Ff];exact e0
  have t:=Dl (ao.out (by rw[a1.out];exact e0));clear e0
  go_wp2
  go_ret
  exact⟨by rw[t.out];rfl,by first|exact(m.out x d).2.2.2|(rw[<-V.out];exact(m.out x d).2.2.2)⟩
 have t3:((n:Int) != a8)=false:=by rw[e0];simp
 have bg:=Dl (ar.out (by rw[a1.out];exact e0));clear e0 ar ao;have c6:=(m.out x d).2.1;rw[t3]
 go_wp2
 clear c6
 go_loopw [3] (fun z wr=>∃i:Nat,z=.int .i64 (i:Int)/\i<=n/\Hid (AP (DJ inter (BA l)) 0 (S.rows.take i)=true)/\Below (B+1) o wr) (fun z _=>n-(intOf z).toNat)
 case atStart=>exact⟨0,rfl,Dn _,Dl rfl,d⟩
 case round=>
  obtain⟨i,rfl,hi,P,u⟩:=hrel;have c6:=(m.out wr u).2.1;by_cases Z:i<n
  ·have t1:decide ((i:Int)<(n:Int))=true:=by simp;omega
   have Q:i<S.rows.length:=by rw[a1.out];exact Z
   have cr:=a3.out i Q wr u;have C:=Dl (fun h=>Yr Q P.out h);have G:=Dl (fun h=>SE (f:=DJ inter (BA l)) Q h);have hl:=L.out wr u;clear P;generalize DJ inter (BA l) i S.rows[i]=y at cr C G;clear Q
   go_wp2_with (with_reducible refine N5 rfl 39 _ rfl B rfl 39 zs.toArray (0,0) _ hl Nv rfl s ?_)
   refine cr.mono ?_;rintro e x ⟨rfl,au⟩;have d:=bf.out _ _ u au;clear cr au hl c6;cases y with
   |false=>
    have t:=Dl (az.out (G.out rfl));clear C G
    go_wp2
    go_ret
    exact⟨by rw[t.out];rfl,by first|exact(m.out x d).2.2.2|(rw[<-V.out];exact(m.out x d).2.2.2)⟩
   |true=>
    have N:=Dl (C.out rfl);clear C G
    go_wp2
    go_roundw
    case rel=>
     exact⟨i+1,by go_num,by omega,N,d⟩
    case measure=>simp[intOf];omega
  ·obtain rfl:n=i:=by omega
   have t1:decide ((n:Int)<(n:Int))=false:=by simp
   have bh:=Dl (bg.out (by have:=P.out;rwa [<-a1.out,Iy] at this));have hl:=L.out wr u;have cc:=bd.out wr u;clear P bg az a3 bd
   go_wp2_with (with_reducible refine N5 rfl 39 _ rfl B rfl 39 zs.toArray (0,0) _ hl Nv rfl s ?_)
   refine cc.mono ?_;rintro e r ⟨v,rfl,av,aa⟩;have ab:=bf.out _ _ u aa
   obtain⟨q,cap,rfl,a9⟩:=av.many (V':=EZ) (fun a vs h=>EZ.below aa a vs h);clear cc hl c6 av aa u;obtain⟨M,hM⟩:=Ai ((BI S).length);have aw:=Dl hM;have bm:M<=1048576:=by have:=bl.out;omega
   rw[hM];obtain⟨Y,hY⟩:=Ai r.heap.size;have ac:=Dl hY;have ba:Below Y r r:=Dm _ _;have ad:=Dl (fun(x:A5) (d:Below Y r x)=>(ab.trans (d.mono (by rw[<-hY];have:=ab.size;have:=bk.out;omega)):Below (B+1) o x));clear hM hY ab
   go_wp2
   go_loopw [5] (fun z wr=>∃j:Nat,z=.int .i64 (j:Int)/\j<=M/\Hid (AP (CC l) 0 ((BI S).take j)=true)/\Below Y r wr) (fun z _=>M-(intOf z).toNat)
   case atStart=>exact⟨0,rfl,Dn _,Dl rfl,ba⟩
   case round=>
    obtain⟨j,rfl,hj,P,u⟩:=hrel;by_cases Z:j<M
    ·have t2:decide ((j:Int)<(M:Int))=true:=by simp;omega
     have R:j<(BI S).length:=by rw[aw.out];exact Z
     obtain⟨b2,I,rfl,bn,ax⟩:=BO.each a9 (by omega);obtain⟨vs,⟨p3,bi,T,-,-⟩,ae⟩:=ax j R;have C:=Dl (fun h=>Yr (f:=CC l) R P.out h);have G:=Dl (fun h=>SE (f:=CC l) R h);clear P ax;generalize (BI S)[j]=c at T C G;clear R;have bb:=Dl (fun(x:A5) (d:Below Y r x)=>ae x (ac.out▸d) 2 (.int .i64 c.kind) (by rw[T];rfl))
     have bc:=Dl (fun(x:A5) (d:Below Y r x) (j':Nat) (v:A0) (h:[Value.int .i64 c.mx,.int .i64 c.my][j']? =some v)=>(by
      have h4:=ae x (ac.out▸d) (4+j') v (by
       rw[T]
       match j',h with
       |0,h=>exact h
       |1,h=>exact h)
      rwa [show I+j*18+(4+j')=I+j*18+4+j' by omega] at h4:x.cell? ⟨b2,I+j*18+4+j',none⟩=some v))
     have bj:=Dl (fun(x:A5) (d:Below Y r x)=>(m.out x (ad.out x d)).1);have ay:=Dl (fun(x:A5) (d:Below Y r x)=>(Wn c.kind x).mono fun e y h=>(⟨h.1,h.2▸d⟩:e=.returned (.bool (AE c.kind))/\Below Y r y))
     have a2:=Dl (fun(x:A5) (d:Below Y r x)=>(pG l (j:Int) c.mx c.my x).mono fun e y h=>(⟨h.1,d.trans (h.2.mono (by have:=d.size;have:=ac.out;omega))⟩:e=.returned (.bool (GJ l (j:Int) c.mx c.my))/\Below Y r y));have af:Hid (CC l j c=(AE c.kind || GJ l (j:Int) c.mx c.my)):=Dl rfl;clear T ae;generalize CC l j c=y at C G af
     generalize GJ l (j:Int) c.mx c.my=g at a2 af;cases hk:AE c.kind with
     |true=>
      rw[hk] at ay af;have N:=Dl (C.out af.out);clear C G hk a2 bc
      go_wp2
      refine BU (S:=fun x=>Below Y r x) 19 (by kernel_rfl) (by kernel_rfl) u.drew ?_;simp only[Dp,Bk,Gs,Gt]
      iterate 4 (refine AJ ?_;simp only[A1])
      refine AR 3 _ ⟨b2,I+j*18+2,none⟩ (.int .i64 c.kind) (by kernel_rfl) rfl rfl (fun x d=>by have F:=(bb.out x d);go_simp) ?_;simp only[A1];refine AY (by kernel_rfl) ay.out (fun _=>by kernel_rfl) ?_;simp only[A1]
      iterate 2 (refine AJ ?_;simp only[A1])
      iterate 10 (refine DW (by kernel_rfl) ?_;simp only[A1])
      refine AJ ?_;simp only[A1];refine BS fun x d=>?_
      go_wp2
      go_roundw
      case rel=>exact⟨j+1,by go_num,by omega,N,d⟩
      case measure=>simp[intOf];omega
     |false=>
      rw[hk] at ay af;clear hk;cases g with
      |true=>
       have N:=Dl (C.out af.out);clear C G
       go_wp2
       refine BU (S:=fun x=>Below Y r x) 19 (by kernel_rfl) (by kernel_rfl) u.drew ?_;simp only[Dp,Bk,Gs,Gt]
       iterate 4 (refine AJ ?_;simp only[A1])
       refine AR 3 _ ⟨b2,I+j*18+2,none⟩ (.int .i64 c.kind) (by kernel_rfl) rfl rfl (fun x d=>by have F:=(bb.out x d);go_simp) ?_;simp only[A1];refine AY (by kernel_rfl) ay.out (fun _=>by kernel_rfl) ?_;simp only[A1]
       iterate 3 (refine AJ ?_;simp only[A1])
       refine AR 3 _ ⟨B,2,none⟩ (.int .i64 l) (by kernel_rfl) rfl rfl (fun x d=>by have F:=(bj.out x d);go_simp) ?_;simp only[A1]
       iterate 5 (refine AJ ?_;simp only[A1])
       refine AR 73 _ ⟨b2,I+j*18+4,none⟩ (.agg (F9 c.mx c.my)) (by kernel_rfl) rfl rfl (fun x d=>MR x b2 (I+j*18+4) 73 [.int .i64 c.mx,.int .i64 c.my] _ (bc.out x d) Gx rfl rfl) ?_;simp only[A1];refine AY (by kernel_rfl) a2.out (fun _=>by kernel_rfl) ?_;simp only[A1]
       iterate 2 (refine AJ ?_;simp only[A1])
       refine BS fun x d=>?_
       go_wp2
       go_roundw
       case rel=>exact⟨j+1,by go_num,by omega,N,d⟩
       case measure=>simp[intOf];omega
      |false=>
       have t:=Dl (a5.out bh.out (G.out af.out));clear C G
       go_wp2
       refine BU (S:=fun x=>Below Y r x) 19 (by kernel_rfl) (by kernel_rfl) u.drew ?_;simp only[Dp,Bk,Gs,Gt]
       iterate 4 (refine AJ ?_;simp only[A1])
       refine AR 3 _ ⟨b2,I+j*18+2,none⟩ (.int .i64 c.kind) (by kernel_rfl) rfl rfl (fun x d=>by have F:=(bb.out x d);go_simp) ?_;simp only[A1];refine AY (by kernel_rfl) ay.out (fun _=>by kernel_rfl) ?_;simp only[A1]
       iterate 3 (refine AJ ?_;simp only[A1])
       refine AR 3 _ ⟨B,2,none⟩ (.int .i64 l) (by kernel_rfl) rfl rfl (fun x d=>by have F:=(bj.out x d);go_simp) ?_;simp only[A1]
       iterate 5 (refine AJ ?_;simp only[A1])
       refine AR 73 _ ⟨b2,I+j*18+4,none⟩ (.agg (F9 c.mx c.my)) (by kernel_rfl) rfl rfl (fun x d=>MR x b2 (I+j*18+4) 73 [.int .i64 c.mx,.int .i64 c.my] _ (bc.out x d) Gx rfl rfl) ?_;simp only[A1];refine AY (by kernel_rfl) a2.out (fun _=>by kernel_rfl) ?_;simp only[A1]
       iterate 2 (refine AJ ?_;simp only[A1])
       refine BS fun x d=>?_;have H:=(m.out x (ad.out x d)).2.2.2
       go_wp2
       go_ret
       exact⟨by rw[t.out];rfl,by first|exact H|(rw[<-V.out];exact H)⟩
    ·obtain rfl:M=j:=by omega
     have t2:decide ((M:Int)<(M:Int))=false:=by simp
     have t:=Dl (a6.out bh.out (by have:=P.out;rwa [<-aw.out,Iy] at this));have H:=(m.out wr (ad.out wr u)).2.2.2;clear P
     go_wp2
     go_ret
     exact⟨by rw[t.out];rfl,by first|exact H|(rw[<-V.out];exact H)⟩
end Go.Proofs.YtjjmalchelniiaaGreatDoor