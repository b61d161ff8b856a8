/- StripsWrites, 40. No condition. -/
import Derived.Test.YtjjmalchelniiaaGreatDoorStripsWritesMe
import Derived.Test.YtjjmalchelniiaaGreatDoorStripsWritesMw
import Derived.Test.YtjjmalchelniiaaGreatDoorStripsWritesMbl
open Go.Proofs.Tryz
open Go renaming World->A5,Calls->A9
set_option maxHeartbeats 1000000
namespace Go.Proofs.YtjjmalchelniiaaGreatDoor
open Go.RowKit Go.Lib
abbrev Nj:=@Option.some.injEq
abbrev Nk:=@Option.map_some
def ML (last:Bool)(a b:Nat):ByteArray:=if inT last a b then IM (plT last a b) else ⟨#[]⟩
theorem Yz (l:List ByteArray):(IB l).length=l.length:=G9 _
theorem nS (last:Bool)(a:Nat):(P6 last a).length=CJ last a:=by unfold P6;rw[G9,Gl]
theorem X1 (last:Bool)(a:Nat):(KG last a).length=CJ last a:=by unfold KG;rw[G9,nS]
theorem pC {l:List ByteArray}{last:Bool}{a:Nat}(h:IB l=KG last a){i:Nat}(hi:i<CJ last a):∃h2:i<l.length,l[i]=IM (HO last+F8 last a+i):=by
 have hl:l.length=CJ last a:=by rw[<-Yz,h,X1]
 refine⟨by omega,IU.2 ?_⟩;have h1:(IB l)[i]? =some l[i].data.toList:=by unfold IB;rw[Ig,Fj (by omega)];rfl
 rw[h] at h1;unfold KG P6 at h1;rw[Ig,Ig,List.getElem?_range hi] at h1;simp only[Nk,Nj] at h1;exact h1.symm
set_option maxRecDepth 100000 in
theorem eL (last:Bool)(a c:Nat)(hr:a<64)(h1:1<=c)(h2:c<=200)(w:A5):A9 prog 165 #[.bool last,.int .i64 (a:Int),.int .i64 (c:Int)] w fun e u=>e=.returned (.string (ML last a c))/\Below w.heap.size w u:=by
 have g:=fun x=>Qfo last a hr x;by_cases h:c<=CJ last a
 ·have F:=Dp (show ML last a c=IM (plT last a c) by unfold ML;rw[Bc (Rc.2 ⟨h1,h⟩)]);rw[F.out];obtain⟨i,rfl⟩:∃i,c=i+1:=⟨c-1,by omega⟩;have f:=fun(l:List ByteArray) (hl:IB l=KG last a)=>pC hl (i:=i) (by omega);have j:plT last a (i+1)=HO last+F8 last a+i:=by unfold plT;omega
  rw[j];generalize IM (HO last+F8 last a+i)=y at f ⊢;have v:=Dp f;clear f F j h
  go_enter func165,ntmps165
  go_wp2_with fail
  refine(g _).mono ?_;rintro e s ⟨l,q,cap,rfl,hl,d,_,p⟩;obtain⟨k,t⟩:=v.out l hl;obtain⟨b,o,rfl,_,hc⟩:=d.at (by omega);have z:s.cell? ⟨b,o+i,none⟩=some (.string y):=(hc i k).trans (by rw[t]);have t0:decide ((l.length:Int)<(i:Int)+1)=false:=by simp;omega
  obtain⟨n,hn⟩:=Ah l.length;rw[hn] at t0 k ⊢;clear hc hl d t hn
  go_wp2
  go_ret
  exact⟨rfl,p⟩
 ·have F:=Dp (show ML last a c=⟨#[]⟩ by unfold ML;rw[Bb (by rw[Rc];omega)]);rw[F.out];have r:=fun(l:List ByteArray) (hl:IB l=KG last a)=>(show l.length<c by rw[<-Yz,hl,X1];omega);clear F h
  go_enter func165,ntmps165
  go_wp2_with fail
  refine(g _).mono ?_;rintro e s ⟨l,q,cap,rfl,hl,d,_,p⟩;have m:=r l hl;have t0:decide ((l.length:Int)<(c:Int))=true:=by simp;omega
  generalize l.length=n at m t0 ⊢;have t1:decide (n<c)=true:=by simpa using m
  clear hl d
  go_wp2
  go_ret
  exact⟨rfl,p⟩
theorem sG (n:Int)(w:A5):A9 prog 170 #[.int .i64 n] w fun e a=>e=.returned (.string (if n<0 then ⟨#[49]⟩ else ⟨#[48]⟩))/\w=a:=by
 by_cases h:n<0
 ·have t0:decide (n<0)=true:=by simpa using h
  rw[Bc h]
  go_enter func170,ntmps170
  go_wp2
  go_ret
  exact⟨rfl,rfl⟩
 ·have t0:decide (n<0)=false:=by simpa using h
  rw[Bb h]
  go_enter func170,ntmps170
  go_wp2
  go_ret
  exact⟨rfl,rfl⟩
theorem xJ (n:Int)(h1:-200<=n)(h2:n<=200)(w:A5):A9 prog 166 #[.int .i64 n] w fun e a=>e=.returned (.int .i64 (n.natAbs:Nat))/\w=a:=by
 by_cases h:n<0
 ·have t0:decide (n<0)=true:=by simpa using h
  have F:=Dp (show ((n.natAbs:Nat):Int) = -n by omega);rw[F.out]
  go_enter func166,ntmps166
  go_wp2
  go_ret
  exact⟨FT (by rfl),rfl⟩
 ·have t0:decide (n<0)=false:=by simpa using h
  have F:=Dp (show ((n.natAbs:Nat):Int)=n by omega);rw[F.out]
  go_enter func166,ntmps166
  go_wp2
  go_ret
  exact⟨rfl,rfl⟩
theorem Rz (c d n m:Nat)(hc:c<2^n)(hd:d<2^m):AB c n++AB d m=AB (c*2^m+d) (n+m):=by
 have h:=KR (AB c n++AB d m) (by rw[CO,I2,I2];rfl);rw[B9,BB,BB,MI,BB,IF,IF,Bp hc,Bp hd] at h;exact h.symm
theorem yO {last:Bool}{b:Nat}{a:Int}(hr:DY b a=true)(c:inT last b a.natAbs=true):DL last b a=IM (plT last b a.natAbs)++(if a<0 then ⟨#[49]⟩ else ⟨#[48]⟩):=by
 obtain⟨d,r1,_⟩:=JK.1 hr;obtain⟨e,f,b2,_⟩:=IY (plT last b a.natAbs) (Lh (Py (by omega) c) (by decide));unfold DL DD DC IM;rw[Bc hr,Dr,c,Bc rfl,Bc rfl];by_cases h:a<0
 ·rw[Bc h,Bc h,show (⟨#[49]⟩:ByteArray)=⟨(AB 1 1).toArray⟩ from rfl,L2,Rz _ _ _ _ b2 (by decide),C9]
 ·rw[Bb h,Bb h,show (⟨#[48]⟩:ByteArray)=⟨(AB 0 1).toArray⟩ from rfl,L2,Rz _ _ _ _ b2 (by decide),C9]
theorem yQ {last:Bool}{b:Nat}{a:Int}(hr:DY b a=true)(c:inT last b a.natAbs=false):
  DL last b a=⟨#[48,48,48,48,48,49,49]⟩++(if last then ⟨#[49]⟩ else ⟨#[48]⟩)++⟨(AB b 6).toArray⟩++⟨(AB (a%256).toNat 8).toArray⟩:=by
 obtain⟨e,r1,_⟩:=JK.1 hr;have d:(6+last.toNat)<2^8:=by cases last <;> decide
 unfold DL DD DC;rw[Bc hr,Dr,c,Bb (by decide),Bb (by decide)];rw[show (⟨#[48,48,48,48,48,49,49]⟩:ByteArray)++(if last then ⟨#[49]⟩ else ⟨#[48]⟩)=⟨(AB (6+last.toNat) 8).toArray⟩ by cases last <;> decide +kernel];rw[L2 (AB (6+last.toNat) 8),Rz _ _ _ _ d (by omega),L2,Rz _ _ _ _ (by cases last <;> simp <;> omega) (by omega)]
set_option maxRecDepth 100000 in
theorem lF (last:Bool)(c b:Int)(w:A5):A9 prog 146 #[.agg #[.bool last,.int .i64 c,.int .i64 b]] w fun e S=>e=.returned (.string (DL last c b))/\Below w.heap.size w S:=by
 have g:=fun x=>YP last c b x;have B:Below w.heap.size w (w.alloc (.cells #[.bool last,.int .i64 c,.int .i64 b] 153 (0,0))):=(Dq _ w).alloc (Ba _) _
 have T:∀x,Below (w.heap.size+1) (w.alloc (.cells #[.bool last,.int .i64 c,.int .i64 b] 153 (0,0))) x->x.heap[w.heap.size]? =some (C3 last c b):=fun x hx=>(hx.block w.heap.size (by omega)).trans (heap_alloc_new w _);have Z:=Dp T;have C:(w.alloc (.cells #[.bool last,.int .i64 c,.int .i64 b] 153 (0,0))).heap.size=w.heap.size+1:=by simp
 have U:=Dp C;cases hr:DY c b with
 |false=>
  have F:=Dp (show DL last c b=⟨#[]⟩ by unfold DL;rw[hr,Bb (by decide)]);rw[F.out];rw[hr] at g;clear hr T C
  go_enter func146,ntmps146
  go_wp2_with fail
  refine(g _).mono ?_;rintro e q ⟨rfl,d⟩;rw[U.out] at d
  go_wp2
  go_ret
  exact⟨rfl,B.trans (d.mono (by omega))⟩
 |true=>
  obtain⟨r0,r1,l0,l1,l2⟩:=JK.1 hr;obtain⟨r,rfl⟩:∃r:Nat,c=r:=⟨c.toNat,by omega⟩;have D:=fun x=>xJ b (by omega) (by omega) x;have k:=fun x=>eL last r b.natAbs (by omega) (by omega) (by omega) x;rw[hr] at g;obtain⟨ev,l⟩:=Ah (DL last r b);obtain⟨y,P⟩:=Ah (ML last r b.natAbs)
  obtain⟨Q,m⟩:∃Q:ByteArray,(if b<0 then ⟨#[49]⟩ else ⟨#[48]⟩)=Q:=⟨_,rfl⟩;have ac:Q.size=1:=by rw[<-m];split <;> rfl
  have E:=fun x=>sG b x;rw[m] at E;have i:(y.toList≠[]/\y.toList.isEmpty=false/\y.size<=12/\ev=y++Q)\/(y=⟨#[]⟩/\ev=⟨#[48,48,48,48,48,49,49]⟩++(if last then ⟨#[49]⟩ else ⟨#[48]⟩)++⟨(AB r 6).toArray⟩++⟨(AB (b%256).toNat 8).toArray⟩):=by
   cases hin:inT last r b.natAbs with
   |true=>
    have I:IM (plT last r b.natAbs)=y:=by rw[<-P];unfold ML;rw[hin,Bc rfl]
    have J:=IY _ (Lh (Py (by omega) hin) (show 102<103 by decide));have e:(IM (plT last r b.natAbs)).data.toList.length=AU (plT last r b.natAbs):=K3 _;rw[I] at e;have s:y.data.toList≠[]:=by
     intro h;rw[h,By] at e;have:=J.1;omega
    refine .inl ⟨by rw[J7];exact s,by rw[J7];simpa using s,?_,?_⟩
    ·have:y.data.toList.length=y.size:=rfl;have:=J.2.1;omega
    ·rw[<-l,yO hr hin,I,m]
   |false=>exact .inr ⟨by rw[<-P];unfold ML;rw[hin,Bb (by decide)],by rw[<-l,yQ hr hin]⟩
  have j:=Dp i;rw[l];rw[P] at k;generalize b.natAbs=a at D k;clear hr T C i l P m
  go_enter func146,ntmps146
  go_wp2_with fail
  refine(g _).mono ?_;rintro e q ⟨rfl,d⟩;rw[U.out] at d;have K:=B.trans (d.mono (by omega));obtain⟨V,c1,c2,_,_,_⟩:=EE (Z.out _ d);have L:w.heap.size+1<=q.heap.size:=by have:=d.size;rw[U.out] at this;exact this
  go_wp2_with fail
  have q0:q.drew.cell? ⟨w.heap.size,0,none⟩=some (.bool last):=V;have q1:q.drew.cell? ⟨w.heap.size,1,none⟩=some (.int .i64 (r:Int)):=c1;have q2:q.drew.cell? ⟨w.heap.size,2,none⟩=some (.int .i64 b):=c2;clear V c1 c2
  go_cut [3] from 9 to 16 (fun v wx=>v=.string y/\Below (w.heap.size+1) (w.alloc (.cells #[.bool last,.int .i64 (r:Int),.int .i64 b] 153 (0,0))) wx/\Below w.heap.size w wx)
  case first=>
   have M:∀x,A9 prog 166 #[.int .i64 b] x fun e S=>e=.returned (.int .i64 (a:Nat))/\S=x:=fun x=>(D x).mono fun _ _ ⟨h1,h2⟩=>⟨h1,h2.symm⟩;have t:=d.drew;have u:=K.drew;have z:w.heap.size+1<=q.drew.heap.size:=L
   go_still_tail 7,(by kernel_rfl)
   still_call (M _)
   refine wpStill_nil ?_;change wpList _ _ _ _ _ q.drew;generalize q.drew=w4 at q0 q1 q2 t u z ⊢
   go_wp2_with (go_at_call 165;refine(k _).mono ?_;rintro e w2 ⟨rfl,N⟩)
   go_meet
   exact⟨rfl,t.trans (N.mono z),u.trans (N.mono (by omega))⟩
  case rest=>
   clear q0 q1 q2 d K B D k g L;obtain⟨rfl,W,H⟩:=hcut;obtain⟨V,c1,c2,_,_,_⟩:=EE (Z.out _ W);rcases j.out with ⟨e1,e2,e3,O⟩|⟨e1,O⟩
   ·have F:=Dp O;clear j O
    go_wp2_with fail
    refine(E _).mono ?_;rintro e R ⟨rfl,rfl⟩
    go_wp2
    go_ret
    exact⟨by rw[F.out];rfl,H⟩
   ·have F:=Dp O;subst e1;have f:=fun(v n:Int) h1 h2 h3 h4 x=>KK v n h1 h2 h3 h4 x;clear j O E;obtain⟨X,o⟩:∃X:ByteArray,⟨(AB r 6).toArray⟩=X:=⟨_,rfl⟩;obtain⟨Y,p⟩:∃Y:ByteArray,⟨(AB (b%256).toNat 8).toArray⟩=Y:=⟨_,rfl⟩;have s1:X.size=6:=by rw[<-o,HX,BB]
    have s2:Y.size=8:=by rw[<-p,HX,BB]
    rw[o,p] at F;have aa:=Dp o;have ab:=Dp p;clear o p;cases last
    all_goals
     by_cases A:b<0
     ·have t0:decide (b<0)=true:=by simpa using A
      have G:=Dp (show (b%256).toNat=(256+b).toNat by omega)
      go_wp2_with fail
      refine(f (r:Int) 6 (by omega) (by omega) (by omega) (by omega) _).mono ?_;rintro e R ⟨rfl,rfl⟩;rw[Dr,show (6:Int).toNat=6 from rfl,aa.out]
      go_wp2_with fail
      refine(f (256+b) 8 (by omega) (by omega) (by omega) (by omega) _).mono ?_;rintro e R ⟨rfl,rfl⟩;rw[<-G.out,show (8:Int).toNat=8 from rfl,ab.out]
      go_wp2
      go_ret
      exact⟨by rw[F.out];rfl,H⟩
     ·have t0:decide (b<0)=false:=by simpa using A
      have G:=Dp (show (b%256).toNat=(b).toNat by omega)
      go_wp2_with fail
      refine(f (r:Int) 6 (by omega) (by omega) (by omega) (by omega) _).mono ?_;rintro e R ⟨rfl,rfl⟩;rw[Dr,show (6:Int).toNat=6 from rfl,aa.out]
      go_wp2_with fail
      refine(f (b) 8 (by omega) (by omega) (by omega) (by omega) _).mono ?_;rintro e R ⟨rfl,rfl⟩;rw[<-G.out,show (8:Int).toNat=8 from rfl,ab.out]
      go_wp2
      go_ret
      exact⟨by rw[F.out];rfl,H⟩
theorem uK (i:Bool)(w:A5):A9 prog 133 #[.bool i] w fun e a=>e=.returned (.int .i64 (BA i:Nat))/\w=a:=by
 cases i
 all_goals
  go_enter func133,ntmps133
  go_wp2
  go_ret
  exact⟨rfl,rfl⟩
set_option maxRecDepth 100000 in
theorem dL (i:Bool)(d:Int)(p:Option Addr)(l:List Ev)(c:Nat)(w:A5)(U:D3 w p l)(H:l.length<=140737488355328):
  A9 prog 123 #[.bool i,.int .i64 d,.slice p l.length c] w fun e w'=>e=.returned (.bool (CS i d l))/\Below w.heap.size w w':=by
 obtain⟨B,V⟩:=Ah w.heap.size;have z:=fun x=>uK i x;have a:=cY p l c ((BA i:Nat):Int) w U H;unfold NW at a;have A:((lvG l ((BA i:Nat):Int)).2=0/\DQ (BA i) l l.length=false)\/((lvG l ((BA i:Nat):Int)).2=7/\DQ (BA i) l l.length=true):=by
  cases hb:DQ (BA i) l l.length with
  |false=>exact .inl ⟨W4 hb,rfl⟩
  |true=>exact .inr ⟨XO hb,rfl⟩
 have v:CS i d l=(HL i d && !DQ (BA i) l l.length):=rfl;rw[v];have b:=NF (lvG l ((BA i:Nat):Int)).1;have q:(prog.info? 180).map (·.size)=some (CY (lvG l ((BA i:Nat):Int)).1).size:=NP _;obtain⟨Y,P⟩:=Ah (CY (fun _=>0));have C:∀w,(zeroValue 180).run prog w=.ok (.agg Y) w:=by rw[<-P];exact PJ
 have s:Y.size=(CY (lvG l ((BA i:Nat):Int)).1).size:=by rw[<-P,KC,KC]
 generalize CY (lvG l ((BA i:Nat):Int)).1=Z at a b q s;generalize (lvG l ((BA i:Nat):Int)).2=f at a A;generalize DQ (BA i) l l.length=bv at A ⊢;generalize ((BA i:Nat):Int)=fr at z a;have O:=Dp V;generalize l.length=n at a ⊢;obtain⟨M,D⟩:=Ah (HL i d && !bv);rw[D];clear U P V H v
 go_enter func123,ntmps123
 go_wp2_with fail
 refine(z _).mono ?_;rintro e E ⟨rfl,rfl⟩
 go_wp2_with fail
 refine a.mono ?_;rintro e E ⟨rfl,t⟩;rw[O.out] at t;have I:B<=E.heap.size:=by rw[<-O.out];exact(show Below w.heap.size w E by rw[O.out];exact t).size
 obtain⟨X,Q⟩:=Ah E.heap.size;have j:=heap_alloc_new E (.cells Y 180 (0,0));have u:=t.alloc I (.cells Y 180 (0,0));have J:(E.alloc (.cells Y 180 (0,0))).heap.size=X+1:=by simp;omega
 rw[Q] at j;generalize K:E.alloc (.cells Y 180 (0,0))=w4 at j u J;have F:=Dp K;have S:=Dp Q;have g:=Dp (show B<=X by omega);clear K Q t I a z;have G:=Dp (fun(r:Bool) (x:A5) (hx:Below B w x) (h:M=r)=>(⟨by rw[h],by rw[O.out];exact hx⟩:Ending.returned (.bool r)=.returned (.bool M)/\Below w.heap.size w x));rcases A with ⟨rfl,rfl⟩|⟨rfl,rfl⟩
 ·cases i with
  |false=>
   obtain⟨L,T⟩:=Ah (d==0);have R:=Dp (show M=L by rw[<-D,oG,T];simp);clear D;cases L
   all_goals
    go_wp2_with (rw[F.out,S.out];with_reducible refine B4 rfl 180 _ _ rfl X Z Y rfl rfl 180 j q s b ?_;intro W N m;clear C)
    have o:=u.grown m (by have:=g.out;omega) (fun k y=>by injection y with y;have:=g.out;omega)
    go_ret
    exact G.out _ _ o R.out
  |true=>
   obtain⟨L,T⟩:=Ah (decide (1<=d));obtain⟨b1,h1⟩:=Ah (decide (d<=254));have R:=Dp (show M=(L&&b1) by rw[<-D,Wc,T,h1];simp);clear D;cases L <;> cases b1
   all_goals
    go_wp2_with (rw[F.out,S.out];with_reducible refine B4 rfl 180 _ _ rfl X Z Y rfl rfl 180 j q s b ?_;intro W N m;clear C)
    have o:=u.grown m (by have:=g.out;omega) (fun k y=>by injection y with y;have:=g.out;omega)
    go_ret
    exact G.out _ _ o R.out
 ·have R:=Dp (show M=false by rw[<-D];simp);clear D;cases i
  all_goals
   go_wp2_with (rw[F.out,S.out];with_reducible refine B4 rfl 180 _ _ rfl X Z Y rfl rfl 180 j q s b ?_;intro W N m;clear C)
   have o:=u.grown m (by have:=g.out;omega) (fun k y=>by injection y with y;have:=g.out;omega)
   go_ret
   exact G.out _ _ o R.out
def HN (i:Bool)(d:Int)(l:List Ev):ByteArray:=⟨(BE i d l).toArray⟩
theorem nK (i:Bool)(d:Int)(l:List Ev):(HN i d l).size<=8+22*l.length:=by
 have:=QC i d l;show (BE i d l).toArray.size<=_
 simpa using this
theorem qK (i:Bool)(d:Int)(l:List Ev)(x:Ev):HN i d l++CW x=HN i d (l++[x]):=by
 unfold HN;rw[show CW x=⟨(CW x).data.toList.toArray⟩ by simp,L2];unfold BE;rw[PC,Bd]
theorem yS (x:Ev):(CW x).size<=22:=Vv x
set_option maxRecDepth 100000 in
theorem Qb6 (i:Bool)(d:Int)(p:Option Addr)(l:List Ev)(c:Nat)(w:A5)(P:D3 w p l)(hm:CS i d l=true):
  A9 prog 113 #[.bool i,.int .i64 d,.slice p l.length c] w fun e V=>e=.returned (.string ⟨(BE i d l).toArray⟩)/\Below w.heap.size w V:=by
 obtain⟨hd,u⟩:=Po hm;have A:=OH u;have W:=Dp (fun(x:A5) (X:Below w.heap.size w x)=>(P.below X:D3 x p l));obtain⟨n,hn⟩:=Ah l.length;have Z:=Dp hn;rw[hn] at A ⊢;have B:=Dp (fun(j:Nat) (h:j<l.length)=>(by rw[Be h,qK]:HN i d (l.take j)++CW l[j]=HN i d (l.take (j+1))))
 have SZ:=Dp (fun(j:Nat) (h:j<=n)=>(by have:=nK i d (l.take j);rw[Bf] at this;omega:(HN i d (l.take j)).size<=8+22*j));have q:=Dp (show HN i d (l.take n)=⟨(BE i d l).toArray⟩ by rw[<-hn,Js];rfl);generalize (⟨(BE i d l).toArray⟩:ByteArray)=aa at q ⊢;clear u hm hn P
 have k:(i=false/\HN i d (l.take 0)=⟨#[]⟩)\/(i=true/\(d==128)=true/\HN i d (l.take 0)=⟨(AB (255:Int).toNat (8:Int).toNat).toArray⟩)\/(i=true/\(d==128)=false/\1<=d/\d<=254/\HN i d (l.take 0)=⟨(AB d.toNat (8:Int).toNat).toArray⟩):=by
  cases i with
  |false=>exact .inl ⟨rfl,rfl⟩
  |true=>
   have Q:1<=d/\d<=254:=by simpa [HL] using hd
   by_cases f:d=128
   ·subst f;exact .inr (.inl ⟨rfl,rfl,rfl⟩)
   ·refine .inr (.inr ⟨rfl,by rw[Fg];exact f,Q.1,Q.2,?_⟩);unfold HN BE dcB;rw[Bc rfl,Bb f,Bi];simp[BS]
 clear hd;obtain⟨y0,r⟩:=Ah (HN i d (l.take 0));have S:=Dp r;rw[r] at k;obtain⟨R,T⟩:∃R:Nat->ByteArray,(fun j=>HN i d (l.take j))=R:=⟨_,rfl⟩;have t:∀j,HN i d (l.take j)=R j:=fun j=>by rw[<-T]
 have ab:Hid (R 0=y0):=Dp (by rw[<-t];exact S.out);have ac:=Dp (fun(j:Nat) (h:j<l.length)=>(by rw[<-t,<-t];exact B.out j h:R j++CW l[j]=R (j+1)));have ad:=Dp (fun(j:Nat) (h:j<=n)=>(by rw[<-t];exact SZ.out j h:(R j).size<=8+22*j));have ae:=Dp (show R n=aa by rw[<-t];exact q.out);clear r T t S B SZ q;rcases k with ⟨rfl,rfl⟩|⟨rfl,f,m⟩|⟨rfl,f,h1,h2,m⟩
 case' inl=>
  go_enter func113,ntmps113
  go_wp2
 case' inr.inl=>
  have a:=fun x=>KK 255 8 (by decide) (by decide) (by decide) (by decide) x;rw[<-m] at a;clear m
  go_enter func113,ntmps113
  go_wp2_with fail
  refine(a _).mono ?_;rintro e w1 ⟨rfl,rfl⟩
  go_wp2
 case' inr.inr=>
  have a:=fun x=>KK d 8 (by omega) (by omega) (by decide) (by decide) x;rw[<-m] at a;clear m
  go_enter func113,ntmps113
  go_wp2_with fail
  refine(a _).mono ?_;rintro e w1 ⟨rfl,rfl⟩
  go_wp2
 all_goals
  go_loopw [7,8] (fun v z wr=>∃j:Nat,j<=n/\z=.int .i64 j/\v=.string (R j)/\Below w.heap.size w wr) (fun _ z _=>n-(RowKit.intOf z).toNat)
  case atStart=>exact⟨0,Ds _,rfl,by rw[ab.out],Dq _ _⟩
  case round=>
   obtain⟨j,hj,rfl,rfl,J⟩:=hrel;by_cases C:j<n
   ·have t0:decide ((j:Int)<(n:Int))=true:=by simp;omega
    have t1:decide (j<n)=true:=by simpa using C
    have s:j<l.length:=by rw[Z.out];exact C
    obtain⟨b,o,rfl,K,hc⟩:=(W.out _ J).at (by omega);obtain⟨L,c1,c2⟩:=hc j s;have g:=ac.out j s;have M:=ad.out j hj;obtain⟨⟨D,E,F⟩,G⟩:=Ah (l[j]);rw[G] at L c1 c2 g;simp only at L c1 c2;have H:=yS (D,E,F);rw[show CW (D,E,F)=DL D E F from rfl] at g H;have a:=fun x=>lF D E F x;generalize DL D E F=y at a g H
    obtain⟨Y,U⟩:=Ah (R j);rw[U] at g M ⊢;have N:=Dp g;clear hc K G g s U
    go_wp2_with fail
    refine(a _).mono ?_;rintro e w2 ⟨rfl,I⟩;have O:=J.trans (I.mono J.size);clear a L c1 c2 I
    go_wp2
    go_roundw
    case rel=>exact⟨j+1,by omega,by go_num,by rw[N.out],O⟩
    case measure=>simp[RowKit.intOf];omega
   ·obtain rfl:j=n:=by omega
    have t0:decide ((j:Int)<(j:Int))=false:=by simp
    have t1:decide (j<j)=false:=by simp
    rw[ae.out]
    go_wp2
    go_ret
    exact⟨rfl,J⟩
end Go.Proofs.YtjjmalchelniiaaGreatDoor