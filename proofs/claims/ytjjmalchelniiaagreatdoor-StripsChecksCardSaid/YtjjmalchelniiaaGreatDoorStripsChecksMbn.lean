/- StripsChecks, 40. No condition. -/
import Derived.Test.YtjjmalchelniiaaGreatDoorStripsChecksMi
import Derived.Deep.RegionWith
import Derived.Deep.CutRange
import Derived.Deep.DeepCutAuto
open Go.Proofs.Tryz
open Go renaming World->A5
set_option maxHeartbeats 2000000
namespace Go.Proofs.YtjjmalchelniiaaGreatDoor
open Go.RowKit Go.Lib
abbrev N5:=@wpList_load_row
abbrev N6:=@decide_eq_false
abbrev N9:=@decide_eq_true
abbrev Na:=@bodyPost_ret
abbrev Nb:=@underlying180
abbrev Nc:=@List.take_length
abbrev Nd:=@Int.toNat_natCast
theorem Al{α}(a:α):∃b,a=b:=⟨a,rfl⟩
theorem rM (a:Int)(w:A5):Calls prog 222 #[.int .i64 a] w fun e b=>e=.returned (.bool (a==0 || a==1))/\w=b:=by
 cases h0:(a==0)
 all_goals
  go_enter func222,ntmps222
  go_wp2
  go_ret
  exact⟨rfl,rfl⟩
theorem Yl (w:A5):(Instr.build 180 #[]).run prog w=.ok (.agg (CQ fun _=>0)) w:=run_build w _ #[] _ (by kernel_rfl)
def MV (l:List Ev)(a:Int)(w:A5)(e:Ending)(b:A5):Prop:=e=.returned (.tuple #[.agg (CQ (lvG l a).1),.int .i64 (lvG l a).2])/\Below w.heap.size w b
theorem Jx {l:List Ev}{a:Int}{w b:A5}{Z:Array Value}{g:Nat->Int}{z:Int}(h:lvG l a=(g,z))(c:CQ g=Z)(d:Below w.heap.size w b):MV l a w (.returned (.tuple #[.agg Z,.int .i64 z])) b:=by
 unfold MV;rw[h,<-c];exact⟨rfl,d⟩
set_option maxRecDepth 100000 in
theorem Yh (p:Option Addr)(l:List Ev)(c:Nat)(K:Int)(w:A5)(hp:CE w p l)(ab:l.length<=140737488355328):Calls prog 205 #[.slice p l.length c,.int .i64 K] w (MV l K w):=by
 have D:=fun x=>rM K x;obtain⟨B,hB⟩:=Al w.heap.size;obtain⟨Z,hZ⟩:=Al (CQ (fun _=>0));have W:=Ft hZ;have a7:∀w,(zeroValue 180).run prog w=.ok (.agg Z) w:=by rw[<-hZ];exact P0
 have a8:∀w,(Instr.build 180 #[]).run prog w=.ok (.agg Z) w:=by rw[<-hZ];exact Yl
 have s:(prog.info? 180).map (·.size)=some Z.size:=by rw[<-hZ];exact MS _
 have E:Z.all (·.oneCell')=true:=by rw[<-hZ];exact N7 _
 obtain⟨wA,L⟩:=Al (w.alloc (.cells Z 180 (0,0)));have ar:wA.heap.size=B+1:=by rw[<-L,<-hB];simp
 have ac:wA.heap[B]? =some (.cells Z 180 (0,0)):=by rw[<-L,<-hB];exact heap_alloc_new w _
 have ad:Below B w wA:=by rw[<-L,<-hB];exact(Dw _ w).alloc (Ba _) _
 have aj:=Ft L;have aa:=Ft hB;clear hZ L hB;by_cases hf:K=0\/K=1
 ·rw[show (K==0 || K==1)=true by simp;exact hf] at D;obtain⟨a,rfl⟩:∃a:Nat,K=(a:Int):=⟨K.toNat,by omega⟩;have a9:a<=1:=by omega
  have G:=Ft (show lvG l (a:Int)=if D7 a l l.length then (fun _=>0,7) else ((lvS a l).2,0) by unfold lvG;rw[Bc hf,Nd]);obtain⟨n,hn⟩:=Al l.length;obtain⟨wB,H⟩:=Al (wA.alloc (.cells Z 180 (0,0)));have au:wB.heap.size=B+2:=by rw[<-H];simp;omega
  have f:wB.heap[B]? =some (.cells Z 180 (0,0)):=by rw[<-H];exact CH ac
  have d:wB.heap[B+1]? =some (GY fun _=>0):=by rw[<-H,<-ar,<-W.out];exact heap_alloc_new wA _ |>.trans (by rw[W.out];unfold GY;rw[W.out])
  have ak:Below B w wB:=by rw[<-H];exact ad.alloc (by omega) _
  have ba:=Ft (fun(x:A5) (hx:Below B w x)=>(hp.below (by rw[aa.out];exact hx):CE x p l));have av:=Ft (show wA.alloc (.cells Z 180 (0,0))=wB from H);have aq:=Ft hn;rw[hn] at ab ⊢;clear H hf hp hn ac ad
  go_enter func205,ntmps205
  go_wp2_with fail
  rw[aj.out,aa.out];refine(D _).mono ?_;rintro e w1 ⟨rfl,rfl⟩
  go_wp2
  rw[av.out];have a5:(lvS a (l.take 0)).1=a:=rfl
  go_loopw [7,19] (fun u z wr=>∃(i t:Nat) (g:Nat->Int),i<=n/\z=.int .i64 i/\u=.int .i64 t/\t<=64/\Hid (lvS a (l.take i)=(t,g)/\∀j,(h:j<l.length)->j<i->E8 a l j l[j]=true)/\wr.heap[B]? =some (.cells Z 180 (0,0))/\wr.heap[B+1]? =some (GY g)/\Below B w wr/\B+2<=wr.heap.size) (fun _ z _=>n-(intOf z).toNat)
  case atStart=>exact⟨0,a,fun _=>0,Fx _,rfl,rfl,by omega,Ft ⟨rfl,fun j _ h=>absurd h (G0 j)⟩,f,d,ak,by omega⟩
  case round=>
   clear f d ak au;obtain⟨i,t,g,hi,rfl,rfl,bb,A,f,d,P,hz⟩:=hrel;by_cases al:i<n
   ·have t0:decide ((i:Int)<(n:Int))=true:=by simp;omega
    have t1:decide (i<n)=true:=by simpa using al
    have R:i<l.length:=by rw[aq.out];exact al
    obtain⟨b,o,rfl,aw,hc⟩:=(ba.out _ P).at (by omega);obtain⟨c0,c1,c2⟩:=hc i R;obtain⟨⟨Q,I,C⟩,S⟩:=Al (l[i]);rw[S] at c0 c1 c2;simp only at c0 c1 c2;have qw:wrap64 ((n:Int)-1)=(n:Int)-1:=IntWalk.wrap64_in _ (by omega);obtain⟨lb,ae⟩:=Al (decide (i+1=n));have q1:((i:Int)==(n:Int)-1)=lb:=by
     rw[<-ae];by_cases e:i+1=n
     ·rw[N9 e,Bm];omega
     ·rw[N6 e,Fv];omega
    have hfit:E8 a l i l[i]=(DY I C&&(Q==lb)&&decide (t+I.toNat<64)):=by
     unfold E8;rw[S,A.out.1,aq.out,ae]
    obtain⟨ft,T⟩:=Al (E8 a l i l[i]);have U:=Ft (show ft=(DY I C&&(Q==lb)&&decide (t+I.toNat<64)) by rw[<-T,hfit]);have af:=Ft (fun(h:ft=false)=>(by rw[G.out,Bc (SH R (by rw[T];exact h))]:lvG l (a:Int)=(fun _=>0,7)));have am:=Ft (fun(h:ft=true)=>(⟨by rw[QV a l R,A.out.1,S],fun j h1 h2=>by
     rcases (by omega:j<i\/j=i) with h3|h3
     ·exact A.out.2 j h1 h3
     ·subst h3;rw[T];exact h⟩:lvS a (l.take (i+1))=(t+I.toNat+1,FZ g (t+I.toNat) C)/\∀j,(h:j<l.length)->j<i+1->E8 a l j l[j]=true))
    have ag:=fun x=>RR Q I C x;obtain⟨X,hX⟩:=Al wr.heap.size;obtain⟨wx,J⟩:=Al (wr.alloc (.cells #[.bool Q,.int .i64 I,.int .i64 C] 153 (0,0)));have ax:wx.heap.size=X+1:=by rw[<-J,<-hX];simp
    have M:wx.heap[X]? =some (BW Q I C):=by rw[<-J,<-hX];exact heap_alloc_new wr _
    have ah:Below X wr wx:=by rw[<-J,<-hX];exact(Dw _ wr).alloc (Ba _) _
    have an:Below B w wx:=by rw[<-J];exact P.alloc (by omega) _
    have bc:=Ft hX;have ay:=Ft J;have az:=Ft (show B+2<=X by omega)
    have ao:=Ft (fun(y:A5) (hy:Below wx.heap.size wx y)=>(⟨(hy.block B (by omega)).trans ((ah.block B (by omega)).trans f),(hy.block (B+1) (by omega)).trans ((ah.block (B+1) (by omega)).trans d),(hy.block X (by omega)).trans M,an.trans (hy.mono (by omega)),by have:=hy.size;omega⟩:y.heap[B]? =some (.cells Z 180 (0,0))/\y.heap[B+1]? =some (GY g)/\y.heap[X]? =some (BW Q I C)/\Below B w y/\X+1<=y.heap.size))
    clear hX J hc aw hfit T S ae A f d P ah an M R;obtain⟨rt,N⟩:=Al (DY I C);rw[N] at ag
    go_wp2_with fail
    rw[ay.out,bc.out];refine(ag _).mono ?_;rintro e w1 ⟨rfl,ap⟩;obtain⟨f,d,M,P,bd⟩:=ao.out _ ap;obtain⟨d0,d1,d2,_,_,_⟩:=EH M;clear c0 c1 c2 ap ax;have bf:B+2<=w1.heap.size:=by have:=az.out;omega
    cases rt with
    |false=>
     have F:=Ft (af.out (by rw[U.out,N];rfl))
     go_wp2_with (with_reducible refine B2 rfl 180 _ _ rfl B Z Z rfl rfl 180 f s rfl E ?_;intro w2 m q)
     refine Na (BF rfl _ _ B 180 _ (0,0) _ rfl m Nb rfl s) rfl ?_;exact Jx F.out W.out (by rw[aa.out];exact P.grown q (by omega) (fun k v=>by injection v with v;omega))
    |true=>
    obtain⟨r0,r1,_⟩:=KS.1 N;obtain⟨r,rfl⟩:∃r:Nat,I=(r:Int):=⟨I.toNat,by omega⟩;rw[Nd] at U am;have O:=Ft (show ft=((Q==lb)&&decide (t+r<64)) by rw[U.out,N];simp);clear ag r0 N U;cases hx:(Q==lb) with
    |false=>
     have g1:(Q != lb)=true:=by rw[bne,hx];rfl
     have F:=Ft (af.out (by rw[O.out,hx];rfl))
     go_wp2_with (with_reducible refine B2 rfl 180 _ _ rfl B Z Z rfl rfl 180 f s rfl E ?_;intro w2 m q)
     refine Na (BF rfl _ _ B 180 _ (0,0) _ rfl m Nb rfl s) rfl ?_;exact Jx F.out W.out (by rw[aa.out];exact P.grown q (by omega) (fun k v=>by injection v with v;omega))
    |true=>
    have g1:(Q != lb)=false:=by rw[bne,hx];rfl
    by_cases V:t+r<64
    ·have a6:=Ft (am.out (by rw[O.out,hx,N9 V];rfl));have t3:decide (64<=(t:Int)+(r:Int))=false:=by simp;omega
     have cc:=Zs (i:=t+r) d V;have ff:=WW (i:=t+r) d;obtain⟨k,v⟩:∃k:Nat,t+r=k:=⟨_,rfl⟩;rw[v] at cc ff a6 V;have bg:(t:Int)+(r:Int)=(k:Int):=by omega
     generalize g k=y0 at cc;have a1:=Ft (⟨OG f (by simp),XQ C d,P.setCell (by simp) _,by simp[World.setCell];omega⟩:(w1.setCell ⟨B+1,k,none⟩ (.int .i64 C)).heap[B]? =some (.cells Z 180 (0,0))/\(w1.setCell ⟨B+1,k,none⟩ (.int .i64 C)).heap[B+1]? =some (GY (FZ g k C))/\Below B w (w1.setCell ⟨B+1,k,none⟩ (.int .i64 C))/\B+2<=(w1.setCell ⟨B+1,k,none⟩ (.int .i64 C)).heap.size)
     clear f d P M
     go_wp2
     go_roundw
     case rel=>exact⟨i+1,k+1,FZ g k C,by omega,by go_num,by go_num,by omega,Ft a6.out,a1.out⟩
     case measure=>simp[intOf];omega
    ·have F:=Ft (af.out (by rw[O.out,N6 V];simp));have t3:decide (64<=(t:Int)+(r:Int))=true:=by simp;omega
     go_wp2_with (with_reducible refine B2 rfl 180 _ _ rfl B Z Z rfl rfl 180 f s rfl E ?_;intro w2 m q)
     refine Na (BF rfl _ _ B 180 _ (0,0) _ rfl m Nb rfl s) rfl ?_;exact Jx F.out W.out (by rw[aa.out];exact P.grown q (by omega) (fun k v=>by injection v with v;omega))
   ·obtain rfl:i=n:=by omega
    have t0:decide ((i:Int)<(i:Int))=false:=by simp
    have t1:decide (i<i)=false:=by simp
    have F:=Ft (show lvG l (a:Int)=(g,0) by
     rw[G.out,Bb (by
      rw[Q8 l.length (Ba _) fun j h _=>A.out.2 j h (by rw[<-aq.out];exact h)]
      decide)]
     have:=A.out.1;rw[show l.take i=l by rw[<-aq.out];exact Nc] at this;rw[this])
    obtain⟨Y,hY⟩:=Al (CQ g);have bh:=Ft hY;have a2:=Ft (show wr.heap[B+1]? =some (.cells Y 180 (0,0)) by rw[<-hY];exact d);have ai:(prog.info? 180).map (·.size)=some Y.size:=by rw[<-hY];exact MS _
    have a3:Y.all (·.oneCell')=true:=by rw[<-hY];exact N7 _
    have a4:Z.size=Y.size:=by rw[<-hY,<-W.out,JG,JG]
    clear hY A
    go_wp2_with (first|(with_reducible refine N5 rfl 180 _ rfl (B+1) rfl 180 Y (0,0) _ a2.out Nb rfl ai ?_)|(with_reducible refine B2 rfl 180 _ _ rfl B Y Z rfl rfl 180 f ai a4 a3 ?_;intro w2 m q))
    refine Na (BF rfl _ _ B 180 _ (0,0) _ rfl m Nb rfl ai) rfl ?_;exact Jx F.out bh.out (by rw[aa.out];exact P.grown q (by omega) (fun k v=>by injection v with v;omega))
 ·have G:=Ft (show lvG l K=(fun _=>0,1) by unfold lvG;rw[Bb hf]);rw[show (K==0 || K==1)=false by simp;omega] at D;generalize l.length=n at ab ⊢;clear hf hp ab
  go_enter func205,ntmps205
  go_wp2_with fail
  rw[aj.out,aa.out];refine(D _).mono ?_;rintro e w1 ⟨rfl,rfl⟩
  go_wp2_with (with_reducible refine B2 rfl 180 _ _ rfl B Z Z rfl rfl 180 ac s rfl E ?_;intro w2 m q)
  refine Na (BF rfl _ _ B 180 _ (0,0) _ rfl m Nb rfl s) rfl ?_;exact Jx G.out W.out (by rw[aa.out];exact ad.grown q (by omega) (fun k v=>by injection v with v;omega))
set_option maxRecDepth 100000 in
theorem tV (p:Option Addr)(l:List Ev)(c:Nat)(H:Int)(w:A5)(hp:CE w p l)(ab:l.length<=140737488355328):Calls prog 154 #[.slice p l.length c,.int .i64 H] w (MV l H w):=by
 obtain⟨B,hB⟩:=Al w.heap.size;obtain⟨Z,hZ⟩:=Al (CQ (fun _=>0));have P:=Ft hZ;have a2:∀w,(zeroValue 180).run prog w=.ok (.agg Z) w:=by rw[<-hZ];exact P0
 have a3:∀w,(Instr.build 180 #[]).run prog w=.ok (.agg Z) w:=by rw[<-hZ];exact Yl
 have q:(prog.info? 180).map (·.size)=some Z.size:=by rw[<-hZ];exact MS _
 have A:Z.all (·.oneCell')=true:=by rw[<-hZ];exact N7 _
 obtain⟨Q,I⟩:=Al (w.alloc (.cells Z 180 (0,0)));have ah:Q.heap.size=B+1:=by rw[<-I,<-hB];simp
 have R:Q.heap[B]? =some (.cells Z 180 (0,0)):=by rw[<-I,<-hB];exact heap_alloc_new w _
 have S:Below B w Q:=by rw[<-I,<-hB];exact(Dw _ w).alloc (Ba _) _
 have ac:=Ft I;have N:=Ft hB;clear hZ I hB;by_cases hf:H=0\/H=1
 ·obtain⟨a,rfl⟩:∃a:Nat,H=(a:Int):=⟨H.toNat,by omega⟩;have ar:a<=1:=by omega
  have G:=Ft (show lvG l (a:Int)=if D7 a l l.length then (fun _=>0,7) else ((lvS a l).2,0) by unfold lvG;rw[Bc hf,Nd]);obtain⟨n,hn⟩:=Al l.length;obtain⟨J,m⟩:=Al (Q.alloc (.cells Z 180 (0,0)));have ai:J.heap.size=B+2:=by rw[<-m];simp;omega
  have f:J.heap[B]? =some (.cells Z 180 (0,0)):=by rw[<-m];exact CH R
  have d:J.heap[B+1]? =some (GY fun _=>0):=by rw[<-m,<-ah,<-P.out];exact heap_alloc_new Q _ |>.trans (by rw[P.out];unfold GY;rw[P.out])
  have aj:Below B w J:=by rw[<-m];exact S.alloc (by omega) _
  have a4:=Ft (fun(x:A5) (hx:Below B w x)=>(hp.below (by rw[N.out];exact hx):CE x p l));have T:=Ft (show Q.alloc (.cells Z 180 (0,0))=J from m);have aq:=Ft hn;rw[hn] at ab ⊢;clear m hf hp hn R S
  go_enter func154,ntmps154
  have u1:decide (1<(a:Int))=false:=by simp;omega
  have u2:decide (1<a)=false:=by simpa using ar
  go_wp2
  rw[ac.out,N.out];rw[T.out];have az:(lvS a (l.take 0)).1=a:=rfl
  go_loopw [7,8] (fun u z wr=>∃(i D:Nat) (g:Nat->Int),i<=n/\z=.int .i64 i/\u=.int .i64 ((D:Int)-1)/\D<=64/\Hid (lvS a (l.take i)=(D,g)/\∀j,(h:j<l.length)->j<i->E8 a l j l[j]=true)/\wr.heap[B]? =some (.cells Z 180 (0,0))/\wr.heap[B+1]? =some (GY g)/\Below B w wr/\B+2<=wr.heap.size) (fun _ z _=>n-(intOf z).toNat)
  case atStart=>exact⟨0,a,fun _=>0,Fx _,rfl,rfl,by omega,Ft ⟨rfl,fun j _ h=>absurd h (G0 j)⟩,f,d,aj,by omega⟩
  case round=>
   clear f d aj ai;obtain⟨i,D,g,hi,rfl,rfl,a5,C,f,d,O,hz⟩:=hrel;by_cases ak:i<n
   ·have t0:decide ((i:Int)<(n:Int))=true:=by simp;omega
    have t1:decide (i<n)=true:=by simpa using ak
    have U:i<l.length:=by rw[aq.out];exact ak
    obtain⟨b,o,rfl,V,hc⟩:=(a4.out _ O).at (by omega);obtain⟨c0,c1,c2⟩:=hc i U;obtain⟨⟨x0,K,E⟩,W⟩:=Al (l[i]);rw[W] at c0 c1 c2;simp only at c0 c1 c2;obtain⟨lb,ad⟩:=Al (decide (i+1=n));have q1:((i:Int)+1==(n:Int))=lb:=by
     rw[<-ad];by_cases e:i+1=n
     ·rw[N9 e,Bm];omega
     ·rw[N6 e,Fv];omega
    have hfit:E8 a l i l[i]=(DY K E&&(x0==lb)&&decide (D+K.toNat<64)):=by
     unfold E8;rw[W,C.out.1,aq.out,ad]
    obtain⟨ft,X⟩:=Al (E8 a l i l[i]);have aa:=Ft (show ft=(DY K E&&(x0==lb)&&decide (D+K.toNat<64)) by rw[<-X,hfit]);have ae:=Ft (fun(h:ft=false)=>(by rw[G.out,Bc (SH U (by rw[X];exact h))]:lvG l (a:Int)=(fun _=>0,7)));have al:=Ft (fun(h:ft=true)=>(⟨by rw[QV a l U,C.out.1,W],fun j h1 h2=>by
     rcases (by omega:j<i\/j=i) with h3|h3
     ·exact C.out.2 j h1 h3
     ·subst h3;rw[X];exact h⟩:lvS a (l.take (i+1))=(D+K.toNat+1,FZ g (D+K.toNat) E)/\∀j,(h:j<l.length)->j<i+1->E8 a l j l[j]=true))
    have af:=fun x=>bX x0 K E x
    have am:=Ft (fun(y:A5) (hy:Below wr.heap.size wr y)=>(⟨(hy.block B (by omega)).trans f,(hy.block (B+1) (by omega)).trans d,(hy.cell (p:=⟨b,o+i*3,none⟩) V).trans c0,(hy.cell (p:=⟨b,o+i*3+1,none⟩) V).trans c1,(hy.cell (p:=⟨b,o+i*3+2,none⟩) V).trans c2,O.trans (hy.mono (by omega)),by have:=hy.size;omega⟩:y.heap[B]? =some (.cells Z 180 (0,0))/\y.heap[B+1]? =some (GY g)/\y.cell? ⟨b,o+i*3,none⟩=some (.bool x0)/\y.cell? ⟨b,o+i*3+1,none⟩=some (.int .i64 K)/\y.cell? ⟨b,o+i*3+2,none⟩=some (.int .i64 E)/\Below B w y/\B+2<=y.heap.size))
    clear hc V hfit X W ad C f d O U;obtain⟨rt,L⟩:=Al (DY K E);rw[L] at af
    go_wp2_with fail
    refine(af _).mono ?_;rintro e w1 ⟨rfl,an⟩;obtain⟨f,d,d0,d1,d2,O,a6⟩:=am.out _ an;clear c0 c1 c2 an;cases rt with
    |false=>
     have F:=Ft (ae.out (by rw[aa.out,L];rfl))
     go_wp2_with (with_reducible refine B2 rfl 180 _ _ rfl B Z Z rfl rfl 180 f q rfl A ?_;intro w2 s t)
     refine Na (BF rfl _ _ B 180 _ (0,0) _ rfl s Nb rfl q) rfl ?_;exact Jx F.out P.out (by rw[N.out];exact O.grown t (by omega) (fun k v=>by injection v with v;omega))
    |true=>
    obtain⟨r0,r1,_⟩:=KS.1 L;obtain⟨r,rfl⟩:∃r:Nat,K=(r:Int):=⟨K.toNat,by omega⟩;rw[Nd] at aa al;have M:=Ft (show ft=((x0==lb)&&decide (D+r<64)) by rw[aa.out,L];simp);clear af r0 L aa;cases hx:(x0==lb) with
    |false=>
     have g1:(x0 != lb)=true:=by rw[bne,hx];rfl
     have F:=Ft (ae.out (by rw[M.out,hx];rfl))
     go_wp2_with (with_reducible refine B2 rfl 180 _ _ rfl B Z Z rfl rfl 180 f q rfl A ?_;intro w2 s t)
     refine Na (BF rfl _ _ B 180 _ (0,0) _ rfl s Nb rfl q) rfl ?_;exact Jx F.out P.out (by rw[N.out];exact O.grown t (by omega) (fun k v=>by injection v with v;omega))
    |true=>
    have g1:(x0 != lb)=false:=by rw[bne,hx];rfl
    have a7:IntKind.i64.wrap ((D:Int)-1+(r:Int))=(D:Int)-1+(r:Int):=IntWalk.i64_in _ (by omega);have au:IntKind.i64.wrap ((D:Int)-1+(r:Int)+1)=((D+r:Nat):Int):=by rw[IntWalk.i64_in _ (by omega)];omega
    obtain⟨k,v⟩:∃k:Nat,D+r=k:=⟨_,rfl⟩;rw[v] at au;by_cases ao:k<64
    ·have a1:=Ft (al.out (by rw[M.out,hx,N9 (by omega)];rfl));have t3:decide (63<(k:Int))=false:=by simp;omega
     have t4:decide (63<k)=false:=by simp;omega
     have cc:=Zs (i:=k) d ao;have ff:=WW (i:=k) d;rw[v] at a1;generalize g k=y0 at cc
     have av:=Ft (⟨OG f (by simp),XQ E d,O.setCell (by simp) _,by simp[World.setCell];omega⟩:(w1.setCell ⟨B+1,k,none⟩ (.int .i64 E)).heap[B]? =some (.cells Z 180 (0,0))/\(w1.setCell ⟨B+1,k,none⟩ (.int .i64 E)).heap[B+1]? =some (GY (FZ g k E))/\Below B w (w1.setCell ⟨B+1,k,none⟩ (.int .i64 E))/\B+2<=(w1.setCell ⟨B+1,k,none⟩ (.int .i64 E)).heap.size);clear f d O
     go_wp2
     go_roundw
     case rel=>exact⟨i+1,k+1,FZ g k E,by omega,by go_num,by go_num,by omega,Ft a1.out,av.out⟩
     case measure=>simp[intOf];omega
    ·have F:=Ft (ae.out (by rw[M.out,v,N6 ao];simp));have t3:decide (63<(k:Int))=true:=by simp;omega
     have t4:decide (63<k)=true:=by simp;omega
     go_wp2_with (with_reducible refine B2 rfl 180 _ _ rfl B Z Z rfl rfl 180 f q rfl A ?_;intro w2 s t)
     refine Na (BF rfl _ _ B 180 _ (0,0) _ rfl s Nb rfl q) rfl ?_;exact Jx F.out P.out (by rw[N.out];exact O.grown t (by omega) (fun k v=>by injection v with v;omega))
   ·obtain rfl:i=n:=by omega
    have t0:decide ((i:Int)<(i:Int))=false:=by simp
    have t1:decide (i<i)=false:=by simp
    have F:=Ft (show lvG l (a:Int)=(g,0) by
     rw[G.out,Bb (by
      rw[Q8 l.length (Ba _) fun j h _=>C.out.2 j h (by rw[<-aq.out];exact h)]
      decide)]
     have:=C.out.1;rw[show l.take i=l by rw[<-aq.out];exact Nc] at this;rw[this])
    obtain⟨Y,hY⟩:=Al (CQ g);have a8:=Ft hY;have aw:=Ft (show wr.heap[B+1]? =some (.cells Y 180 (0,0)) by rw[<-hY];exact d);have ag:(prog.info? 180).map (·.size)=some Y.size:=by rw[<-hY];exact MS _
    have ax:Y.all (·.oneCell')=true:=by rw[<-hY];exact N7 _
    have ay:Z.size=Y.size:=by rw[<-hY,<-P.out,JG,JG]
    clear hY C
    go_wp2_with (first|(with_reducible refine N5 rfl 180 _ rfl (B+1) rfl 180 Y (0,0) _ aw.out Nb rfl ag ?_)|(with_reducible refine B2 rfl 180 _ _ rfl B Y Z rfl rfl 180 f ag ay ax ?_;intro w2 s t))
    refine Na (BF rfl _ _ B 180 _ (0,0) _ rfl s Nb rfl ag) rfl ?_;exact Jx F.out a8.out (by rw[N.out];exact O.grown t (by omega) (fun k v=>by injection v with v;omega))
 ·have G:=Ft (show lvG l H=(fun _=>0,1) by unfold lvG;rw[Bb hf]);obtain⟨J,m⟩:=Al (Q.alloc (.cells Z 180 (0,0)));have f:J.heap[B]? =some (.cells Z 180 (0,0)):=by rw[<-m];exact CH R
  have d:J.heap[B+1]? =some (.cells Z 180 (0,0)):=by rw[<-m,<-ah];exact heap_alloc_new Q _
  have ai:J.heap.size=B+2:=by rw[<-m];simp;omega
  have ap:=Ft (show Below B w J by rw[<-m];exact S.alloc (by omega) _);have T:=Ft (show Q.alloc (.cells Z 180 (0,0))=J from m);generalize l.length=n at ab ⊢;clear hp ab m R S;by_cases h0:H<0
  ·have t0:decide (H<0)=true:=by simpa using h0
   go_enter func154,ntmps154
   go_wp2_with (first|(rw[ac.out,N.out,T.out];with_reducible refine N5 rfl 180 _ rfl (B+1) rfl 180 Z (0,0) _ d Nb rfl q ?_)|(with_reducible refine B2 rfl 180 _ _ rfl B Z Z rfl rfl 180 f q rfl A ?_;intro w2 s t))
   refine Na (BF rfl _ _ B 180 _ (0,0) _ rfl s Nb rfl q) rfl ?_;exact Jx G.out P.out (by rw[N.out];exact ap.out.grown t (by omega) (fun k v=>by injection v with v;omega))
  ·have t0:decide (H<0)=false:=by simpa using h0
   have t1:decide (1<H)=true:=by simp;omega
   go_enter func154,ntmps154
   go_wp2_with (first|(rw[ac.out,N.out,T.out];with_reducible refine N5 rfl 180 _ rfl (B+1) rfl 180 Z (0,0) _ d Nb rfl q ?_)|(with_reducible refine B2 rfl 180 _ _ rfl B Z Z rfl rfl 180 f q rfl A ?_;intro w2 s t))
   refine Na (BF rfl _ _ B 180 _ (0,0) _ rfl s Nb rfl q) rfl ?_;exact Jx G.out P.out (by rw[N.out];exact ap.out.grown t (by omega) (fun k v=>by injection v with v;omega))
end Go.Proofs.YtjjmalchelniiaaGreatDoor