/- No condition. -/
import Derived.Test.YtjjmalchelniiaaGreatDoorZph
import Derived.Deep.RegionWith
import Derived.Deep.CutRange
import Derived.Deep.DeepCutAuto
open Go.Proofs.Tryz
set_option maxHeartbeats 2000000
namespace Go.Proofs.YtjjmalchelniiaaGreatDoor
open Go.RowKit Go.Lib
theorem Wet{p:Prop}(h:p:=by
 go_wp2_with (with_reducible refine AK rfl 180 _ _ rfl B Z Z rfl rfl 180 f s rfl C ?_;intro w2 m q)
 refine Nl (C0 rfl _ _ B 180 _ (0,0) _ rfl m Ns rfl s) rfl ?_;exact Rr F.out T.out yS):p:=h
theorem yS{p:Prop}(h:p:=by rw[U.out];exact M.grown q (by omega) (fun k hk=>by injection hk with hk;omega)):p:=h
abbrev Nk:=@wpList_load_row
abbrev Nl:=@bodyPost_ret
abbrev Nn:=@decide_eq_true
abbrev Np:=@decide_eq_false
abbrev Nq:=@Int.toNat_natCast
abbrev Nr:=@List.take_length
abbrev Ns:=@underlying180
theorem Ak{α}(a:α):∃b,a=b:=⟨a,rfl⟩
theorem Qf6 (a:Int)(w:World):Calls prog 222 #[.int .i64 a] w fun e b=>e=.returned (.bool (a==0 || a==1))/\w=b:=by
 cases h0:(a==0)
 all_goals
  go_enter func222,ntmps222
  go_wp2
  go_ret
  exact⟨rfl,rfl⟩
theorem pL (w:World):(Instr.build 180 #[]).run prog w=.ok (.agg (Ec fun _=>0)) w:=run_build w _ #[] _ uN
def Qo (l:List Ev)(a:Int)(w:World)(e:Ending)(b:World):Prop:=e=.returned (.tuple #[.agg (Ec (lvG l a).1),.int .i64 (lvG l a).2])/\Below w.heap.size w b
theorem Rr {l:List Ev}{a:Int}{w b:World}{Z:Array Value}{g:Nat->Int}{z:Int}(h:lvG l a=(g,z))(c:Ec g=Z)(d:Below w.heap.size w b):Qo l a w (.returned (.tuple #[.agg Z,.int .i64 z])) b:=by
 unfold Qo;rw[h,<-c];exact⟨rfl,d⟩
set_option maxRecDepth 100000 in
theorem Y2 (p:Option Addr)(l:List Ev)(c:Nat)(H:Int)(w:World)(hp:CX w p l)(V:l.length<=140737488355328):Calls prog 205 #[.slice p l.length c,.int .i64 H] w (Qo l H w):=by
 have A:=fun x=>Qf6 H x;obtain⟨B,hB⟩:=Ak w.heap.size;obtain⟨Z,hZ⟩:=Ak (Ec (fun _=>0));have T:=Fx hZ;have a4:∀w,(zeroValue 180).run prog w=.ok (.agg Z) w:=by rw[<-hZ];exact U8
 have a5:∀w,(Instr.build 180 #[]).run prog w=.ok (.agg Z) w:=by rw[<-hZ];exact pL
 have s:(prog.info? 180).map (·.size)=some Z.size:=by rw[<-hZ];exact Tp _
 have C:Z.all (·.oneCell')=true:=by rw[<-hZ];exact Tj _
 obtain⟨wA,I⟩:=Ak (w.alloc (.cells Z 180 (0,0)));have ao:wA.heap.size=B+1:=by rw[<-I,<-hB];simp
 have W:wA.heap[B]? =some (.cells Z 180 (0,0)):=by rw[<-I,<-hB];exact heap_alloc_new w _
 have aa:Below B w wA:=by rw[<-I,<-hB];exact(Ea _ w).alloc (B9 _) _
 have ag:=Fx I;have U:=Fx hB;clear hZ I hB;by_cases hf:H=0\/H=1
 ·rw[show (H==0 || H==1)=true by simp;exact hf] at A;obtain⟨a,rfl⟩:∃a:Nat,H=(a:Int):=⟨H.toNat,sX⟩;have a6:a<=1:=sX;have G:=Fx (show lvG l (a:Int)=if EV a l l.length then (fun _=>0,7) else ((lvS a l).2,0) by unfold lvG;rw[Bb hf,Nq]);obtain⟨n,hn⟩:=Ak l.length;obtain⟨wB,D⟩:=Ak (wA.alloc (.cells Z 180 (0,0)));have ap:wB.heap.size=B+2:=by rw[<-D];simp;omega
  have f:wB.heap[B]? =some (.cells Z 180 (0,0)):=by rw[<-D];exact BM W
  have d:wB.heap[B+1]? =some (KV fun _=>0):=by rw[<-D,<-ao,<-T.out];exact heap_alloc_new wA _ |>.trans (by rw[T.out];unfold KV;rw[T.out])
  have ah:Below B w wB:=by rw[<-D];exact aa.alloc (by omega) _
  have a7:=Fx (fun(x:World) (hx:Below B w x)=>(hp.below (by rw[U.out];exact hx):CX x p l));have aq:=Fx (show wA.alloc (.cells Z 180 (0,0))=wB from D);have an:=Fx hn;rw[hn] at V ⊢;clear D hf hp hn W aa
  go_enter func205,ntmps205
  go_wp2_with fail
  rw[ag.out,U.out];refine(A _).mono ?_;rintro e w1 ⟨rfl,rfl⟩
  go_wp2
  rw[aq.out];have a2:(lvS a (l.take 0)).1=a:=rfl
  go_loopw [7,19] (fun u z wr=>∃(i t:Nat) (g:Nat->Int),i<=n/\z=.int .i64 i/\u=.int .i64 t/\t<=64/\Hid (lvS a (l.take i)=(t,g)/\∀j,(h:j<l.length)->j<i->GK a l j l[j]=true)/\wr.heap[B]? =some (.cells Z 180 (0,0))/\wr.heap[B+1]? =some (KV g)/\Below B w wr/\B+2<=wr.heap.size) (fun _ z _=>n-(intOf z).toNat)
  case atStart=>exact⟨0,a,fun _=>0,G1 _,rfl,rfl,sX,Fx ⟨rfl,fun j _ h=>absurd h (G8 j)⟩,f,d,ah,sX⟩
  case round=>
   clear f d ah ap;obtain⟨i,t,g,hi,rfl,rfl,a8,v,f,d,M,hz⟩:=hrel;by_cases ai:i<n
   ·have t0:decide ((i:Int)<(n:Int))=true:=tT;have t1:decide (i<n)=true:=by simpa using ai
    have O:i<l.length:=by rw[an.out];exact ai
    obtain⟨b,o,rfl,ar,hc⟩:=(a7.out _ M).at sX;obtain⟨c0,c1,c2⟩:=hc i O;obtain⟨⟨N,x1,x2⟩,P⟩:=Ak (l[i]);rw[P] at c0 c1 c2;simp only at c0 c1 c2;have qw:wrap64 ((n:Int)-1)=(n:Int)-1:=IntWalk.wrap64_in _ sX;obtain⟨lb,ab⟩:=Ak (decide (i+1=n));have q1:((i:Int)==(n:Int)-1)=lb:=by
     rw[<-ab];by_cases e:i+1=n
     ·rw[Nn e,Bj];omega
     ·rw[Np e,Fz];omega
    have hfit:GK a l i l[i]=(DL x1 x2&&(N==lb)&&decide (t+x1.toNat<64)):=by
     unfold GK;rw[P,v.out.1,an.out,ab]
    obtain⟨ft,Q⟩:=Ak (GK a l i l[i]);have R:=Fx (show ft=(DL x1 x2&&(N==lb)&&decide (t+x1.toNat<64)) by rw[<-Q,hfit]);have ac:=Fx (fun(h:ft=false)=>(by rw[G.out,Bb (Xv O (by rw[Q];exact h))]:lvG l (a:Int)=(fun _=>0,7)));have aj:=Fx (fun(h:ft=true)=>(⟨by rw[UN a l O,v.out.1,P],fun j h1 h2=>by
     rcases (by omega:j<i\/j=i) with h3|h3
     ·exact v.out.2 j h1 h3
     ·subst h3;rw[Q];exact h⟩:lvS a (l.take (i+1))=(t+x1.toNat+1,IH g (t+x1.toNat) x2)/\∀j,(h:j<l.length)->j<i+1->GK a l j l[j]=true))
    have ad:=fun x=>T5 N x1 x2 x;obtain⟨X,hX⟩:=Ak wr.heap.size;obtain⟨wx,E⟩:=Ak (wr.alloc (.cells #[.bool N,.int .i64 x1,.int .i64 x2] 153 (0,0)));have au:wx.heap.size=X+1:=by rw[<-E,<-hX];simp
    have J:wx.heap[X]? =some (BD N x1 x2):=by rw[<-E,<-hX];exact heap_alloc_new wr _
    have ae:Below X wr wx:=by rw[<-E,<-hX];exact(Ea _ wr).alloc (B9 _) _
    have ak:Below B w wx:=by rw[<-E];exact M.alloc (by omega) _
    have a9:=Fx hX;have av:=Fx E;have aw:=Fx (show B+2<=X by omega);have al:=Fx (fun(y:World) (hy:Below wx.heap.size wx y)=>(⟨(hy.block B sX).trans ((ae.block B sX).trans f),(hy.block (B+1) sX).trans ((ae.block (B+1) sX).trans d),(hy.block X sX).trans J,ak.trans (hy.mono sX),by have:=hy.size;omega⟩:y.heap[B]? =some (.cells Z 180 (0,0))/\y.heap[B+1]? =some (KV g)/\y.heap[X]? =some (BD N x1 x2)/\Below B w y/\X+1<=y.heap.size));clear hX E hc ar hfit Q P ab v f d M ae ak J O;obtain⟨rt,K⟩:=Ak (DL x1 x2);rw[K] at ad
    go_wp2_with fail
    rw[av.out,a9.out];refine(ad _).mono ?_;rintro e w1 ⟨rfl,am⟩;obtain⟨f,d,J,M,ba⟩:=al.out _ am;obtain⟨d0,d1,d2,_,_,_⟩:=CI J;clear c0 c1 c2 am au;have bb:B+2<=w1.heap.size:=by have:=aw.out;omega
    cases rt with
    |false=>
     have F:=Fx (ac.out (by rw[R.out,K];rfl))
     exact Wet
    |true=>
    obtain⟨r0,r1,_⟩:=KQ.1 K;obtain⟨r,rfl⟩:∃r:Nat,x1=(r:Int):=⟨x1.toNat,sX⟩;rw[Nq] at R aj;have L:=Fx (show ft=((N==lb)&&decide (t+r<64)) by rw[R.out,K];simp);clear ad r0 K R;cases hx:(N==lb) with
    |false=>
     have g1:(N != lb)=true:=by rw[bne,hx];rfl
     have F:=Fx (ac.out (by rw[L.out,hx];rfl))
     exact Wet
    |true=>
    have g1:(N != lb)=false:=by rw[bne,hx];rfl
    by_cases S:t+r<64
    ·have a3:=Fx (aj.out (by rw[L.out,hx,Nn S];rfl));have t3:decide (64<=(t:Int)+(r:Int))=false:=tT;have cc:=gU (i:=t+r) d S;have ff:=Qjw (i:=t+r) d;obtain⟨k,hk⟩:∃k:Nat,t+r=k:=⟨_,rfl⟩;rw[hk] at cc ff a3 S;have bc:(t:Int)+(r:Int)=(k:Int):=sX;generalize g k=y0 at cc;have ax:=Fx (⟨Q8 f sZ,jZ x2 d,M.setCell sZ _,by simp[World.setCell];omega⟩:(w1.setCell ⟨B+1,k,none⟩ (.int .i64 x2)).heap[B]? =some (.cells Z 180 (0,0))/\(w1.setCell ⟨B+1,k,none⟩ (.int .i64 x2)).heap[B+1]? =some (KV (IH g k x2))/\Below B w (w1.setCell ⟨B+1,k,none⟩ (.int .i64 x2))/\B+2<=(w1.setCell ⟨B+1,k,none⟩ (.int .i64 x2)).heap.size);clear f d M J
     go_wp2
     go_roundw
     case rel=>exact⟨i+1,k+1,IH g k x2,sX,uO,uO,sX,Fx a3.out,ax.out⟩
     case measure=>simp[intOf];omega
    ·have F:=Fx (ac.out (by rw[L.out,Np S];simp));have t3:decide (64<=(t:Int)+(r:Int))=true:=tT
     exact Wet
   ·obtain rfl:i=n:=sX;have t0:decide ((i:Int)<(i:Int))=false:=sZ;have t1:decide (i<i)=false:=sZ;have F:=Fx (show lvG l (a:Int)=(g,0) by
     rw[G.out,Ba (by
      rw[V6 l.length (B9 _) fun j h _=>v.out.2 j h (by rw[<-an.out];exact h)]
      decide)]
     have:=v.out.1;rw[show l.take i=l by rw[<-an.out];exact Nr] at this;rw[this])
    obtain⟨Y,hY⟩:=Ak (Ec g);have bd:=Fx hY;have ay:=Fx (show wr.heap[B+1]? =some (.cells Y 180 (0,0)) by rw[<-hY];exact d);have af:(prog.info? 180).map (·.size)=some Y.size:=by rw[<-hY];exact Tp _
    have az:Y.all (·.oneCell')=true:=by rw[<-hY];exact Tj _
    have a1:Z.size=Y.size:=by rw[<-hY,<-T.out,NT,NT]
    clear hY v
    go_wp2_with (first|(with_reducible refine Nk rfl 180 _ rfl (B+1) rfl 180 Y (0,0) _ ay.out Ns rfl af ?_)|(with_reducible refine AK rfl 180 _ _ rfl B Y Z rfl rfl 180 f af a1 az ?_;intro w2 m q))
    refine Nl (C0 rfl _ _ B 180 _ (0,0) _ rfl m Ns rfl af) rfl ?_;exact Rr F.out bd.out yS
 ·have G:=Fx (show lvG l H=(fun _=>0,1) by unfold lvG;rw[Ba hf]);rw[show (H==0 || H==1)=false by simp;omega] at A;generalize l.length=n at V ⊢;clear hf hp V
  go_enter func205,ntmps205
  go_wp2_with fail
  rw[ag.out,U.out];refine(A _).mono ?_;rintro e w1 ⟨rfl,rfl⟩
  go_wp2_with (with_reducible refine AK rfl 180 _ _ rfl B Z Z rfl rfl 180 W s rfl C ?_;intro w2 m q)
  refine Nl (C0 rfl _ _ B 180 _ (0,0) _ rfl m Ns rfl s) rfl ?_;exact Rr G.out T.out (by rw[U.out];exact aa.grown q (by omega) (fun k hk=>by injection hk with hk;omega))
end Go.Proofs.YtjjmalchelniiaaGreatDoor