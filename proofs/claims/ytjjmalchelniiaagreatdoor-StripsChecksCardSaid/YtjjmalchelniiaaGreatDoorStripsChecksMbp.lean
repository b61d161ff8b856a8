/- StripsChecks, 42. No condition. -/
import Derived.Test.YtjjmalchelniiaaGreatDoorStripsChecksMa
import Derived.Test.YtjjmalchelniiaaGreatDoorStripsChecksMv
import Derived.Test.YtjjmalchelniiaaGreatDoorStripsChecksMz
import Derived.Test.YtjjmalchelniiaaGreatDoorStripsChecksMbo
open Go.Proofs.Tryz
open Go renaming World->A5,Calls->A9,Value->A0
set_option maxHeartbeats 4000000
namespace Go.Proofs.YtjjmalchelniiaaGreatDoor
open Go.RowKit Go.Lib
abbrev Ng:=@AllReadyH.cons
abbrev Nh:=@AllReadyH.nil
abbrev Ni:=@wpAnyH_ready
abbrev Nj:=@underlying189
abbrev Nk:=@wp_region_held_drew
abbrev Nl:=@wpAnyH_done
abbrev Nn:=@Bool.and_eq_true_iff
abbrev Np:=@Nat.lt_succ_self
abbrev Nq:=@trivial
theorem LJ {w x:A5}{b N:Nat}(h:w.grownBy x (some b))(a:N<=b)(c:N<=w.heap.size):Below N w x:=
 ⟨h.os,h.tape,h.output,h.size,fun k d=>h.block k (by omega) (fun e=>by injection e with e;omega)⟩
set_option maxRecDepth 100000 in
theorem gD (c:Cel)(p:Nat->Option Addr)(n k:Nat->Nat)(w:A5)(hc:FP w c p n)(F:BD w):A9 prog 119 #[.agg (AF c fun i=>.slice (p i) (n i) (k i)).toArray] w fun e I=>e=.returned (.bool (EE c))/\Below w.heap.size w I:=by
 have g:=fun x (d:Below w.heap.size w x)=>VM c p n k (x.heap.size+1) x.heap.size [] (x.alloc GN) (AN.fresh rfl (Np _)) (by simp) (by simp) (fun y J=>by
  have h1:=d.trans ((((Dm _ x).alloc (Ba _) GN).trans (LJ J (Ba _) (by simp))).mono d.size);exact⟨F.below h1,hc.below h1⟩)
 obtain⟨A,s,-,-,-,-,-,-,-,-⟩:=IJ c fun i=>.slice (p i) (n i) (k i);obtain⟨R,w0,t,j,L,u,z,l⟩:=MU w s;rw[s];obtain⟨ev,f⟩:∃ev:Int,(if EE c=true then 0 else 7)=ev:=⟨_,rfl⟩;have B:Hid ((ev==0)=EE c):=Dl (by rw[<-f];cases EE c <;> rfl)
 have m:Hid (∀x,(Below R w x/\x.heap[R]? =some (.cells A 77 (0,0)))->A9 prog 153 #[.pointer (some ⟨x.heap.size,0,none⟩),.agg A] (x.alloc GN) fun e y=>e=.returned (.int .i64 ev)/\Below R w y/\y.heap[R]? =some (.cells A 77 (0,0))):=Dl (by
  intro x d;have h1:=g x (by rw[t];exact d.1);rw[s] at h1;refine h1.mono ?_;rintro e y ⟨i,_,_,M,h2⟩;have h3:Below x.heap.size x y:=((Dm _ x).alloc (Ba _) GN).trans (LJ M (Ba _) (by simp));refine⟨?_,d.1.trans (h3.mono (by have:=d.1.size;omega)),(h3.block R (An.1 d.2).1).trans d.2⟩;rcases h2 with ⟨_,h4,rfl⟩|⟨h4,rfl⟩
  ·rw[<-f,h4];rfl
  ·rw[<-f,h4];rfl)
 have o:=(l w0 (Dm _ _)).1;have N:=Dl j;have G:=Dl t;clear s j t l g hc F f;generalize EE c=P at *
 go_enter func119,ntmps119
 go_wp2
 rw[N.out,G.out];refine Nk (S:=fun x=>Below R w x/\x.heap[R]? =some (.cells A 77 (0,0))) (by kernel_rfl) ⟨u.drew,o⟩ (fun a=>?_)
 refine BQ 1 (some 4) (v:=.agg A) rfl rfl (by kernel_rfl) (by kernel_rfl) (by kernel_rfl) (fun _ _ _ h=>h) a (Or.inl ⟨by kernel_rfl,fun x d=>FU (ty:=77) (x:=.tmp 1) (ad:=⟨R,0,none⟩) (by kernel_rfl) (by kernel_rfl) (Au x (R) _ _ A (0,0) _ (d.2) N3 rfl z)⟩) ?_
 try simp only[A1]
 refine Ni (rs:=[0]) (by kernel_rfl) (by simp) ?_;refine Ng rfl (fun K q=>?_) Nh
 go_simp
 go_wp2_with fail
 obtain⟨H,r⟩:=Ai w0.drew;rw[r] at a ⊢;have C:R<H.heap.size:=by rw[<-r];show R<w0.heap.size;omega
 have O:=a;refine(Qf _).mono ?_;rintro e Q ⟨rfl,rfl⟩;refine q.out _ _ (⟨a.1.alloc (Nat.le_of_lt C) _,CH a.2⟩) (fun b=>?_);clear q K a;have a:=b;clear b
 try simp only[A1]
 refine Ni (rs:=[2]) (by kernel_rfl) (by simp) ?_;refine Ng rfl (fun K q=>?_) Nh
 go_simp
 go_wp2_with fail
 refine(m.out H O).mono ?_;rintro e T ⟨rfl,D,E⟩;refine q.out _ _ (⟨D,E⟩) (fun b=>?_);clear q K a;have a:=b;clear b
 try simp only[A1]
 refine AL 3 (some 6) a ?_
 try simp only[A1]
 refine AL 4 (some 2) a ?_
 try simp only[A1]
 refine Nl (by kernel_rfl) ?_ _
 go_wp2
 go_ret
 exact⟨AB B.out,by rw[G.out];exact a.1⟩
set_option maxRecDepth 100000 in
theorem X7 (inter:Bool)(c:Cel)(p:Nat->Option Addr)(n k:Nat->Nat)(w:A5)(hc:FP w c p n)(M:BD w)(N:GQ w):A9 prog 82 #[.bool inter,.agg (AF c fun i=>.slice (p i) (n i) (k i)).toArray] w fun e S=>e=.returned (.bool (BE inter c))/\Below w.heap.size w S:=by
 have g:=fun x (s:Below w.heap.size w x)=>pY c p n k x (hc.below s);have E:=fun x=>iJ inter c.kind x;have h:=fun x (s:Below w.heap.size w x)=>qI c (fun i=>.slice (p i) (n i) (k i)) x (N.below s);have u:=fun x=>iC c (fun i=>.slice (p i) (n i) (k i)) x;have j:=fun x (s:Below w.heap.size w x)=>gD c p n k x (hc.below s) (M.below s)
 have d:Hid (BE inter c=((decide (0<=c.stuff)&&decide (c.stuff<=64))&&(if c.skip then inter&&FY c else (EI inter c.kind&&EV c.kind c.step)&&(H4 c.kind c.mx c.my&&EE c)))):=Dl rfl;obtain⟨A,D,f0,f1,f2,f3,f4,f5,-,-⟩:=IJ c fun i=>.slice (p i) (n i) (k i);obtain⟨R,w0,F,v,T,a,l,y⟩:=MU w D;simp only[D] at g h u j;rw[F] at g h j;rw[D];have B:=Dl v
 have f:=Dl F;have o:=Dl y;have G:=Dl g;have H:=Dl h;have I:=Dl j;clear D v F y g h j hc M N;generalize BE inter c=z at *;generalize FY c=U at *;generalize EV c.kind c.step=O at *;generalize H4 c.kind c.mx c.my=P at *;generalize EE c=V at *;by_cases t:c.stuff<0
 ·have t0:decide (c.stuff<0)=true:=Gq t;have Z:=Dl (show z=false by rw[d.out,Gp (by omega:¬ 0<=c.stuff)];rfl);clear t d
  go_enter func82,ntmps82
  go_wp2
  go_ret
  exact⟨AB Z.out.symm,by rw[B.out,f.out];exact a⟩
 by_cases h1:64<c.stuff
 ·have t0:decide (c.stuff<0)=false:=Gp t;have t1:decide (64<c.stuff)=true:=Gq h1;have Z:=Dl (show z=false by rw[d.out,Gp (by omega:¬ c.stuff<=64),Gv];rfl);clear t h1 d
  go_enter func82,ntmps82
  go_wp2
  go_ret
  exact⟨AB Z.out.symm,by rw[B.out,f.out];exact a⟩
 have t0:decide (c.stuff<0)=false:=Gp t;have t1:decide (64<c.stuff)=false:=Gp h1;rw[Gq (by omega:0<=c.stuff),Gq (by omega:c.stuff<=64)] at d;clear t h1;cases hsk:c.skip with
 |true=>
  rw[hsk] at d f1;cases inter with
  |false=>
   have Z:=Dl (show z=false by rw[d.out];rfl)
   go_enter func82,ntmps82
   go_wp2
   go_ret
   exact⟨AB Z.out.symm,by rw[B.out,f.out];exact a⟩
  |true=>
   have Z:=Dl (show z=U by rw[d.out];rfl)
   go_enter func82,ntmps82
   go_wp2_with (with_reducible refine MB (by kernel_rfl) 77 _ rfl w.heap.size rfl 77 A (0,0) _ (heap_alloc_new w _) N3 rfl l ?_)
   rw[B.out,f.out];refine(G.out _ a).mono ?_;rintro e Q ⟨rfl,b⟩;have m:=a.trans (b.mono (by omega))
   go_wp2
   go_ret
   exact⟨AB Z.out.symm,by rw[f.out];exact m⟩
 |false=>
  rw[hsk] at d f1;have Z:=Dl (show z=(EI inter c.kind&&O&&(P&&V)) by rw[d.out];rfl);clear d;generalize EI inter c.kind=W at *
  go_enter func82,ntmps82
  go_wp2_with fail
  rw[B.out,f.out];refine(E _).mono ?_;rintro e Q ⟨rfl,rfl⟩;obtain⟨C,Y⟩:=o.out _ (Dm _ _);cases W with
  |false=>
   go_wp2
   go_ret
   exact⟨AB (by rw[Z.out];rfl),by rw[f.out];exact a⟩
  |true=>
   go_wp2_with (with_reducible refine MB (by kernel_rfl) 77 _ rfl R rfl 77 A (0,0) _ C N3 rfl l ?_)
   refine(H.out _ a).mono ?_;rintro e Q ⟨rfl,b⟩;have m:=a.trans (b.mono (by omega));have J:=b.size;have C:=(o.out _ (b.mono (by omega))).1;cases O with
   |false=>
    go_wp2
    go_ret
    exact⟨AB (by rw[Z.out];rfl),by rw[f.out];exact m⟩
   |true=>
    go_wp2_with (with_reducible refine MB (by kernel_rfl) 77 _ rfl R rfl 77 A (0,0) _ C N3 rfl l ?_)
    refine(u _).mono ?_;rintro e w2 ⟨rfl,q⟩;have r:=m.trans (q.mono (by omega));have X:=q.size;have C:=(o.out _ ((b.trans (q.mono J)).mono (by omega))).1;cases P with
    |false=>
     go_wp2
     go_ret
     exact⟨AB (by rw[Z.out];rfl),by rw[f.out];exact r⟩
    |true=>
     go_wp2_with (with_reducible refine MB (by kernel_rfl) 77 _ rfl R rfl 77 A (0,0) _ C N3 rfl l ?_)
     refine(I.out _ r).mono ?_;rintro e w3 ⟨rfl,K⟩;have L:=r.trans (K.mono (by omega))
     go_wp2
     go_ret
     exact⟨AB (by rw[Z.out];rfl),by rw[f.out];exact L⟩
def GR (inter:Bool)(x y:Int)(c:Cel):List ByteArray:=
 ⟨(HK inter c.stuff.toNat).toArray⟩::(if c.skip then [⟨#[49]⟩,⟨#[]⟩,⟨#[]⟩,⟨#[]⟩,⟨#[]⟩,⟨#[]⟩] else
  [⟨(JT inter).toArray⟩,B1 inter c.kind (D3 c:Nat),F0 (AE c.kind) (BJ c 4:Nat),CJ c.step]++(if AE c.kind then [⟨#[]⟩,⟨#[]⟩] else [C2 (AM (c.mx-AM x)),C2 (AM (c.my-AM y))]))
def bgS:Bool->ByteArray
 |true=>⟨#[48]⟩
 |false=>⟨#[]⟩
def JY:List ByteArray:=[⟨#[]⟩,⟨#[]⟩,⟨#[]⟩,⟨#[]⟩,⟨#[]⟩,⟨#[]⟩,⟨#[]⟩]
structure Qjs (w wr:A5) (R:Nat) (x y:Int) (A:Array A0) (l:List A0):Prop where
 below:Below R w wr
 pred:wr.heap[R]? =some (.cells [.int .i64 x,.int .i64 y].toArray 73 (0,0))
 cel:wr.heap[R+1]? =some (.cells A 77 (0,0))
 res:wr.heap[R+1+1]? =some (.cells (JY.map Value.string).toArray 189 (0,0))
 rows:wr.heap[R+1+1+1]? =some (.cells l.toArray 189 (0,0))
 size:R+4<=wr.heap.size
section
variable {w wr z:A5}{R:Nat}{x y:Int}{A:Array A0}{l l':List A0}
theorem Qjs.move (h:Qjs w wr R x y A l)(a:Below wr.heap.size wr z):Qjs w z R x y A l:=
 ⟨h.below.trans (a.mono (by have:=h.size;omega)),(a.block _ (by have:=h.size;omega)).trans h.pred,(a.block _ (by have:=h.size;omega)).trans h.cel,(a.block _ (by have:=h.size;omega)).trans h.res,(a.block _ (by have:=h.size;omega)).trans h.rows,Ea h.size a.size⟩
theorem Qjs.set (h:Qjs w wr R x y A l)(o:Nat)(v:A0):Qjs w (wr.setCell ⟨R+1+1+1,o,none⟩ v) R x y A (l.set o v):=by
 have a:Below (R+1+1+1) wr (wr.setCell ⟨R+1+1+1,o,none⟩ v):=⟨rfl,rfl,rfl,by simp[World.setCell],fun k b=>Ii _ _ _ _ (by simp;omega)⟩;exact⟨h.below.trans (a.mono (by omega)),(a.block _ (by omega)).trans h.pred,(a.block _ (by omega)).trans h.cel,(a.block _ (by omega)).trans h.res,B3 (o:=o) v h.rows,Ea h.size a.size⟩
end
theorem Rh (inter:Bool)(x y:Int)(c:Cel):(GR inter x y c).length=7:=by
 unfold GR;cases c.skip <;> cases AE c.kind <;> rfl
theorem bV:∀m,m<64->bits .and .i64 ((m:Nat):Int) 3=((m%4:Nat):Int):=by decide +kernel
set_option maxRecDepth 100000 in
theorem vV (inter:Bool)(x y:Int)(c:Cel)(p:Nat->Option Addr)(n k:Nat->Nat)(w:A5)(hc:FP w c p n)(ht:Ybq w.heap.size w)(hm:BE inter c=true):
  A9 prog 167 #[.bool inter,.agg #[.int .i64 x,.int .i64 y],.agg (AF c fun i=>.slice (p i) (n i) (k i)).toArray] w fun e J=>e=.returned (.agg ((GR inter x y c).map Value.string).toArray)/\Below w.heap.size w J:=by
 obtain⟨R,hR⟩:=Ai w.heap.size;have bo:=hm;unfold BE at hm;rw[Am,Am,Fb,Fb] at hm;obtain⟨bp,a2⟩:=hm;obtain⟨ns,bi⟩:∃ns:Nat,c.stuff=(ns:Int):=⟨c.stuff.toNat,by omega⟩;have C:=fun z=>Vk inter 5 0 z;have bx:(B1 inter 5 0).size<=9:=(Px inter 5 0).2
 have B:=fun z=>oC inter ns (bgS inter++B1 inter 5 0) z (by cases inter <;> decide +kernel) (by omega);obtain⟨bq,br,bj⟩:=Tl c;have ab:bits .and .i64 ((BJ c 6:Nat):Int) 3=((D3 c:Nat):Int):=by rw[bV _ bj,Q2,show (4*BJ c 4+D3 c)%4=D3 c by omega]
 have au:((BJ c 6:Nat):Int) / 2^2=((BJ c 4:Nat):Int):=by have:=Q2 c;omega
 obtain⟨A,hA,f0,f1,f2,f3,f4,f5,-,-⟩:=IJ c fun i=>.slice (p i) (n i) (k i);have av:∀z,Below R w z->A9 prog 149 #[.agg A] z fun e J=>e=.returned (.int .i64 (BJ c 6:Nat))/\Below z.heap.size z J:=fun z hz=>hA▸UH c p n k z (hc.below (hR▸hz));have Q:∀z,A9 prog 151 #[.agg A] z fun e J=>e=.returned (.bool (AE c.kind))/\Below z.heap.size z J:=fun z=>hA▸RP c _ z
 have ac:∀z,A9 prog 184 #[.bool inter,.int .i64 c.kind,.int .i64 (bits .and .i64 ((BJ c 6:Nat):Int) 3)] z fun e J=>e=.returned (.tuple #[.string (B1 inter c.kind (D3 c:Nat)),.bool (!(B1 inter c.kind (D3 c:Nat)).data.toList.isEmpty)])/\Below z.heap.size z J:=fun z=>by rw[ab];exact Vk inter c.kind _ z
 have aw:∀z,Below R w z->A9 prog 186 #[.bool (AE c.kind),.int .i64 (((BJ c 6:Nat):Int) / 2^2)] z fun e J=>e=.returned (.tuple #[.string (F0 (AE c.kind) (BJ c 4:Nat)),.bool (!(F0 (AE c.kind) (BJ c 4:Nat)).data.toList.isEmpty)])/\Below z.heap.size z J:=fun z hz=>by rw[au];exact fR _ _ z (Ybq.below (hR▸ht) hz).pats
 have ax:∀z,Below R w z->A9 prog 150 #[.int .i64 c.step] z fun e J=>e=.returned (.tuple #[.string (CJ c.step),.bool (!(CJ c.step).data.toList.isEmpty)])/\Below z.heap.size z J:=fun z hz=>Ur c.step z (Ybq.below (hR▸ht) hz).steps
 have bk:∀d z,Below R w z->A9 prog 188 #[.int .i64 d] z fun e J=>e=.returned (.tuple #[.string (C2 d),.bool (!(C2 d).data.toList.isEmpty)])/\Below z.heap.size z J:=fun d z hz=>yM d z (Ybq.below (hR▸ht) hz).mvd
 have ay:AE c.kind=false->c.skip=false->∀z,A9 prog 187 #[.agg #[.int .i64 c.mx,.int .i64 c.my],.agg #[.int .i64 x,.int .i64 y]] z fun e J=>e=.returned (.agg #[.int .i64 (AM (c.mx-AM x)),.int .i64 (AM (c.my-AM y))])/\Below z.heap.size z J:=fun hk hs z=>by
  rw[hs,Bb (by decide),Am,Am,Am] at a2;have hv:=a2.2.1;unfold H4 at hv;rw[hk,Bb (by decide),Am,Bm,Bm] at hv;exact dZ c.mx c.my x y z (MG.1 hv.1) (MG.1 hv.2)
 have aa:=Dl (show GR inter x y c=⟨(HK inter ns).toArray⟩::(if c.skip then [⟨#[49]⟩,⟨#[]⟩,⟨#[]⟩,⟨#[]⟩,⟨#[]⟩,⟨#[]⟩] else
  [bgS inter,B1 inter c.kind (D3 c:Nat),F0 (AE c.kind) (BJ c 4:Nat),CJ c.step]++(if AE c.kind then [⟨#[]⟩,⟨#[]⟩] else [C2 (AM (c.mx-AM x)),C2 (AM (c.my-AM y))])) by
   unfold GR;rw[bi,Do];cases inter <;> rfl)
 obtain⟨V,hV⟩:=Ai (((GR inter x y c).map Value.string).toArray);have a3:V.size=7:=by rw[<-hV];simp[Rh]
 have g:(prog.info? 189).map (·.size)=some V.size:=by rw[a3];kernel_rfl
 have W:V.all (·.oneCell')=true:=by rw[<-hV];simp[Value.oneCell']
 have X:((JY.map Value.string).toArray).size=V.size:=by rw[a3];rfl
 have l:=Dl hV;have G:Qjs w ((((w.alloc (.cells #[.int .i64 x,.int .i64 y] 73 (0,0))).alloc (.cells A 77 (0,0))).alloc (.cells (JY.map Value.string).toArray 189 (0,0))).alloc (.cells (JY.map Value.string).toArray 189 (0,0))) R x y A (JY.map Value.string):=by
  refine⟨?_,?_,?_,?_,?_,?_⟩
  ·exact((((Dm R w).alloc (Gb hR.symm) _).alloc (by simp;omega) _).alloc (by simp;omega) _).alloc (by simp;omega) _
  ·rw[<-hR];exact CH (CH (CH (heap_alloc_new w _)))
  ·rw[<-hR];exact CH (CH (by simpa using heap_alloc_new (w.alloc (.cells #[.int .i64 x,.int .i64 y] 73 (0,0))) (.cells A 77 (0,0))))
  ·rw[<-hR];exact CH (by simpa using heap_alloc_new ((w.alloc (.cells #[.int .i64 x,.int .i64 y] 73 (0,0))).alloc (.cells A 77 (0,0))) (.cells (JY.map Value.string).toArray 189 (0,0)))
  ·rw[<-hR];simpa using heap_alloc_new (((w.alloc (.cells #[.int .i64 x,.int .i64 y] 73 (0,0))).alloc (.cells A 77 (0,0))).alloc (.cells (JY.map Value.string).toArray 189 (0,0))) (.cells (JY.map Value.string).toArray 189 (0,0))
  ·simp;omega
 have H:(prog.info? 77).map (·.size)=some A.size:=hA▸OR c _;rw[hA];have ao:=Dl hR;obtain⟨bs,a4⟩:∃bs:A5,((((w.alloc (.cells #[.int .i64 x,.int .i64 y] 73 (0,0))).alloc (.cells A 77 (0,0))).alloc (.cells (JY.map Value.string).toArray 189 (0,0))).alloc (.cells (JY.map Value.string).toArray 189 (0,0)))=bs:=⟨_,rfl⟩;rw[a4] at G
 have ap:=Dl (show ((((w.alloc (.cells #[.int .i64 x,.int .i64 y] 73 (0,0))).alloc (.cells A 77 (0,0))).alloc (.cells #[.string ⟨#[]⟩,.string ⟨#[]⟩,.string ⟨#[]⟩,.string ⟨#[]⟩,.string ⟨#[]⟩,.string ⟨#[]⟩,.string ⟨#[]⟩] 189 (0,0))).alloc (.cells #[.string ⟨#[]⟩,.string ⟨#[]⟩,.string ⟨#[]⟩,.string ⟨#[]⟩,.string ⟨#[]⟩,.string ⟨#[]⟩,.string ⟨#[]⟩] 189 (0,0)))=bs from a4)
 have T:Hid (∀z:A5,z.heap[R+1]? =some (.cells A 77 (0,0))->z.cell? ⟨R+1,0,none⟩=some (.int .i64 (ns:Int))/\z.cell? ⟨R+1,1,none⟩=some (.bool c.skip)/\z.cell? ⟨R+1,2,none⟩=some (.int .i64 c.kind)/\z.cell? ⟨R+1,3,none⟩=some (.int .i64 c.step)/\z.cell? ⟨R+1,4,none⟩=some (.int .i64 c.mx)/\z.cell? ⟨R+1,5,none⟩=some (.int .i64 c.my)):=Dl (fun z hz=>by
  have h:=FL (c:=c) (sl:=fun i=>.slice (p i) (n i) (k i)) (x:=z) (R:=R+1) (by rw[hA];exact hz);rw[bi] at h;exact h)
 have U:=Dl av;have az:=Dl aw;have a0:=Dl ax;have aq:=Dl bk;have a1:=Dl ay;clear a4 hR bp a2 bo hA hV a3 av aw ax bk ay hc ht ab au bq br bj f0 f1 f2 f3 f4 f5;generalize (⟨(HK inter ns).toArray⟩:ByteArray)=sN at *;generalize ((BJ c 6:Nat):Int)=cd at *;generalize B1 inter c.kind (D3 c:Nat)=kr at *
 generalize F0 (AE c.kind) (BJ c 4:Nat)=pr at *;generalize CJ c.step=sr at *;generalize AE c.kind=ik at *;generalize AM (c.mx-AM x)=d0 at *;generalize AM (c.my-AM y)=d1 at *;generalize GR inter x y c=L at *;cases inter
 ·simp only[bgS] at B aa;generalize B1 _ 5 0=s5 at *;cases hsk:c.skip
  ·rw[hsk] at aa
   go_enter func167,ntmps167
   go_wp2_with fail
   rw[ap.out,ao.out];refine(C _).mono ?_;rintro e w1 ⟨rfl,m⟩;have ae:=G.move m;obtain⟨c0,-,-,-,-,-⟩:=T.out _ ae.cel
   go_wp2_with fail
   refine(B _).mono ?_;rintro e w2 ⟨rfl,q⟩;have M:=ae.move q;have E:=M.set 0 (.string sN);have u:=A2 (o:=0) M.rows rfl;have r1:=AW (o:=0) M.rows;obtain⟨-,c1,-,-,-,-⟩:=T.out _ E.cel;rw[hsk] at c1;have r2:=A2 (o:=1) E.rows rfl;have r3:=AW (o:=1) E.rows;clear c0 m q;have F:=E.set 1 (.string ⟨#[]⟩)
   go_wp2_with fail
   clear u r1 r2 r3 c1;generalize (w2.setCell ⟨R+1+1+1,0,none⟩ (.string sN)).setCell ⟨R+1+1+1,1,none⟩ (.string ⟨#[]⟩)=w4 at F ⊢;refine Nk (S:=fun z=>Below R w z/\z.heap[R+1]? =some (.cells A 77 (0,0))) (by kernel_rfl) ⟨F.below.drew,F.cel⟩ (fun b=>?_);refine AL 0 (some 32) b ?_
   try simp only[A1]
   refine AL 1 (some 33) b ?_
   try simp only[A1]
   refine F5 2 (some 34) (v:=.int .i64 c.kind) rfl rfl b (by kernel_rfl) (fun x N=>by have c0:=(T.out x N.2).2.2.1;go_simp) ?_
   try simp only[A1]
   refine BQ 3 (some 35) (v:=.agg A) rfl rfl (by kernel_rfl) (by kernel_rfl) (by kernel_rfl) (fun _ _ _ h=>h) b (Or.inl ⟨by kernel_rfl,fun x N=>FU (ty:=77) (x:=.tmp 5) (ad:=⟨R+1,0,none⟩) (by kernel_rfl) (by kernel_rfl) (Au x (R+1) _ _ A (0,0) _ (N.2) N3 rfl H)⟩) ?_
   try simp only[A1]
   refine Ni (rs:=[4]) (by kernel_rfl) (by simp) ?_;refine Ng rfl (fun K f=>?_) Nh
   go_simp
   go_wp2_with fail
   refine(U.out _ b.1).mono ?_;rintro e w5 ⟨rfl,a5⟩;have a6:=(F.move (Dm _ w4).drew).move a5;refine f.out _ _ (⟨a6.below,a6.cel⟩) (fun a=>?_);clear f K b;have b:=a;clear a
   try simp only[A1]
   refine AL 5 (some 37) b ?_
   try simp only[A1]
   refine Ni (rs:=[6]) (by kernel_rfl) (by simp) ?_;refine Ng rfl (fun K f=>?_) Nh
   go_simp
   go_wp2_with fail
   refine(ac _).mono ?_;rintro e w6 ⟨rfl,a7⟩;have af:=a6.move a7;refine f.out _ _ (⟨af.below,af.cel⟩) (fun a=>?_);clear f K b;have b:=a;clear a
   try simp only[A1]
   refine AL 7 (some 31) b ?_
   try simp only[A1]
   refine AL 8 (some 39) b ?_
   try simp only[A1]
   refine AL 9 (some 40) b ?_
   try simp only[A1]
   refine AL 10 (some 41) b ?_
   try simp only[A1]
   have Y:=af.set 2 (.string kr);have u:=A2 (o:=2) af.rows rfl;have r1:=AW (o:=2) af.rows;refine Ni (rs:=[11]) (by kernel_rfl) (by simp) ?_;refine Ng rfl (fun K f=>?_) Nh
   go_simp
   refine f.out _ _ ⟨Y.below,Y.cel⟩ (fun a=>?_);clear f K b;have b:=a;clear a;refine Nl (by kernel_rfl) ?_ _;clear b;clear u r1;generalize w6.setCell ⟨R+1+1+1,2,none⟩ (.string kr)=w7 at Y ⊢
   go_wp2_with fail
   refine Nk (S:=fun z=>Below R w z/\z.heap[R+1]? =some (.cells A 77 (0,0))) (by kernel_rfl) ⟨Y.below.drew,Y.cel⟩ (fun b=>?_)
   refine BQ 0 (some 43) (v:=.agg A) rfl rfl (by kernel_rfl) (by kernel_rfl) (by kernel_rfl) (fun _ _ _ h=>h) b (Or.inl ⟨by kernel_rfl,fun x N=>FU (ty:=77) (x:=.tmp 5) (ad:=⟨R+1,0,none⟩) (by kernel_rfl) (by kernel_rfl) (Au x (R+1) _ _ A (0,0) _ (N.2) N3 rfl H)⟩) ?_
   try simp only[A1]
   refine BQ 2 (some 45) (v:=.agg A) rfl rfl (by kernel_rfl) (by kernel_rfl) (by kernel_rfl) (fun _ _ _ h=>h) b (Or.inl ⟨by kernel_rfl,fun x N=>FU (ty:=77) (x:=.tmp 5) (ad:=⟨R+1,0,none⟩) (by kernel_rfl) (by kernel_rfl) (Au x (R+1) _ _ A (0,0) _ (N.2) N3 rfl H)⟩) ?_
   try simp only[A1]
   refine Ni (rs:=[1]) (by kernel_rfl) (by simp) ?_;refine Ng rfl (fun K f=>?_) Nh
   go_simp
   go_wp2_with fail
   refine(Q _).mono ?_;rintro e w8 ⟨rfl,a8⟩;have a9:=(Y.move (Dm _ w7).drew).move a8;refine f.out _ _ (⟨a9.below,a9.cel⟩) (fun a=>?_);clear f K b;have b:=a;clear a
   try simp only[A1]
   refine Ni (rs:=[3]) (by kernel_rfl) (by simp) ?_;refine Ng rfl (fun K f=>?_) Nh
   go_simp
   go_wp2_with fail
   refine(U.out _ b.1).mono ?_;rintro e bt ⟨rfl,ag⟩;have O:=a9.move ag;refine f.out _ _ (⟨O.below,O.cel⟩) (fun a=>?_);clear f K b;have b:=a;clear a
   try simp only[A1]
   refine AL 4 (some 47) b ?_
   try simp only[A1]
   refine Ni (rs:=[5]) (by kernel_rfl) (by simp) ?_;refine Ng rfl (fun K f=>?_) Nh
   go_simp
   go_wp2_with fail
   refine(az.out _ b.1).mono ?_;rintro e w9 ⟨rfl,ba⟩;have ah:=O.move ba;refine f.out _ _ (⟨ah.below,ah.cel⟩) (fun a=>?_);clear f K b;have b:=a;clear a
   try simp only[A1]
   refine AL 6 (some 42) b ?_
   try simp only[A1]
   refine AL 7 (some 49) b ?_
   try simp only[A1]
   refine AL 8 (some 50) b ?_
   try simp only[A1]
   refine AL 9 (some 51) b ?_
   try simp only[A1]
   have Z:=ah.set 3 (.string pr);have u:=A2 (o:=3) ah.rows rfl;have r1:=AW (o:=3) ah.rows;refine Ni (rs:=[10]) (by kernel_rfl) (by simp) ?_;refine Ng rfl (fun K f=>?_) Nh
   go_simp
   refine f.out _ _ ⟨Z.below,Z.cel⟩ (fun a=>?_);clear f K b;have b:=a;clear a;refine Nl (by kernel_rfl) ?_ _;clear b;clear u r1;generalize w9.setCell ⟨R+1+1+1,3,none⟩ (.string pr)=wA at Z ⊢;obtain⟨-,-,-,c3,-,-⟩:=T.out _ Z.cel
   go_wp2_with fail
   refine(a0.out _ Z.below).mono ?_;rintro e wB ⟨rfl,ai⟩;have bb:=Z.move ai;have bl:=bb.set 4 (.string sr);have u:=A2 (o:=4) bb.rows rfl;have r1:=AW (o:=4) bb.rows;have gC:=bl.cel;clear c3 ai
   go_wp2_with (with_reducible refine N5 rfl 77 _ rfl (R+1) rfl 77 A (0,0) _ gC N3 rfl H ?_)
   refine(Q _).mono ?_;rintro e wD ⟨rfl,aj⟩;have I:=bl.move aj;clear u r1 gC aj;cases ik
   ·obtain⟨-,-,-,-,c4,c5⟩:=T.out _ I.cel;have b0:=A2 (o:=0) I.pred rfl;have b1:=A2 (o:=1) I.pred rfl
    go_wp2_with fail
    refine(a1.out (by trivial) (by first|exact hsk|trivial) _).mono ?_;rintro e wE ⟨rfl,ak⟩;have bm:=I.move ak;obtain⟨D,hD⟩:=Ai wE.heap.size;have bc:=bm.move ((Dm _ wE).alloc (Ba _) (.cells #[.int .i64 d0,.int .i64 d1] 73 (0,0)));have bu:R+4<=D:=by have:=bm.size;omega
    have hd:=heap_alloc_new wE (.cells [.int .i64 d0,.int .i64 d1].toArray 73 (0,0));rw[hD] at hd;obtain⟨wF,r⟩:=Ai (wE.alloc (.cells #[.int .i64 d0,.int .i64 d1] 73 (0,0)));have bd:wF.heap[D]? =some (.cells [.int .i64 d0,.int .i64 d1].toArray 73 (0,0)):=r▸hd;have bv:wF.heap.size=D+1:=by rw[<-r,<-hD];simp
    rw[r] at bc;have bf:=Dl r;have bw:=Dl hD;clear c4 c5 b0 b1 ak hd r hD
    go_wp2_with fail
    rw[bf.out,bw.out];refine(aq.out d0 _ bc.below).mono ?_;rintro e wG ⟨rfl,P⟩;have bg:=bc.move P;have bn:=bg.set 5 (.string (C2 d0));have al:=(P.block D (by omega)).trans bd;have u:=A2 (o:=5) bg.rows rfl;have r1:=AW (o:=5) bg.rows
    have am:(wG.setCell ⟨R+1+1+1,5,none⟩ (.string (C2 d0))).heap[D]? =some (.cells [.int .i64 d0,.int .i64 d1].toArray 73 (0,0)):=(Ii wG ⟨R+1+1+1,5,none⟩ (.string (C2 d0)) D (by show D≠R+1+1+1;omega)).trans al;have q1:=A2 (o:=1) am rfl;clear P
    go_wp2_with fail
    refine(aq.out d1 _ bn.below).mono ?_;rintro e wI ⟨rfl,an⟩;have bh:=bn.move an;have ar:=bh.set 6 (.string (C2 d1));have s0:=A2 (o:=6) bh.rows rfl;have s1:=AW (o:=6) bh.rows;have j:=ar.res;have grow:(wI.setCell ⟨R+1+1+1,6,none⟩ (.string (C2 d1))).heap[R+1+1+1]? =some (.cells V 189 (0,0)):=by rw[<-l.out,aa.out];exact ar.rows
    clear u r1 q1 al am an
    go_wp2_with (first|(with_reducible refine N5 rfl 189 _ rfl (R+1+1+1) rfl 189 V (0,0) _ grow Nj rfl g ?_)|(with_reducible refine B2 rfl 189 _ _ rfl (R+1+1) V _ rfl rfl 189 j g X W ?_;intro wf s t))
    refine Hi (Hj rfl _ _ (R+1+1) 189 _ (0,0) _ rfl s Nj rfl g) rfl ?_;exact⟨by rw[l.out],by rw[ao.out];exact ar.below.trans (LJ t (by omega) (by have:=ar.size;omega))⟩
   ·have j:=I.res;have grow:wD.heap[R+1+1+1]? =some (.cells V 189 (0,0)):=by rw[<-l.out,aa.out];exact I.rows
    go_wp2_with (first|(with_reducible refine N5 rfl 189 _ rfl (R+1+1+1) rfl 189 V (0,0) _ grow Nj rfl g ?_)|(with_reducible refine B2 rfl 189 _ _ rfl (R+1+1) V _ rfl rfl 189 j g X W ?_;intro wf s t))
    refine Hi (Hj rfl _ _ (R+1+1) 189 _ (0,0) _ rfl s Nj rfl g) rfl ?_;exact⟨by rw[l.out],by rw[ao.out];exact I.below.trans (LJ t (by omega) (by have:=I.size;omega))⟩
  ·rw[hsk] at aa
   go_enter func167,ntmps167
   go_wp2_with fail
   rw[ap.out,ao.out];refine(C _).mono ?_;rintro e w1 ⟨rfl,m⟩;have ae:=G.move m;obtain⟨c0,-,-,-,-,-⟩:=T.out _ ae.cel
   go_wp2_with fail
   refine(B _).mono ?_;rintro e w2 ⟨rfl,q⟩;have M:=ae.move q;have E:=M.set 0 (.string sN);have u:=A2 (o:=0) M.rows rfl;have r1:=AW (o:=0) M.rows;obtain⟨-,c1,-,-,-,-⟩:=T.out _ E.cel;rw[hsk] at c1;have r2:=A2 (o:=1) E.rows rfl;have r3:=AW (o:=1) E.rows;clear c0 m q;have F:=E.set 1 (.string ⟨#[49]⟩);have j:=F.res
   have grow:((w2.setCell ⟨R+1+1+1,0,none⟩ (.string sN)).setCell ⟨R+1+1+1,1,none⟩ (.string ⟨#[49]⟩)).heap[R+1+1+1]? =some (.cells V 189 (0,0)):=by rw[<-l.out,aa.out];exact F.rows
   go_wp2_with (first|(with_reducible refine N5 rfl 189 _ rfl (R+1+1+1) rfl 189 V (0,0) _ grow Nj rfl g ?_)|(with_reducible refine B2 rfl 189 _ _ rfl (R+1+1) V _ rfl rfl 189 j g X W ?_;intro wf s t))
   refine Hi (Hj rfl _ _ (R+1+1) 189 _ (0,0) _ rfl s Nj rfl g) rfl ?_;exact⟨by rw[l.out],by rw[ao.out];exact F.below.trans (LJ t (by omega) (by have:=F.size;omega))⟩
 ·simp only[bgS] at B aa;generalize B1 _ 5 0=s5 at *;cases hsk:c.skip
  ·rw[hsk] at aa
   go_enter func167,ntmps167
   go_wp2_with fail
   rw[ap.out,ao.out];refine(C _).mono ?_;rintro e w1 ⟨rfl,m⟩;have ae:=G.move m;obtain⟨c0,-,-,-,-,-⟩:=T.out _ ae.cel
   go_wp2_with fail
   refine(B _).mono ?_;rintro e w2 ⟨rfl,q⟩;have M:=ae.move q;have E:=M.set 0 (.string sN);have u:=A2 (o:=0) M.rows rfl;have r1:=AW (o:=0) M.rows;obtain⟨-,c1,-,-,-,-⟩:=T.out _ E.cel;rw[hsk] at c1;have r2:=A2 (o:=1) E.rows rfl;have r3:=AW (o:=1) E.rows;clear c0 m q;have F:=E.set 1 (.string ⟨#[48]⟩)
   go_wp2_with fail
   clear u r1 r2 r3 c1;generalize (w2.setCell ⟨R+1+1+1,0,none⟩ (.string sN)).setCell ⟨R+1+1+1,1,none⟩ (.string ⟨#[48]⟩)=w4 at F ⊢;refine Nk (S:=fun z=>Below R w z/\z.heap[R+1]? =some (.cells A 77 (0,0))) (by kernel_rfl) ⟨F.below.drew,F.cel⟩ (fun b=>?_);refine AL 0 (some 32) b ?_
   try simp only[A1]
   refine AL 1 (some 33) b ?_
   try simp only[A1]
   refine F5 2 (some 34) (v:=.int .i64 c.kind) rfl rfl b (by kernel_rfl) (fun x N=>by have c0:=(T.out x N.2).2.2.1;go_simp) ?_
   try simp only[A1]
   refine BQ 3 (some 35) (v:=.agg A) rfl rfl (by kernel_rfl) (by kernel_rfl) (by kernel_rfl) (fun _ _ _ h=>h) b (Or.inl ⟨by kernel_rfl,fun x N=>FU (ty:=77) (x:=.tmp 5) (ad:=⟨R+1,0,none⟩) (by kernel_rfl) (by kernel_rfl) (Au x (R+1) _ _ A (0,0) _ (N.2) N3 rfl H)⟩) ?_
   try simp only[A1]
   refine Ni (rs:=[4]) (by kernel_rfl) (by simp) ?_;refine Ng rfl (fun K f=>?_) Nh
   go_simp
   go_wp2_with fail
   refine(U.out _ b.1).mono ?_;rintro e w5 ⟨rfl,a5⟩;have a6:=(F.move (Dm _ w4).drew).move a5;refine f.out _ _ (⟨a6.below,a6.cel⟩) (fun a=>?_);clear f K b;have b:=a;clear a
   try simp only[A1]
   refine AL 5 (some 37) b ?_
   try simp only[A1]
   refine Ni (rs:=[6]) (by kernel_rfl) (by simp) ?_;refine Ng rfl (fun K f=>?_) Nh
   go_simp
   go_wp2_with fail
   refine(ac _).mono ?_;rintro e w6 ⟨rfl,a7⟩;have af:=a6.move a7;refine f.out _ _ (⟨af.below,af.cel⟩) (fun a=>?_);clear f K b;have b:=a;clear a
   try simp only[A1]
   refine AL 7 (some 31) b ?_
   try simp only[A1]
   refine AL 8 (some 39) b ?_
   try simp only[A1]
   refine AL 9 (some 40) b ?_
   try simp only[A1]
   refine AL 10 (some 41) b ?_
   try simp only[A1]
   have Y:=af.set 2 (.string kr);have u:=A2 (o:=2) af.rows rfl;have r1:=AW (o:=2) af.rows;refine Ni (rs:=[11]) (by kernel_rfl) (by simp) ?_;refine Ng rfl (fun K f=>?_) Nh
   go_simp
   refine f.out _ _ ⟨Y.below,Y.cel⟩ (fun a=>?_);clear f K b;have b:=a;clear a;refine Nl (by kernel_rfl) ?_ _;clear b;clear u r1;generalize w6.setCell ⟨R+1+1+1,2,none⟩ (.string kr)=w7 at Y ⊢
   go_wp2_with fail
   refine Nk (S:=fun z=>Below R w z/\z.heap[R+1]? =some (.cells A 77 (0,0))) (by kernel_rfl) ⟨Y.below.drew,Y.cel⟩ (fun b=>?_)
   refine BQ 0 (some 43) (v:=.agg A) rfl rfl (by kernel_rfl) (by kernel_rfl) (by kernel_rfl) (fun _ _ _ h=>h) b (Or.inl ⟨by kernel_rfl,fun x N=>FU (ty:=77) (x:=.tmp 5) (ad:=⟨R+1,0,none⟩) (by kernel_rfl) (by kernel_rfl) (Au x (R+1) _ _ A (0,0) _ (N.2) N3 rfl H)⟩) ?_
   try simp only[A1]
   refine BQ 2 (some 45) (v:=.agg A) rfl rfl (by kernel_rfl) (by kernel_rfl) (by kernel_rfl) (fun _ _ _ h=>h) b (Or.inl ⟨by kernel_rfl,fun x N=>FU (ty:=77) (x:=.tmp 5) (ad:=⟨R+1,0,none⟩) (by kernel_rfl) (by kernel_rfl) (Au x (R+1) _ _ A (0,0) _ (N.2) N3 rfl H)⟩) ?_
   try simp only[A1]
   refine Ni (rs:=[1]) (by kernel_rfl) (by simp) ?_;refine Ng rfl (fun K f=>?_) Nh
   go_simp
   go_wp2_with fail
   refine(Q _).mono ?_;rintro e w8 ⟨rfl,a8⟩;have a9:=(Y.move (Dm _ w7).drew).move a8;refine f.out _ _ (⟨a9.below,a9.cel⟩) (fun a=>?_);clear f K b;have b:=a;clear a
   try simp only[A1]
   refine Ni (rs:=[3]) (by kernel_rfl) (by simp) ?_;refine Ng rfl (fun K f=>?_) Nh
   go_simp
   go_wp2_with fail
   refine(U.out _ b.1).mono ?_;rintro e bt ⟨rfl,ag⟩;have O:=a9.move ag;refine f.out _ _ (⟨O.below,O.cel⟩) (fun a=>?_);clear f K b;have b:=a;clear a
   try simp only[A1]
   refine AL 4 (some 47) b ?_
   try simp only[A1]
   refine Ni (rs:=[5]) (by kernel_rfl) (by simp) ?_;refine Ng rfl (fun K f=>?_) Nh
   go_simp
   go_wp2_with fail
   refine(az.out _ b.1).mono ?_;rintro e w9 ⟨rfl,ba⟩;have ah:=O.move ba;refine f.out _ _ (⟨ah.below,ah.cel⟩) (fun a=>?_);clear f K b;have b:=a;clear a
   try simp only[A1]
   refine AL 6 (some 42) b ?_
   try simp only[A1]
   refine AL 7 (some 49) b ?_
   try simp only[A1]
   refine AL 8 (some 50) b ?_
   try simp only[A1]
   refine AL 9 (some 51) b ?_
   try simp only[A1]
   have Z:=ah.set 3 (.string pr);have u:=A2 (o:=3) ah.rows rfl;have r1:=AW (o:=3) ah.rows;refine Ni (rs:=[10]) (by kernel_rfl) (by simp) ?_;refine Ng rfl (fun K f=>?_) Nh
   go_simp
   refine f.out _ _ ⟨Z.below,Z.cel⟩ (fun a=>?_);clear f K b;have b:=a;clear a;refine Nl (by kernel_rfl) ?_ _;clear b;clear u r1;generalize w9.setCell ⟨R+1+1+1,3,none⟩ (.string pr)=wA at Z ⊢;obtain⟨-,-,-,c3,-,-⟩:=T.out _ Z.cel
   go_wp2_with fail
   refine(a0.out _ Z.below).mono ?_;rintro e wB ⟨rfl,ai⟩;have bb:=Z.move ai;have bl:=bb.set 4 (.string sr);have u:=A2 (o:=4) bb.rows rfl;have r1:=AW (o:=4) bb.rows;have gC:=bl.cel;clear c3 ai
   go_wp2_with (with_reducible refine N5 rfl 77 _ rfl (R+1) rfl 77 A (0,0) _ gC N3 rfl H ?_)
   refine(Q _).mono ?_;rintro e wD ⟨rfl,aj⟩;have I:=bl.move aj;clear u r1 gC aj;cases ik
   ·obtain⟨-,-,-,-,c4,c5⟩:=T.out _ I.cel;have b0:=A2 (o:=0) I.pred rfl;have b1:=A2 (o:=1) I.pred rfl
    go_wp2_with fail
    refine(a1.out (by trivial) (by first|exact hsk|trivial) _).mono ?_;rintro e wE ⟨rfl,ak⟩;have bm:=I.move ak;obtain⟨D,hD⟩:=Ai wE.heap.size;have bc:=bm.move ((Dm _ wE).alloc (Ba _) (.cells #[.int .i64 d0,.int .i64 d1] 73 (0,0)));have bu:R+4<=D:=by have:=bm.size;omega
    have hd:=heap_alloc_new wE (.cells [.int .i64 d0,.int .i64 d1].toArray 73 (0,0));rw[hD] at hd;obtain⟨wF,r⟩:=Ai (wE.alloc (.cells #[.int .i64 d0,.int .i64 d1] 73 (0,0)));have bd:wF.heap[D]? =some (.cells [.int .i64 d0,.int .i64 d1].toArray 73 (0,0)):=r▸hd;have bv:wF.heap.size=D+1:=by rw[<-r,<-hD];simp
    rw[r] at bc;have bf:=Dl r;have bw:=Dl hD;clear c4 c5 b0 b1 ak hd r hD
    go_wp2_with fail
    rw[bf.out,bw.out];refine(aq.out d0 _ bc.below).mono ?_;rintro e wG ⟨rfl,P⟩;have bg:=bc.move P;have bn:=bg.set 5 (.string (C2 d0));have al:=(P.block D (by omega)).trans bd;have u:=A2 (o:=5) bg.rows rfl;have r1:=AW (o:=5) bg.rows
    have am:(wG.setCell ⟨R+1+1+1,5,none⟩ (.string (C2 d0))).heap[D]? =some (.cells [.int .i64 d0,.int .i64 d1].toArray 73 (0,0)):=(Ii wG ⟨R+1+1+1,5,none⟩ (.string (C2 d0)) D (by show D≠R+1+1+1;omega)).trans al;have q1:=A2 (o:=1) am rfl;clear P
    go_wp2_with fail
    refine(aq.out d1 _ bn.below).mono ?_;rintro e wI ⟨rfl,an⟩;have bh:=bn.move an;have ar:=bh.set 6 (.string (C2 d1));have s0:=A2 (o:=6) bh.rows rfl;have s1:=AW (o:=6) bh.rows;have j:=ar.res;have grow:(wI.setCell ⟨R+1+1+1,6,none⟩ (.string (C2 d1))).heap[R+1+1+1]? =some (.cells V 189 (0,0)):=by rw[<-l.out,aa.out];exact ar.rows
    clear u r1 q1 al am an
    go_wp2_with (first|(with_reducible refine N5 rfl 189 _ rfl (R+1+1+1) rfl 189 V (0,0) _ grow Nj rfl g ?_)|(with_reducible refine B2 rfl 189 _ _ rfl (R+1+1) V _ rfl rfl 189 j g X W ?_;intro wf s t))
    refine Hi (Hj rfl _ _ (R+1+1) 189 _ (0,0) _ rfl s Nj rfl g) rfl ?_;exact⟨by rw[l.out],by rw[ao.out];exact ar.below.trans (LJ t (by omega) (by have:=ar.size;omega))⟩
   ·have j:=I.res;have grow:wD.heap[R+1+1+1]? =some (.cells V 189 (0,0)):=by rw[<-l.out,aa.out];exact I.rows
    go_wp2_with (first|(with_reducible refine N5 rfl 189 _ rfl (R+1+1+1) rfl 189 V (0,0) _ grow Nj rfl g ?_)|(with_reducible refine B2 rfl 189 _ _ rfl (R+1+1) V _ rfl rfl 189 j g X W ?_;intro wf s t))
    refine Hi (Hj rfl _ _ (R+1+1) 189 _ (0,0) _ rfl s Nj rfl g) rfl ?_;exact⟨by rw[l.out],by rw[ao.out];exact I.below.trans (LJ t (by omega) (by have:=I.size;omega))⟩
  ·rw[hsk] at aa
   go_enter func167,ntmps167
   go_wp2_with fail
   rw[ap.out,ao.out];refine(C _).mono ?_;rintro e w1 ⟨rfl,m⟩;have ae:=G.move m;obtain⟨c0,-,-,-,-,-⟩:=T.out _ ae.cel
   go_wp2_with fail
   refine(B _).mono ?_;rintro e w2 ⟨rfl,q⟩;have M:=ae.move q;have E:=M.set 0 (.string sN);have u:=A2 (o:=0) M.rows rfl;have r1:=AW (o:=0) M.rows;obtain⟨-,c1,-,-,-,-⟩:=T.out _ E.cel;rw[hsk] at c1;have r2:=A2 (o:=1) E.rows rfl;have r3:=AW (o:=1) E.rows;clear c0 m q;have F:=E.set 1 (.string ⟨#[49]⟩);have j:=F.res
   have grow:((w2.setCell ⟨R+1+1+1,0,none⟩ (.string sN)).setCell ⟨R+1+1+1,1,none⟩ (.string ⟨#[49]⟩)).heap[R+1+1+1]? =some (.cells V 189 (0,0)):=by rw[<-l.out,aa.out];exact F.rows
   go_wp2_with (first|(with_reducible refine N5 rfl 189 _ rfl (R+1+1+1) rfl 189 V (0,0) _ grow Nj rfl g ?_)|(with_reducible refine B2 rfl 189 _ _ rfl (R+1+1) V _ rfl rfl 189 j g X W ?_;intro wf s t))
   refine Hi (Hj rfl _ _ (R+1+1) 189 _ (0,0) _ rfl s Nj rfl g) rfl ?_;exact⟨by rw[l.out],by rw[ao.out];exact F.below.trans (LJ t (by omega) (by have:=F.size;omega))⟩
def FW (l:List ByteArray):List UInt8:=(l.map (·.data.toList)).flatten
theorem kN (l:List ByteArray)(x:ByteArray):FW (l++[x])=FW l++x.data.toList:=by simp[FW]
theorem Zi {c:Cel}(h:FY c=true):EE c=true/\CU c 6=[]:=by
 unfold FY at h;simp only[Am,Bm,Bu,Bq,Av] at h;obtain⟨⟨⟨b,_⟩,_⟩,hd,d⟩:=h;have a:∀i,i<6->c.ev i=[]:=fun i hi=>Dh (d i hi);refine⟨O2.2 fun i hi=>?_,?_⟩
 ·rw[b,hd i hi,a i hi];rfl
 ·simp only[CU,b,hd 0 (by omega),hd 1 (by omega),hd 2 (by omega),hd 3 (by omega),hd 4 (by omega),hd 5 (by omega),a 0 (by omega),a 1 (by omega),a 2 (by omega),a 3 (by omega),a 4 (by omega),a 5 (by omega)]
  rfl
theorem YT {inter:Bool}{c:Cel}(h:BE inter c=true):EE c=true:=by
 unfold BE at h;rw[Am] at h;cases hs:c.skip with
 |true=>
  rw[hs,Bc rfl] at h;exact(Zi (Nn.1 h.2).2).1
 |false=>
  rw[hs,Bb (by decide)] at h;exact(Nn.1 (Nn.1 h.2).2).2
theorem Wm {inter:Bool}{x y:Int}{c:Cel}(h:BE inter c=true):FW (GR inter x y c)++CU c 6=DZ inter x y c:=by
 unfold BE at h;rw[Am] at h;unfold DZ GR LD;cases hs:c.skip with
 |true=>
  rw[hs,Bc rfl] at h;rw[(Zi (Nn.1 h.2).2).2];simp[FW]
 |false=>cases hk:AE c.kind <;> simp[FW]
theorem bQ (inter:Bool)(x y:Int)(c:Cel):∀s∈GR inter x y c,AK s.data.toList=true:=by
 intro s hs;unfold GR at hs;rw[Eb] at hs;rcases hs with rfl|hs
 ·exact(Qx inter _).1
 ·split at hs
  ·simp only[Eb,Ed,Ek] at hs;rcases hs with rfl|rfl|rfl|rfl|rfl|rfl <;> rfl
  ·rw[List.mem_append] at hs;rcases hs with hs|hs
   ·simp only[Eb,Ed,Ek] at hs;rcases hs with rfl|rfl|rfl|rfl
    ·exact(Qi inter).1
    ·exact(Px _ _ _).1
    ·exact(Tv _ _).1
    ·exact(R5 _).1
   ·split at hs
    ·simp only[Eb,Ed,Ek] at hs;rcases hs with rfl|rfl <;> rfl
    ·simp only[Eb,Ed,Ek] at hs;rcases hs with rfl|rfl
     ·exact(PV _).1
     ·exact(PV _).1
theorem eH (a b c d e f g:ByteArray)(w:A5):∀(i:Nat) (hi:i < [a,b,c,d,e,f,g].length),(Instr.index 189 (.agg #[.string a,.string b,.string c,.string d,.string e,.string f,.string g]) (.int .i64 (i:Nat))).run prog w=.ok (.string ([a,b,c,d,e,f,g][i]'hi)) w
 |0,_=>by kernel_rfl
 |1,_=>by kernel_rfl
 |2,_=>by kernel_rfl
 |3,_=>by kernel_rfl
 |4,_=>by kernel_rfl
 |5,_=>by kernel_rfl
 |6,_=>by kernel_rfl
 |k+7,h=>absurd h (by simp)
theorem mS {l:List ByteArray}(h:l.length=7):∃a b c d e f g,l=[a,b,c,d,e,f,g]:=by
 match l,h with
 |[a,b,c,d,e,f,g],_=>exact⟨a,b,c,d,e,f,g,rfl⟩
theorem fC (l:List ByteArray)(i:Nat):(FW (l.take i)).length<=(FW l).length:=by
 have h:FW l=FW (l.take i)++FW (l.drop i):=by
  unfold FW;rw[<-List.flatten_append,<-Ck,Bs]
 rw[h,B9];omega
theorem Xa {inter:Bool}{c:Cel}(h:BE inter c=true)(x y:Int):(DZ inter x y c).length<=20000:=by
 refine dF ?_ fun i hi=>?_
 ·unfold BE at h;rw[Am,Am,Fb,Fb] at h;omega
 ·have h1:=Qs (PW (O2.1 (YT h) i hi)).2;omega
set_option maxRecDepth 100000 in
theorem xT (inter:Bool)(x y:Int)(c:Cel)(p:Nat->Option Addr)(n k:Nat->Nat)(B b:Nat)(r:List UInt8)(w:A5)(hw:AN w B b r)(hr:r.length<=68719476736)(hB:B<=w.heap.size)(a:∀z,w.grownBy z (some b)->Ybq z.heap.size z/\FP z c p n)(hm:BE inter c=true):
  A9 prog 139 #[.pointer (some ⟨b,0,none⟩),.bool inter,.agg #[.int .i64 x,.int .i64 y],.agg (AF c fun i=>.slice (p i) (n i) (k i)).toArray] w fun e j=>e=.returned (.int .i64 0)/\AN j B b (r++DZ inter x y c)/\w.grownBy j (some b):=by
 have ao:b<w.heap.size:=hw.lt;have O:∀z,w.grownBy z (some b)->A9 prog 82 #[.bool inter,.agg (AF c fun i=>.slice (p i) (n i) (k i)).toArray] z fun e j=>e=.returned (.bool true)/\Below z.heap.size z j:=fun z E=>by
  obtain⟨h1,h2⟩:=a z E;rw[<-hm];exact X7 inter c p n k z h2 h1.tcoef h1.steps
 have P:∀z,w.grownBy z (some b)->A9 prog 167 #[.bool inter,.agg #[.int .i64 x,.int .i64 y],.agg (AF c fun i=>.slice (p i) (n i) (k i)).toArray] z fun e j=>e=.returned (.agg ((GR inter x y c).map Value.string).toArray)/\Below z.heap.size z j:=fun z E=>by
  obtain⟨h1,h2⟩:=a z E;exact vV inter x y c p n k z h2 h1 hm
 have F:∀i,(FW ((GR inter x y c).take i)).length<=20000:=by
  intro i;have h1:=C8 List.length (Wm (x:=x) (y:=y) hm);have h2:=Xa hm x y;have h3:=fC (GR inter x y c) i;rw[B9] at h1;omega
 have Q:∀z,w.grownBy z (some b)->AN z B b (r++FW (GR inter x y c))->A9 prog 153 #[.pointer (some ⟨b,0,none⟩),.agg (AF c fun i=>.slice (p i) (n i) (k i)).toArray] z fun e j=>AN j B b (r++DZ inter x y c)/\z.grownBy j (some b)/\e=.returned (.int .i64 0):=fun z E ad=>by
  have hl:=F 7;rw[Bh (Gb (Rh inter x y c))] at hl;refine(VM c p n k B b _ z ad (by rw[B9];omega) (Ea hB E.size) (fun x hx=>⟨(a x (AO E hx)).1.tcoef,(a x (AO E hx)).2⟩)).mono ?_;rintro e j ⟨i,h1,h2,h3,h4⟩;rcases h4 with ⟨rfl,_,rfl⟩|⟨h5,_⟩
  ·rw[Bf,Wm hm] at h2;exact⟨h2,h3,rfl⟩
  ·rw[YT hm] at h5;cases h5
 have ae:=bQ inter x y c;have S:=Rh inter x y c;have G:=OR c fun i=>.slice (p i) (n i) (k i);generalize (AF c fun i=>.slice (p i) (n i) (k i)).toArray=A at *;obtain⟨R,w1,w2,hR,T,U,ap,aq,V,W,H⟩:=JF w (.cells #[.int .i64 x,.int .i64 y] 73 (0,0)) (.cells A 77 (0,0));have af:=Dl T;have ag:=Dl U;have ar:=Dl hR;have I:w.grownBy w2 (some b):=BR (hR▸H) _
 have ah:=Dl O;have ai:=Dl P;have aj:=Dl Q;have ak:=Dl F;have q:AN w2 B b r:=hw.below (hR▸H);have au:b<R:=by omega
 have av:B<=R:=by omega
 generalize GR inter x y c=L at *;generalize DZ inter x y c=a0 at *;obtain⟨l0,l1,l2,l3,l4,l5,l6,X⟩:=mS S;have ac:=Dl X;have al:=Dl (fun i hi z=>eH l0 l1 l2 l3 l4 l5 l6 z i hi);clear O P Q F a hm T U hw H hR X S
 go_enter func139,ntmps139
 go_wp2_with (with_reducible refine N5 rfl 77 _ rfl (w.heap.size+1) rfl 77 A (0,0) _ (R2 w _ _) N3 rfl G ?_)
 rw[af.out,ag.out,ar.out];refine(ah.out _ I).mono ?_;rintro e w3 ⟨rfl,f⟩;have J:=AO I (BR f (some b));have t:=q.below f;have k0:w3.heap[R]? =some (.cells [.int .i64 x,.int .i64 y].toArray 73 (0,0)):=(f.block R (by omega)).trans V;have k1:=(f.block (R+1) (by omega)).trans W;have b0:=A2 (o:=0) k0 rfl;have b1:=A2 (o:=1) k0 rfl;have aw:=f.size;clear V W q I
 go_wp2_with (with_reducible refine N5 rfl 77 _ rfl (R+1) rfl 77 A (0,0) _ k1 N3 rfl G ?_)
 refine(ai.out _ J).mono ?_;rintro e w4 ⟨rfl,g⟩;have Y:=AO J (BR g (some b));have u:=t.below g;have k4:=(g.block (R+1) (by omega)).trans k1;have ax:=g.size;rw[ac.out];simp only[Ci,Cr];clear k0 k1 b0 b1 t J f g
 go_wp2
 go_loopw [21] (fun z wr=>∃i:Nat,i<=7/\z=.int .i64 i/\AN wr B b (r++FW (L.take i))/\w.grownBy wr (some b)/\wr.heap[R+1]? =some (.cells A 77 (0,0))) (fun z _=>7-(RowKit.intOf z).toNat)
 case atStart=>exact⟨0,by omega,rfl,by rw[Bk];exact(Ew r).symm▸u,Y,k4⟩
 case round=>
  clear u Y k4;obtain⟨i,ay,rfl,l,hg,hk⟩:=hrel;have am:R+1<wr.heap.size:=(An.1 hk).1;by_cases Z:i<7
  ·have t0:decide ((i:Int)<7)=true:=by simp;omega
   have aa:i<L.length:=by rw[ac.out];exact Z
   have i0:=al.out i Z;obtain⟨s,hs⟩:=Ai ([l0,l1,l2,l3,l4,l5,l6][i]'Z);rw[hs] at i0;have K:L[i]=s:=by rw[<-hs];simp only[ac.out]
   have v:AK s.data.toList=true:=K▸ae _ (Bl aa);have M:FW (L.take (i+1))=FW (L.take i)++s.data.toList:=by rw[Bd aa,kN,K]
   have C:=ak.out (i+1);rw[M,B9] at C;have ab:s.data.toList.length=s.size:=rfl;have D:=TO wr B b (r++FW (L.take i)) s l v (by rw[B9];omega) (by have:=hg.size;omega);have az:=Dl M;clear M C ab v K hs l
   go_wp2_with fail
   refine D.mono ?_;rintro e w5 ⟨rfl,d,m⟩;rw[Bf,<-az.out] at d;have N:=AO hg m;have an:=(m.block (R+1) am (fun h=>by injection h with h;omega)).trans hk;clear D
   go_wp2
   go_roundw
   case rel=>exact⟨i+1,by omega,by go_num,d,N,an⟩
   case measure=>simp[RowKit.intOf];omega
  ·obtain rfl:i=7:=by omega
   have X:L.take 7=L:=by rw[ac.out];rfl
   rw[X] at l;clear X
   go_wp2_with (with_reducible refine N5 rfl 77 _ rfl (R+1) rfl 77 A (0,0) _ hk N3 rfl G ?_)
   refine(aj.out _ hg l).mono ?_;rintro e w5 ⟨d,m,rfl⟩;have N:=AO hg m
   go_wp2
   go_ret
   exact⟨rfl,d,N⟩
end Go.Proofs.YtjjmalchelniiaaGreatDoor
