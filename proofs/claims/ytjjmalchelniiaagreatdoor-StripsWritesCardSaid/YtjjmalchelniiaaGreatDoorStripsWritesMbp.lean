/- StripsWrites, 42. No condition. -/
import Derived.Test.YtjjmalchelniiaaGreatDoorStripsWritesMa
import Derived.Test.YtjjmalchelniiaaGreatDoorStripsWritesMt
import Derived.Test.YtjjmalchelniiaaGreatDoorStripsWritesMu
import Derived.Test.YtjjmalchelniiaaGreatDoorStripsWritesMy
import Derived.Test.YtjjmalchelniiaaGreatDoorStripsWritesMbm
import Derived.Test.YtjjmalchelniiaaGreatDoorStripsWritesMbo
open Go.Proofs.Tryz
open Go renaming World->A5,Calls->A9,Value->A0
set_option maxHeartbeats 8000000
namespace Go.Proofs.YtjjmalchelniiaaGreatDoor
open Go.RowKit Go.Lib
abbrev Nu:=@AllReadyH.cons
abbrev Nv:=@AllReadyH.nil
abbrev Nw:=@wpAnyH_ready
abbrev Nx:=@wp_region_held_drew
abbrev Ny:=@underlying189
abbrev Nz:=@Bool.and_eq_true_iff
abbrev O0:=@wpAnyH_done
abbrev O4:=@Nat.lt_succ_self
theorem N7 {w x:A5}{b N:Nat}(h:w.grownBy x (some b))(a:N<=b)(c:N<=w.heap.size):Below N w x:=
 ⟨h.os,h.tape,h.output,h.size,fun k d=>h.block k (by omega) (fun e=>by injection e with e;omega)⟩
set_option maxRecDepth 100000 in
theorem sJ (c:Cel)(p:Nat->Option Addr)(n k:Nat->Nat)(w:A5)(hc:GZ w c p n)(F:BK w):A9 prog 119 #[.agg (AJ c fun i=>.slice (p i) (n i) (k i)).toArray] w fun e I=>e=.returned (.bool (EY c))/\Below w.heap.size w I:=by
 have g:=fun x (d:Below w.heap.size w x)=>Yj c p n k (x.heap.size+1) x.heap.size [] (x.alloc GS) (AQ.fresh rfl (O4 _)) (by simp) (by simp) (fun y J=>by
  have h1:=d.trans ((((Dq _ x).alloc (Ba _) GS).trans (N7 J (Ba _) (by simp))).mono d.size);exact⟨F.below h1,hc.below h1⟩)
 obtain⟨A,s,-,-,-,-,-,-,-,-⟩:=JL c fun i=>.slice (p i) (n i) (k i);obtain⟨R,w0,t,j,L,u,z,l⟩:=ND w s;rw[s];obtain⟨ev,f⟩:∃ev:Int,(if EY c=true then 0 else 7)=ev:=⟨_,rfl⟩;have B:Hid ((ev==0)=EY c):=Dp (by rw[<-f];cases EY c <;> rfl)
 have m:Hid (∀x,(Below R w x/\x.heap[R]? =some (.cells A 77 (0,0)))->A9 prog 153 #[.pointer (some ⟨x.heap.size,0,none⟩),.agg A] (x.alloc GS) fun e y=>e=.returned (.int .i64 ev)/\Below R w y/\y.heap[R]? =some (.cells A 77 (0,0))):=Dp (by
  intro x d;have h1:=g x (by rw[t];exact d.1);rw[s] at h1;refine h1.mono ?_;rintro e y ⟨i,_,_,M,h2⟩;have h3:Below x.heap.size x y:=((Dq _ x).alloc (Ba _) GS).trans (N7 M (Ba _) (by simp));refine⟨?_,d.1.trans (h3.mono (by have:=d.1.size;omega)),(h3.block R (Am.1 d.2).1).trans d.2⟩;rcases h2 with ⟨_,h4,rfl⟩|⟨h4,rfl⟩
  ·rw[<-f,h4];rfl
  ·rw[<-f,h4];rfl)
 have o:=(l w0 (Dq _ _)).1;have N:=Dp j;have G:=Dp t;clear s j t l g hc F f;generalize EY c=P at *
 go_enter func119,ntmps119
 go_wp2
 rw[N.out,G.out];refine Nx (S:=fun x=>Below R w x/\x.heap[R]? =some (.cells A 77 (0,0))) (by kernel_rfl) ⟨u.drew,o⟩ (fun a=>?_)
 refine C8 1 (some 4) (v:=.agg A) rfl rfl (by kernel_rfl) (by kernel_rfl) (by kernel_rfl) (fun _ _ _ h=>h) a (Or.inl ⟨by kernel_rfl,fun x d=>GA (ty:=77) (x:=.tmp 1) (ad:=⟨R,0,none⟩) (by kernel_rfl) (by kernel_rfl) (As x (R) _ _ A (0,0) _ (d.2) N0 rfl z)⟩) ?_
 try simp only[A1]
 refine Nw (rs:=[0]) (by kernel_rfl) (by simp) ?_;refine Nu rfl (fun K q=>?_) Nv
 go_simp
 go_wp2_with fail
 obtain⟨H,r⟩:=Ah w0.drew;rw[r] at a ⊢;have C:R<H.heap.size:=by rw[<-r];show R<w0.heap.size;omega
 have O:=a;refine(Ru _).mono ?_;rintro e Q ⟨rfl,rfl⟩;refine q.out _ _ (⟨a.1.alloc (Nat.le_of_lt C) _,BW a.2⟩) (fun b=>?_);clear q K a;have a:=b;clear b
 try simp only[A1]
 refine Nw (rs:=[2]) (by kernel_rfl) (by simp) ?_;refine Nu rfl (fun K q=>?_) Nv
 go_simp
 go_wp2_with fail
 refine(m.out H O).mono ?_;rintro e T ⟨rfl,D,E⟩;refine q.out _ _ (⟨D,E⟩) (fun b=>?_);clear q K a;have a:=b;clear b
 try simp only[A1]
 refine AM 3 (some 6) a ?_
 try simp only[A1]
 refine AM 4 (some 2) a ?_
 try simp only[A1]
 refine O0 (by kernel_rfl) ?_ _
 go_wp2
 go_ret
 exact⟨AH B.out,by rw[G.out];exact a.1⟩
set_option maxRecDepth 100000 in
theorem WC (inter:Bool)(c:Cel)(p:Nat->Option Addr)(n k:Nat->Nat)(w:A5)(hc:GZ w c p n)(M:BK w)(N:HA w):A9 prog 82 #[.bool inter,.agg (AJ c fun i=>.slice (p i) (n i) (k i)).toArray] w fun e S=>e=.returned (.bool (BL inter c))/\Below w.heap.size w S:=by
 have g:=fun x (s:Below w.heap.size w x)=>nQ c p n k x (hc.below s);have E:=fun x=>eA inter c.kind x;have h:=fun x (s:Below w.heap.size w x)=>rC c (fun i=>.slice (p i) (n i) (k i)) x (N.below s);have u:=fun x=>Ypg c (fun i=>.slice (p i) (n i) (k i)) x;have j:=fun x (s:Below w.heap.size w x)=>sJ c p n k x (hc.below s) (M.below s)
 have d:Hid (BL inter c=((decide (0<=c.stuff)&&decide (c.stuff<=64))&&(if c.skip then inter&&FY c else (EJ inter c.kind&&FA c.kind c.step)&&(HJ c.kind c.mx c.my&&EY c)))):=Dp rfl;obtain⟨A,D,f0,f1,f2,f3,f4,f5,-,-⟩:=JL c fun i=>.slice (p i) (n i) (k i);obtain⟨R,w0,F,v,T,a,l,y⟩:=ND w D;simp only[D] at g h u j;rw[F] at g h j;rw[D];have B:=Dp v
 have f:=Dp F;have o:=Dp y;have G:=Dp g;have H:=Dp h;have I:=Dp j;clear D v F y g h j hc M N;generalize BL inter c=z at *;generalize FY c=U at *;generalize FA c.kind c.step=O at *;generalize HJ c.kind c.mx c.my=P at *;generalize EY c=V at *;by_cases t:c.stuff<0
 ·have t0:decide (c.stuff<0)=true:=Kn t;have Z:=Dp (show z=false by rw[d.out,Km (by omega:¬ 0<=c.stuff)];rfl);clear t d
  go_enter func82,ntmps82
  go_wp2
  go_ret
  exact⟨AH Z.out.symm,by rw[B.out,f.out];exact a⟩
 by_cases h1:64<c.stuff
 ·have t0:decide (c.stuff<0)=false:=Km t;have t1:decide (64<c.stuff)=true:=Kn h1;have Z:=Dp (show z=false by rw[d.out,Km (by omega:¬ c.stuff<=64),Jw];rfl);clear t h1 d
  go_enter func82,ntmps82
  go_wp2
  go_ret
  exact⟨AH Z.out.symm,by rw[B.out,f.out];exact a⟩
 have t0:decide (c.stuff<0)=false:=Km t;have t1:decide (64<c.stuff)=false:=Km h1;rw[Kn (by omega:0<=c.stuff),Kn (by omega:c.stuff<=64)] at d;clear t h1;cases hsk:c.skip with
 |true=>
  rw[hsk] at d f1;cases inter with
  |false=>
   have Z:=Dp (show z=false by rw[d.out];rfl)
   go_enter func82,ntmps82
   go_wp2
   go_ret
   exact⟨AH Z.out.symm,by rw[B.out,f.out];exact a⟩
  |true=>
   have Z:=Dp (show z=U by rw[d.out];rfl)
   go_enter func82,ntmps82
   go_wp2_with (with_reducible refine NI (by kernel_rfl) 77 _ rfl w.heap.size rfl 77 A (0,0) _ (heap_alloc_new w _) N0 rfl l ?_)
   rw[B.out,f.out];refine(G.out _ a).mono ?_;rintro e Q ⟨rfl,b⟩;have m:=a.trans (b.mono (by omega))
   go_wp2
   go_ret
   exact⟨AH Z.out.symm,by rw[f.out];exact m⟩
 |false=>
  rw[hsk] at d f1;have Z:=Dp (show z=(EJ inter c.kind&&O&&(P&&V)) by rw[d.out];rfl);clear d;generalize EJ inter c.kind=W at *
  go_enter func82,ntmps82
  go_wp2_with fail
  rw[B.out,f.out];refine(E _).mono ?_;rintro e Q ⟨rfl,rfl⟩;obtain⟨C,Y⟩:=o.out _ (Dq _ _);cases W with
  |false=>
   go_wp2
   go_ret
   exact⟨AH (by rw[Z.out];rfl),by rw[f.out];exact a⟩
  |true=>
   go_wp2_with (with_reducible refine NI (by kernel_rfl) 77 _ rfl R rfl 77 A (0,0) _ C N0 rfl l ?_)
   refine(H.out _ a).mono ?_;rintro e Q ⟨rfl,b⟩;have m:=a.trans (b.mono (by omega));have J:=b.size;have C:=(o.out _ (b.mono (by omega))).1;cases O with
   |false=>
    go_wp2
    go_ret
    exact⟨AH (by rw[Z.out];rfl),by rw[f.out];exact m⟩
   |true=>
    go_wp2_with (with_reducible refine NI (by kernel_rfl) 77 _ rfl R rfl 77 A (0,0) _ C N0 rfl l ?_)
    refine(u _).mono ?_;rintro e w2 ⟨rfl,q⟩;have r:=m.trans (q.mono (by omega));have X:=q.size;have C:=(o.out _ ((b.trans (q.mono J)).mono (by omega))).1;cases P with
    |false=>
     go_wp2
     go_ret
     exact⟨AH (by rw[Z.out];rfl),by rw[f.out];exact r⟩
    |true=>
     go_wp2_with (with_reducible refine NI (by kernel_rfl) 77 _ rfl R rfl 77 A (0,0) _ C N0 rfl l ?_)
     refine(I.out _ r).mono ?_;rintro e w3 ⟨rfl,K⟩;have L:=r.trans (K.mono (by omega))
     go_wp2
     go_ret
     exact⟨AH (by rw[Z.out];rfl),by rw[f.out];exact L⟩
def GV (inter:Bool)(x y:Int)(c:Cel):List ByteArray:=
 ⟨(D5 inter c.stuff.toNat).toArray⟩::(if c.skip then [⟨#[49]⟩,⟨#[]⟩,⟨#[]⟩,⟨#[]⟩,⟨#[]⟩,⟨#[]⟩] else
  [⟨(H3 inter).toArray⟩,AY inter c.kind (BU c:Nat),DF (AD c.kind) (B2 c 4:Nat),C0 c.step]++(if AD c.kind then [⟨#[]⟩,⟨#[]⟩] else [B3 (AF (c.mx-AF x)),B3 (AF (c.my-AF y))]))
def bgS:Bool->ByteArray
 |true=>⟨#[48]⟩
 |false=>⟨#[]⟩
def KZ:List ByteArray:=[⟨#[]⟩,⟨#[]⟩,⟨#[]⟩,⟨#[]⟩,⟨#[]⟩,⟨#[]⟩,⟨#[]⟩]
structure Ql9 (w wr:A5) (R:Nat) (x y:Int) (A:Array A0) (l:List A0):Prop where
 below:Below R w wr
 pred:wr.heap[R]? =some (.cells [.int .i64 x,.int .i64 y].toArray 73 (0,0))
 cel:wr.heap[R+1]? =some (.cells A 77 (0,0))
 res:wr.heap[R+1+1]? =some (.cells (KZ.map Value.string).toArray 189 (0,0))
 rows:wr.heap[R+1+1+1]? =some (.cells l.toArray 189 (0,0))
 size:R+4<=wr.heap.size
section
variable {w wr z:A5}{R:Nat}{x y:Int}{A:Array A0}{l l':List A0}
theorem Ql9.move (h:Ql9 w wr R x y A l)(a:Below wr.heap.size wr z):Ql9 w z R x y A l:=
 ⟨h.below.trans (a.mono (by have:=h.size;omega)),(a.block _ (by have:=h.size;omega)).trans h.pred,(a.block _ (by have:=h.size;omega)).trans h.cel,(a.block _ (by have:=h.size;omega)).trans h.res,(a.block _ (by have:=h.size;omega)).trans h.rows,Eg h.size a.size⟩
theorem Ql9.set (h:Ql9 w wr R x y A l)(o:Nat)(v:A0):Ql9 w (wr.setCell ⟨R+1+1+1,o,none⟩ v) R x y A (l.set o v):=by
 have a:Below (R+1+1+1) wr (wr.setCell ⟨R+1+1+1,o,none⟩ v):=⟨rfl,rfl,rfl,by simp[World.setCell],fun k b=>Ib _ _ _ _ (by simp;omega)⟩;exact⟨h.below.trans (a.mono (by omega)),(a.block _ (by omega)).trans h.pred,(a.block _ (by omega)).trans h.cel,(a.block _ (by omega)).trans h.res,BF (o:=o) v h.rows,Eg h.size a.size⟩
end
theorem Ts (inter:Bool)(x y:Int)(c:Cel):(GV inter x y c).length=7:=by
 unfold GV;cases c.skip <;> cases AD c.kind <;> rfl
theorem fM:∀m,m<64->bits .and .i64 ((m:Nat):Int) 3=((m%4:Nat):Int):=by decide +kernel
set_option maxRecDepth 100000 in
theorem vE (inter:Bool)(x y:Int)(c:Cel)(p:Nat->Option Addr)(n k:Nat->Nat)(w:A5)(hc:GZ w c p n)(ht:Ybw w.heap.size w)(hm:BL inter c=true):
  A9 prog 167 #[.bool inter,.agg #[.int .i64 x,.int .i64 y],.agg (AJ c fun i=>.slice (p i) (n i) (k i)).toArray] w fun e J=>e=.returned (.agg ((GV inter x y c).map Value.string).toArray)/\Below w.heap.size w J:=by
 obtain⟨R,hR⟩:=Ah w.heap.size;have bo:=hm;unfold BL at hm;rw[Al,Al,Fi,Fi] at hm;obtain⟨bp,a2⟩:=hm;obtain⟨ns,bi⟩:∃ns:Nat,c.stuff=(ns:Int):=⟨c.stuff.toNat,by omega⟩;have C:=fun z=>WI inter 5 0 z;have bx:(AY inter 5 0).size<=9:=(NR inter 5 0).2
 have B:=fun z=>uW inter ns (bgS inter++AY inter 5 0) z (by cases inter <;> decide +kernel) (by omega);obtain⟨bq,br,bj⟩:=Rr c;have ab:bits .and .i64 ((B2 c 6:Nat):Int) 3=((BU c:Nat):Int):=by rw[fM _ bj,RF,show (4*B2 c 4+BU c)%4=BU c by omega]
 have au:((B2 c 6:Nat):Int) / 2^2=((B2 c 4:Nat):Int):=by have:=RF c;omega
 obtain⟨A,hA,f0,f1,f2,f3,f4,f5,-,-⟩:=JL c fun i=>.slice (p i) (n i) (k i);have av:∀z,Below R w z->A9 prog 149 #[.agg A] z fun e J=>e=.returned (.int .i64 (B2 c 6:Nat))/\Below z.heap.size z J:=fun z hz=>hA▸Z3 c p n k z (hc.below (hR▸hz));have Q:∀z,A9 prog 151 #[.agg A] z fun e J=>e=.returned (.bool (AD c.kind))/\Below z.heap.size z J:=fun z=>hA▸TS c _ z
 have ac:∀z,A9 prog 184 #[.bool inter,.int .i64 c.kind,.int .i64 (bits .and .i64 ((B2 c 6:Nat):Int) 3)] z fun e J=>e=.returned (.tuple #[.string (AY inter c.kind (BU c:Nat)),.bool (!(AY inter c.kind (BU c:Nat)).data.toList.isEmpty)])/\Below z.heap.size z J:=fun z=>by rw[ab];exact WI inter c.kind _ z
 have aw:∀z,Below R w z->A9 prog 186 #[.bool (AD c.kind),.int .i64 (((B2 c 6:Nat):Int) / 2^2)] z fun e J=>e=.returned (.tuple #[.string (DF (AD c.kind) (B2 c 4:Nat)),.bool (!(DF (AD c.kind) (B2 c 4:Nat)).data.toList.isEmpty)])/\Below z.heap.size z J:=fun z hz=>by rw[au];exact jX _ _ z (Ybw.below (hR▸ht) hz).pats
 have ax:∀z,Below R w z->A9 prog 150 #[.int .i64 c.step] z fun e J=>e=.returned (.tuple #[.string (C0 c.step),.bool (!(C0 c.step).data.toList.isEmpty)])/\Below z.heap.size z J:=fun z hz=>aA c.step z (Ybw.below (hR▸ht) hz).steps
 have bk:∀d z,Below R w z->A9 prog 188 #[.int .i64 d] z fun e J=>e=.returned (.tuple #[.string (B3 d),.bool (!(B3 d).data.toList.isEmpty)])/\Below z.heap.size z J:=fun d z hz=>mD d z (Ybw.below (hR▸ht) hz).mvd
 have ay:AD c.kind=false->c.skip=false->∀z,A9 prog 187 #[.agg #[.int .i64 c.mx,.int .i64 c.my],.agg #[.int .i64 x,.int .i64 y]] z fun e J=>e=.returned (.agg #[.int .i64 (AF (c.mx-AF x)),.int .i64 (AF (c.my-AF y))])/\Below z.heap.size z J:=fun hk hs z=>by
  rw[hs,Bb (by decide),Al,Al,Al] at a2;have hv:=a2.2.1;unfold HJ at hv;rw[hk,Bb (by decide),Al,Bm,Bm] at hv;exact tQ c.mx c.my x y z (Lf.1 hv.1) (Lf.1 hv.2)
 have aa:=Dp (show GV inter x y c=⟨(D5 inter ns).toArray⟩::(if c.skip then [⟨#[49]⟩,⟨#[]⟩,⟨#[]⟩,⟨#[]⟩,⟨#[]⟩,⟨#[]⟩] else
  [bgS inter,AY inter c.kind (BU c:Nat),DF (AD c.kind) (B2 c 4:Nat),C0 c.step]++(if AD c.kind then [⟨#[]⟩,⟨#[]⟩] else [B3 (AF (c.mx-AF x)),B3 (AF (c.my-AF y))])) by
   unfold GV;rw[bi,Dr];cases inter <;> rfl)
 obtain⟨V,hV⟩:=Ah (((GV inter x y c).map Value.string).toArray);have a3:V.size=7:=by rw[<-hV];simp[Ts]
 have g:(prog.info? 189).map (·.size)=some V.size:=by rw[a3];kernel_rfl
 have W:V.all (·.oneCell')=true:=by rw[<-hV];simp[Value.oneCell']
 have X:((KZ.map Value.string).toArray).size=V.size:=by rw[a3];rfl
 have l:=Dp hV;have G:Ql9 w ((((w.alloc (.cells #[.int .i64 x,.int .i64 y] 73 (0,0))).alloc (.cells A 77 (0,0))).alloc (.cells (KZ.map Value.string).toArray 189 (0,0))).alloc (.cells (KZ.map Value.string).toArray 189 (0,0))) R x y A (KZ.map Value.string):=by
  refine⟨?_,?_,?_,?_,?_,?_⟩
  ·exact((((Dq R w).alloc (Nat.le_of_eq hR.symm) _).alloc (by simp;omega) _).alloc (by simp;omega) _).alloc (by simp;omega) _
  ·rw[<-hR];exact BW (BW (BW (heap_alloc_new w _)))
  ·rw[<-hR];exact BW (BW (by simpa using heap_alloc_new (w.alloc (.cells #[.int .i64 x,.int .i64 y] 73 (0,0))) (.cells A 77 (0,0))))
  ·rw[<-hR];exact BW (by simpa using heap_alloc_new ((w.alloc (.cells #[.int .i64 x,.int .i64 y] 73 (0,0))).alloc (.cells A 77 (0,0))) (.cells (KZ.map Value.string).toArray 189 (0,0)))
  ·rw[<-hR];simpa using heap_alloc_new (((w.alloc (.cells #[.int .i64 x,.int .i64 y] 73 (0,0))).alloc (.cells A 77 (0,0))).alloc (.cells (KZ.map Value.string).toArray 189 (0,0))) (.cells (KZ.map Value.string).toArray 189 (0,0))
  ·simp;omega
 have H:(prog.info? 77).map (·.size)=some A.size:=hA▸Ql c _;rw[hA];have ao:=Dp hR;obtain⟨bs,a4⟩:∃bs:A5,((((w.alloc (.cells #[.int .i64 x,.int .i64 y] 73 (0,0))).alloc (.cells A 77 (0,0))).alloc (.cells (KZ.map Value.string).toArray 189 (0,0))).alloc (.cells (KZ.map Value.string).toArray 189 (0,0)))=bs:=⟨_,rfl⟩;rw[a4] at G
 have ap:=Dp (show ((((w.alloc (.cells #[.int .i64 x,.int .i64 y] 73 (0,0))).alloc (.cells A 77 (0,0))).alloc (.cells #[.string ⟨#[]⟩,.string ⟨#[]⟩,.string ⟨#[]⟩,.string ⟨#[]⟩,.string ⟨#[]⟩,.string ⟨#[]⟩,.string ⟨#[]⟩] 189 (0,0))).alloc (.cells #[.string ⟨#[]⟩,.string ⟨#[]⟩,.string ⟨#[]⟩,.string ⟨#[]⟩,.string ⟨#[]⟩,.string ⟨#[]⟩,.string ⟨#[]⟩] 189 (0,0)))=bs from a4)
 have T:Hid (∀z:A5,z.heap[R+1]? =some (.cells A 77 (0,0))->z.cell? ⟨R+1,0,none⟩=some (.int .i64 (ns:Int))/\z.cell? ⟨R+1,1,none⟩=some (.bool c.skip)/\z.cell? ⟨R+1,2,none⟩=some (.int .i64 c.kind)/\z.cell? ⟨R+1,3,none⟩=some (.int .i64 c.step)/\z.cell? ⟨R+1,4,none⟩=some (.int .i64 c.mx)/\z.cell? ⟨R+1,5,none⟩=some (.int .i64 c.my)):=Dp (fun z hz=>by
  have h:=FL (c:=c) (sl:=fun i=>.slice (p i) (n i) (k i)) (x:=z) (R:=R+1) (by rw[hA];exact hz);rw[bi] at h;exact h)
 have U:=Dp av;have az:=Dp aw;have a0:=Dp ax;have aq:=Dp bk;have a1:=Dp ay;clear a4 hR bp a2 bo hA hV a3 av aw ax bk ay hc ht ab au bq br bj f0 f1 f2 f3 f4 f5;generalize (⟨(D5 inter ns).toArray⟩:ByteArray)=sN at *;generalize ((B2 c 6:Nat):Int)=cd at *;generalize AY inter c.kind (BU c:Nat)=kr at *
 generalize DF (AD c.kind) (B2 c 4:Nat)=pr at *;generalize C0 c.step=sr at *;generalize AD c.kind=ik at *;generalize AF (c.mx-AF x)=d0 at *;generalize AF (c.my-AF y)=d1 at *;generalize GV inter x y c=L at *;cases inter
 ·simp only[bgS] at B aa;generalize AY _ 5 0=s5 at *;cases hsk:c.skip
  ·rw[hsk] at aa
   go_enter func167,ntmps167
   go_wp2_with fail
   rw[ap.out,ao.out];refine(C _).mono ?_;rintro e w1 ⟨rfl,m⟩;have ae:=G.move m;obtain⟨c0,-,-,-,-,-⟩:=T.out _ ae.cel
   go_wp2_with fail
   refine(B _).mono ?_;rintro e w2 ⟨rfl,q⟩;have M:=ae.move q;have E:=M.set 0 (.string sN);have u:=AA (o:=0) M.rows rfl;have r1:=AZ (o:=0) M.rows;obtain⟨-,c1,-,-,-,-⟩:=T.out _ E.cel;rw[hsk] at c1;have r2:=AA (o:=1) E.rows rfl;have r3:=AZ (o:=1) E.rows;clear c0 m q;have F:=E.set 1 (.string ⟨#[]⟩)
   go_wp2_with fail
   clear u r1 r2 r3 c1;generalize (w2.setCell ⟨R+1+1+1,0,none⟩ (.string sN)).setCell ⟨R+1+1+1,1,none⟩ (.string ⟨#[]⟩)=w4 at F ⊢;refine Nx (S:=fun z=>Below R w z/\z.heap[R+1]? =some (.cells A 77 (0,0))) (by kernel_rfl) ⟨F.below.drew,F.cel⟩ (fun b=>?_);refine AM 0 (some 32) b ?_
   try simp only[A1]
   refine AM 1 (some 33) b ?_
   try simp only[A1]
   refine FV 2 (some 34) (v:=.int .i64 c.kind) rfl rfl b (by kernel_rfl) (fun x N=>by have c0:=(T.out x N.2).2.2.1;go_simp) ?_
   try simp only[A1]
   refine C8 3 (some 35) (v:=.agg A) rfl rfl (by kernel_rfl) (by kernel_rfl) (by kernel_rfl) (fun _ _ _ h=>h) b (Or.inl ⟨by kernel_rfl,fun x N=>GA (ty:=77) (x:=.tmp 5) (ad:=⟨R+1,0,none⟩) (by kernel_rfl) (by kernel_rfl) (As x (R+1) _ _ A (0,0) _ (N.2) N0 rfl H)⟩) ?_
   try simp only[A1]
   refine Nw (rs:=[4]) (by kernel_rfl) (by simp) ?_;refine Nu rfl (fun K f=>?_) Nv
   go_simp
   go_wp2_with fail
   refine(U.out _ b.1).mono ?_;rintro e w5 ⟨rfl,a5⟩;have a6:=(F.move (Dq _ w4).drew).move a5;refine f.out _ _ (⟨a6.below,a6.cel⟩) (fun a=>?_);clear f K b;have b:=a;clear a
   try simp only[A1]
   refine AM 5 (some 37) b ?_
   try simp only[A1]
   refine Nw (rs:=[6]) (by kernel_rfl) (by simp) ?_;refine Nu rfl (fun K f=>?_) Nv
   go_simp
   go_wp2_with fail
   refine(ac _).mono ?_;rintro e w6 ⟨rfl,a7⟩;have af:=a6.move a7;refine f.out _ _ (⟨af.below,af.cel⟩) (fun a=>?_);clear f K b;have b:=a;clear a
   try simp only[A1]
   refine AM 7 (some 31) b ?_
   try simp only[A1]
   refine AM 8 (some 39) b ?_
   try simp only[A1]
   refine AM 9 (some 40) b ?_
   try simp only[A1]
   refine AM 10 (some 41) b ?_
   try simp only[A1]
   have Y:=af.set 2 (.string kr);have u:=AA (o:=2) af.rows rfl;have r1:=AZ (o:=2) af.rows;refine Nw (rs:=[11]) (by kernel_rfl) (by simp) ?_;refine Nu rfl (fun K f=>?_) Nv
   go_simp
   refine f.out _ _ ⟨Y.below,Y.cel⟩ (fun a=>?_);clear f K b;have b:=a;clear a;refine O0 (by kernel_rfl) ?_ _;clear b;clear u r1;generalize w6.setCell ⟨R+1+1+1,2,none⟩ (.string kr)=w7 at Y ⊢
   go_wp2_with fail
   refine Nx (S:=fun z=>Below R w z/\z.heap[R+1]? =some (.cells A 77 (0,0))) (by kernel_rfl) ⟨Y.below.drew,Y.cel⟩ (fun b=>?_)
   refine C8 0 (some 43) (v:=.agg A) rfl rfl (by kernel_rfl) (by kernel_rfl) (by kernel_rfl) (fun _ _ _ h=>h) b (Or.inl ⟨by kernel_rfl,fun x N=>GA (ty:=77) (x:=.tmp 5) (ad:=⟨R+1,0,none⟩) (by kernel_rfl) (by kernel_rfl) (As x (R+1) _ _ A (0,0) _ (N.2) N0 rfl H)⟩) ?_
   try simp only[A1]
   refine C8 2 (some 45) (v:=.agg A) rfl rfl (by kernel_rfl) (by kernel_rfl) (by kernel_rfl) (fun _ _ _ h=>h) b (Or.inl ⟨by kernel_rfl,fun x N=>GA (ty:=77) (x:=.tmp 5) (ad:=⟨R+1,0,none⟩) (by kernel_rfl) (by kernel_rfl) (As x (R+1) _ _ A (0,0) _ (N.2) N0 rfl H)⟩) ?_
   try simp only[A1]
   refine Nw (rs:=[1]) (by kernel_rfl) (by simp) ?_;refine Nu rfl (fun K f=>?_) Nv
   go_simp
   go_wp2_with fail
   refine(Q _).mono ?_;rintro e w8 ⟨rfl,a8⟩;have a9:=(Y.move (Dq _ w7).drew).move a8;refine f.out _ _ (⟨a9.below,a9.cel⟩) (fun a=>?_);clear f K b;have b:=a;clear a
   try simp only[A1]
   refine Nw (rs:=[3]) (by kernel_rfl) (by simp) ?_;refine Nu rfl (fun K f=>?_) Nv
   go_simp
   go_wp2_with fail
   refine(U.out _ b.1).mono ?_;rintro e bt ⟨rfl,ag⟩;have O:=a9.move ag;refine f.out _ _ (⟨O.below,O.cel⟩) (fun a=>?_);clear f K b;have b:=a;clear a
   try simp only[A1]
   refine AM 4 (some 47) b ?_
   try simp only[A1]
   refine Nw (rs:=[5]) (by kernel_rfl) (by simp) ?_;refine Nu rfl (fun K f=>?_) Nv
   go_simp
   go_wp2_with fail
   refine(az.out _ b.1).mono ?_;rintro e w9 ⟨rfl,ba⟩;have ah:=O.move ba;refine f.out _ _ (⟨ah.below,ah.cel⟩) (fun a=>?_);clear f K b;have b:=a;clear a
   try simp only[A1]
   refine AM 6 (some 42) b ?_
   try simp only[A1]
   refine AM 7 (some 49) b ?_
   try simp only[A1]
   refine AM 8 (some 50) b ?_
   try simp only[A1]
   refine AM 9 (some 51) b ?_
   try simp only[A1]
   have Z:=ah.set 3 (.string pr);have u:=AA (o:=3) ah.rows rfl;have r1:=AZ (o:=3) ah.rows;refine Nw (rs:=[10]) (by kernel_rfl) (by simp) ?_;refine Nu rfl (fun K f=>?_) Nv
   go_simp
   refine f.out _ _ ⟨Z.below,Z.cel⟩ (fun a=>?_);clear f K b;have b:=a;clear a;refine O0 (by kernel_rfl) ?_ _;clear b;clear u r1;generalize w9.setCell ⟨R+1+1+1,3,none⟩ (.string pr)=wA at Z ⊢;obtain⟨-,-,-,c3,-,-⟩:=T.out _ Z.cel
   go_wp2_with fail
   refine(a0.out _ Z.below).mono ?_;rintro e wB ⟨rfl,ai⟩;have bb:=Z.move ai;have bl:=bb.set 4 (.string sr);have u:=AA (o:=4) bb.rows rfl;have r1:=AZ (o:=4) bb.rows;have gC:=bl.cel;clear c3 ai
   go_wp2_with (with_reducible refine N5 rfl 77 _ rfl (R+1) rfl 77 A (0,0) _ gC N0 rfl H ?_)
   refine(Q _).mono ?_;rintro e wD ⟨rfl,aj⟩;have I:=bl.move aj;clear u r1 gC aj;cases ik
   ·obtain⟨-,-,-,-,c4,c5⟩:=T.out _ I.cel;have b0:=AA (o:=0) I.pred rfl;have b1:=AA (o:=1) I.pred rfl
    go_wp2_with fail
    refine(a1.out (by trivial) (by first|exact hsk|trivial) _).mono ?_;rintro e wE ⟨rfl,ak⟩;have bm:=I.move ak;obtain⟨D,hD⟩:=Ah wE.heap.size;have bc:=bm.move ((Dq _ wE).alloc (Ba _) (.cells #[.int .i64 d0,.int .i64 d1] 73 (0,0)));have bu:R+4<=D:=by have:=bm.size;omega
    have hd:=heap_alloc_new wE (.cells [.int .i64 d0,.int .i64 d1].toArray 73 (0,0));rw[hD] at hd;obtain⟨wF,r⟩:=Ah (wE.alloc (.cells #[.int .i64 d0,.int .i64 d1] 73 (0,0)));have bd:wF.heap[D]? =some (.cells [.int .i64 d0,.int .i64 d1].toArray 73 (0,0)):=r▸hd;have bv:wF.heap.size=D+1:=by rw[<-r,<-hD];simp
    rw[r] at bc;have bf:=Dp r;have bw:=Dp hD;clear c4 c5 b0 b1 ak hd r hD
    go_wp2_with fail
    rw[bf.out,bw.out];refine(aq.out d0 _ bc.below).mono ?_;rintro e wG ⟨rfl,P⟩;have bg:=bc.move P;have bn:=bg.set 5 (.string (B3 d0));have al:=(P.block D (by omega)).trans bd;have u:=AA (o:=5) bg.rows rfl;have r1:=AZ (o:=5) bg.rows
    have am:(wG.setCell ⟨R+1+1+1,5,none⟩ (.string (B3 d0))).heap[D]? =some (.cells [.int .i64 d0,.int .i64 d1].toArray 73 (0,0)):=(Ib wG ⟨R+1+1+1,5,none⟩ (.string (B3 d0)) D (by show D≠R+1+1+1;omega)).trans al;have q1:=AA (o:=1) am rfl;clear P
    go_wp2_with fail
    refine(aq.out d1 _ bn.below).mono ?_;rintro e wI ⟨rfl,an⟩;have bh:=bn.move an;have ar:=bh.set 6 (.string (B3 d1));have s0:=AA (o:=6) bh.rows rfl;have s1:=AZ (o:=6) bh.rows;have j:=ar.res;have grow:(wI.setCell ⟨R+1+1+1,6,none⟩ (.string (B3 d1))).heap[R+1+1+1]? =some (.cells V 189 (0,0)):=by rw[<-l.out,aa.out];exact ar.rows
    clear u r1 q1 al am an
    go_wp2_with (first|(with_reducible refine N5 rfl 189 _ rfl (R+1+1+1) rfl 189 V (0,0) _ grow Ny rfl g ?_)|(with_reducible refine B4 rfl 189 _ _ rfl (R+1+1) V _ rfl rfl 189 j g X W ?_;intro wf s t))
    refine H5 (H6 rfl _ _ (R+1+1) 189 _ (0,0) _ rfl s Ny rfl g) rfl ?_;exact⟨by rw[l.out],by rw[ao.out];exact ar.below.trans (N7 t (by omega) (by have:=ar.size;omega))⟩
   ·have j:=I.res;have grow:wD.heap[R+1+1+1]? =some (.cells V 189 (0,0)):=by rw[<-l.out,aa.out];exact I.rows
    go_wp2_with (first|(with_reducible refine N5 rfl 189 _ rfl (R+1+1+1) rfl 189 V (0,0) _ grow Ny rfl g ?_)|(with_reducible refine B4 rfl 189 _ _ rfl (R+1+1) V _ rfl rfl 189 j g X W ?_;intro wf s t))
    refine H5 (H6 rfl _ _ (R+1+1) 189 _ (0,0) _ rfl s Ny rfl g) rfl ?_;exact⟨by rw[l.out],by rw[ao.out];exact I.below.trans (N7 t (by omega) (by have:=I.size;omega))⟩
  ·rw[hsk] at aa
   go_enter func167,ntmps167
   go_wp2_with fail
   rw[ap.out,ao.out];refine(C _).mono ?_;rintro e w1 ⟨rfl,m⟩;have ae:=G.move m;obtain⟨c0,-,-,-,-,-⟩:=T.out _ ae.cel
   go_wp2_with fail
   refine(B _).mono ?_;rintro e w2 ⟨rfl,q⟩;have M:=ae.move q;have E:=M.set 0 (.string sN);have u:=AA (o:=0) M.rows rfl;have r1:=AZ (o:=0) M.rows;obtain⟨-,c1,-,-,-,-⟩:=T.out _ E.cel;rw[hsk] at c1;have r2:=AA (o:=1) E.rows rfl;have r3:=AZ (o:=1) E.rows;clear c0 m q;have F:=E.set 1 (.string ⟨#[49]⟩);have j:=F.res
   have grow:((w2.setCell ⟨R+1+1+1,0,none⟩ (.string sN)).setCell ⟨R+1+1+1,1,none⟩ (.string ⟨#[49]⟩)).heap[R+1+1+1]? =some (.cells V 189 (0,0)):=by rw[<-l.out,aa.out];exact F.rows
   go_wp2_with (first|(with_reducible refine N5 rfl 189 _ rfl (R+1+1+1) rfl 189 V (0,0) _ grow Ny rfl g ?_)|(with_reducible refine B4 rfl 189 _ _ rfl (R+1+1) V _ rfl rfl 189 j g X W ?_;intro wf s t))
   refine H5 (H6 rfl _ _ (R+1+1) 189 _ (0,0) _ rfl s Ny rfl g) rfl ?_;exact⟨by rw[l.out],by rw[ao.out];exact F.below.trans (N7 t (by omega) (by have:=F.size;omega))⟩
 ·simp only[bgS] at B aa;generalize AY _ 5 0=s5 at *;cases hsk:c.skip
  ·rw[hsk] at aa
   go_enter func167,ntmps167
   go_wp2_with fail
   rw[ap.out,ao.out];refine(C _).mono ?_;rintro e w1 ⟨rfl,m⟩;have ae:=G.move m;obtain⟨c0,-,-,-,-,-⟩:=T.out _ ae.cel
   go_wp2_with fail
   refine(B _).mono ?_;rintro e w2 ⟨rfl,q⟩;have M:=ae.move q;have E:=M.set 0 (.string sN);have u:=AA (o:=0) M.rows rfl;have r1:=AZ (o:=0) M.rows;obtain⟨-,c1,-,-,-,-⟩:=T.out _ E.cel;rw[hsk] at c1;have r2:=AA (o:=1) E.rows rfl;have r3:=AZ (o:=1) E.rows;clear c0 m q;have F:=E.set 1 (.string ⟨#[48]⟩)
   go_wp2_with fail
   clear u r1 r2 r3 c1;generalize (w2.setCell ⟨R+1+1+1,0,none⟩ (.string sN)).setCell ⟨R+1+1+1,1,none⟩ (.string ⟨#[48]⟩)=w4 at F ⊢;refine Nx (S:=fun z=>Below R w z/\z.heap[R+1]? =some (.cells A 77 (0,0))) (by kernel_rfl) ⟨F.below.drew,F.cel⟩ (fun b=>?_);refine AM 0 (some 32) b ?_
   try simp only[A1]
   refine AM 1 (some 33) b ?_
   try simp only[A1]
   refine FV 2 (some 34) (v:=.int .i64 c.kind) rfl rfl b (by kernel_rfl) (fun x N=>by have c0:=(T.out x N.2).2.2.1;go_simp) ?_
   try simp only[A1]
   refine C8 3 (some 35) (v:=.agg A) rfl rfl (by kernel_rfl) (by kernel_rfl) (by kernel_rfl) (fun _ _ _ h=>h) b (Or.inl ⟨by kernel_rfl,fun x N=>GA (ty:=77) (x:=.tmp 5) (ad:=⟨R+1,0,none⟩) (by kernel_rfl) (by kernel_rfl) (As x (R+1) _ _ A (0,0) _ (N.2) N0 rfl H)⟩) ?_
   try simp only[A1]
   refine Nw (rs:=[4]) (by kernel_rfl) (by simp) ?_;refine Nu rfl (fun K f=>?_) Nv
   go_simp
   go_wp2_with fail
   refine(U.out _ b.1).mono ?_;rintro e w5 ⟨rfl,a5⟩;have a6:=(F.move (Dq _ w4).drew).move a5;refine f.out _ _ (⟨a6.below,a6.cel⟩) (fun a=>?_);clear f K b;have b:=a;clear a
   try simp only[A1]
   refine AM 5 (some 37) b ?_
   try simp only[A1]
   refine Nw (rs:=[6]) (by kernel_rfl) (by simp) ?_;refine Nu rfl (fun K f=>?_) Nv
   go_simp
   go_wp2_with fail
   refine(ac _).mono ?_;rintro e w6 ⟨rfl,a7⟩;have af:=a6.move a7;refine f.out _ _ (⟨af.below,af.cel⟩) (fun a=>?_);clear f K b;have b:=a;clear a
   try simp only[A1]
   refine AM 7 (some 31) b ?_
   try simp only[A1]
   refine AM 8 (some 39) b ?_
   try simp only[A1]
   refine AM 9 (some 40) b ?_
   try simp only[A1]
   refine AM 10 (some 41) b ?_
   try simp only[A1]
   have Y:=af.set 2 (.string kr);have u:=AA (o:=2) af.rows rfl;have r1:=AZ (o:=2) af.rows;refine Nw (rs:=[11]) (by kernel_rfl) (by simp) ?_;refine Nu rfl (fun K f=>?_) Nv
   go_simp
   refine f.out _ _ ⟨Y.below,Y.cel⟩ (fun a=>?_);clear f K b;have b:=a;clear a;refine O0 (by kernel_rfl) ?_ _;clear b;clear u r1;generalize w6.setCell ⟨R+1+1+1,2,none⟩ (.string kr)=w7 at Y ⊢
   go_wp2_with fail
   refine Nx (S:=fun z=>Below R w z/\z.heap[R+1]? =some (.cells A 77 (0,0))) (by kernel_rfl) ⟨Y.below.drew,Y.cel⟩ (fun b=>?_)
   refine C8 0 (some 43) (v:=.agg A) rfl rfl (by kernel_rfl) (by kernel_rfl) (by kernel_rfl) (fun _ _ _ h=>h) b (Or.inl ⟨by kernel_rfl,fun x N=>GA (ty:=77) (x:=.tmp 5) (ad:=⟨R+1,0,none⟩) (by kernel_rfl) (by kernel_rfl) (As x (R+1) _ _ A (0,0) _ (N.2) N0 rfl H)⟩) ?_
   try simp only[A1]
   refine C8 2 (some 45) (v:=.agg A) rfl rfl (by kernel_rfl) (by kernel_rfl) (by kernel_rfl) (fun _ _ _ h=>h) b (Or.inl ⟨by kernel_rfl,fun x N=>GA (ty:=77) (x:=.tmp 5) (ad:=⟨R+1,0,none⟩) (by kernel_rfl) (by kernel_rfl) (As x (R+1) _ _ A (0,0) _ (N.2) N0 rfl H)⟩) ?_
   try simp only[A1]
   refine Nw (rs:=[1]) (by kernel_rfl) (by simp) ?_;refine Nu rfl (fun K f=>?_) Nv
   go_simp
   go_wp2_with fail
   refine(Q _).mono ?_;rintro e w8 ⟨rfl,a8⟩;have a9:=(Y.move (Dq _ w7).drew).move a8;refine f.out _ _ (⟨a9.below,a9.cel⟩) (fun a=>?_);clear f K b;have b:=a;clear a
   try simp only[A1]
   refine Nw (rs:=[3]) (by kernel_rfl) (by simp) ?_;refine Nu rfl (fun K f=>?_) Nv
   go_simp
   go_wp2_with fail
   refine(U.out _ b.1).mono ?_;rintro e bt ⟨rfl,ag⟩;have O:=a9.move ag;refine f.out _ _ (⟨O.below,O.cel⟩) (fun a=>?_);clear f K b;have b:=a;clear a
   try simp only[A1]
   refine AM 4 (some 47) b ?_
   try simp only[A1]
   refine Nw (rs:=[5]) (by kernel_rfl) (by simp) ?_;refine Nu rfl (fun K f=>?_) Nv
   go_simp
   go_wp2_with fail
   refine(az.out _ b.1).mono ?_;rintro e w9 ⟨rfl,ba⟩;have ah:=O.move ba;refine f.out _ _ (⟨ah.below,ah.cel⟩) (fun a=>?_);clear f K b;have b:=a;clear a
   try simp only[A1]
   refine AM 6 (some 42) b ?_
   try simp only[A1]
   refine AM 7 (some 49) b ?_
   try simp only[A1]
   refine AM 8 (some 50) b ?_
   try simp only[A1]
   refine AM 9 (some 51) b ?_
   try simp only[A1]
   have Z:=ah.set 3 (.string pr);have u:=AA (o:=3) ah.rows rfl;have r1:=AZ (o:=3) ah.rows;refine Nw (rs:=[10]) (by kernel_rfl) (by simp) ?_;refine Nu rfl (fun K f=>?_) Nv
   go_simp
   refine f.out _ _ ⟨Z.below,Z.cel⟩ (fun a=>?_);clear f K b;have b:=a;clear a;refine O0 (by kernel_rfl) ?_ _;clear b;clear u r1;generalize w9.setCell ⟨R+1+1+1,3,none⟩ (.string pr)=wA at Z ⊢;obtain⟨-,-,-,c3,-,-⟩:=T.out _ Z.cel
   go_wp2_with fail
   refine(a0.out _ Z.below).mono ?_;rintro e wB ⟨rfl,ai⟩;have bb:=Z.move ai;have bl:=bb.set 4 (.string sr);have u:=AA (o:=4) bb.rows rfl;have r1:=AZ (o:=4) bb.rows;have gC:=bl.cel;clear c3 ai
   go_wp2_with (with_reducible refine N5 rfl 77 _ rfl (R+1) rfl 77 A (0,0) _ gC N0 rfl H ?_)
   refine(Q _).mono ?_;rintro e wD ⟨rfl,aj⟩;have I:=bl.move aj;clear u r1 gC aj;cases ik
   ·obtain⟨-,-,-,-,c4,c5⟩:=T.out _ I.cel;have b0:=AA (o:=0) I.pred rfl;have b1:=AA (o:=1) I.pred rfl
    go_wp2_with fail
    refine(a1.out (by trivial) (by first|exact hsk|trivial) _).mono ?_;rintro e wE ⟨rfl,ak⟩;have bm:=I.move ak;obtain⟨D,hD⟩:=Ah wE.heap.size;have bc:=bm.move ((Dq _ wE).alloc (Ba _) (.cells #[.int .i64 d0,.int .i64 d1] 73 (0,0)));have bu:R+4<=D:=by have:=bm.size;omega
    have hd:=heap_alloc_new wE (.cells [.int .i64 d0,.int .i64 d1].toArray 73 (0,0));rw[hD] at hd;obtain⟨wF,r⟩:=Ah (wE.alloc (.cells #[.int .i64 d0,.int .i64 d1] 73 (0,0)));have bd:wF.heap[D]? =some (.cells [.int .i64 d0,.int .i64 d1].toArray 73 (0,0)):=r▸hd;have bv:wF.heap.size=D+1:=by rw[<-r,<-hD];simp
    rw[r] at bc;have bf:=Dp r;have bw:=Dp hD;clear c4 c5 b0 b1 ak hd r hD
    go_wp2_with fail
    rw[bf.out,bw.out];refine(aq.out d0 _ bc.below).mono ?_;rintro e wG ⟨rfl,P⟩;have bg:=bc.move P;have bn:=bg.set 5 (.string (B3 d0));have al:=(P.block D (by omega)).trans bd;have u:=AA (o:=5) bg.rows rfl;have r1:=AZ (o:=5) bg.rows
    have am:(wG.setCell ⟨R+1+1+1,5,none⟩ (.string (B3 d0))).heap[D]? =some (.cells [.int .i64 d0,.int .i64 d1].toArray 73 (0,0)):=(Ib wG ⟨R+1+1+1,5,none⟩ (.string (B3 d0)) D (by show D≠R+1+1+1;omega)).trans al;have q1:=AA (o:=1) am rfl;clear P
    go_wp2_with fail
    refine(aq.out d1 _ bn.below).mono ?_;rintro e wI ⟨rfl,an⟩;have bh:=bn.move an;have ar:=bh.set 6 (.string (B3 d1));have s0:=AA (o:=6) bh.rows rfl;have s1:=AZ (o:=6) bh.rows;have j:=ar.res;have grow:(wI.setCell ⟨R+1+1+1,6,none⟩ (.string (B3 d1))).heap[R+1+1+1]? =some (.cells V 189 (0,0)):=by rw[<-l.out,aa.out];exact ar.rows
    clear u r1 q1 al am an
    go_wp2_with (first|(with_reducible refine N5 rfl 189 _ rfl (R+1+1+1) rfl 189 V (0,0) _ grow Ny rfl g ?_)|(with_reducible refine B4 rfl 189 _ _ rfl (R+1+1) V _ rfl rfl 189 j g X W ?_;intro wf s t))
    refine H5 (H6 rfl _ _ (R+1+1) 189 _ (0,0) _ rfl s Ny rfl g) rfl ?_;exact⟨by rw[l.out],by rw[ao.out];exact ar.below.trans (N7 t (by omega) (by have:=ar.size;omega))⟩
   ·have j:=I.res;have grow:wD.heap[R+1+1+1]? =some (.cells V 189 (0,0)):=by rw[<-l.out,aa.out];exact I.rows
    go_wp2_with (first|(with_reducible refine N5 rfl 189 _ rfl (R+1+1+1) rfl 189 V (0,0) _ grow Ny rfl g ?_)|(with_reducible refine B4 rfl 189 _ _ rfl (R+1+1) V _ rfl rfl 189 j g X W ?_;intro wf s t))
    refine H5 (H6 rfl _ _ (R+1+1) 189 _ (0,0) _ rfl s Ny rfl g) rfl ?_;exact⟨by rw[l.out],by rw[ao.out];exact I.below.trans (N7 t (by omega) (by have:=I.size;omega))⟩
  ·rw[hsk] at aa
   go_enter func167,ntmps167
   go_wp2_with fail
   rw[ap.out,ao.out];refine(C _).mono ?_;rintro e w1 ⟨rfl,m⟩;have ae:=G.move m;obtain⟨c0,-,-,-,-,-⟩:=T.out _ ae.cel
   go_wp2_with fail
   refine(B _).mono ?_;rintro e w2 ⟨rfl,q⟩;have M:=ae.move q;have E:=M.set 0 (.string sN);have u:=AA (o:=0) M.rows rfl;have r1:=AZ (o:=0) M.rows;obtain⟨-,c1,-,-,-,-⟩:=T.out _ E.cel;rw[hsk] at c1;have r2:=AA (o:=1) E.rows rfl;have r3:=AZ (o:=1) E.rows;clear c0 m q;have F:=E.set 1 (.string ⟨#[49]⟩);have j:=F.res
   have grow:((w2.setCell ⟨R+1+1+1,0,none⟩ (.string sN)).setCell ⟨R+1+1+1,1,none⟩ (.string ⟨#[49]⟩)).heap[R+1+1+1]? =some (.cells V 189 (0,0)):=by rw[<-l.out,aa.out];exact F.rows
   go_wp2_with (first|(with_reducible refine N5 rfl 189 _ rfl (R+1+1+1) rfl 189 V (0,0) _ grow Ny rfl g ?_)|(with_reducible refine B4 rfl 189 _ _ rfl (R+1+1) V _ rfl rfl 189 j g X W ?_;intro wf s t))
   refine H5 (H6 rfl _ _ (R+1+1) 189 _ (0,0) _ rfl s Ny rfl g) rfl ?_;exact⟨by rw[l.out],by rw[ao.out];exact F.below.trans (N7 t (by omega) (by have:=F.size;omega))⟩
def FX (l:List ByteArray):List UInt8:=(l.map (·.data.toList)).flatten
theorem vA (l:List ByteArray)(x:ByteArray):FX (l++[x])=FX l++x.data.toList:=by simp[FX]
theorem bE {c:Cel}(h:FY c=true):EY c=true/\BC c 6=[]:=by
 unfold FY at h;simp only[Al,Bm,Bu,Bt,Au] at h;obtain⟨⟨⟨b,_⟩,_⟩,hd,d⟩:=h;have a:∀i,i<6->c.ev i=[]:=fun i hi=>Dl (d i hi);refine⟨NV.2 fun i hi=>?_,?_⟩
 ·rw[b,hd i hi,a i hi];rfl
 ·simp only[BC,b,hd 0 (by omega),hd 1 (by omega),hd 2 (by omega),hd 3 (by omega),hd 4 (by omega),hd 5 (by omega),a 0 (by omega),a 1 (by omega),a 2 (by omega),a 3 (by omega),a 4 (by omega),a 5 (by omega)]
  rfl
theorem RS {inter:Bool}{c:Cel}(h:BL inter c=true):EY c=true:=by
 unfold BL at h;rw[Al] at h;cases hs:c.skip with
 |true=>
  rw[hs,Bc rfl] at h;exact(bE (Nz.1 h.2).2).1
 |false=>
  rw[hs,Bb (by decide)] at h;exact(Nz.1 (Nz.1 h.2).2).2
theorem aG {inter:Bool}{x y:Int}{c:Cel}(h:BL inter c=true):FX (GV inter x y c)++BC c 6=CQ inter x y c:=by
 unfold BL at h;rw[Al] at h;unfold CQ GV IR;cases hs:c.skip with
 |true=>
  rw[hs,Bc rfl] at h;rw[(bE (Nz.1 h.2).2).2];simp[FX]
 |false=>cases hk:AD c.kind <;> simp[FX]
theorem eI (inter:Bool)(x y:Int)(c:Cel):∀s∈GV inter x y c,AL s.data.toList=true:=by
 intro s hs;unfold GV at hs;rw[Ei] at hs;rcases hs with rfl|hs
 ·exact(Qb inter _).1
 ·split at hs
  ·simp only[Ei,Ej,Eo] at hs;rcases hs with rfl|rfl|rfl|rfl|rfl|rfl <;> rfl
  ·rw[List.mem_append] at hs;rcases hs with hs|hs
   ·simp only[Ei,Ej,Eo] at hs;rcases hs with rfl|rfl|rfl|rfl
    ·exact(PV inter).1
    ·exact(NR _ _ _).1
    ·exact(QK _ _).1
    ·exact(QB _).1
   ·split at hs
    ·simp only[Ei,Ej,Eo] at hs;rcases hs with rfl|rfl <;> rfl
    ·simp only[Ei,Ej,Eo] at hs;rcases hs with rfl|rfl
     ·exact(P2 _).1
     ·exact(P2 _).1
theorem oS (a b c d e f g:ByteArray)(w:A5):∀(i:Nat) (hi:i < [a,b,c,d,e,f,g].length),(Instr.index 189 (.agg #[.string a,.string b,.string c,.string d,.string e,.string f,.string g]) (.int .i64 (i:Nat))).run prog w=.ok (.string ([a,b,c,d,e,f,g][i]'hi)) w
 |0,_=>by kernel_rfl
 |1,_=>by kernel_rfl
 |2,_=>by kernel_rfl
 |3,_=>by kernel_rfl
 |4,_=>by kernel_rfl
 |5,_=>by kernel_rfl
 |6,_=>by kernel_rfl
 |k+7,h=>absurd h (by simp)
theorem gI {l:List ByteArray}(h:l.length=7):∃a b c d e f g,l=[a,b,c,d,e,f,g]:=by
 match l,h with
 |[a,b,c,d,e,f,g],_=>exact⟨a,b,c,d,e,f,g,rfl⟩
theorem dR (l:List ByteArray)(i:Nat):(FX (l.take i)).length<=(FX l).length:=by
 have h:FX l=FX (l.take i)++FX (l.drop i):=by
  unfold FX;rw[<-List.flatten_append,<-Cl,Bs]
 rw[h,B9];omega
theorem RI {inter:Bool}{c:Cel}(h:BL inter c=true)(x y:Int):(CQ inter x y c).length<=20000:=by
 refine mB ?_ fun i hi=>?_
 ·unfold BL at h;rw[Al,Al,Fi,Fi] at h;omega
 ·have h1:=OH (Po (NV.1 (RS h) i hi)).2;omega
set_option maxRecDepth 100000 in
theorem xF (inter:Bool)(x y:Int)(c:Cel)(p:Nat->Option Addr)(n k:Nat->Nat)(B b:Nat)(r:List UInt8)(w:A5)(hw:AQ w B b r)(hr:r.length<=68719476736)(hB:B<=w.heap.size)(a:∀z,w.grownBy z (some b)->Ybw z.heap.size z/\GZ z c p n)(hm:BL inter c=true):
  A9 prog 139 #[.pointer (some ⟨b,0,none⟩),.bool inter,.agg #[.int .i64 x,.int .i64 y],.agg (AJ c fun i=>.slice (p i) (n i) (k i)).toArray] w fun e j=>e=.returned (.int .i64 0)/\AQ j B b (r++CQ inter x y c)/\w.grownBy j (some b):=by
 have ao:b<w.heap.size:=hw.lt;have O:∀z,w.grownBy z (some b)->A9 prog 82 #[.bool inter,.agg (AJ c fun i=>.slice (p i) (n i) (k i)).toArray] z fun e j=>e=.returned (.bool true)/\Below z.heap.size z j:=fun z E=>by
  obtain⟨h1,h2⟩:=a z E;rw[<-hm];exact WC inter c p n k z h2 h1.tcoef h1.steps
 have P:∀z,w.grownBy z (some b)->A9 prog 167 #[.bool inter,.agg #[.int .i64 x,.int .i64 y],.agg (AJ c fun i=>.slice (p i) (n i) (k i)).toArray] z fun e j=>e=.returned (.agg ((GV inter x y c).map Value.string).toArray)/\Below z.heap.size z j:=fun z E=>by
  obtain⟨h1,h2⟩:=a z E;exact vE inter x y c p n k z h2 h1 hm
 have F:∀i,(FX ((GV inter x y c).take i)).length<=20000:=by
  intro i;have h1:=C6 List.length (aG (x:=x) (y:=y) hm);have h2:=RI hm x y;have h3:=dR (GV inter x y c) i;rw[B9] at h1;omega
 have Q:∀z,w.grownBy z (some b)->AQ z B b (r++FX (GV inter x y c))->A9 prog 153 #[.pointer (some ⟨b,0,none⟩),.agg (AJ c fun i=>.slice (p i) (n i) (k i)).toArray] z fun e j=>AQ j B b (r++CQ inter x y c)/\z.grownBy j (some b)/\e=.returned (.int .i64 0):=fun z E ad=>by
  have hl:=F 7;rw[Bk (Nat.le_of_eq (Ts inter x y c))] at hl;refine(Yj c p n k B b _ z ad (by rw[B9];omega) (Eg hB E.size) (fun x hx=>⟨(a x (AR E hx)).1.tcoef,(a x (AR E hx)).2⟩)).mono ?_;rintro e j ⟨i,h1,h2,h3,h4⟩;rcases h4 with ⟨rfl,_,rfl⟩|⟨h5,_⟩
  ·rw[Bd,aG hm] at h2;exact⟨h2,h3,rfl⟩
  ·rw[RS hm] at h5;cases h5
 have ae:=eI inter x y c;have S:=Ts inter x y c;have G:=Ql c fun i=>.slice (p i) (n i) (k i);generalize (AJ c fun i=>.slice (p i) (n i) (k i)).toArray=A at *;obtain⟨R,w1,w2,hR,T,U,ap,aq,V,W,H⟩:=NC w (.cells #[.int .i64 x,.int .i64 y] 73 (0,0)) (.cells A 77 (0,0));have af:=Dp T;have ag:=Dp U;have ar:=Dp hR;have I:w.grownBy w2 (some b):=BZ (hR▸H) _
 have ah:=Dp O;have ai:=Dp P;have aj:=Dp Q;have ak:=Dp F;have q:AQ w2 B b r:=hw.below (hR▸H);have au:b<R:=by omega
 have av:B<=R:=by omega
 generalize GV inter x y c=L at *;generalize CQ inter x y c=a0 at *;obtain⟨l0,l1,l2,l3,l4,l5,l6,X⟩:=gI S;have ac:=Dp X;have al:=Dp (fun i hi z=>oS l0 l1 l2 l3 l4 l5 l6 z i hi);clear O P Q F a hm T U hw H hR X S
 go_enter func139,ntmps139
 go_wp2_with (with_reducible refine N5 rfl 77 _ rfl (w.heap.size+1) rfl 77 A (0,0) _ (bR w _ _) N0 rfl G ?_)
 rw[af.out,ag.out,ar.out];refine(ah.out _ I).mono ?_;rintro e w3 ⟨rfl,f⟩;have J:=AR I (BZ f (some b));have t:=q.below f;have k0:w3.heap[R]? =some (.cells [.int .i64 x,.int .i64 y].toArray 73 (0,0)):=(f.block R (by omega)).trans V;have k1:=(f.block (R+1) (by omega)).trans W;have b0:=AA (o:=0) k0 rfl;have b1:=AA (o:=1) k0 rfl;have aw:=f.size;clear V W q I
 go_wp2_with (with_reducible refine N5 rfl 77 _ rfl (R+1) rfl 77 A (0,0) _ k1 N0 rfl G ?_)
 refine(ai.out _ J).mono ?_;rintro e w4 ⟨rfl,g⟩;have Y:=AR J (BZ g (some b));have u:=t.below g;have k4:=(g.block (R+1) (by omega)).trans k1;have ax:=g.size;rw[ac.out];simp only[Cm,Ct];clear k0 k1 b0 b1 t J f g
 go_wp2
 go_loopw [21] (fun z wr=>∃i:Nat,i<=7/\z=.int .i64 i/\AQ wr B b (r++FX (L.take i))/\w.grownBy wr (some b)/\wr.heap[R+1]? =some (.cells A 77 (0,0))) (fun z _=>7-(RowKit.intOf z).toNat)
 case atStart=>exact⟨0,by omega,rfl,by rw[Bi];exact(Fb r).symm▸u,Y,k4⟩
 case round=>
  clear u Y k4;obtain⟨i,ay,rfl,l,hg,hk⟩:=hrel;have am:R+1<wr.heap.size:=(Am.1 hk).1;by_cases Z:i<7
  ·have t0:decide ((i:Int)<7)=true:=by simp;omega
   have aa:i<L.length:=by rw[ac.out];exact Z
   have i0:=al.out i Z;obtain⟨s,hs⟩:=Ah ([l0,l1,l2,l3,l4,l5,l6][i]'Z);rw[hs] at i0;have K:L[i]=s:=by rw[<-hs];simp only[ac.out]
   have v:AL s.data.toList=true:=K▸ae _ (Bn aa);have M:FX (L.take (i+1))=FX (L.take i)++s.data.toList:=by rw[Be aa,vA,K]
   have C:=ak.out (i+1);rw[M,B9] at C;have ab:s.data.toList.length=s.size:=rfl;have D:=Si wr B b (r++FX (L.take i)) s l v (by rw[B9];omega) (by have:=hg.size;omega);have az:=Dp M;clear M C ab v K hs l
   go_wp2_with fail
   refine D.mono ?_;rintro e w5 ⟨rfl,d,m⟩;rw[Bd,<-az.out] at d;have N:=AR hg m;have an:=(m.block (R+1) am (fun h=>by injection h with h;omega)).trans hk;clear D
   go_wp2
   go_roundw
   case rel=>exact⟨i+1,by omega,by go_num,d,N,an⟩
   case measure=>simp[RowKit.intOf];omega
  ·obtain rfl:i=7:=by omega
   have X:L.take 7=L:=by rw[ac.out];rfl
   rw[X] at l;clear X
   go_wp2_with (with_reducible refine N5 rfl 77 _ rfl (R+1) rfl 77 A (0,0) _ hk N0 rfl G ?_)
   refine(aj.out _ hg l).mono ?_;rintro e w5 ⟨d,m,rfl⟩;have N:=AR hg m
   go_wp2
   go_ret
   exact⟨rfl,d,N⟩
def AV (l:List UInt8):ByteArray:=⟨l.toArray⟩
theorem HP (l:List UInt8)(s:ByteArray):AV l++s=AV (l++s.data.toList):=IU.2 (by simp[AV])
theorem H8 (l:List UInt8):(AV l).size=l.length:=by simp[AV,ByteArray.size]
theorem cL (inter:Bool)(n:Nat):D5 inter (n+1)=D5 inter n++K7 inter:=by
 unfold D5;rw[Cd,List.flatten_append,List.flatten_singleton]
theorem Zr (inter:Bool):(bgS inter).data.toList=H3 inter:=by cases inter <;> rfl
def EO (x y:Int)(c:Cel):Nat->List UInt8
 |0=>[]
 |1=>(B3 (AF (c.mx-AF x))).data.toList
 |_=>(B3 (AF (c.mx-AF x))).data.toList++(B3 (AF (c.my-AF y))).data.toList
theorem nH {inter:Bool}{k:Int}(h:EJ inter k=true):decide (k<2) = !AD k:=by
 have a:k=3\/k=4\/(inter=true/\(k=0\/k=1)):=by
  unfold EJ at h
  simpa [or_assoc] using h
 rcases a with rfl|rfl|⟨_,rfl|rfl⟩ <;> rfl
set_option maxRecDepth 100000 in
theorem gX (inter:Bool)(x y:Int)(c:Cel)(p:Nat->Option Addr)(n k:Nat->Nat)(w:A5)(hc:GZ w c p n)(hm:BL inter c=true):
  A9 prog 78 #[.bool inter,.agg #[.int .i64 x,.int .i64 y],.agg (AJ c fun i=>.slice (p i) (n i) (k i)).toArray] w fun e w'=>e=.returned (.string (AV (CQ inter x y c)))/\Below w.heap.size w w':=by
 have ap:=hm;have co:=RI hm x y;unfold BL at hm;rw[Al,Al,Fi,Fi] at hm;obtain⟨bh,E⟩:=hm;obtain⟨C,X⟩:∃C:Nat,c.stuff=(C:Int):=⟨c.stuff.toNat,by omega⟩;have bi:C<=64:=by omega
 have Y:=NV.1 (RS ap);obtain⟨bj,bk,bl⟩:=Rr c;have cv:(AY inter 5 0).size<=9:=(NR inter 5 0).2;have bm:(AY inter c.kind (BU c:Nat)).size<=9:=(NR inter _ _).2;have bn:(DF (AD c.kind) (B2 c 4:Nat)).size<=6:=(QK _ _).2;have bo:(C0 c.step).size<=2:=(QB _).2;have cw:(bgS inter).size<=1:=by cases inter <;> decide
 have F:(B3 (AF (c.mx-AF x))).size<=13:=(P2 _).2;have O:(B3 (AF (c.my-AF y))).size<=13:=(P2 _).2;have Z:=Dp (fun i=>(Qb inter i).2);have P:=Dp (fun i (hi:i<=6)=>(by
  have h:=QR (c:=c) (n:=64) i fun j hj=>OH (Po (Y j (by omega))).2;have h2:(8+22*64)*i<=(8+22*64)*6:=Nh _ hi;omega:(BC c i).length<=8496))
 have aa:=fun z=>XC inter 5 0 z;have ab:=fun z=>XC inter c.kind (BU c:Nat) z;have aq:=fun z=>jV (AD c.kind) (B2 c 4:Nat) z;have ar:=fun z=>ZP c.step z;have au:=fun z=>Ul c.kind z;have av:=fun d z=>gV d z;have Q:=fun m z=>vJ m z;have ac:=fun i (hi:i<6) z (a:Below w.heap.size w z)=>Qb6 (AD c.kind) (c.dc i) (p i) (c.ev i) (k i) z ((hc i hi).2.2.below a) (Y i hi)
 have am:=Dp (fun i hi=>(hc i hi).1);have cp:Hid (CQ inter x y c=D5 inter C++(if c.skip then [49] else H3 inter++(AY inter c.kind (BU c:Nat)).data.toList++(DF (AD c.kind) (B2 c 4:Nat)).data.toList++(C0 c.step).data.toList++IR c.kind x y c.mx c.my++BC c 6)):=Dp (by unfold CQ;rw[X,Dr])
 have cx:Hid (c.skip=false->decide (c.kind<2) = !AD c.kind):=Dp (fun hs=>by
  rw[hs,Bb (by decide),Al,Al] at E;exact nH E.1.1)
 have cy:Hid (c.skip=false->(-32<=c.mx/\c.mx<=31)∧-32<=c.my/\c.my<=31):=Dp (fun hs=>by
  rw[hs,Bb (by decide)] at E;have hv:=(Nz.1 (Nz.1 E).2).1;unfold HJ at hv
  split at hv
  ·rw[Al,Bm,Bm] at hv;omega
  ·rw[Al,Bm,Bm] at hv;exact⟨Lf.1 hv.1,Lf.1 hv.2⟩)
 have cz:=Dp (fun i=>(by rw[HP,HP,Zr,cL,Bd];rfl:(AV (D5 inter i)++bgS inter)++AY inter 5 0=AV (D5 inter (i+1))));obtain⟨R,w1,b,hR,aw,ax,bp,ay,ad,T,az⟩:=NC w (.cells #[.int .i64 x,.int .i64 y] 73 (0,0)) (.cells (AJ c fun i=>.slice (p i) (n i) (k i)).toArray 77 (0,0))
 have a0:=Dp (fun z (a:Below (R+2) b z)=>FL (c:=c) (sl:=fun i=>.slice (p i) (n i) (k i)) (x:=z) (R:=R+1) ((a.block (R+1) (by omega)).trans T));have cq:=Dp (fun z (a:Below (R+2) b z) i (hi:i<6)=>AA (o:=6+i) (x:=.int .i64 (c.dc i)) ((a.block (R+1) (by omega)).trans T) (JM c _ i hi))
 have a6:=Dp (fun z (a:Below (R+2) b z) i (hi:i<6)=>AA (o:=12+i) (x:=.slice (p i) (n i) (k i)) ((a.block (R+1) (by omega)).trans T) (JZ c (fun i=>.slice (p i) (n i) (k i)) i hi))
 have cr:=Dp (fun z (a:Below (R+2) b z)=>(⟨AA (cs:=[.int .i64 x,.int .i64 y]) ((a.block R (by omega)).trans ad) rfl,AA (cs:=[.int .i64 x,.int .i64 y]) ((a.block R (by omega)).trans ad) rfl⟩:z.cell? ⟨R,0,none⟩=some (.int .i64 x)/\z.cell? ⟨R,1,none⟩=some (.int .i64 y)));rw[hR] at ac;have a7:=Dp (fun z (a:Below (R+2) b z)=>(az.trans (a.mono (by omega)):Below R w z))
 have a8:=Dp ac;generalize (AJ c fun i=>.slice (p i) (n i) (k i)).toArray=A at *;have bq:=Dp aw;have br:=Dp ax;have bf:=Dp hR;have bs:=Dp X;have u:=Dp ay;have bt:Below (R+2) b b:=Dq _ _;clear bh E ap aw ax hR ad T az ac hc X bp ay Y bj bk bl;generalize CQ inter x y c=an at *
 go_enter func78,ntmps78
 go_upto_if 15 with fail
 rw[bq.out,br.out,bf.out]
 go_cut [7] (fun v wz=>v=.string (bgS inter)/\wz=b)
 case first=>
  cases inter
  ·go_wp2
   go_meet
   case rel=>exact⟨rfl,rfl⟩
  ·go_wp2
   go_meet
   case rel=>exact⟨rfl,rfl⟩
 case rest=>
  obtain⟨rfl,B⟩:=hcut;rw[B];clear B;have c6:=Dp (show D5 inter C++(H3 inter++(AY inter c.kind (BU c:Nat)).data.toList++(DF (AD c.kind) (B2 c 4:Nat)).data.toList++(C0 c.step).data.toList)=D5 inter C++(H3 inter++(AY inter c.kind (BU c:Nat)).data.toList++(DF (AD c.kind) (B2 c 4:Nat)).data.toList++(C0 c.step).data.toList) from rfl)
  obtain⟨f,U⟩:=Ah (D5 inter C++(H3 inter++(AY inter c.kind (BU c:Nat)).data.toList++(DF (AD c.kind) (B2 c 4:Nat)).data.toList++(C0 c.step).data.toList));have c7:Hid ((((AV (D5 inter C)++bgS inter)++AY inter c.kind (BU c:Nat))++DF (AD c.kind) (B2 c 4:Nat))++C0 c.step=AV f):=Dp (by rw[HP,HP,HP,HP,Zr,<-U];simp only[Bd])
  have G:Hid (f.length<=660):=Dp (by
   have V:=Z.out C;have M:(H3 inter).length<=1:=(PV inter).2;have a3:(AY inter c.kind (BU c:Nat)).data.toList.length<=9:=bm;have a4:(DF (AD c.kind) (B2 c 4:Nat)).data.toList.length<=6:=bn;have a5:(C0 c.step).data.toList.length<=2:=bo;rw[<-U];simp only[B9];omega)
  have bu:Hid (c.skip=false->an=f++(IR c.kind x y c.mx c.my++BC c 6)):=Dp (fun hs=>by rw[cp.out,hs,<-U];simp only[Aw,B8,Bd]);clear U c6;generalize bgS inter=bg at *;generalize AY inter 5 0=r5 at *;generalize AY inter c.kind (BU c:Nat)=kr at *;generalize C0 c.step=sr at *;generalize bv:DF (AD c.kind) (B2 c 4:Nat)=pr at *;clear bv
  go_wp2
  go_loopw [8,9] (fun t v wr=>∃i:Nat,i<=C/\v=.int .i64 i/\t=.string (AV (D5 inter i))/\Below (R+2) b wr) (fun _ v _=>C-(RowKit.intOf v).toNat)
  case atStart=>exact⟨0,by omega,rfl,rfl,bt⟩
  case round=>
   obtain⟨i,ct,rfl,rfl,g⟩:=hrel;obtain⟨D,c1,c2,c3,c4,c5⟩:=a0.out _ g;rw[bs.out] at D;have bw:=g.size;rw[u.out] at bw;by_cases l:i<C
   ·have t0:decide ((i:Int)<(C:Int))=true:=by simp;omega
    have t1:decide (i<C)=true:=Kn l;have bx:(AV (D5 inter i)).size<=640:=by rw[H8];have:=Z.out i;omega
    have c8:=Dp (cz.out i);generalize AV (D5 inter i)=so at *;clear c1 c2 c3 c4 c5
    go_wp2_with fail
    refine(aa _).mono ?_;rintro e c9 ⟨rfl,bz⟩;have b0:=g.trans (bz.mono (by omega))
    go_wp2
    go_roundw
    case rel=>exact⟨i+1,by omega,by go_num,by rw[<-c8.out],b0⟩
    case measure=>simp[RowKit.intOf];omega
   ·obtain rfl:i=C:=by omega
    have t0:decide ((i:Int)<(i:Int))=false:=by simp
    have t1:decide (i<i)=false:=by simp
    have bx:(AV (D5 inter i)).size<=640:=by rw[H8];have:=Z.out i;omega
    cases hsk:c.skip with
    |true=>
     rw[hsk] at c1;have da:Hid (AV (D5 inter i)++⟨#[49]⟩=AV an):=Dp (by rw[HP,cp.out,hsk];rfl);generalize AV (D5 inter i)=so at *;clear c2 c3 c4 c5
     go_wp2
     go_ret
     exact⟨by rw[da.out];rfl,by rw[bf.out];exact a7.out _ g⟩
    |false=>
     rw[hsk] at c1;have a9:=cx.out hsk;obtain⟨db,dc⟩:=cy.out hsk;have ba:=Dp (bu.out hsk);generalize AV (D5 inter i)=so at *;clear c3 c4 c5
     go_wp2
     go_loopw [10,11] (fun t v b3=>∃j:Nat,j<=4/\v=.int .i64 j/\t=.int .i64 (B2 c j:Nat)/\b3=wr) (fun _ v _=>4-(RowKit.intOf v).toNat)
     case atStart=>exact⟨0,by omega,rfl,rfl,rfl⟩
     case round=>
      obtain⟨j,b4,rfl,rfl,rfl⟩:=hrel;have ae:=SP c j;have cu:B2 c j<16:=Bg ae (Br (by decide) b4);by_cases l:j<4
      ·have t3:decide ((j:Int)<4)=true:=by simp;omega
       have e0:=a6.out _ g j (by omega);have dd:IntKind.i64.wrap (2*((B2 c j:Nat):Int))=((2*B2 c j:Nat):Int):=by rw[CL (by omega)];omega
       have N:=Dp (show B2 c (j+1)=2*B2 c j+CG c j from rfl);by_cases hn:0<n j
       ·have t4:decide (0<n j)=true:=Kn hn;have t5:decide (0<(n j:Int))=true:=Kn (by omega);have b5:=Dp (show CG c j=1 by unfold CG;rw[<-am.out j (by omega),t4];rfl);generalize B2 c j=cj at *;clear hn ae
        go_wp2
        go_roundw
        case rel=>exact⟨j+1,by omega,by go_num,by rw[N.out,b5.out];first|rfl|(congr 1;omega),by trivial⟩
        case measure=>simp[RowKit.intOf];omega
       ·have t4:decide (0<n j)=false:=Km hn;have t5:decide (0<(n j:Int))=false:=Km (by omega);have b5:=Dp (show CG c j=0 by unfold CG;rw[<-am.out j (by omega),t4];rfl);generalize B2 c j=cj at *;clear hn ae
        go_wp2
        go_roundw
        case rel=>exact⟨j+1,by omega,by go_num,by rw[N.out,b5.out];first|rfl|(congr 1;omega),by trivial⟩
        case measure=>simp[RowKit.intOf];omega
      ·obtain rfl:j=4:=by omega
       have e4:=a6.out _ g 4 (by omega);have e5:=a6.out _ g 5 (by omega);have b6:=Dp (show BU c=2*CG c 4+CG c 5 from rfl);have H:=Dp (show CG c 4=(decide (0<n 4)).toNat by unfold CG;rw[<-am.out 4 (by omega)]);have I:=Dp (show CG c 5=(decide (0<n 5)).toNat by unfold CG;rw[<-am.out 5 (by omega)]);generalize B2 c 4=b7 at *
       go_upto_if 50 with fail
       go_cut [12] (fun v wz=>v=.int .i64 ((2*CG c 4:Nat):Int)/\wz=wr)
       case first=>
        by_cases hn:0<n 4
        ·have t4:decide (0<n 4)=true:=Kn hn;have t5:decide (0<(n 4:Int))=true:=Kn (by omega);rw[t4] at H;clear hn
         first|rw[t4]|rw[t5]|simp only[t4,t5]
         go_wp2
         go_meet
         case rel=>exact⟨by rw[H.out];rfl,by trivial⟩
        ·have t4:decide (0<n 4)=false:=Km hn;have t5:decide (0<(n 4:Int))=false:=Km (by omega);rw[t4] at H;clear hn
         first|rw[t4]|rw[t5]|simp only[t4,t5]
         go_wp2
         go_meet
         case rel=>exact⟨by rw[H.out];rfl,by trivial⟩
       case rest=>
        obtain⟨rfl,B⟩:=hcut;rw[B];clear B
        go_upto_if 55 with fail
        go_cut [12] (fun v wz=>v=.int .i64 ((BU c:Nat):Int)/\wz=wr)
        case first=>
         have de:CG c 4<=1:=Rk c 4;have bb:=Dp (show BU c=2*CG c 4+CG c 5 from rfl);generalize CG c 4=h4 at *;generalize BU c=ch at *;by_cases hn:0<n 5
         ·have t4:decide (0<n 5)=true:=Kn hn;have t5:decide (0<(n 5:Int))=true:=Kn (by omega);rw[t4] at I;clear hn
          first|rw[t4]|rw[t5]|simp only[t4,t5]
          go_wp2
          go_meet
          case rel=>exact⟨by rw[bb.out,I.out];first|rfl|(congr 1;simp;try omega),by trivial⟩
         ·have t4:decide (0<n 5)=false:=Km hn;have t5:decide (0<(n 5:Int))=false:=Km (by omega);rw[t4] at I;clear hn
          first|rw[t4]|rw[t5]|simp only[t4,t5]
          go_wp2
          go_meet
          case rel=>exact⟨by rw[bb.out,I.out];first|rfl|(congr 1;simp;try omega),by trivial⟩
        case rest=>
         obtain⟨rfl,B⟩:=hcut;rw[B];clear B;clear H I b6 e4 e5 D c1 c2;have ao:=Dp (fun z (a:Below (R+2) b z)=>(a0.out z a).2.2.1);have ST:=Dp (fun z (a:Below (R+2) b z)=>(a0.out z a).2.2.2.1)
         have df:=Dp (fun z (a:Below (R+2) b z)=>((ab z).mono fun e y h=>⟨h.1,a.trans (h.2.mono (by have:=a.size;have:=u.out;omega))⟩:A9 prog 109 #[.bool inter,.int .i64 c.kind,.int .i64 (BU c:Nat)] z fun e y=>e=.returned (.string kr)/\Below (R+2) b y))
         have bc:=Dp (fun z (a:Below (R+2) b z)=>((au z).mono fun e y h=>⟨h.1,h.2▸a⟩:A9 prog 52 #[.int .i64 c.kind] z fun e y=>e=.returned (.bool (AD c.kind))/\Below (R+2) b y))
         have dg:=Dp (fun z (a:Below (R+2) b z)=>((aq z).mono fun e y h=>⟨h.1,a.trans (h.2.mono (by have:=a.size;have:=u.out;omega))⟩:A9 prog 110 #[.bool (AD c.kind),.int .i64 (b7:Nat)] z fun e y=>e=.returned (.string pr)/\Below (R+2) b y))
         have b8:=Dp (fun z (a:Below (R+2) b z)=>((ar z).mono fun e y h=>⟨h.1,a.trans (h.2.mono (by have:=a.size;have:=u.out;omega))⟩:A9 prog 111 #[.int .i64 c.step] z fun e y=>e=.returned (.string sr)/\Below (R+2) b y));have r:=g.drew
         go_wp2
         refine BY (S:=fun x=>Below (R+2) b x) 19 (by kernel_rfl) (by kernel_rfl) r ?_;simp only[Dt,Bi,Hb,Ng]
         iterate 2 (refine AG ?_;simp only[A1])
         refine AP (v:=.string (so++bg)) (by kernel_rfl) (fun x _=>by go_simp;first|omega|trivial) ?_;simp only[A1]
         iterate 2 (refine AG ?_;simp only[A1])
         refine AN 3 _ ⟨R+1,2,none⟩ (.int .i64 c.kind) (by kernel_rfl) rfl rfl (fun x q=>by have D:=ao.out x q;go_simp) ?_;simp only[A1];refine AG ?_;simp only[A1];refine AS (by kernel_rfl) df.out (fun _=>by kernel_rfl) ?_;simp only[A1];refine AP (v:=.string ((so++bg)++kr)) (by kernel_rfl) (fun x _=>by go_simp;first|omega|trivial) ?_;simp only[A1];refine AG ?_;simp only[A1]
         refine AN 3 _ ⟨R+1,2,none⟩ (.int .i64 c.kind) (by kernel_rfl) rfl rfl (fun x q=>by have D:=ao.out x q;go_simp) ?_;simp only[A1];refine AS (by kernel_rfl) bc.out (fun _=>by kernel_rfl) ?_;simp only[A1];refine AG ?_;simp only[A1];refine AS (by kernel_rfl) dg.out (fun _=>by kernel_rfl) ?_;simp only[A1]
         refine AP (v:=.string (((so++bg)++kr)++pr)) (by kernel_rfl) (fun x _=>by go_simp;first|omega|trivial) ?_;simp only[A1];refine AG ?_;simp only[A1];refine AN 3 _ ⟨R+1,3,none⟩ (.int .i64 c.step) (by kernel_rfl) rfl rfl (fun x q=>by have D:=ST.out x q;go_simp) ?_;simp only[A1];refine AS (by kernel_rfl) b8.out (fun _=>by kernel_rfl) ?_;simp only[A1]
         refine AP (v:=.string ((((so++bg)++kr)++pr)++sr)) (by kernel_rfl) (fun x _=>by go_simp;first|omega|trivial) ?_;simp only[A1];refine BV fun x1 W=>?_;have dh:(AV f).size<=660:=by rw[H8];exact G.out
         have bd:=c7.out;rw[bd];clear bd;cases hik:AD c.kind with
         |true=>
          have b9:decide (c.kind<2)=false:=by rw[a9,hik];rfl
          have af:Hid (an=f++BC c 6):=Dp (by rw[ba.out];unfold IR;rw[hik];rfl)
          go_wp2
          go_loopw [8,13] (fun t v ag=>v=.int .i64 0/\t=.string (AV f)/\Below (R+2) b ag) (fun _ v _=>2-(RowKit.intOf v).toNat)
          case atStart=>exact⟨rfl,rfl,W⟩
          case round=>
           clear W g r;obtain⟨rfl,rfl,g⟩:=hrel;have c2:=ao.out _ g
           go_wp2
           go_loopw [8,14] (fun t v ah=>∃m:Nat,m<=6/\v=.int .i64 m/\t=.string (AV (f++BC c m))/\Below (R+2) b ah) (fun _ v _=>6-(RowKit.intOf v).toNat)
           case atStart=>exact⟨0,by omega,rfl,by rw[show BC c 0=[] from rfl,Fb],g⟩
           case round=>
            clear g c2;obtain⟨m,ca,rfl,rfl,g⟩:=hrel;by_cases l:m<6
            ·have t6:decide ((m:Int)<6)=true:=by simp;omega
             have cb:=Dp (fun z (a:Below (R+2) b z)=>cq.out z a m l);have cc:=Dp (fun z (a:Below (R+2) b z)=>(by have h:=a6.out z a m l;rw[am.out m l] at h;exact h:z.cell? ⟨R+1,12+m,none⟩=some (.slice (p m) (c.ev m).length (k m))))
             have ai:=Dp (fun z (a:Below (R+2) b z)=>((a8.out m l z (a7.out z a)).mono fun e s h=>⟨h.1,a.trans (h.2.mono (by have:=a.size;have:=u.out;omega))⟩:A9 prog 113 #[.bool (AD c.kind),.int .i64 (c.dc m),.slice (p m) (c.ev m).length (k m)] z fun e s=>e=.returned (.string ⟨(BE (AD c.kind) (c.dc m) (c.ev m)).toArray⟩)/\Below (R+2) b s))
             have J:(⟨(BE (AD c.kind) (c.dc m) (c.ev m)).toArray⟩:ByteArray).size<=8496:=by
              have V:=P.out (m+1) (by omega);have M:BC c (m+1)=BC c m++BE (AD c.kind) (c.dc m) (c.ev m):=rfl;rw[M,B9] at V;rw[HX];omega
             have K:=Dp (by rw[HP,show BC c (m+1)=BC c m++BE (AD c.kind) (c.dc m) (c.ev m) from rfl,<-Bd]:AV (f++BC c m)++(⟨(BE (AD c.kind) (c.dc m) (c.ev m)).toArray⟩:ByteArray)=AV (f++BC c (m+1)));have cd:(AV (f++BC c m)).size<=9990:=by
              have V:=P.out m (by omega);rw[H8,B9];have M:=G.out;omega
             rw[hik] at ai K J bc;generalize AV (f++BC c m)=sm at *;obtain⟨rb,L⟩:∃rb:ByteArray,⟨(BE true (c.dc m) (c.ev m)).toArray⟩=rb:=⟨_,rfl⟩;rw[L] at ai K J;clear L;have r:=g.drew
             go_wp2
             refine BY (S:=fun x=>Below (R+2) b x) 14 (by kernel_rfl) (by kernel_rfl) r ?_;simp only[Dt,Bi,Hb,Ng]
             iterate 2 (refine AG ?_;simp only[A1])
             refine AN 3 _ ⟨R+1,2,none⟩ (.int .i64 c.kind) (by kernel_rfl) rfl rfl (fun x q=>by have D:=ao.out x q;go_simp) ?_;simp only[A1];refine AS (by kernel_rfl) bc.out (fun _=>by kernel_rfl) ?_;simp only[A1]
             iterate 2 (refine AG ?_;simp only[A1])
             refine AP (by kernel_rfl) (fun x _=>by go_simp;rw[Bc (by omega)]) ?_;simp only[A1];refine AN 3 _ ⟨R+1,6+m,none⟩ (.int .i64 (c.dc m)) (by kernel_rfl) rfl rfl (fun x q=>by have D:=cb.out x q;go_simp) ?_;simp only[A1]
             iterate 2 (refine AG ?_;simp only[A1])
             refine AP (by kernel_rfl) (fun x _=>by go_simp;rw[Bc (by omega)]) ?_;simp only[A1];refine AN 72 _ ⟨R+1,12+m,none⟩ (.slice (p m) (c.ev m).length (k m)) (by kernel_rfl) rfl rfl (fun x q=>by have D:=cc.out x q;go_simp) ?_;simp only[A1];refine AS (by kernel_rfl) ai.out (fun _=>by kernel_rfl) ?_;simp only[A1]
             refine AP (v:=.string (sm++rb)) (by kernel_rfl) (fun x _=>by go_simp;first|omega|trivial) ?_;simp only[A1];refine BV fun x4 aj=>?_
             go_wp2
             go_roundw
             case rel=>exact⟨m+1,by omega,by go_num,by rw[K.out],aj⟩
             case measure=>simp[RowKit.intOf];omega
            ·obtain rfl:m=6:=by omega
             have ce:Hid (AV (f++BC c 6)=AV an):=Dp (by rw[af.out])
             go_wp2
             go_ret
             exact⟨by rw[<-ce.out];rfl,by rw[bf.out];exact a7.out _ g⟩
         |false=>
          have b9:decide (c.kind<2)=true:=by rw[a9,hik];rfl
          have af:Hid (an=(f++EO x y c 2)++BC c 6):=Dp (by rw[ba.out];unfold IR;rw[hik,Bd];rfl)
          go_wp2
          go_loopw [8,13] (fun t v ag=>∃j:Nat,j<=2/\v=.int .i64 j/\t=.string (AV (f++EO x y c j))/\Below (R+2) b ag) (fun _ v _=>2-(RowKit.intOf v).toNat)
          case atStart=>exact⟨0,by omega,rfl,by rw[show EO x y c 0=[] from rfl,Fb],W⟩
          case round=>
           clear W g r;obtain⟨j,di,rfl,rfl,g⟩:=hrel;have c2:=ao.out _ g;rcases (by omega:j=0\/j=1\/j=2) with rfl|rfl|rfl
           ·have cf:=Dp (fun z (a:Below (R+2) b z)=>(cr.out z a).1);have cg:=Dp (fun z (a:Below (R+2) b z)=>(a0.out z a).2.2.2.2.1);have ci:=Dp (fun z (a:Below (R+2) b z)=>((Q x z).mono fun e s h=>⟨h.1,h.2▸a⟩:A9 prog 98 #[.int .i64 x] z fun e s=>e=.returned (.int .i64 (AF x))/\Below (R+2) b s))
            have ck:=Dp (fun z (a:Below (R+2) b z)=>((Q (c.mx-AF x) z).mono fun e s h=>⟨h.1,h.2▸a⟩:A9 prog 98 #[.int .i64 (c.mx-AF x)] z fun e s=>e=.returned (.int .i64 (AF (c.mx-AF x)))/\Below (R+2) b s))
            have cl:=Dp (fun z (a:Below (R+2) b z)=>((av (AF (c.mx-AF x)) z).mono fun e s h=>⟨h.1,a.trans (h.2.mono (by have:=a.size;have:=u.out;omega))⟩:A9 prog 112 #[.int .i64 (AF (c.mx-AF x))] z fun e s=>e=.returned (.string (B3 (AF (c.mx-AF x))))/\Below (R+2) b s));have cm:=Dp (CL (by have:=IK x;omega):IntKind.i64.wrap (c.mx-AF x)=c.mx-AF x)
            have K:=Dp (by rw[HP];simp[EO]:AV (f++EO x y c 0)++B3 (AF (c.mx-AF x))=AV (f++EO x y c 1));have ak:(AV (f++EO x y c 0)).size<=690:=by
             rw[H8,B9];have V:=G.out;have M:(EO x y c 0).length<=13:=Ds _;omega
            have cn:(B3 (AF (c.mx-AF x))).size<=13:=F;generalize AV (f++EO x y c 0)=sv at *;generalize B3 (AF (c.mx-AF x))=dv at *;have r:=g.drew;clear F O
            go_wp2
            refine BY (S:=fun x=>Below (R+2) b x) 13 (by kernel_rfl) (by kernel_rfl) r ?_;simp only[Dt,Bi,Hb,Ng]
            iterate 4 (refine AG ?_;simp only[A1])
            refine AN 3 _ ⟨R+1,4,none⟩ (.int .i64 c.mx) (by kernel_rfl) rfl rfl (fun x q=>by have D:=cg.out x q;go_simp) ?_;simp only[A1]
            iterate 2 (refine AG ?_;simp only[A1])
            refine AN 3 _ ⟨R,0,none⟩ (.int .i64 x) (by kernel_rfl) rfl rfl (fun x q=>by have D:=cf.out x q;go_simp) ?_;simp only[A1];refine AS (by kernel_rfl) ci.out (fun _=>by kernel_rfl) ?_;simp only[A1];refine AP (v:=.int .i64 (c.mx-AF x)) (by kernel_rfl) (fun x _=>by have ws:=cm.out;go_simp) ?_;simp only[A1];refine AS (by kernel_rfl) ck.out (fun _=>by kernel_rfl) ?_;simp only[A1]
            refine AS (by kernel_rfl) cl.out (fun _=>by kernel_rfl) ?_;simp only[A1];refine AP (v:=.string (sv++dv)) (by kernel_rfl) (fun x _=>by go_simp;first|omega|trivial) ?_;simp only[A1];refine BV fun x3 al=>?_
            go_wp2
            go_roundw
            case rel=>exact⟨0+1,by omega,by first|rfl|trivial,by rw[K.out],al⟩
            case measure=>simp[RowKit.intOf]
           ·have cf:=Dp (fun z (a:Below (R+2) b z)=>(cr.out z a).2);have cg:=Dp (fun z (a:Below (R+2) b z)=>(a0.out z a).2.2.2.2.2);have ci:=Dp (fun z (a:Below (R+2) b z)=>((Q y z).mono fun e s h=>⟨h.1,h.2▸a⟩:A9 prog 98 #[.int .i64 y] z fun e s=>e=.returned (.int .i64 (AF y))/\Below (R+2) b s))
            have ck:=Dp (fun z (a:Below (R+2) b z)=>((Q (c.my-AF y) z).mono fun e s h=>⟨h.1,h.2▸a⟩:A9 prog 98 #[.int .i64 (c.my-AF y)] z fun e s=>e=.returned (.int .i64 (AF (c.my-AF y)))/\Below (R+2) b s))
            have cl:=Dp (fun z (a:Below (R+2) b z)=>((av (AF (c.my-AF y)) z).mono fun e s h=>⟨h.1,a.trans (h.2.mono (by have:=a.size;have:=u.out;omega))⟩:A9 prog 112 #[.int .i64 (AF (c.my-AF y))] z fun e s=>e=.returned (.string (B3 (AF (c.my-AF y))))/\Below (R+2) b s));have cm:=Dp (CL (by have:=IK y;omega):IntKind.i64.wrap (c.my-AF y)=c.my-AF y)
            have K:=Dp (by rw[HP];simp[EO]:AV (f++EO x y c 1)++B3 (AF (c.my-AF y))=AV (f++EO x y c 2));have ak:(AV (f++EO x y c 1)).size<=690:=by
             rw[H8,B9];have V:=G.out;have M:(EO x y c 1).length<=13:=F;omega
            have cn:(B3 (AF (c.my-AF y))).size<=13:=O;generalize AV (f++EO x y c 1)=sv at *;generalize B3 (AF (c.my-AF y))=dv at *;have r:=g.drew;clear F O
            go_wp2
            refine BY (S:=fun x=>Below (R+2) b x) 13 (by kernel_rfl) (by kernel_rfl) r ?_;simp only[Dt,Bi,Hb,Ng]
            iterate 4 (refine AG ?_;simp only[A1])
            refine AN 3 _ ⟨R+1,5,none⟩ (.int .i64 c.my) (by kernel_rfl) rfl rfl (fun x q=>by have D:=cg.out x q;go_simp) ?_;simp only[A1]
            iterate 2 (refine AG ?_;simp only[A1])
            refine AN 3 _ ⟨R,1,none⟩ (.int .i64 y) (by kernel_rfl) rfl rfl (fun x q=>by have D:=cf.out x q;go_simp) ?_;simp only[A1];refine AS (by kernel_rfl) ci.out (fun _=>by kernel_rfl) ?_;simp only[A1];refine AP (v:=.int .i64 (c.my-AF y)) (by kernel_rfl) (fun x _=>by have ws:=cm.out;go_simp) ?_;simp only[A1];refine AS (by kernel_rfl) ck.out (fun _=>by kernel_rfl) ?_;simp only[A1]
            refine AS (by kernel_rfl) cl.out (fun _=>by kernel_rfl) ?_;simp only[A1];refine AP (v:=.string (sv++dv)) (by kernel_rfl) (fun x _=>by go_simp;first|omega|trivial) ?_;simp only[A1];refine BV fun x3 al=>?_
            go_wp2
            go_roundw
            case rel=>exact⟨1+1,by omega,by first|rfl|trivial,by rw[K.out],al⟩
            case measure=>simp[RowKit.intOf]
           ·have ak:(AV (f++EO x y c 2)).size<=690:=by
             rw[H8,B9];have V:=G.out;have M:(EO x y c 2).length<=26:=by
              show ((B3 _).data.toList++(B3 _).data.toList).length<=26;rw[B9];have b1:(B3 (AF (c.mx-AF x))).data.toList.length<=13:=F;have b2:(B3 (AF (c.my-AF y))).data.toList.length<=13:=O;omega
             omega
            go_wp2
            go_loopw [8,14] (fun t v ah=>∃m:Nat,m<=6/\v=.int .i64 m/\t=.string (AV ((f++EO x y c 2)++BC c m))/\Below (R+2) b ah) (fun _ v _=>6-(RowKit.intOf v).toNat)
            case atStart=>exact⟨0,by omega,rfl,by rw[show BC c 0=[] from rfl,Fb],g⟩
            case round=>
             clear g c2;obtain⟨m,ca,rfl,rfl,g⟩:=hrel;by_cases l:m<6
             ·have t6:decide ((m:Int)<6)=true:=by simp;omega
              have cb:=Dp (fun z (a:Below (R+2) b z)=>cq.out z a m l);have cc:=Dp (fun z (a:Below (R+2) b z)=>(by have h:=a6.out z a m l;rw[am.out m l] at h;exact h:z.cell? ⟨R+1,12+m,none⟩=some (.slice (p m) (c.ev m).length (k m))))
              have ai:=Dp (fun z (a:Below (R+2) b z)=>((a8.out m l z (a7.out z a)).mono fun e s h=>⟨h.1,a.trans (h.2.mono (by have:=a.size;have:=u.out;omega))⟩:A9 prog 113 #[.bool (AD c.kind),.int .i64 (c.dc m),.slice (p m) (c.ev m).length (k m)] z fun e s=>e=.returned (.string ⟨(BE (AD c.kind) (c.dc m) (c.ev m)).toArray⟩)/\Below (R+2) b s))
              have J:(⟨(BE (AD c.kind) (c.dc m) (c.ev m)).toArray⟩:ByteArray).size<=8496:=by
               have V:=P.out (m+1) (by omega);have M:BC c (m+1)=BC c m++BE (AD c.kind) (c.dc m) (c.ev m):=rfl;rw[M,B9] at V;rw[HX];omega
              have K:=Dp (by rw[HP,show BC c (m+1)=BC c m++BE (AD c.kind) (c.dc m) (c.ev m) from rfl,<-Bd]:AV ((f++EO x y c 2)++BC c m)++(⟨(BE (AD c.kind) (c.dc m) (c.ev m)).toArray⟩:ByteArray)=AV ((f++EO x y c 2)++BC c (m+1)));have cd:(AV ((f++EO x y c 2)++BC c m)).size<=9990:=by
               have V:=P.out m (by omega);rw[H8,B9];have M:=ak;rw[H8] at M;omega
              rw[hik] at ai K J bc;generalize AV ((f++EO x y c 2)++BC c m)=sm at *;obtain⟨rb,L⟩:∃rb:ByteArray,⟨(BE false (c.dc m) (c.ev m)).toArray⟩=rb:=⟨_,rfl⟩;rw[L] at ai K J;clear L;have r:=g.drew
              go_wp2
              refine BY (S:=fun x=>Below (R+2) b x) 14 (by kernel_rfl) (by kernel_rfl) r ?_;simp only[Dt,Bi,Hb,Ng]
              iterate 2 (refine AG ?_;simp only[A1])
              refine AN 3 _ ⟨R+1,2,none⟩ (.int .i64 c.kind) (by kernel_rfl) rfl rfl (fun x q=>by have D:=ao.out x q;go_simp) ?_;simp only[A1];refine AS (by kernel_rfl) bc.out (fun _=>by kernel_rfl) ?_;simp only[A1]
              iterate 2 (refine AG ?_;simp only[A1])
              refine AP (by kernel_rfl) (fun x _=>by go_simp;rw[Bc (by omega)]) ?_;simp only[A1];refine AN 3 _ ⟨R+1,6+m,none⟩ (.int .i64 (c.dc m)) (by kernel_rfl) rfl rfl (fun x q=>by have D:=cb.out x q;go_simp) ?_;simp only[A1]
              iterate 2 (refine AG ?_;simp only[A1])
              refine AP (by kernel_rfl) (fun x _=>by go_simp;rw[Bc (by omega)]) ?_;simp only[A1];refine AN 72 _ ⟨R+1,12+m,none⟩ (.slice (p m) (c.ev m).length (k m)) (by kernel_rfl) rfl rfl (fun x q=>by have D:=cc.out x q;go_simp) ?_;simp only[A1];refine AS (by kernel_rfl) ai.out (fun _=>by kernel_rfl) ?_;simp only[A1]
              refine AP (v:=.string (sm++rb)) (by kernel_rfl) (fun x _=>by go_simp;first|omega|trivial) ?_;simp only[A1];refine BV fun x4 aj=>?_
              go_wp2
              go_roundw
              case rel=>exact⟨m+1,by omega,by go_num,by rw[K.out],aj⟩
              case measure=>simp[RowKit.intOf];omega
             ·obtain rfl:m=6:=by omega
              have ce:Hid (AV ((f++EO x y c 2)++BC c 6)=AV an):=Dp (by rw[af.out])
              go_wp2
              go_ret
              exact⟨by rw[<-ce.out];rfl,by rw[bf.out];exact a7.out _ g⟩
end Go.Proofs.YtjjmalchelniiaaGreatDoor
