/- StripsWrites, 48. No condition. -/
import Derived.Test.YtjjmalchelniiaaGreatDoorStripsWritesMa
import Derived.Test.YtjjmalchelniiaaGreatDoorStripsWritesMx
import Derived.Test.YtjjmalchelniiaaGreatDoorStripsWritesMy
import Derived.Test.YtjjmalchelniiaaGreatDoorStripsWritesMbj
import Derived.Test.YtjjmalchelniiaaGreatDoorStripsWritesMbu
open Go.Proofs.Tryz
set_option maxHeartbeats 2000000
namespace Go.Proofs.YtjjmalchelniiaaGreatDoor
section
open Go.RowKit Go.Lib
abbrev Ov:=@wp_store_row
theorem Yb1.lone {a b:Nat}{w x:World}(h:Yb1 a b w x)(d:w.heap.size<=b):w.grownBy x (some a):=
 ⟨h.os,h.tape,h.output,h.size,fun k c hn=>h.block k c (fun e=>hn (by rw[e])) (by omega)⟩
def WU (inter:Bool)(s:ByteArray)(rb:Nat)(x y:Int)(p:Nat)(w:World)(e:Ending)(a:World):Prop:=
 ∃(c:Cel) (q:Nat) (f:Int) (sl:Nat->Value),ctk inter (A2 s.data.toList) x y p=(c,q,f)/\e=.returned (.tuple #[.agg (AJ c sl).toArray,.int .i64 f])/\(∀i,i<6->E4 a w.heap.size (sl i) (c.ev i))/\AI a rb s q/\w.grownBy a (some rb)
set_option maxRecDepth 100000 in
theorem dO {N:Nat}{w:World}{rb:Nat}{s:ByteArray}{p:Nat}(inter:Bool)(x y:Int)(ht:Ybw N w)(hN:N<=rb)(hr:AI w rb s p):
  Calls prog 178 #[.pointer (some ⟨rb,0,none⟩),.bool inter,.agg #[.int .i64 x,.int .i64 y]] w (WU inter s rb x y p w):=by
 obtain⟨Y,W⟩:∃Y:Array Value,(AJ Ec nilS).toArray=Y:=⟨_,rfl⟩;have a7:∀w,(zeroValue 77).run prog w=.ok (.agg Y) w:=by rw[<-W];exact VR
 have X:(prog.info? 77).map (·.size)=some Y.size:=W▸Qj _ _;have an:Y.all (·.oneCell')=true:=W▸PA _ _ fun _ _=>rfl;obtain⟨A,wA,wB,wC,hA,aa,ab,ac,ad,a8,a9,H,ae,I,r⟩:=ZI w (.cells #[.int .i64 x,.int .i64 y] 73 (0,0)) (.cells Y 77 (0,0)) (.cells #[.pointer (some ⟨rb,0,none⟩),.int .i64 0] 212 (0,0));have ao:rb<A:=hA▸hr.lt;have af:AI wC rb s p:=hr.under r ao
 have ba:=hr.2.1;have a4:D6 wC (A+2) rb s (p,0):=⟨I,af,by omega⟩;have p0:wC.cell? ⟨A,0,none⟩=some (.int .i64 x):=AA (cs:=[.int .i64 x,.int .i64 y]) H rfl;have p1:wC.cell? ⟨A,1,none⟩=some (.int .i64 y):=AA (cs:=[.int .i64 x,.int .i64 y]) H rfl;have r0:wC.cell? ⟨A+2,0,none⟩=some (.pointer (some ⟨rb,0,none⟩)):=AA (cs:=[.pointer (some ⟨rb,0,none⟩),.int .i64 0]) I rfl
 have cc:=gD (N:=N) inter x y (ht.below (r.mono (by omega))) hN a4;have a5:=Dp W;have O:=Dp hA;have ap:=Dp aa;have aq:=Dp ab;have ar:=Dp ac;have au:=Dp r;have bb:=Dp ad;have av:=Dp ae;clear W hA aa ab ac r ad ae H I a4 ht hr hN
 go_enter func178,ntmps178
 go_wp2_with fail
 rw[ap.out,O.out,aq.out,ar.out];refine(ED _ _ _ _ af).mono ?_;rintro e w0 ⟨rfl,rfl⟩
 go_wp2_with fail
 refine cc.mono ?_;rintro e P ⟨c,aw,sl,D,rfl,J,ag,t⟩;obtain⟨Z,Q⟩:=Ah ((AJ c sl).toArray);rw[Q];obtain⟨C,R⟩:=Ah P.heap.size;obtain⟨T,h⟩:=Ah (P.alloc (.cells Z 77 (0,0)));have j:Below C P T:=by rw[<-h,<-R];exact(Dq _ P).alloc (Ba _) _
 have ax:=t.size;have u:=ag.under j (by omega);have ay:T.heap[C]? =some (.cells Z 77 (0,0)):=by rw[<-h,<-R];exact heap_alloc_new P _
 have ah:T.heap[A+1]? =some (.cells Y 77 (0,0)):=(j.block (A+1) (by omega)).trans ((t.block (A+1) (by omega) (by omega) (by omega)).trans av.out);have bc:C<T.heap.size:=by rw[<-h,<-R];simp
 have l:(prog.info? 77).map (·.size)=some Z.size:=Q▸Qj _ _;have L:Y.size=Z.size:=by rw[<-Q,<-a5.out];rfl
 have m:Z.all (·.oneCell')=true:=Q▸PA _ _ fun i hi=>(J i hi).one;have d:w.grownBy T (some rb):=by
  have h1:Yb1 rb (A+2) w P:=((Yb1.refl rb (A+2) w).onto au.out (M1 O.out)).trans t;exact(h1.onto j (by have:=h1.size;omega)).lone (by have:=O.out;omega)
 have E:∀i,i<6->E4 T (A+2) (sl i) (c.ev i):=fun i hi=>((J i hi).from (by omega)).below (R▸j);have bd:=Dp Q;have a6:=Dp R;have ai:=Dp h;have F:=Dp D;have az:=Dp E;have aj:=AA (o:=1) u.1 rfl;have a0:=AA (o:=0) u.1 rfl;obtain⟨q,f⟩:=aw;simp only at aj a0;have bf:A+3<=C:=by omega
 clear Q R h D J E t ag j cc ax;by_cases hf:f=0
 ·subst hf
  go_wp2_with (first|(with_reducible refine DA rfl 77 _ _ rfl Z Y 77 rfl rfl l L m ?_;rw[ai.out,a6.out])|(with_reducible refine Mt rfl 77 _ rfl C rfl 77 Z (0,0) _ ay Mu rfl l ?_)|(with_reducible refine B4 rfl 77 _ _ rfl (A+1) Z Y rfl rfl 77 ah l L m ?_;intro w5 M n))
  refine H5 (BQ rfl _ _ (A+1) 77 _ (0,0) _ rfl M Mu rfl l) rfl ?_;have b:=MQ n (by omega)
  exact⟨c,q,0,sl,Sz F.out,by rw[bd.out];rfl,fun i hi=>((az.out i hi).moved (Yb1.grown n (.inl rfl):Yb1 (A+1) (A+1) _ _) (by omega) (by omega)).from (by have:=O.out;omega),u.2.1.under b (by omega),⟨b.os.trans d.os,b.tape.trans d.tape,b.output.trans d.output,Eg d.size b.size,fun k U hn=>(b.block k (by have:=O.out;omega)).trans (d.block k U hn)⟩⟩
 ·have g0:(f != 0)=true:=by simpa using hf
  have bg:=Dp hf;clear hf
  go_wp2_with (with_reducible refine DA rfl 77 _ _ rfl Z Y 77 rfl rfl l L m ?_;rw[ai.out,a6.out])
  refine(GH _ _ _ _ (p:Int) u.2.1 (by omega) (by omega)).mono ?_;rintro e V ⟨rfl,ak,g⟩;rw[Dr] at ak;have al:=(g.block (A+1) (by omega) (by simp;omega)).trans ah;have am:=(G3 (a:=⟨A+2,1,none⟩) (g.block (A+2) (by omega) (by simp;omega))).trans aj;have a1:=g.size
  go_wp2
  refine Nx (S:=(fun z=>z.cell? ⟨A+2,1,none⟩=some (.int .i64 f))) (by kernel_rfl) am (fun hH=>?_);refine FV 0 (some 29) (v:=.agg Y) rfl rfl hH (by kernel_rfl) (fun x _=>by go_simp;try with_reducible rfl) ?_
  try simp only[A1]
  refine AM 1 (some 30) hH ?_
  try simp only[A1]
  refine FV 2 (some 31) (v:=.int .i64 f) rfl rfl hH (by kernel_rfl) (fun x hx=>by have c0:=(show _ from hx);go_simp) ?_
  try simp only[A1]
  refine Nw (rs:=[3]) (by kernel_rfl) (by simp) ?_;refine Nu rfl (fun K hK=>?_) Nv;refine(Bc (by kernel_rfl)).mpr ?_;have G:V.drew.heap[A+1]? =some (.cells Y 77 (0,0)):=al;refine Ov 77 _ _ rfl (A+1) Y rfl rfl 77 Y G X rfl an ?_;obtain⟨w5,B⟩:=Ah (V.drew.setRow (A+1) Y)
  have M:w5.heap[A+1]? =some (.cells Y 77 (0,0)):=by rw[<-B];exact Et _ _ _ _ _ _ G
  have n:V.drew.grownBy w5 (some (A+1)):=by rw[<-B];exact⟨rfl,rfl,rfl,by simp,fun k _ U=>Es _ _ _ _ (by intro e;exact U (by rw[e]))⟩
  have a2:w5.cell? ⟨A+2,1,none⟩=some (.int .i64 f):=(G3 (a:=⟨A+2,1,none⟩) (n.block (A+2) (show A+2<V.heap.size by omega) (by simp))).trans am;rw[B];refine hK.out _ _ a2 (fun a3=>?_);clear hK K hH B;refine AM 4 (some 7) a3 ?_
  try simp only[Act.put]
  refine O0 (by kernel_rfl) ?_ _
  go_wp2
  refine H5 (BQ rfl _ _ (A+1) 77 _ (0,0) _ rfl M Mu rfl X) rfl ?_;have b:=((Dq (A+1) V).drew).trans (MQ n (show A+1<V.heap.size by omega))
  exact⟨Ec,p,f,nilS,kS bg.out (by rw[F.out]),by rw[a5.out];rfl,fun i hi=>E4.nil _ _,ak.under b (by omega),⟨b.os.trans (g.os.trans d.os),b.tape.trans (g.tape.trans d.tape),b.output.trans (g.output.trans d.output),Eg d.size (Eg a1 b.size),fun k U hn=>(b.block k (by have:=O.out;omega)).trans ((g.block k (Bg U d.size) hn).trans (d.block k U hn))⟩⟩
theorem sU (inter:Bool)(S:List UInt8)(x y:Int)(p i:Nat):((ctk inter S x y p).1.ev i).length<=65:=by
 have c:∀a b st,(CT a b S st).2.1.length<=65:=by
  intro a b st;unfold CT
  split
  ·exact oM S st.1 a b
  ·exact Ds _
 unfold ctk
 split
 ·simp only[H2]
  split
  ·exact Ds _
  ·exact c _ _ _
 ·exact Ds _
end
section
open Go.RowKit
theorem Z9 {ct:CelT}{l:List UInt8}{p q:Nat}{S:ShP}(h:wtk ct l p=(S,q,0)):q%8=0:=by
 unfold wtk at h;obtain⟨⟨hd,d,f⟩,e⟩:=Ah (shk l p);rw[e] at h;simp only at h;by_cases a:f=0
 case neg=>rw[Bc a] at h;injection h with _ h;injection h with _ h;exact absurd h a
 rw[Bb (fun x=>x a)] at h;obtain⟨⟨rs,z,g⟩,hr⟩:=Ah (DJ ct l hd.inter hd.fmt (BJ hd.fmt).toNat 0 d [] 0);rw[hr] at h;simp only at h;by_cases b:g=0
 case neg=>rw[Bc b] at h;injection h with _ h;injection h with _ h;exact absurd h b
 rw[Bb (fun x=>x b)] at h;by_cases c:AE l z (gap z)=0
 case neg=>rw[Bc c] at h;injection h with _ h;injection h with _ h;cases h
 rw[Bb (fun x=>x c)] at h;injection h with _ h;injection h with h _;rw[<-h];unfold gap;omega
structure StrP where
 sheets:List ShP
 fin:Bool
def EU:StrP:=⟨[],false⟩
def CR (a:Option Int)(S:ShP):Bool:=!S.hd.inter || a==some S.hd.fmt
def CZ:Option Int->List ShP->Int
 |_,[]=>0
 |pr,S::r=>if C4 S≠0 then C4 S else if CR pr S=false then 11 else CZ (some S.hd.fmt) r
def DP (t:StrP):Int:=if t.sheets.length=0\/64<t.sheets.length then 12 else CZ none t.sheets
def QO (a b:StrP):Bool:=a.fin==b.fin&&(decide (a.sheets.length=b.sheets.length)&&(a.sheets.zip b.sheets).all fun p=>shB p.1 p.2)
def CM (l:List ShP):Option Int:=l.getLast?.map (·.hd.fmt)
theorem rA (l:List ShP)(S:ShP):CM (l++[S])=some S.hd.fmt:=by unfold CM;rw[List.getLast?_concat];rfl
def F6 (ct:CelT)(l:List UInt8):Nat->Nat->List ShP->StrP×Nat×Int
 |0,p,_=>(EU,p / 8,13)
 |n+1,p,done=>
  if p=8*l.length then (if done.length=0 then (EU,p / 8,2) else (⟨done,false⟩,0,0))
  else if 0<done.length/\(B0 l p).2=0/\(B0 l p).1=31 then (if 8*l.length=p+24/\AE l (p+22) 2=0 then (⟨done,true⟩,0,0) else (EU,p / 8,5))
  else match wtk ct l p with
   |(S,q,f)=>if f≠0 then (EU,p / 8,f) else if 64<=done.length then (EU,p / 8,13) else if CR (CM done) S=false then (EU,p / 8,11) else F6 ct l n q (done++[S])
def JU (ct:CelT)(l:List UInt8):StrP×Nat×Int:=if 262144<l.length then (EU,0,13) else F6 ct l 65 0 []
def MR (b:Bool):List UInt8:=if b then BR 31++[48,48] else []
def BG (l:List ShP)(b:Bool):List UInt8:=l.flatMap (CV 0)++MR b
theorem uR {a b:Shd}(h:PU a b=true):a.fmt=b.fmt/\a.inter=b.inter:=by
 unfold PU at h;simp only[Al,Bm] at h;exact⟨h.2.2.1,h.2.2.2.1⟩
theorem UV {l:List UInt8}{p q n:Nat}(hn:n<32)(h:Seg (A2 l) p q (BR n)):(B0 l p).2=0/\(B0 l p).1=n/\q=p+22:=by
 obtain⟨a,e,b⟩:=ET (v:=32+n) (n:=22) h (by show 32+n<4194304;omega);rw[K0 b,a,Bc (by omega)];exact⟨rfl,by simp only;omega,e⟩
theorem YL {l:List UInt8}{p q:Nat}{S:ShP}{r:List UInt8}(h:Seg (A2 l) p q (CV 0 S++r)):(B0 l p).2=0/\(B0 l p).1=0:=by
 unfold CV at h;simp only[Bd] at h;obtain⟨z,h1,-⟩:=h.cut;obtain⟨a,b,-⟩:=UV (n:=0) (by decide) h1;exact⟨a,b⟩
theorem We {ct:CelT}{l:List UInt8}{b:Bool}(k:OV ct (A2 l)):∀(rest:List ShP) (n p:Nat) (done:List ShP),p%8=0->done.length+rest.length<=64->rest.length<n->0<done.length+rest.length->CZ (CM done) rest=0->
  Seg (A2 l) p (8*l.length) (BG rest b)->∃T,F6 ct l n p done=(T,0,0)/\T.fin=b/\∃r',T.sheets=done++r'/\r'.length=rest.length/\((r'.zip rest).all fun p=>shB p.1 p.2)=true
 |[],0,p,done,_,_,hn,_,_,_=>by cases hn
 |[],n+1,p,done,_,_,_,o,_,hs=>by
  rw[F6];have o:0<done.length:=o;cases b with
  |false=>
   have e:8*l.length=p:=hs.len;rw[Bc e.symm,Bb (by omega)];exact⟨⟨done,false⟩,rfl,rfl,[],by simp,rfl,rfl⟩
  |true=>
   have d:Seg (A2 l) p (8*l.length) (BR 31++[48,48]):=hs;have c:=d.len;rw[B9,GI] at c;have c:8*l.length=p+24:=c;obtain⟨z,j,h⟩:=d.cut;obtain⟨A,u,D⟩:=UV (n:=31) (by decide) j;subst D;have E:Seg (A2 l) (p+22) (8*l.length) (AB 0 2):=by rw[NT];exact h
   obtain⟨t,-,-⟩:=ET E (by decide);rw[Bb (by omega),Bc ⟨o,A,u⟩,Bc ⟨c,t⟩];exact⟨⟨done,true⟩,rfl,rfl,[],by simp,rfl,rfl⟩
 |S::rest,0,p,done,_,_,hn,_,_,_=>by cases hn
 |S::rest,n+1,p,done,h8,h64,hn,o,hE,hs=>by
  rw[F6];rw[An] at h64 hn;rw[CZ] at hE;by_cases f:C4 S=0
  case neg=>rw[Bc f] at hE;exact absurd hE f
  rw[Bb (fun x=>x f)] at hE;by_cases g:CR (CM done) S=false
  ·rw[Bc g] at hE;exact absurd hE (by decide)
  rw[Bb g] at hE;have d:Seg (A2 l) p (8*l.length) (CV 0 S++BG rest b):=by
   unfold BG at hs ⊢;rw[G8,Bd] at hs;exact hs
  obtain⟨A,u⟩:=YL d;obtain⟨q,j,h⟩:=d.cut;have v:=xS 0 S;have B:=j.len;have F:=j.2.1;rw[BO] at F;rw[Bb (by omega),Bb (fun x=>by rw[u] at x;exact absurd x.2.2 (by decide))];have i:q=8*l.length\/(B0 l q).2=0:=by
   cases rest with
   |cons G r2=>
    right
    have h2:Seg (A2 l) q (8*l.length) (CV 0 G++BG r2 b):=by
     unfold BG at h ⊢;rw[G8,Bd] at h;exact h
    exact(YL h2).1
   |nil=>
    cases b with
    |false=>
     left
     have e:8*l.length=q:=h.len;exact e.symm
    |true=>
     right
     have h2:Seg (A2 l) q (8*l.length) (BR 31++[48,48]):=h;obtain⟨z,h3,-⟩:=h2.cut;exact(UV (n:=31) (by decide) h3).1
  rw[VX (p:=0) (q:=p) (by omega)] at j;obtain⟨r,C,s⟩:=oQ k h8 f j i;have w:=Z9 C;have y:=uR (a:=r.hd) (b:=S.hd) (by unfold shB at s;rw[Al] at s;exact s.1);have m:¬ CR (CM done) r=false:=by
   unfold CR at g ⊢;rw[y.1,y.2];exact g
  obtain⟨T,H,I,r',J,K,L⟩:=We k rest n q (done++[r]) w (by rw[B9];simp only[An,By];omega) (by omega) (by rw[B9];simp only[An,By];omega)
   (by rw[rA,y.1];exact hE) h
  refine⟨T,?_,I,r::r',by rw[J];simp,by rw[An,An,K],by rw[Ln,Gs,s,L];rfl⟩;rw[C];simp only;rw[Bb (by decide),Bb (by omega),Bb m];exact H
theorem iD {ct:CelT}{l:List UInt8}{T:StrP}(d:OV ct (A2 l))(a:DP T=0)(hl:l.length<=262144)(hs:A2 l=BG T.sheets T.fin):∃c,JU ct l=(c,0,0)/\QO c T=true:=by
 unfold DP at a;by_cases e:T.sheets.length=0\/64<T.sheets.length
 ·rw[Bc e] at a;exact absurd a (by decide)
 rw[Bb e] at a;have b:Seg (A2 l) 0 (8*l.length) (BG T.sheets T.fin):=⟨Ds _,by rw[BO];exact Ba _,by rw[I0,Nat.sub_zero,<-BO,J1,hs]⟩;obtain⟨c,g,h,r',f,i,j⟩:=We d T.sheets 65 0 [] rfl (by simp only[By];omega) (by omega) (by simp only[By];omega) a b;refine⟨c,by unfold JU;rw[Bb (by omega)];exact g,?_⟩
 rw[Cc] at f;unfold QO;rw[h,f,i];simp[j]
theorem Xt {l:List UInt8}(h:l.length%8=0):HV l=l:=by
 unfold HV;rw[show (8-l.length%8)%8=0 by omega];exact Fb l
theorem uH (a b:List UInt8):A2 (a++b)=A2 a++A2 b:=by unfold A2;rw[Oc]
theorem wM {a b:List UInt8}(c:AL a=true)(d:AL b=true)(e:a.length%8=0):BM (a++b)=BM a++BM b:=by
 apply T0;rw[uH,Qw a c,Qw b d,Qw (a++b) (by rw[CO,c,d];rfl),Xt e];unfold HV;rw[B9,Bd,show (8-(a.length+b.length)%8)%8=(8-b.length%8)%8 by omega]
theorem cB (l:List ShP):AL (l.flatMap (CV 0))=true:=by
 induction l with
 |nil=>rfl
 |cons S l a=>rw[G8,CO,U9,a];rfl
theorem mC (l:List ShP):(l.flatMap (CV 0)).length%8=0:=by
 induction l with
 |nil=>rfl
 |cons S l a=>
  have h:=Sn [] S;rw[RO] at h;rw[G8,B9];omega
theorem zR (b:Bool):AL (MR b)=true:=by cases b <;> decide +kernel
theorem XU (l:List ShP)(b:Bool):AL (BG l b)=true:=by
 unfold BG;rw[CO,cB,zR];rfl
theorem ZB (l:List ShP)(b:Bool):(BG l b).length%8=0:=by
 have h:=mC l;unfold BG;rw[B9];cases b with
 |false=>exact h
 |true=>
  have e:(MR true).length=24:=by decide +kernel
  rw[e];omega
theorem aX {s:List ShP}{b:Bool}:A2 (BM (BG s b))=BG s b:=by rw[Qw _ (XU s b),Xt (ZB s b)]
theorem Q6 (s:List ShP)(b:Bool):8*(BM (BG s b)).length=(BG s b).length:=by rw[<-BO,aX]
def DG (r:List UInt8)(l:List ShP):List UInt8:=l.foldl DI r
theorem XA:∀(l:List ShP) (r:List UInt8),r.length%8=0->DG r l=r++l.flatMap (CV 0)
 |[],r,_=>(Fb r).symm
 |S::l,r,h=>by
  show DG (DI r S) l=_;rw[XA l (DI r S) (Sn r S),cT h,G8,Bd]
theorem S9 (l:List ShP):DG [] l=BG l false:=by
 rw[XA l [] rfl];unfold BG MR;rw[Bb (by decide),Fb];rfl
theorem yZ (r:List UInt8)(l:List ShP)(S:ShP):DG r (l++[S])=DI (DG r l) S:=by unfold DG;rw[Gm];rfl
theorem cC (l:List ShP):DS (DG [] l) 31++List.replicate (gap (DS (DG [] l) 31).length) 48=BG l true:=by
 have b:=ZB l false;rw[S9];have a:gap (BG l false).length=0:=by unfold gap;omega
 unfold DS;rw[a,Ot,Fb];rw[show gap (BG l false++BR 31).length=2 by rw[B9,GI];unfold gap;omega];unfold BG;rw[show MR true=BR 31++List.replicate 2 48 from rfl,show MR false=[] from rfl];simp only[Fb,Bd]
theorem WX:∀(l:List ShP) (b:Bool),BM (BG l b)=(l.flatMap fun S=>BM (DI [] S))++(if b then BM (BR 31) else [])
 |[],b=>by
  cases b with
  |false=>rfl
  |true=>
   show BM (BR 31++[48,48])=_;rw[Bc rfl]
   decide +kernel
 |S::l,b=>by
  have h:=Sn [] S;rw[RO] at h;have e:BG (S::l) b=CV 0 S++BG l b:=by unfold BG;rw[G8,Bd]
  rw[e,wM (U9 0 S) (XU l b) h,WX l b,G8,RO,Bd]
theorem Td {ct:CelT}{l:List UInt8}{p:Nat}{done:List ShP}(n:Nat)(h:p=8*l.length):F6 ct l (n+1) p done=if done.length=0 then (EU,p / 8,2) else (⟨done,false⟩,0,0):=by rw[F6,Bc h]
theorem tR {ct:CelT}{l:List UInt8}{p:Nat}{done:List ShP}(n:Nat)(h:p≠8*l.length)(hm:0<done.length/\(B0 l p).2=0/\(B0 l p).1=31):
  F6 ct l (n+1) p done=if 8*l.length=p+24/\AE l (p+22) 2=0 then (⟨done,true⟩,0,0) else (EU,p / 8,5):=by rw[F6,Bb h,Bc hm]
theorem W9 {ct:CelT}{l:List UInt8}{p q:Nat}{f:Int}{S:ShP}{done:List ShP}(n:Nat)(h:p≠8*l.length)(hm:¬ (0<done.length/\(B0 l p).2=0/\(B0 l p).1=31))(a:wtk ct l p=(S,q,f)):
  F6 ct l (n+1) p done=if f≠0 then (EU,p / 8,f) else if 64<=done.length then (EU,p / 8,13) else if CR (CM done) S=false then (EU,p / 8,11) else F6 ct l n q (done++[S]):=by rw[F6,Bb h,Bb hm,a]
theorem Um:∀(a b:List ShP) (c:Option Int),CZ c (a++b)=if CZ c a≠0 then CZ c a else CZ (if a.length=0 then c else CM a) b
 |[],b,c=>by simp[CZ]
 |S::a,b,c=>by
  have d:∀r,CZ c (S::r)=if C4 S≠0 then C4 S else if CR c S=false then 11 else CZ (some S.hd.fmt) r:=fun r=>by rw[CZ]
  rw[J2,d,d];by_cases h1:C4 S=0
  case neg=>simp[h1]
  by_cases h2:CR c S=false
  ·simp[h1,h2]
  have h3:=Um a b (some S.hd.fmt);simp only[h1,h2,ne_eq,not_true_eq_false,B8,An,Nat.add_one_ne_zero] at h3 ⊢;rw[h3];cases a with
  |nil=>simp[CZ,CM]
  |cons U a=>simp[CM]
theorem tS {a:List ShP}{S:ShP}(h:CZ none a=0):CZ none (a++[S])=if C4 S≠0 then C4 S else if CR (CM a) S=false then 11 else 0:=by
 rw[Um,Bb (fun x=>x h)];cases a with
 |nil=>rfl
 |cons U a=>rfl
theorem lA {a b:List ShP}(h:CZ none a≠0):CZ none (a++b)=CZ none a:=by rw[Um,Bc h]
theorem VU {T:StrP}(h:DP T=0):(0<T.sheets.length/\T.sheets.length<=64)/\CZ none T.sheets=0:=by
 unfold DP at h;by_cases a:T.sheets.length=0\/64<T.sheets.length
 ·rw[Bc a] at h;exact absurd h (by decide)
 ·rw[Bb a] at h;exact⟨by omega,h⟩
theorem SV:∀{l:List ShP} {b:Option Int},CZ b l=0->∀S∈l,C4 S=0
 |[],_,_,S,a=>by cases a
 |U::l,b,h,S,a=>by
  rw[CZ] at h;by_cases h1:C4 U=0
  case neg=>rw[Bc h1] at h;exact absurd h h1
  rw[Bb (fun x=>x h1)] at h;by_cases h2:CR b U=false
  ·rw[Bc h2] at h;exact absurd h (by decide)
  rw[Bb h2] at h;rcases Ei.1 a with rfl|a
  ·exact h1
  ·exact SV h S a
theorem iA (S:ShP):8*S.zeros.toNat+50<=(CV 0 S).length:=by
 have h:=PS [] S;rw[RO] at h;have h2:50<=(FS [] S).length:=by
  unfold FS Hf DS;simp only[B9,GI,Pl,Bl];omega
 rw[h,B9,B9,Bl,Bl];omega
theorem Y99 {l:List ShP}{S:ShP}(h:S∈l):(CV 0 S).length<=(l.flatMap (CV 0)).length:=by
 induction l with
 |nil=>cases h
 |cons U l a=>
  rw[G8,B9];rcases Ei.1 h with rfl|h
  ·omega
  ·have:=a h;omega
theorem Qgu {l:List ShP}{S:ShP}(b:Bool)(h:S∈l)(a:262144<=S.zeros):262144<(BM (BG l b)).length:=by
 have h1:=Q6 l b;have h2:=iA S;have h3:=Y99 h;have h4:(BG l b).length=(l.flatMap (CV 0)).length+(MR b).length:=by unfold BG;rw[B9]
 omega
theorem VC:∀(l:List ShP) (r:List UInt8),r.length<=(DG r l).length
 |[],r=>Ba _
 |S::l,r=>by
  have h:=VC l (DI r S);have h2:r.length<=(DI r S).length:=by unfold DI;rw[B9];omega
  show _<=(DG (DI r S) l).length;omega
theorem lL (a b:List ShP)(f:Bool):(DG [] a).length<=(BG (a++b) f).length:=by
 have h:DG [] (a++b)=DG (DG [] a) b:=by unfold DG;rw[Gm]
 have h1:=VC b (DG [] a);rw[<-h,S9 (a++b)] at h1;unfold BG at h1 ⊢;rw[B9] at h1 ⊢;have:(MR false).length=0:=rfl;omega
theorem yN {a b:StrP}(h:QO a b=true):a.sheets.length=b.sheets.length/\a.fin=b.fin:=by
 unfold QO at h;simp only[Al,Bm,Fi] at h;exact⟨h.2.1,h.1⟩
theorem qX (ct:CelT)(l:List UInt8):wtk ct l (8*l.length)=(JV,8*l.length,2):=by
 have hm:B0 l ((8*l.length:Nat):Int)=(0,2):=NY (Ba _) (by omega);have h1:D7 l (8*l.length)=2:=by
  unfold D7;rw[Bb (by omega),hm];rfl
 have h2:=Rs (l:=l) (p:=8*l.length) (by rw[h1];decide);rw[h1] at h2;unfold wtk;rw[h2];rfl
theorem cU {ct:CelT}{l:List UInt8}{p q:Nat}{f:Int}{S:ShP}{done:List ShP}(n:Nat)(h:done.length≠0->p≠8*l.length/\¬ ((B0 l p).2=0/\(B0 l p).1=31))(a:wtk ct l p=(S,q,f)):
  F6 ct l (n+1) p done=if f≠0 then (EU,p / 8,f) else if 64<=done.length then (EU,p / 8,13) else if CR (CM done) S=false then (EU,p / 8,11) else F6 ct l n q (done++[S]):=by
 by_cases b:done.length=0
 ·by_cases c:p=8*l.length
  ·rw[Td n c,Bc b];rw[c,qX] at a;injection a with _ a;injection a with _ a;rw[<-a,Bc (by decide)]
  ·exact W9 n c (by omega) a
 ·exact W9 n (h b).1 (fun x=>(h b).2 x.2) a
def KA (f:Int)(n:Nat)(fo:Bool):Int:=if f≠0 then f else if 64<=n then 13 else if fo=false then 11 else 0
theorem qT {ct:CelT}{l:List UInt8}{p q:Nat}{f:Int}{S:ShP}{done:List ShP}(n:Nat)(h:done.length≠0->p≠8*l.length/\¬ ((B0 l p).2=0/\(B0 l p).1=31))(b:wtk ct l p=(S,q,f)):
  F6 ct l (n+1) p done=if KA f done.length (CR (CM done) S)≠0 then (EU,p / 8,KA f done.length (CR (CM done) S)) else F6 ct l n q (done++[S]):=by
 rw[cU n h b];unfold KA;by_cases a:f=0
 ·subst a;by_cases h1:64<=done.length
  ·simp[h1]
  ·by_cases h2:CR (CM done) S=false
   ·simp[h1,h2]
   ·simp[h1,h2]
 ·simp[a]
theorem xD {f:Int}{n:Nat}{fo:Bool}(h:KA f n fo=0):f=0/\n<64/\fo=true:=by
 unfold KA at h;by_cases a:f=0
 ·subst a;rw[Bb (by decide)] at h;by_cases h1:64<=n
  ·rw[Bc h1] at h;exact absurd h (by decide)
  ·rw[Bb h1] at h;cases fo with
   |false=>exact absurd h (by decide)
   |true=>exact⟨rfl,by omega,rfl⟩
 ·rw[Bc a] at h;exact absurd h a
theorem tT {ct:CelT}{l:List UInt8}{p:Nat}{done:List ShP}(n:Nat)(h:p=8*l.length)(a:done.length≠0):F6 ct l (n+1) p done=(⟨done,false⟩,0,0):=by rw[Td n h,Bb a]
def P0:List UInt8:=BM (BR 31++[48,48])
theorem xT:A2 P0=BR 31++[48,48]:=by decide +kernel
theorem oO:P0.length=3:=by decide +kernel
theorem vY {l:List UInt8}{a:Nat}(f:a<=l.length)(hm:(B0 l ((8*a:Nat):Int)).2=0/\(B0 l ((8*a:Nat):Int)).1=31):l.drop a=P0↔8*l.length=8*a+24/\AE l (8*a+22) 2=0:=by
 constructor
 ·intro h;have hl:=C6 List.length h;rw[Bj,oO] at hl;refine⟨by omega,?_⟩;have h1:=Tk l a 3 (by omega);rw[<-show (l.drop a).take 3=l.drop a from Bk (by rw[Bj];omega)] at h;rw[h,xT] at h1;have hs:Seg (A2 l) (8*a) (8*a+24) (BR 31++[48,48]):=⟨by omega,by rw[BO];omega,by rw[show 8*a+24-8*a=8*3 by omega];exact h1.symm⟩;obtain⟨z,b,d⟩:=hs.cut
  have e:=b.len;rw[GI] at e;subst e;have c:Seg (A2 l) (8*a+22) (8*a+24) (AB 0 2):=by rw[NT];exact d
  exact(ET c (by decide)).1
 ·rintro⟨h1,h2⟩;have ht:AE l (8*a) 22=32+31:=by
   rw[K0 (by omega)] at hm;by_cases ht:AE l (8*a) 22 / 32=1
   ·rw[Bc ht] at hm;simp only at hm;omega
   ·rw[Bb ht] at hm;exact absurd hm.1 (by decide)
  have b:=GN (l:=l) (p:=8*a) (n:=22) (by omega);rw[ht] at b;have d:=Ry (l:=l) (p:=8*a+22) (n:=2) (by omega) h2;have c:=b.app d;rw[show 8*a+22+2=8*(a+3) by omega] at c;have h3:=sK c;rw[show a+3-a=3 by omega,Bk (by rw[Bj];omega)] at h3;exact h3.symm
theorem V7 {l:List ShP}{i:Nat}(hi:i<l.length)(h:CZ none (l.take i)=0):CZ none (l.take (i+1))=if C4 l[i]≠0 then C4 l[i] else if CR (CM (l.take i)) l[i]=false then 11 else 0:=by
 rw[Be hi];exact tS h
theorem Vd {l:List ShP}{i:Nat}(h:CZ none (l.take i)≠0):CZ none l=CZ none (l.take i):=by
 have h1:=lA (b:=l.drop i) h;rw[Bs] at h1;exact h1
def IQ (T:StrP):List UInt8×Int:=if DP T≠0 then ([],DP T) else if 262144<(BM (BG T.sheets T.fin)).length then ([],13) else (BM (BG T.sheets T.fin),0)
theorem bP {T:StrP}(h:DP T≠0):IQ T=([],DP T):=Bc h
theorem Qgk {T:StrP}(h:DP T=0)(h1:2097152<(BG T.sheets T.fin).length):IQ T=([],13):=by
 unfold IQ;rw[Bb (fun x=>x h),Bc (by have:=Q6 T.sheets T.fin;omega)]
theorem XW {T:StrP}(h:DP T=0)(h1:(BG T.sheets T.fin).length<=2097152):IQ T=(BM (BG T.sheets T.fin),0):=by
 unfold IQ;rw[Bb (fun x=>x h),Bb (by have:=Q6 T.sheets T.fin;omega)]
theorem YC {T:StrP}(h:DP T=0)(h1:262144<(BM (BG T.sheets T.fin)).length):IQ T=([],13):=by
 unfold IQ;rw[Bb (fun x=>x h),Bc h1]
theorem lT {T:StrP}(h:DP T=0)(h1:¬ 262144<(BM (BG T.sheets T.fin)).length):IQ T=(BM (BG T.sheets T.fin),0):=by
 unfold IQ;rw[Bb (fun x=>x h),Bb h1]
theorem cX (l:List UInt8):OV ctk (A2 l):=fun _ _ _ _ _ _ h hm=>wZ h hm
end
end Go.Proofs.YtjjmalchelniiaaGreatDoor
