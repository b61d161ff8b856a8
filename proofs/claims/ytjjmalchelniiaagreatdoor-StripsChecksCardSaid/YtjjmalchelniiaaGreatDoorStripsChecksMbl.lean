/- StripsChecks, 38. No condition. -/
import Derived.Test.YtjjmalchelniiaaGreatDoorStripsChecksMa
import Derived.Test.YtjjmalchelniiaaGreatDoorStripsChecksMz
import Derived.Test.YtjjmalchelniiaaGreatDoorStripsChecksMbk
open Go.Proofs.Tryz
set_option maxHeartbeats 2000000
namespace Go.Proofs.YtjjmalchelniiaaGreatDoor
open Go.RowKit Go.Lib
abbrev Mv:=@AllReadyH.cons
abbrev Mw:=@AllReadyH.nil
abbrev Mx:=@wpAnyH_ready
abbrev My:=@wp_region_held_drew
abbrev Mz:=@wpAnyH_done
abbrev N0:=@wp_store_row
theorem Ybu.lone {a b:Nat}{w x:World}(h:Ybu a b w x)(d:w.heap.size<=b):w.grownBy x (some a):=
 ⟨h.os,h.tape,h.output,h.size,fun k c hn=>h.block k c (fun e=>hn (by rw[e])) (by omega)⟩
def Wj (inter:Bool)(s:ByteArray)(rb:Nat)(x y:Int)(p:Nat)(w:World)(e:Ending)(a:World):Prop:=
 ∃(c:Cel) (q:Nat) (f:Int) (sl:Nat->Value),ctk inter (AA s.data.toList) x y p=(c,q,f)/\e=.returned (.tuple #[.agg (AF c sl).toArray,.int .i64 f])/\(∀i,i<6->DR a w.heap.size (sl i) (c.ev i))/\AG a rb s q/\w.grownBy a (some rb)
set_option maxRecDepth 100000 in
theorem aB {N:Nat}{w:World}{rb:Nat}{s:ByteArray}{p:Nat}(inter:Bool)(x y:Int)(ht:Ybq N w)(hN:N<=rb)(hr:AG w rb s p):
  Calls prog 178 #[.pointer (some ⟨rb,0,none⟩),.bool inter,.agg #[.int .i64 x,.int .i64 y]] w (Wj inter s rb x y p w):=by
 obtain⟨Y,W⟩:∃Y:Array Value,(AF DP nilS).toArray=Y:=⟨_,rfl⟩;have a7:∀w,(zeroValue 77).run prog w=.ok (.agg Y) w:=by rw[<-W];exact Wq
 have X:(prog.info? 77).map (·.size)=some Y.size:=W▸OT _ _;have an:Y.all (·.oneCell')=true:=W▸Po _ _ fun _ _=>rfl;obtain⟨A,wA,wB,wC,hA,aa,ab,ac,ad,a8,a9,H,ae,I,r⟩:=Xw w (.cells #[.int .i64 x,.int .i64 y] 73 (0,0)) (.cells Y 77 (0,0)) (.cells #[.pointer (some ⟨rb,0,none⟩),.int .i64 0] 212 (0,0));have ao:rb<A:=hA▸hr.lt;have af:AG wC rb s p:=hr.under r ao
 have ba:=hr.2.1;have a4:CW wC (A+2) rb s (p,0):=⟨I,af,by omega⟩;have p0:wC.cell? ⟨A,0,none⟩=some (.int .i64 x):=A2 (cs:=[.int .i64 x,.int .i64 y]) H rfl;have p1:wC.cell? ⟨A,1,none⟩=some (.int .i64 y):=A2 (cs:=[.int .i64 x,.int .i64 y]) H rfl;have r0:wC.cell? ⟨A+2,0,none⟩=some (.pointer (some ⟨rb,0,none⟩)):=A2 (cs:=[.pointer (some ⟨rb,0,none⟩),.int .i64 0]) I rfl
 have cc:=bC (N:=N) inter x y (ht.below (r.mono (by omega))) hN a4;have a5:=Dl W;have O:=Dl hA;have ap:=Dl aa;have aq:=Dl ab;have ar:=Dl ac;have au:=Dl r;have bb:=Dl ad;have av:=Dl ae;clear W hA aa ab ac r ad ae H I a4 ht hr hN
 go_enter func178,ntmps178
 go_wp2_with fail
 rw[ap.out,O.out,aq.out,ar.out];refine(E1 _ _ _ _ af).mono ?_;rintro e w0 ⟨rfl,rfl⟩
 go_wp2_with fail
 refine cc.mono ?_;rintro e P ⟨c,aw,sl,D,rfl,J,ag,t⟩;obtain⟨Z,Q⟩:=Ai ((AF c sl).toArray);rw[Q];obtain⟨C,R⟩:=Ai P.heap.size;obtain⟨T,h⟩:=Ai (P.alloc (.cells Z 77 (0,0)));have j:Below C P T:=by rw[<-h,<-R];exact(Dm _ P).alloc (Ba _) _
 have ax:=t.size;have u:=ag.under j (by omega);have ay:T.heap[C]? =some (.cells Z 77 (0,0)):=by rw[<-h,<-R];exact heap_alloc_new P _
 have ah:T.heap[A+1]? =some (.cells Y 77 (0,0)):=(j.block (A+1) (by omega)).trans ((t.block (A+1) (by omega) (by omega) (by omega)).trans av.out);have bc:C<T.heap.size:=by rw[<-h,<-R];simp
 have l:(prog.info? 77).map (·.size)=some Z.size:=Q▸OT _ _;have L:Y.size=Z.size:=by rw[<-Q,<-a5.out];rfl
 have m:Z.all (·.oneCell')=true:=Q▸Po _ _ fun i hi=>(J i hi).one;have d:w.grownBy T (some rb):=by
  have h1:Ybu rb (A+2) w P:=((Ybu.refl rb (A+2) w).onto au.out (Gb O.out)).trans t;exact(h1.onto j (by have:=h1.size;omega)).lone (by have:=O.out;omega)
 have E:∀i,i<6->DR T (A+2) (sl i) (c.ev i):=fun i hi=>((J i hi).from (by omega)).below (R▸j);have bd:=Dl Q;have a6:=Dl R;have ai:=Dl h;have F:=Dl D;have az:=Dl E;have aj:=A2 (o:=1) u.1 rfl;have a0:=A2 (o:=0) u.1 rfl;obtain⟨q,f⟩:=aw;simp only at aj a0;have bf:A+3<=C:=by omega
 clear Q R h D J E t ag j cc ax;by_cases hf:f=0
 ·subst hf
  go_wp2_with (first|(with_reducible refine BZ rfl 77 _ _ rfl Z Y 77 rfl rfl l L m ?_;rw[ai.out,a6.out])|(with_reducible refine Mo rfl 77 _ rfl C rfl 77 Z (0,0) _ ay Mp rfl l ?_)|(with_reducible refine B2 rfl 77 _ _ rfl (A+1) Z Y rfl rfl 77 ah l L m ?_;intro w5 M n))
  refine Hi (BF rfl _ _ (A+1) 77 _ (0,0) _ rfl M Mp rfl l) rfl ?_;have b:=M2 n (by omega)
  exact⟨c,q,0,sl,RT F.out,by rw[bd.out];rfl,fun i hi=>((az.out i hi).moved (Ybu.grown n (.inl rfl):Ybu (A+1) (A+1) _ _) (by omega) (by omega)).from (by have:=O.out;omega),u.2.1.under b (by omega),⟨b.os.trans d.os,b.tape.trans d.tape,b.output.trans d.output,Ea d.size b.size,fun k U hn=>(b.block k (by have:=O.out;omega)).trans (d.block k U hn)⟩⟩
 ·have g0:(f != 0)=true:=by simpa using hf
  have bg:=Dl hf;clear hf
  go_wp2_with (with_reducible refine BZ rfl 77 _ _ rfl Z Y 77 rfl rfl l L m ?_;rw[ai.out,a6.out])
  refine(GA _ _ _ _ (p:Int) u.2.1 (by omega) (by omega)).mono ?_;rintro e V ⟨rfl,ak,g⟩;rw[Do] at ak;have al:=(g.block (A+1) (by omega) (by simp;omega)).trans ah;have am:=(Fz (a:=⟨A+2,1,none⟩) (g.block (A+2) (by omega) (by simp;omega))).trans aj;have a1:=g.size
  go_wp2
  refine My (S:=(fun z=>z.cell? ⟨A+2,1,none⟩=some (.int .i64 f))) (by kernel_rfl) am (fun hH=>?_);refine F5 0 (some 29) (v:=.agg Y) rfl rfl hH (by kernel_rfl) (fun x _=>by go_simp;try with_reducible rfl) ?_
  try simp only[A1]
  refine AL 1 (some 30) hH ?_
  try simp only[A1]
  refine F5 2 (some 31) (v:=.int .i64 f) rfl rfl hH (by kernel_rfl) (fun x hx=>by have c0:=(show _ from hx);go_simp) ?_
  try simp only[A1]
  refine Mx (rs:=[3]) (by kernel_rfl) (by simp) ?_;refine Mv rfl (fun K hK=>?_) Mw;refine(Bc (by kernel_rfl)).mpr ?_;have G:V.drew.heap[A+1]? =some (.cells Y 77 (0,0)):=al;refine N0 77 _ _ rfl (A+1) Y rfl rfl 77 Y G X rfl an ?_;obtain⟨w5,B⟩:=Ai (V.drew.setRow (A+1) Y)
  have M:w5.heap[A+1]? =some (.cells Y 77 (0,0)):=by rw[<-B];exact En _ _ _ _ _ _ G
  have n:V.drew.grownBy w5 (some (A+1)):=by rw[<-B];exact⟨rfl,rfl,rfl,by simp,fun k _ U=>Em _ _ _ _ (by intro e;exact U (by rw[e]))⟩
  have a2:w5.cell? ⟨A+2,1,none⟩=some (.int .i64 f):=(Fz (a:=⟨A+2,1,none⟩) (n.block (A+2) (show A+2<V.heap.size by omega) (by simp))).trans am;rw[B];refine hK.out _ _ a2 (fun a3=>?_);clear hK K hH B;refine AL 4 (some 7) a3 ?_
  try simp only[Act.put]
  refine Mz (by kernel_rfl) ?_ _
  go_wp2
  refine Hi (BF rfl _ _ (A+1) 77 _ (0,0) _ rfl M Mp rfl X) rfl ?_;have b:=((Dm (A+1) V).drew).trans (M2 n (show A+1<V.heap.size by omega))
  exact⟨DP,p,f,nilS,eW bg.out (by rw[F.out]),by rw[a5.out];rfl,fun i hi=>DR.nil _ _,ak.under b (by omega),⟨b.os.trans (g.os.trans d.os),b.tape.trans (g.tape.trans d.tape),b.output.trans (g.output.trans d.output),Ea d.size (Ea a1 b.size),fun k U hn=>(b.block k (by have:=O.out;omega)).trans ((g.block k (Bg U d.size) hn).trans (d.block k U hn))⟩⟩
theorem yK (inter:Bool)(S:List UInt8)(x y:Int)(p i:Nat):((ctk inter S x y p).1.ev i).length<=65:=by
 have c:∀a b st,(CF a b S st).2.1.length<=65:=by
  intro a b st;unfold CF
  split
  ·exact kP S st.1 a b
  ·exact Dn _
 unfold ctk
 split
 ·simp only[GP]
  split
  ·exact Dn _
  ·exact c _ _ _
 ·exact Dn _
end Go.Proofs.YtjjmalchelniiaaGreatDoor