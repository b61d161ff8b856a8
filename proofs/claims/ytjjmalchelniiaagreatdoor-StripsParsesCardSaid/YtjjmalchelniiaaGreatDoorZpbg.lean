/- No condition. -/
import Derived.Test.YtjjmalchelniiaaGreatDoorZpd
import Derived.Test.YtjjmalchelniiaaGreatDoorZps
import Derived.Test.YtjjmalchelniiaaGreatDoorZpbc
import Derived.Test.YtjjmalchelniiaaGreatDoorZpbd
import Derived.Test.YtjjmalchelniiaaGreatDoorZpbf
open Go.Proofs.Tryz
open Go renaming World->A5,Calls->A9
set_option maxHeartbeats 4000000
namespace Go.Proofs.YtjjmalchelniiaaGreatDoor
section
theorem Wei{p:Prop}(h:p:=by
 cases inter <;> decide +kernel):p:=h
theorem Weh{p:Prop}(h:p:=by
 rintro e a ⟨v,rfl,ho,f⟩;have e1:(⟨#[c]⟩:ByteArray).data.toList=[c]:=rfl;rw[e1,d] at ho;exact⟨v,rfl,ho,b.trans f⟩):p:=h
theorem Weg{p:Prop}(h:p:=by
 have qw:wrap64 (a:Int)=(a:Int):=uK;by_cases h2:(a:Int)=2
 ·rw[Bb h2] at d;have F:=Dm d;have M:((a:Int)==2)=true:=by rw[Bj];exact h2
  clear d h2 l I J g k L
  go_wp2
  exact Is (Rz rfl _ _ _) rfl (Q0 F.out (C6 _) S.out)
 ·rw[Ba h2] at d;have F:=Dm d;have M:((a:Int)==2)=false:=vI;clear d h2 l I J g k L
  go_wp2
  rw[qw];exact Is (Rz rfl _ _ _) rfl (Q0 F.out rfl S.out)):p:=h
theorem yO{p:Prop}(h:p:=by rw[u.out];exact F.out):p:=h
abbrev N5:=@Int.tdiv_eq_ediv_of_nonneg
abbrev N6:=@Int.tmod_eq_emod_of_nonneg
abbrev N9:=@World.size_alloc
def D4 (inter:Bool):List (ByteArray×Sym):=((List.range 24).map (EA inter)).filter fun x=>!(rowCY x).isEmpty
def mtk (inter:Bool)(b:List UInt8):Int×Int×Int×Nat:=
 if (tk ((D4 inter).map rowCY) b 25 1).1=0 then
  match (D4 inter).find? (fun x=>rowCY x==b.take (tk ((D4 inter).map rowCY) b 25 1).2) with
  |some x=>if sA x.2=2 then (0,0,6,0) else (sA x.2,sB x.2,0,(tk ((D4 inter).map rowCY) b 25 1).2)
  |none=>(0,0,0,0)
 else (0,0,(tk ((D4 inter).map rowCY) b 25 1).1,0)
theorem TU (inter:Bool):CJ ((D4 inter).map rowCY):=by
 cases inter <;> (unfold CJ;decide +kernel)
theorem VF (inter:Bool):∀x∈D4 inter,BW (rowCY x)=true:=by
 exact Wei
theorem R1 (inter:Bool)(c:UInt8):E6 inter [c] 24=(D4 inter).filter fun x=>[c].isPrefixOf (rowCY x):=by
 unfold E6 D4;rw[Jz];apply K8;intro x _;cases h:[c].isPrefixOf (rowCY x) with
 |false=>rfl
 |true=>
  cases hr:rowCY x with
  |nil=>rw[hr] at h;cases h
  |cons a l=>rfl
theorem Qpz (inter:Bool){c:UInt8}(hc:c=48\/c=49):L2 (E6 inter [c] 24):=by
 have b:CJ ((E6 inter [c] 24).map rowCY):=by
  rw[R1];exact(TU inter).sublist ((List.filter_sublist).map rowCY)
 have ho:∀x∈E6 inter [c] 24,BW (rowCY x)=true:=fun x a=>by
  rw[R1] at a;exact VF inter x (Jf.1 a).1
 refine⟨?_,Ef (Vx inter [c] 24) sX,ho,b,?_⟩
 ·rcases hc with rfl|rfl <;> cases inter <;> decide +kernel
 ·rcases hc with rfl|rfl <;> cases inter <;> decide +kernel
theorem Qpx (inter:Bool){b:List UInt8}{c:UInt8}(h:b.take 1=[c]){ds:List (ByteArray×Sym)}(d:ds.Perm (E6 inter [c] 24)):tk (ds.map rowCY) b 25 1=tk ((D4 inter).map rowCY) b 25 1:=by
 have hl:1<=b.length:=by
  cases b with
  |nil=>cases h
  |cons a l=>simp
 rw[Rp (d.map rowCY),TR ((D4 inter).map rowCY) b hl 25 1 (B9 _),R1,List.filter_map,h]
 rfl
theorem qG (inter:Bool){x y:ByteArray×Sym}(b:x∈D4 inter)(c:y∈D4 inter)(h:rowCY x=rowCY y):x=y:=by
 obtain⟨i,hi,rfl⟩:=Jh b;obtain⟨j,hj,rfl⟩:=Jh c;by_cases a:i=j
 ·subst a;rfl
 ·exfalso;have:=QI.1 (TU inter) i j tW vQ a;rw[Ke,Ke,h,JE] at this;cases this
theorem Qjm (inter:Bool){x:ByteArray×Sym}(a:x∈D4 inter){q:List UInt8}(b:rowCY x=q):(D4 inter).find? (fun y=>rowCY y==q)=some x:=by
 cases h:(D4 inter).find? (fun y=>rowCY y==q) with
 |none=>
  have:=Kn.1 h x a;rw[b] at this;simp at this
 |some y=>
  have h1:=Kp h;have h2:=Kj h;rw[qG inter h2 a ((Bj.1 h1).trans b.symm)]
theorem RT (inter:Bool){b:List UInt8}{n:Nat}{x:ByteArray×Sym}(ht:tk ((D4 inter).map rowCY) b 25 1=(0,n))(a:x∈D4 inter)(c:rowCY x=b.take n):
  mtk inter b=if sA x.2=2 then (0,0,6,0) else (sA x.2,sB x.2,0,n):=by
 unfold mtk;rw[ht,Bb rfl,Qjm inter a c]
theorem QM (inter:Bool){b:List UInt8}{n:Nat}{f:Int}(ht:tk ((D4 inter).map rowCY) b 25 1=(f,n))(a:f≠0):mtk inter b=(0,0,f,0):=by
 unfold mtk;rw[ht,Ba a]
end
section
open Go.RowKit Go.Lib
theorem Qak (inter:Bool)(f:ByteArray)(w:A5):
  A9 prog 244 #[.bool inter,.string f] w fun e a=>e=.returned (.func (.func 257) #[] #[.pointer (some ⟨w.heap.size,0,none⟩),.pointer (some ⟨w.heap.size+1,0,none⟩)])/\a=(w.alloc (.cells #[.bool inter] 4)).alloc (.cells #[.string f] 9):=by
 go_enter func244,ntmps244
 go_wp2
 go_ret
 exact⟨rfl,rfl⟩
def KK (n:Nat):Obj:=.cells (madeCells (Value.agg #[.string ⟨#[]⟩,.int .i64 0,.int .i64 0]).cells (n*3)) 274 (0,0)
theorem oA (w:A5):(Instr.makeSlice 269 (.int .i64 0) (.int .i64 24)).run prog w=.ok (.slice (some ⟨w.heap.size,0,none⟩) 0 24) (w.alloc (KK 24)):=by
 obtain⟨d,hi,a,b,c⟩:=Ds TI;have:=run_make (P:=prog) w 269 274 d _ underlying269 hi a .i64 .i64 0 24 sX sX tZ sX;rw[b] at this;exact this
theorem fY (w:A5){base:Nat}(h:base<=w.heap.size):(w.alloc (KK 24)).ownsRow base 274 3 (.slice (some ⟨w.heap.size,0,none⟩) 0 24) 0 []:=
 World.ownsRow_made w _ 24 h sY (size_madeCells _ _)
def RZ (inter:Bool)(s:ByteArray)(rb p:Nat)(w:A5)(e:Ending)(a:A5):Prop:=
 e=.returned (.tuple #[.int .i64 (mtk inter ((A2 s.data.toList).drop p)).1,.int .i64 (mtk inter ((A2 s.data.toList).drop p)).2.1,.int .i64 (mtk inter ((A2 s.data.toList).drop p)).2.2.1])/\
  AE a rb s (p+(mtk inter ((A2 s.data.toList).drop p)).2.2.2)/\w.grownBy a (some rb)
theorem SV {inter:Bool}{s:ByteArray}{rb p n:Nat}{w c:A5}{a b f:Int}(h:mtk inter ((A2 s.data.toList).drop p)=(a,b,f,n))(hr:AE c rb s (p+n))(hg:w.grownBy c (some rb)):
  RZ inter s rb p w (.returned (.tuple #[.int .i64 a,.int .i64 b,.int .i64 f])) c:=by
 unfold RZ;rw[h];exact⟨rfl,hr,hg⟩
def Wh (w:A5)(l:List (ByteArray×Sym))(v:Value)(x:A5):Prop:=
 x.ownsRow w.heap.size 274 3 v l.length (D5 l)/\Below w.heap.size w x
theorem mT (s:ByteArray)(p:Nat)(h:p+1<=8*s.size):∃(t:Nat) (c:UInt8),AB s.data.toList p 1=t/\t<2/\Lib.decDigits t=[c]/\(c=48\/c=49)/\((A2 s.data.toList).drop p).take 1=[c]:=by
 obtain⟨hn,hd⟩:=QH s.data.toList p 0 h;have a:=EB s.data.toList p 1;have a:AB s.data.toList p 1<2:=a;have b:AB s.data.toList p (0+1)=AB s.data.toList p 1:=rfl;rw[b] at hd;have d:((A2 s.data.toList).drop p).take 1=[((A2 s.data.toList).drop p)[0]]:=by
  rw[Bd hn];rfl
 rcases hd with ⟨h1,h2⟩|⟨h1,h2⟩
 ·have ht:AB s.data.toList p 1=0:=sX;exact⟨0,48,ht,sX,uB,.inl rfl,by rw[d,h1]⟩
 ·have ht:AB s.data.toList p 1=1:=sX;exact⟨1,49,ht,sX,uB,.inr rfl,by rw[d,h1]⟩
theorem Qiv (inter:Bool)(c:UInt8):∀x∈E6 inter [c] 24,x.1.size<=maxLen:=fun x a=>by
 rw[R1] at a;have h:=(GS (VF inter x (Jf.1 a).1)).2.1;have e:(rowCY x).length=x.1.size:=rfl;unfold maxLen;omega
theorem kP {l ds:List (ByteArray×Sym)}(h:L2 l)(a:ds.Perm l):CJ (ds.map rowCY)/\∀x∈ds,BW (rowCY x)=true:=
 ⟨(P1 (a.map rowCY)).2 h.2.2.2.1,fun x b=>h.2.2.1 x (a.mem_iff.1 b)⟩
theorem Wo {w x:A5}{row:Option Nat}(h:w.grownBy x row)(n:Nat):w.grownBy (x.drewN n) row:=⟨h.os,h.tape,h.output,h.size,h.block⟩
theorem UY {w x:A5}{row:Option Nat}(h:w.grownBy x row)(o:Obj):w.grownBy (x.alloc o) row:=by
 have g:=Mx x o none;refine⟨g.os.trans h.os,g.tape.trans h.tape,g.output.trans h.output,Ef h.size g.size,fun k hk hn=>?_⟩;exact(g.block k (Bc hk h.size) sZ).trans (h.block k hk hn)
theorem Qrd (inter:Bool)(c:UInt8)(L:List (ByteArray×Sym))(d:E6 inter [c] 24=L)(w:A5):
  A9 prog 243 #[.slice (some ⟨w.heap.size,0,none⟩) 0 24,.func (.func 257) #[] #[.pointer (some ⟨w.heap.size+1,0,none⟩),.pointer (some ⟨w.heap.size+1+1,0,none⟩)]]
   (((w.alloc (KK 24)).alloc (.cells #[.bool inter] 4)).alloc (.cells #[.string ⟨#[c]⟩] 9)).drew fun e a=>∃v,e=.returned v/\Wh w L v a:=by
 have h1:=Mq (w.alloc (KK 24)) 4 (.bool inter);have h2:=Mq ((w.alloc (KK 24)).alloc (.cells #[.bool inter] 4)) 9 (.string ⟨#[c]⟩);have h3:=h1.alloc (.cells #[.string ⟨#[c]⟩] 9);rw[N9] at h3 h2;rw[N9] at h2;have b:Below w.heap.size w (((w.alloc (KK 24)).alloc (.cells #[.bool inter] 4)).alloc (.cells #[.string ⟨#[c]⟩] 9)).drew:=((((Dn _ w).alloc (B9 _) _).alloc sZ _).alloc tO _).drew;refine(Yw w.heap.size (w.heap.size+1) (w.heap.size+1+1) inter ⟨#[c]⟩ _ _ b.size (((fY w (B9 _)).alloc _).alloc _) ⟨_,_,rfl⟩ h3 h2).mono ?_;exact Weh
theorem nB (inter:Bool)(c:UInt8)(L:List (ByteArray×Sym))(d:E6 inter [c] 24=L)(w:A5):
  A9 prog 243 #[.slice (some ⟨w.heap.size+1+1,0,none⟩) 0 24,.func (.func 257) #[] #[.pointer (some ⟨w.heap.size,0,none⟩),.pointer (some ⟨w.heap.size+1,0,none⟩)]]
   (((w.alloc (.cells #[.bool inter] 4)).alloc (.cells #[.string ⟨#[c]⟩] 9)).alloc (KK 24)).drew fun e a=>∃v,e=.returned v/\Wh w L v a:=by
 have h1:=((Mq w 4 (.bool inter)).alloc (.cells #[.string ⟨#[c]⟩] 9)).alloc (KK 24);have h2:=(Mq (w.alloc (.cells #[.bool inter] 4)) 9 (.string ⟨#[c]⟩)).alloc (KK 24);rw[N9] at h2;have hr:=fY ((w.alloc (.cells #[.bool inter] 4)).alloc (.cells #[.string ⟨#[c]⟩] 9)) (base:=w.heap.size) tO;rw[N9,N9] at hr;have b:Below w.heap.size w (((w.alloc (.cells #[.bool inter] 4)).alloc (.cells #[.string ⟨#[c]⟩] 9)).alloc (KK 24)).drew:=((((Dn _ w).alloc (B9 _) _).alloc sZ _).alloc tO _).drew;refine(Yw w.heap.size w.heap.size (w.heap.size+1) inter ⟨#[c]⟩ _ _ b.size hr ⟨_,_,rfl⟩ h1 h2).mono ?_;exact Weh
set_option maxRecDepth 100000 in
theorem lJ (inter:Bool)(w:A5)(rb:Nat)(s:ByteArray)(p:Nat)(hr:AE w rb s p):
  A9 prog 237 #[.pointer (some ⟨rb,0,none⟩),.bool inter] w (RZ inter s rb p w):=by
 obtain⟨V,r⟩:=Ah ((A2 s.data.toList).drop p);have G:V.length=8*s.size-p:=by rw[<-r,Bf,AZ];rfl
 have ar:=hr.2.1;have am:=hr.lt;have u:=Dm r;by_cases W:8*s.size<p+1
 ·have j:ask s.data.toList p 1=(0,2):=FS sX xY;have F:=Dm (QM inter (b:=V) (n:=0) (f:=2) (by
   cases V with
   |nil=>rfl
   |cons a l=>simp at G;omega) sY)
  clear W G r
  go_enter func237,ntmps237
  go_wp2_with fail
  refine(FP _ _ _ _ 1 hr).mono ?_;rintro e w1 ⟨rfl,d⟩;rw[j];have o:=hr.below d;have ag:w.grownBy w1 (some rb):=⟨d.os,d.tape,d.output,d.size,fun k hk _=>d.block k hk⟩
  go_wp2
  go_ret3
  exact SV (n:=0) yO o ag
 obtain⟨t,c,ht,au,X,hc,d⟩:=mT s p sX;have j:ask s.data.toList p 1=((t:Int),0):=by
  have:=EK (l:=s.data.toList) (p:=p) (n:=1) sX xY;rw[this,show (1:Int).toNat=1 from rfl,ht]
 rw[r] at d;obtain⟨L,Y⟩:=Ah (E6 inter [c] 24);have H:=Qpz inter hc;have y:=Qiv inter c;have Z:=Vx inter [c] 24;have aa:=fun(ds:List (ByteArray×Sym)) (hp:ds.Perm L)=>Qpx inter d (ds:=ds) (by rw[Y];exact hp);have ab:∀x∈L,x∈D4 inter:=fun x T=>by
  rw[<-Y,R1] at T;exact(Jf.1 T).1
 rw[Y] at H y Z;have an:=Dm H;have av:=Dm aa;have ah:=Dm ab;have ac:=Dm Y;have hit:=fun w=>Qa6 t sX w;rw[X] at hit;have I:=fun w=>oA w;clear H aa ab Y d X hc ht W G r
 go_enter func237,ntmps237
 go_wp2_with fail
 refine(FP _ _ _ _ 1 hr).mono ?_;rintro e w1 ⟨rfl,d⟩;rw[j];have o:=hr.below d
 go_upto_region 4 with (fail)
 go_cut [9] from 21 to 26 (fun v x=>Wh w1 L v x)
 case first=>
  go_region_with (first
   |(go_at_call 245;refine(hit _).mono ?_;rintro e w' ⟨rfl,rfl⟩)
   |(go_at_call 244;refine(Qak inter _ _).mono ?_;rintro e w' ⟨rfl,rfl⟩)
   |(go_at_call 243;(first|with_reducible refine(Qrd inter c L ac.out _).mono ?_|with_reducible refine(nB inter c L ac.out _).mono ?_);rintro e w2 ⟨v,rfl,hm⟩))
  all_goals
   go_wp2
   go_meet
   case rel=>exact hm
 case rest=>
  obtain⟨D,J⟩:=hcut;obtain⟨q,cap,rfl,E⟩:=Y7 D;have K:AE wc rb s p:=by
   have h:=o.lt;exact⟨by rw[J.block rb h];exact o.1,o.2⟩
  have z:Below w.heap.size w wc:=d.trans (J.mono d.size);have ad:rb<wc.heap.size:=K.lt;clear D J o d hit I hr j
  go_wp2_with fail
  refine(pO L q cap _ E tK y).mono ?_;rintro e w3 ⟨hy,_,M⟩;obtain⟨tb,ds,rfl,ht,hp,hs⟩:=hy an.out;obtain⟨hf,ho⟩:=kP an.out hp;have N:=K.below M;have g:Below w.heap.size w w3:=z.trans (M.mono z.size);have aw:=Dm hs;have ax:=Dm hf;have ay:=Dm ho;have ao:=Dm hp;have az:=Dm ht;clear hy hs hf ho hp ht K M z E y Z
  go_wp2_with fail
  refine(EF _ _ _ _ N).mono ?_;rintro e w' ⟨rfl,rfl⟩
  go_wp2_with fail
  refine(Y7b _ _ _ tb rb ds _ s p az.out N (.inl ad) aw.out ax.out ay.out).mono ?_;rintro e A ⟨v,rfl,B,C,i,hg4⟩;rw[u.out,av.out ds ao.out] at B C i ⊢;obtain⟨f,n,hk⟩:∃f n,tk ((D4 inter).map rowCY) V 25 1=(f,n):=⟨_,_,rfl⟩;rw[hk] at B C i ⊢;have ap:=Dm hk;have a0:=Dm B;have a1:=Dm C;have O:=Qf ((D4 inter).map rowCY) V 25 1;rw[hk] at O;have m:w.grownBy A (some rb):=by
   refine⟨hg4.os.trans g.os,hg4.tape.trans g.tape,hg4.output.trans g.output,Ef g.size hg4.size,fun k hk hn=>?_⟩;exact(hg4.block k (Bc hk g.size) hn).trans (g.block k hk)
  have evs:T1 v=.agg #[.int .i64 (sA v),.int .i64 (sB v)]:=rfl;rw[evs];clear hk B C hg4 N g evs;by_cases U:f=0
  ·subst U;obtain⟨x,T,P,Q⟩:=a0.out rfl;have R:=ah.out x (ao.out.mem_iff.1 T);have S:=RT inter ap.out R P;rw[Q] at S;by_cases h2:sA v=2
   ·rw[Bb h2] at S;have F:=Dm S;have g2:(sA v==2)=true:=by rw[h2];rfl
    have ai:AE (A.alloc (.cells #[.int .i64 0,.int .i64 0] 272)) rb s (p+n):=i.below ((Dn _ A).alloc (B9 _) _);have aj:w.grownBy (A.alloc (.cells #[.int .i64 0,.int .i64 0] 272)) (some rb):=(UY m _);have aq:=i.lt;clear S h2 Q P T R i m
    go_wp2_with fail
    refine(GQ _ _ _ _ (p:Int) ai sX sX).mono ?_;rintro e w6 ⟨rfl,ae,af⟩;have ak:w6.heap[A.heap.size]? =some (MK 0 0):=(af.block A.heap.size sZ tV).trans (heap_alloc_new A _);obtain⟨n0,n1,_,_⟩:=Su ak;have al:=AP aj af;rw[Dp] at ae
    go_wp2_with fail
    go_quiet (fail)
    go_wp2
    go_ret3
    exact SV (n:=0) yO ae (Wo al _)
   ·rw[Ba h2] at S;have F:=Dm S;have g2:(sA v==2)=false:=vI;clear S h2 Q P T R
    go_wp2
    go_quiet (fail)
    go_wp2
    go_ret3
    exact SV (n:=n) yO (i.below (KF ((Dn _ A).alloc (B9 _) _) _)) (Wo (UY m _) _)
  ·obtain rfl:=a1.out U;have hn:n=0:=by
    rcases O with h|h|h
    ·exact absurd h U
    ·exact h.2
    ·exact h.2
   subst hn;have F:=Dm (QM inter ap.out U);have g0:(f==0)=false:=by rw[Fe];exact U
   clear U O
   go_wp2
   go_quiet (fail)
   go_wp2
   go_ret3
   exact SV (n:=0) yO (i.below (KF ((Dn _ A).alloc (B9 _) _) _)) (Wo (UY m _) _)
theorem Wx (inter:Bool):∀i,(h:i<21)->(PC inter)[i]'(by rw[Ro];exact h)=(EA inter i).1:=by
 exact Wei
def H6 (inter:Bool)(i:Nat):List ByteArray:=((PC inter).take i).filter fun x=>!x.data.toList.isEmpty
theorem Qhw (inter:Bool):(H6 inter 21).map (fun x=>x.data.toList)=(D4 inter).map rowCY:=by
 exact Wei
theorem Qhx (inter:Bool):∀j:Fin (H6 inter 21).length,j.val+(if inter then 0 else 12)<21/\(H6 inter 21)[j.val]=(EA inter (j.val+(if inter then 0 else 12))).1/\(!(rowCY (EA inter (j.val+(if inter then 0 else 12)))).isEmpty)=true:=by
 exact Wei
theorem XA {inter:Bool}{i:Nat}(h:i<24)(hr:(!(rowCY (EA inter i)).isEmpty)=true):EA inter i∈D4 inter:=
 Jf.2 ⟨Kc (Bs.2 h),hr⟩
theorem iQ (inter:Bool)(j:Nat)(h:j<(H6 inter 21).length):j+(if inter then 0 else 12)<21/\(H6 inter 21)[j]=(EA inter (j+(if inter then 0 else 12))).1/\EA inter (j+(if inter then 0 else 12))∈D4 inter:=by
 obtain⟨h1,h2,h3⟩:=Qhx inter ⟨j,h⟩;exact⟨h1,h2,XA (Nat.lt_trans h1 sY) h3⟩
theorem jH {inter:Bool}{i:Nat}(h:i<21)(a:(EA inter i).1.data.toList.isEmpty=false):H6 inter (i+1)=H6 inter i++[(EA inter i).1]:=by
 unfold H6;rw[Bd (by rw[Ro];exact h),Mo,Wx inter i h];simp only[Jy,List.filter_nil,a,Ju,Jw]
theorem hJ {inter:Bool}{i:Nat}(h:i<21)(a:(EA inter i).1.data.toList.isEmpty=true):H6 inter (i+1)=H6 inter i:=by
 unfold H6;rw[Bd (by rw[Ro];exact h),Mo,Wx inter i h];simp only[Jy,List.filter_nil,a,Bool.not_true,Jm,Iw,Fa]
theorem dC (inter:Bool)(i:Nat):(H6 inter i).length<=i:=by
 unfold H6;refine Ef (List.length_filter_le _ _) ?_;rw[Be];omega
theorem Rz {a:Func}{t u v x:Tmp}(h:a.results=#[.tmp t,.tmp u,.tmp v,.tmp x])(tmps:Array Value)(P:Program)(w:A5):
  (results a tmps).run P w=.ok (.tuple #[tmps.getD t undef,tmps.getD u undef,tmps.getD v undef,tmps.getD x undef]) w:=by
 simp[results,h]
def Rj (inter:Bool)(b:List UInt8)(at_:Nat)(w:A5)(e:Ending)(a:A5):Prop:=
 e=.returned (.tuple #[.int .i64 (mtk inter b).1,.int .i64 (mtk inter b).2.1,.int .i64 ((at_+(mtk inter b).2.2.2:Nat):Int),.int .i64 (mtk inter b).2.2.1])/\Below w.heap.size w a
theorem Q0 {inter:Bool}{c:List UInt8}{at_ n z:Nat}{w d:A5}{a b f:Int}(h:mtk inter c=(a,b,f,n))(ht:at_+n=z)(e:Below w.heap.size w d):
  Rj inter c at_ w (.returned (.tuple #[.int .i64 a,.int .i64 b,.int .i64 (z:Int),.int .i64 f])) d:=by
 subst ht;unfold Rj;rw[h];exact⟨rfl,e⟩
theorem Qip (l:List ByteArray)(n:Nat)(hn:l.length=n)(p:Option Addr)(cap:Nat)(s:ByteArray)(at_:Nat)(w:A5)(hc:DN w p l)(hm:n<=300)(hs:s.size<=1048576)(a:at_<=s.size):
  A9 prog 131 #[.slice p n cap,.string s,.int .i64 (at_:Int)] w (aD l (s.data.toList.drop at_) at_ w):=by
 subst hn;exact Qiq l p cap s at_ w hc hm hs a
set_option maxRecDepth 100000 in
theorem eG (inter:Bool)(s:ByteArray)(at_:Nat)(w:A5)(hs:s.size<=1048576)(ha:at_<=s.size):
  A9 prog 130 #[.string s,.int .i64 (at_:Int),.bool inter] w (Rj inter (s.data.toList.drop at_) at_ w):=by
 obtain⟨i1,hj,V,W,X⟩:=Ds Q1;obtain⟨bs,C⟩:=Ah (s.data.toList.drop at_);rw[C];have Y:=Dm C;clear C
 go_enter func130,ntmps130
 go_wp2_with fail
 refine(Qca inter _).mono ?_;rintro e A ⟨rfl,N,D⟩;obtain⟨b,o,e,B,m⟩:=N.at (by rw[Ro];omega);cases e;have hE:∀x,Below A.heap.size A x->∀i:Nat,i<21->x.cell? ⟨w.heap.size,i,none⟩=some (.string (EA inter i).1):=by
  intro x hx i hi;have:=m i (by rw[Ro];exact hi);rw[Bn,Wx inter i hi] at this;exact(Kb (a:=⟨w.heap.size,i,none⟩) (hx.block _ B)).trans this
 have ac:=Dm hE;have O:Below A.heap.size A A:=Dn _ _;clear hE m N
 go_wp2
 go_loopw [11,12] (fun u v wr=>∃i:Nat,i<=21/\v=.int .i64 i/\wr.ownsRow A.heap.size 9 1 u (H6 inter i).length (DA (H6 inter i))/\Below A.heap.size A wr) (fun _ v _=>21-(intOf v).toNat)
 case atStart=>exact⟨0,sX,rfl,Dj _ _ _ _,O⟩
 case round=>
  clear O;obtain⟨i,hi,rfl,P,r⟩:=hrel;by_cases G:i<21
  ·have c0:=ac.out wr r i G;have ad:=dC inter i;obtain⟨y,K⟩:=Ah ((EA inter i).1);rw[K] at c0;have E:=Iu y;cases hye:y.data.toList.isEmpty with
   |true=>
    have ah:=Dm (hJ G (by rw[K];exact hye));have e1:y.toList.isEmpty=true:=by rw[E];exact hye
    have e2:y.toList=[]:=by rw[E];simpa using hye
    clear K E hye
    go_wp2
    go_roundw
    case rel=>exact⟨i+1,sX,tP,by rw[ah.out];exact P,r⟩
    case measure=>simp[intOf];omega
   |false=>
    have ai:=Dm (jH G (by rw[K];exact hye));have aj:=Dm K;have e1:y.toList.isEmpty=false:=by rw[E];exact hye
    have e2:y.toList≠[]:=by rw[E];intro h;rw[h] at hye;cases hye
    clear K E hye
    go_wp2_with (at_builtin;refine S5 (y0:=y) rfl rfl underlying163 hj V rfl W X rfl (P.alloc _) rfl ?d1 ?d2 ?d3 ?_;(case d1=>go_cell);(case d2=>omega);(case d3=>(simp;exact Nat.le_succ_of_le r.size));intro v2 w2 Z p;have hg4:World.grownBy _ w2 (Value.ownBlock u11):=p;have aa:=(r.alloc r.size _).grown hg4 (by simp;exact Nat.le_succ_of_le r.size) (FT P);clear p)
    go_roundw
    case rel=>exact⟨i+1,sX,tP,by rw[ai.out,aj.out,B8,OP];exact Z,aa⟩
    case measure=>simp[intOf];omega
  ·obtain rfl:i=21:=sX;obtain⟨q,cap,rfl,hq⟩:=Tg P;have ab:=dC inter 21
   go_wp2_with fail
   refine(Qip (H6 inter 21) _ rfl q cap s at_ _ hq sX hs ha).mono ?_;rintro e w3 ⟨j,rfl,t,Q⟩;rw[Y.out,Qhw] at t ⊢;have R:Below w.heap.size w w3:=D.trans ((r.trans (Q.mono r.size)).mono D.size);obtain⟨f,n,hk⟩:∃f n,tk ((D4 inter).map rowCY) bs 25 1=(f,n):=⟨_,_,rfl⟩;rw[hk] at t ⊢;have z:=Qf ((D4 inter).map rowCY) bs 25 1;rw[hk] at z;have ae:=Dm hk;have af:=Dm t;have S:=Dm R;clear hk t Q R r P hq D B ac hj;by_cases T:f=0
   ·subst T;obtain⟨U,H⟩:=af.out rfl;obtain⟨L,M,g3⟩:=iQ inter j U;rw[M] at H;have d:=RT inter ae.out g3 H;have ag:j<=20:=sX;clear af U H M g3 z ab;cases inter with
    |true=>
     simp only[Jw,C6] at d L;obtain⟨a,c,g,k,l⟩:∃a c:Nat,a<6/\c<4/\j=4*a+c:=⟨(j) / 4,(j)%4,sX,sX,sX⟩;obtain⟨_,I,J⟩:=SX true a c g k;rw[l,I,J] at d;have q1:Int.tdiv ((j:Int)) 4=(a:Int):=by rw[N5 (by omega)];omega
     have q2:Int.tmod ((j:Int)) 4=(c:Int):=by rw[N6 (by omega)];omega
     exact Weg
    |false=>
     simp only[Jm,Iw] at d L;obtain⟨a,c,g,k,l⟩:∃a c:Nat,a<6/\c<4/\j+12=4*a+c:=⟨(j+12) / 4,(j+12)%4,sX,sX,sX⟩;obtain⟨_,I,J⟩:=SX false a c g k;rw[l,I,J] at d;have q1:Int.tdiv ((j:Int)+12) 4=(a:Int):=by rw[N5 (by omega)];omega
     have q2:Int.tmod ((j:Int)+12) 4=(c:Int):=by rw[N6 (by omega)];omega
     exact Weg
   ·have hn:n=0:=by
     rcases z with h|h|h
     ·exact absurd h T
     ·exact h.2
     ·exact h.2
    subst hn;have F:=Dm (QM inter ae.out T);have g0:(f != 0)=true:=by rw[Fj];exact T
    clear T z
    go_wp2
    exact Is (Rz rfl _ _ _) rfl (Q0 F.out (C6 _) S.out)
end
end Go.Proofs.YtjjmalchelniiaaGreatDoor
