/- StripsWrites, 32. No condition. -/
import Derived.Test.YtjjmalchelniiaaGreatDoorStripsWritesMd
import Derived.Test.YtjjmalchelniiaaGreatDoorStripsWritesMt
import Derived.Test.YtjjmalchelniiaaGreatDoorStripsWritesMbb
import Derived.Test.YtjjmalchelniiaaGreatDoorStripsWritesMbc
import Derived.Test.YtjjmalchelniiaaGreatDoorStripsWritesMbe
open Go.Proofs.Tryz
open Go renaming World->A5,Calls->A9
set_option maxHeartbeats 1000000
namespace Go.Proofs.YtjjmalchelniiaaGreatDoor
section
abbrev Mr:=@World.size_alloc
def DX (inter:Bool):List (ByteArray×Sym):=((List.range 24).map (HU inter)).filter fun x=>!(AK x).isEmpty
def mtk (inter:Bool)(b:List UInt8):Int×Int×Int×Nat:=
 if (tk ((DX inter).map AK) b 25 1).1=0 then
  match (DX inter).find? (fun x=>AK x==b.take (tk ((DX inter).map AK) b 25 1).2) with
  |some x=>if sA x.2=2 then (0,0,6,0) else (sA x.2,sB x.2,0,(tk ((DX inter).map AK) b 25 1).2)
  |none=>(0,0,0,0)
 else (0,0,(tk ((DX inter).map AK) b 25 1).1,0)
theorem Sx (inter:Bool):CH ((DX inter).map AK):=by
 cases inter <;> (unfold CH;decide +kernel)
theorem SY (inter:Bool):∀x∈DX inter,BX (AK x)=true:=by
 cases inter <;> decide +kernel
theorem PP (inter:Bool)(c:UInt8):EF inter [c] 24=(DX inter).filter fun x=>[c].isPrefixOf (AK x):=by
 unfold EF DX;rw[Kf];apply Ki;intro x _;cases h:[c].isPrefixOf (AK x) with
 |false=>rfl
 |true=>
  cases hr:AK x with
  |nil=>rw[hr] at h;cases h
  |cons a l=>rfl
theorem kK (inter:Bool){c:UInt8}(hc:c=48\/c=49):KN (EF inter [c] 24):=by
 have b:CH ((EF inter [c] 24).map AK):=by
  rw[PP];exact(Sx inter).sublist ((List.filter_sublist).map AK)
 have ho:∀x∈EF inter [c] 24,BX (AK x)=true:=fun x a=>by
  rw[PP] at a;exact SY inter x (Jp.1 a).1
 refine⟨?_,Eg (Uv inter [c] 24) (by omega),ho,b,?_⟩
 ·rcases hc with rfl|rfl <;> cases inter <;> decide +kernel
 ·rcases hc with rfl|rfl <;> cases inter <;> decide +kernel
theorem dD (inter:Bool){b:List UInt8}{c:UInt8}(h:b.take 1=[c]){ds:List (ByteArray×Sym)}(d:ds.Perm (EF inter [c] 24)):tk (ds.map AK) b 25 1=tk ((DX inter).map AK) b 25 1:=by
 have hl:1<=b.length:=by
  cases b with
  |nil=>cases h
  |cons a l=>simp
 rw[T8 (d.map AK),Sf ((DX inter).map AK) b hl 25 1 (Ba _),PP,List.filter_map,h]
 rfl
theorem oY (inter:Bool){x y:ByteArray×Sym}(b:x∈DX inter)(c:y∈DX inter)(h:AK x=AK y):x=y:=by
 obtain⟨i,hi,rfl⟩:=Jv b;obtain⟨j,hj,rfl⟩:=Jv c;by_cases a:i=j
 ·subst a;rfl
 ·exfalso;have:=PF.1 (Sx inter) i j (by simpa using hi) (by simpa using hj) a;rw[Kq,Kq,h,JO] at this;cases this
theorem wJ (inter:Bool){x:ByteArray×Sym}(a:x∈DX inter){q:List UInt8}(b:AK x=q):(DX inter).find? (fun y=>AK y==q)=some x:=by
 cases h:(DX inter).find? (fun y=>AK y==q) with
 |none=>
  have:=Ku.1 h x a;rw[b] at this;simp at this
 |some y=>
  have h1:=Kx h;have h2:=Ks h;rw[oY inter h2 a ((Bm.1 h1).trans b.symm)]
theorem Tr (inter:Bool){b:List UInt8}{n:Nat}{x:ByteArray×Sym}(ht:tk ((DX inter).map AK) b 25 1=(0,n))(a:x∈DX inter)(c:AK x=b.take n):
  mtk inter b=if sA x.2=2 then (0,0,6,0) else (sA x.2,sB x.2,0,n):=by
 unfold mtk;rw[ht,Bc rfl,wJ inter a c]
theorem QH (inter:Bool){b:List UInt8}{n:Nat}{f:Int}(ht:tk ((DX inter).map AK) b 25 1=(f,n))(a:f≠0):mtk inter b=(0,0,f,0):=by
 unfold mtk;rw[ht,Bb a]
end
section
open Go.RowKit Go.Lib
theorem Y78 (inter:Bool)(f:ByteArray)(w:A5):
  A9 prog 244 #[.bool inter,.string f] w fun e a=>e=.returned (.func (.func 257) #[] #[.pointer (some ⟨w.heap.size,0,none⟩),.pointer (some ⟨w.heap.size+1,0,none⟩)])/\a=(w.alloc (.cells #[.bool inter] 4)).alloc (.cells #[.string f] 9):=by
 go_enter func244,ntmps244
 go_wp2
 go_ret
 exact⟨rfl,rfl⟩
def KY (n:Nat):Obj:=.cells (madeCells (Value.agg #[.string ⟨#[]⟩,.int .i64 0,.int .i64 0]).cells (n*3)) 274 (0,0)
theorem Qki (w:A5):(Instr.makeSlice 269 (.int .i64 0) (.int .i64 24)).run prog w=.ok (.slice (some ⟨w.heap.size,0,none⟩) 0 24) (w.alloc (KY 24)):=by
 obtain⟨d,hi,a,b,c⟩:=Dv RW;have:=run_make (P:=prog) w 269 274 d _ underlying269 hi a .i64 .i64 0 24 (by omega) (by omega) (by rw[c];omega) (by omega);rw[b] at this;exact this
theorem bL (w:A5){base:Nat}(h:base<=w.heap.size):(w.alloc (KY 24)).ownsRow base 274 3 (.slice (some ⟨w.heap.size,0,none⟩) 0 24) 0 []:=
 World.ownsRow_made w _ 24 h (by decide) (size_madeCells _ _)
def Rx (inter:Bool)(s:ByteArray)(rb p:Nat)(w:A5)(e:Ending)(a:A5):Prop:=
 e=.returned (.tuple #[.int .i64 (mtk inter ((A2 s.data.toList).drop p)).1,.int .i64 (mtk inter ((A2 s.data.toList).drop p)).2.1,.int .i64 (mtk inter ((A2 s.data.toList).drop p)).2.2.1])/\
  AI a rb s (p+(mtk inter ((A2 s.data.toList).drop p)).2.2.2)/\w.grownBy a (some rb)
theorem R9 {inter:Bool}{s:ByteArray}{rb p n:Nat}{w c:A5}{a b f:Int}(h:mtk inter ((A2 s.data.toList).drop p)=(a,b,f,n))(hr:AI c rb s (p+n))(d:w.grownBy c (some rb)):
  Rx inter s rb p w (.returned (.tuple #[.int .i64 a,.int .i64 b,.int .i64 f])) c:=by
 unfold Rx;rw[h];exact⟨rfl,hr,d⟩
def TH (w:A5)(l:List (ByteArray×Sym))(v:Value)(x:A5):Prop:=
 x.ownsRow w.heap.size 274 3 v l.length (DB l)/\Below w.heap.size w x
theorem qY (s:ByteArray)(p:Nat)(h:p+1<=8*s.size):∃(t:Nat) (c:UInt8),AE s.data.toList p 1=t/\t<2/\Lib.decDigits t=[c]/\(c=48\/c=49)/\((A2 s.data.toList).drop p).take 1=[c]:=by
 obtain⟨hn,hd⟩:=P4 s.data.toList p 0 h;have a:=F1 s.data.toList p 1;have a:AE s.data.toList p 1<2:=a;have b:AE s.data.toList p (0+1)=AE s.data.toList p 1:=rfl;rw[b] at hd;have d:((A2 s.data.toList).drop p).take 1=[((A2 s.data.toList).drop p)[0]]:=by
  rw[Be hn];rfl
 rcases hd with ⟨h1,h2⟩|⟨h1,h2⟩
 ·have ht:AE s.data.toList p 1=0:=by omega
  exact⟨0,48,ht,by omega,by decide +kernel,.inl rfl,by rw[d,h1]⟩
 ·have ht:AE s.data.toList p 1=1:=by omega
  exact⟨1,49,ht,by omega,by decide +kernel,.inr rfl,by rw[d,h1]⟩
theorem nG (inter:Bool)(c:UInt8):∀x∈EF inter [c] 24,x.1.size<=maxLen:=fun x a=>by
 rw[PP] at a;have h:=(GK (SY inter x (Jp.1 a).1)).2.1;have e:(AK x).length=x.1.size:=rfl;unfold maxLen;omega
theorem zP {l ds:List (ByteArray×Sym)}(h:KN l)(a:ds.Perm l):CH (ds.map AK)/\∀x∈ds,BX (AK x)=true:=
 ⟨(OU (a.map AK)).2 h.2.2.2.1,fun x b=>h.2.2.1 x (a.mem_iff.1 b)⟩
theorem RQ {w x:A5}{row:Option Nat}(h:w.grownBy x row)(n:Nat):w.grownBy (x.drewN n) row:=⟨h.os,h.tape,h.output,h.size,h.block⟩
theorem SL {w x:A5}{row:Option Nat}(h:w.grownBy x row)(o:Obj):w.grownBy (x.alloc o) row:=by
 have g:=Mm x o none;refine⟨g.os.trans h.os,g.tape.trans h.tape,g.output.trans h.output,Eg h.size g.size,fun k a hn=>?_⟩;exact(g.block k (Bg a h.size) (by simp)).trans (h.block k a hn)
theorem Qpc (inter:Bool)(c:UInt8)(L:List (ByteArray×Sym))(d:EF inter [c] 24=L)(w:A5):
  A9 prog 243 #[.slice (some ⟨w.heap.size,0,none⟩) 0 24,.func (.func 257) #[] #[.pointer (some ⟨w.heap.size+1,0,none⟩),.pointer (some ⟨w.heap.size+1+1,0,none⟩)]]
   (((w.alloc (KY 24)).alloc (.cells #[.bool inter] 4)).alloc (.cells #[.string ⟨#[c]⟩] 9)).drew fun e a=>∃v,e=.returned v/\TH w L v a:=by
 have h1:=Mg (w.alloc (KY 24)) 4 (.bool inter);have h2:=Mg ((w.alloc (KY 24)).alloc (.cells #[.bool inter] 4)) 9 (.string ⟨#[c]⟩);have h3:=h1.alloc (.cells #[.string ⟨#[c]⟩] 9);rw[Mr] at h3 h2;rw[Mr] at h2
 have b:Below w.heap.size w (((w.alloc (KY 24)).alloc (.cells #[.bool inter] 4)).alloc (.cells #[.string ⟨#[c]⟩] 9)).drew:=((((Dq _ w).alloc (Ba _) _).alloc (by simp) _).alloc (by simp;omega) _).drew;refine(V1 w.heap.size (w.heap.size+1) (w.heap.size+1+1) inter ⟨#[c]⟩ _ _ b.size (((bL w (Ba _)).alloc _).alloc _) ⟨_,_,rfl⟩ h3 h2).mono ?_;rintro e a ⟨v,rfl,ho,f⟩
 have g:(⟨#[c]⟩:ByteArray).data.toList=[c]:=rfl;rw[g,d] at ho;exact⟨v,rfl,ho,b.trans f⟩
theorem fO (inter:Bool)(c:UInt8)(L:List (ByteArray×Sym))(d:EF inter [c] 24=L)(w:A5):
  A9 prog 243 #[.slice (some ⟨w.heap.size+1+1,0,none⟩) 0 24,.func (.func 257) #[] #[.pointer (some ⟨w.heap.size,0,none⟩),.pointer (some ⟨w.heap.size+1,0,none⟩)]]
   (((w.alloc (.cells #[.bool inter] 4)).alloc (.cells #[.string ⟨#[c]⟩] 9)).alloc (KY 24)).drew fun e a=>∃v,e=.returned v/\TH w L v a:=by
 have h1:=((Mg w 4 (.bool inter)).alloc (.cells #[.string ⟨#[c]⟩] 9)).alloc (KY 24);have h2:=(Mg (w.alloc (.cells #[.bool inter] 4)) 9 (.string ⟨#[c]⟩)).alloc (KY 24);rw[Mr] at h2;have hr:=bL ((w.alloc (.cells #[.bool inter] 4)).alloc (.cells #[.string ⟨#[c]⟩] 9)) (base:=w.heap.size) (by simp;omega);rw[Mr,Mr] at hr
 have b:Below w.heap.size w (((w.alloc (.cells #[.bool inter] 4)).alloc (.cells #[.string ⟨#[c]⟩] 9)).alloc (KY 24)).drew:=((((Dq _ w).alloc (Ba _) _).alloc (by simp) _).alloc (by simp;omega) _).drew;refine(V1 w.heap.size w.heap.size (w.heap.size+1) inter ⟨#[c]⟩ _ _ b.size hr ⟨_,_,rfl⟩ h1 h2).mono ?_;rintro e a ⟨v,rfl,ho,f⟩;have g:(⟨#[c]⟩:ByteArray).data.toList=[c]:=rfl
 rw[g,d] at ho;exact⟨v,rfl,ho,b.trans f⟩
set_option maxRecDepth 100000 in
theorem tB (inter:Bool)(w:A5)(rb:Nat)(s:ByteArray)(p:Nat)(hr:AI w rb s p):
  A9 prog 237 #[.pointer (some ⟨rb,0,none⟩),.bool inter] w (Rx inter s rb p w):=by
 obtain⟨X,u⟩:=Ah ((A2 s.data.toList).drop p);have I:X.length=8*s.size-p:=by rw[<-u,Bj,BO];rfl
 have au:=hr.2.1;have an:=hr.lt;have y:=Dp u;by_cases Y:8*s.size<p+1
 ·have j:ask s.data.toList p 1=(0,2):=FM (by omega) (by have:s.data.toList.length=s.size:=rfl;omega);have F:=Dp (QH inter (b:=X) (n:=0) (f:=2) (by
   cases X with
   |nil=>rfl
   |cons a l=>simp at I;omega) (by decide))
  clear Y I u
  go_enter func237,ntmps237
  go_wp2_with fail
  refine(FU _ _ _ _ 1 hr).mono ?_;rintro e w1 ⟨rfl,d⟩;rw[j];have o:=hr.below d;have ah:w.grownBy w1 (some rb):=⟨d.os,d.tape,d.output,d.size,fun k B _=>d.block k B⟩
  go_wp2
  go_ret3
  exact R9 (n:=0) (by rw[y.out];exact F.out) o ah
 obtain⟨t,c,ht,av,Z,hc,d⟩:=qY s p (by omega);have j:ask s.data.toList p 1=((t:Int),0):=by
  have:=EL (l:=s.data.toList) (p:=p) (n:=1) (by omega) (by have:s.data.toList.length=s.size:=rfl;omega);rw[this,show (1:Int).toNat=1 from rfl,ht]
 rw[u] at d;obtain⟨L,hL⟩:=Ah (EF inter [c] 24);have J:=kK inter hc;have z:=nG inter c;have aa:=Uv inter [c] 24;have ab:=fun(ds:List (ByteArray×Sym)) (hp:ds.Perm L)=>dD inter d (ds:=ds) (by rw[hL];exact hp);have ac:∀x∈L,x∈DX inter:=fun x V=>by
  rw[<-hL,PP] at V;exact(Jp.1 V).1
 rw[hL] at J z aa;have ao:=Dp J;have aw:=Dp ab;have ai:=Dp ac;have ad:=Dp hL;have hit:=fun w=>sF t (by omega) w;rw[Z] at hit;have K:=fun w=>Qki w;clear J ab ac hL d Z hc ht Y I u
 go_enter func237,ntmps237
 go_wp2_with fail
 refine(FU _ _ _ _ 1 hr).mono ?_;rintro e w1 ⟨rfl,d⟩;rw[j];have o:=hr.below d
 go_upto_region 4 with (fail)
 go_cut [9] from 21 to 26 (fun v x=>TH w1 L v x)
 case first=>
  go_region_with (first
   |(go_at_call 245;refine(hit _).mono ?_;rintro e w' ⟨rfl,rfl⟩)
   |(go_at_call 244;refine(Y78 inter _ _).mono ?_;rintro e w' ⟨rfl,rfl⟩)
   |(go_at_call 243;(first|with_reducible refine(Qpc inter c L ad.out _).mono ?_|with_reducible refine(fO inter c L ad.out _).mono ?_);rintro e w2 ⟨v,rfl,hm⟩))
  all_goals
   go_wp2
   go_meet
   case rel=>exact hm
 case rest=>
  obtain⟨G,M⟩:=hcut;obtain⟨q,cap,rfl,H⟩:=XN G;have N:AI wc rb s p:=by
   have h:=o.lt;exact⟨by rw[M.block rb h];exact o.1,o.2⟩
  have A:Below w.heap.size w wc:=d.trans (M.mono d.size);have ae:rb<wc.heap.size:=N.lt;clear G M o d hit K hr j
  go_wp2_with fail
  refine(vG L q cap _ H (by unfold maxLen;omega) z).mono ?_;rintro e w3 ⟨hy,_,O⟩;obtain⟨tb,ds,rfl,ht,hp,hs⟩:=hy ao.out;obtain⟨hf,ho⟩:=zP ao.out hp;have P:=N.below O;have g:Below w.heap.size w w3:=A.trans (O.mono A.size);have ax:=Dp hs;have ay:=Dp hf;have az:=Dp ho;have ap:=Dp hp;have a0:=Dp ht;clear hy hs hf ho hp ht N O A H z aa
  go_wp2_with fail
  refine(ED _ _ _ _ P).mono ?_;rintro e w' ⟨rfl,rfl⟩
  go_wp2_with fail
  refine(nN _ _ _ tb rb ds _ s p a0.out P (.inl ae) ax.out ay.out az.out).mono ?_;rintro e C ⟨v,rfl,D,E,i,r⟩;rw[y.out,aw.out ds ap.out] at D E i ⊢;obtain⟨f,n,B⟩:∃f n,tk ((DX inter).map AK) X 25 1=(f,n):=⟨_,_,rfl⟩;rw[B] at D E i ⊢;have aq:=Dp B;have a1:=Dp D;have a2:=Dp E;have Q:=Tz ((DX inter).map AK) X 25 1;rw[B] at Q
  have m:w.grownBy C (some rb):=by
   refine⟨r.os.trans g.os,r.tape.trans g.tape,r.output.trans g.output,Eg g.size r.size,fun k B hn=>?_⟩;exact(r.block k (Bg B g.size) hn).trans (g.block k B)
  have evs:R6 v=.agg #[.int .i64 (sA v),.int .i64 (sB v)]:=rfl;rw[evs];clear B D E r P g evs;by_cases W:f=0
  ·subst W;obtain⟨x,V,R,S⟩:=a1.out rfl;have T:=ai.out x (ap.out.mem_iff.1 V);have U:=Tr inter aq.out T R;rw[S] at U;by_cases h2:sA v=2
   ·rw[Bc h2] at U;have F:=Dp U;have g2:(sA v==2)=true:=by rw[h2];rfl
    have aj:AI (C.alloc (.cells #[.int .i64 0,.int .i64 0] 272)) rb s (p+n):=i.below ((Dq _ C).alloc (Ba _) _);have ak:w.grownBy (C.alloc (.cells #[.int .i64 0,.int .i64 0] 272)) (some rb):=(SL m _);have ar:=i.lt;clear U h2 S R V T i m
    go_wp2_with fail
    refine(GH _ _ _ _ (p:Int) aj (by omega) (by omega)).mono ?_;rintro e w6 ⟨rfl,af,ag⟩;have al:w6.heap[C.heap.size]? =some (LA 0 0):=(ag.block C.heap.size (by simp) (by intro e;injection e with e;omega)).trans (heap_alloc_new C _);obtain⟨n0,n1,_,_⟩:=Rf al;have am:=AR ak ag;rw[Dr] at af
    go_wp2_with fail
    go_quiet (fail)
    go_wp2
    go_ret3
    exact R9 (n:=0) (by rw[y.out];exact F.out) af (RQ am _)
   ·rw[Bb h2] at U;have F:=Dp U;have g2:(sA v==2)=false:=by rw[Fg];exact h2
    clear U h2 S R V T
    go_wp2
    go_quiet (fail)
    go_wp2
    go_ret3
    exact R9 (n:=n) (by rw[y.out];exact F.out) (i.below (OK ((Dq _ C).alloc (Ba _) _) _)) (RQ (SL m _) _)
  ·obtain rfl:=a2.out W;have hn:n=0:=by
    rcases Q with h|h|h
    ·exact absurd h W
    ·exact h.2
    ·exact h.2
   subst hn;have F:=Dp (QH inter aq.out W);have g0:(f==0)=false:=by rw[Fg];exact W
   clear W Q
   go_wp2
   go_quiet (fail)
   go_wp2
   go_ret3
   exact R9 (n:=0) (by rw[y.out];exact F.out) (i.below (OK ((Dq _ C).alloc (Ba _) _) _)) (RQ (SL m _) _)
theorem pX {inter:Bool}{i:Nat}(h:i<24)(hr:(!(AK (HU inter i)).isEmpty)=true):HU inter i∈DX inter:=
 Jp.2 ⟨Ko (Bt.2 h),hr⟩
end
end Go.Proofs.YtjjmalchelniiaaGreatDoor
