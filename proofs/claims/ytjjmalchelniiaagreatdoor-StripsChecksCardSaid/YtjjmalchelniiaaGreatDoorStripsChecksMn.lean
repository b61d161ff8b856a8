/- StripsChecks, 14. No condition. -/
import Derived.Test.YtjjmalchelniiaaGreatDoorStripsChecksMg
import Derived.Test.YtjjmalchelniiaaGreatDoorStripsChecksMm
import Derived.Deep.RegionLaw
import Derived.Laws.CopyOwn
open Go.Proofs.Tryz
open Go renaming World->A5,Calls->A9
set_option maxHeartbeats 1000000
namespace Go.Proofs.YtjjmalchelniiaaGreatDoor
open Go.RowKit
abbrev Ib:=@decide_eq_false
abbrev Ic:=@List.drop_zero
abbrev Ie:=@decide_eq_true
abbrev If:=@List.setIfInBounds_toArray
abbrev Ig:=@Addr.add_mid
abbrev Ih:=@List.getElem?_replicate
theorem HC (w:A5)(B b:Nat)(r:List UInt8)(v n:Int)(m:AN w B b r)(h2:v<=9223372036854775807)(d:EG v n=true)(hn:r.length+32<=1099511627776)(u:B<=w.heap.size):
  A9 prog 74 #[.pointer (some ⟨b,0,none⟩),.int .i64 v,.int .i64 n] w fun e j=>e=.returned (.int .i64 0)/\AN j B b (r++AI v.toNat n.toNat)/\w.grownBy j (some b):=by
 have a:AK (AI v.toNat n.toNat)=true:=IW _ _;have l:(AI v.toNat n.toNat).length<=32:=by rw[BN];have:=(Xl d).2.1;omega
 have o:=Dl a;have p:=Dl d;clear a d
 go_enter func74,ntmps74
 go_wp2_with fail
 refine(PB v n _ h2 p.out).mono ?_;rintro e q ⟨rfl,c⟩;have f:=m.below c;have g:w.grownBy q (some b):=⟨c.os,c.tape,c.output,c.size,fun k s _=>c.block k s⟩;have t:=c.size;clear c
 go_wp2_with fail
 refine(TO _ B b r _ f o.out (by rw[Wu];omega) (by omega)).mono ?_;rintro e x ⟨rfl,h,i⟩
 go_wp2
 go_ret
 exact⟨rfl,h,AO g i⟩
def Hh (r:List UInt8)(m k:Nat):List Value:=(List.range m).map fun i=>Value.int .u8 ((if i<256*k then 0 else BX r i:Nat):Int)
theorem Pt (r:List UInt8)(m k:Nat):(Hh r m k).length=m:=by simp[Hh]
theorem SC (r:List UInt8)(m k i:Nat)(h:i<m):(Hh r m k)[i]? =some (.int .u8 ((if i<256*k then 0 else BX r i:Nat):Int)):=by
 simp[Hh,h]
theorem Tu (r:List UInt8)(m k i:Nat)(h:¬ i<m):(Hh r m k)[i]? =none:=Fp (by rw[Pt];omega)
theorem Vm {α:Type}(L:List α)(o:Nat)(cs:List α)(i:Nat)(h:o+cs.length<=L.length):(splice L o cs)[i]? =if i<o then L[i]? else if i<o+cs.length then cs[i-o]? else L[i]?:=by
 unfold splice;by_cases h1:i<o
 ·rw[Bc h1,Hs (by rw[Be];omega),I4,Bc h1]
 ·rw[Bb h1,Hu (by rw[Be];omega),Be,show min o L.length=o by omega];by_cases h2:i<o+cs.length
  ·rw[Bc h2,Hs (by omega)]
  ·rw[Bb h2,Hu (by omega),Ef]
   congr 1
   omega
theorem aI (r:List UInt8)(m k:Nat)(h:256*(k+1)<=m):splice (Hh r m (k+1)) (256*k) (DU r k)=Hh r m k:=by
 apply Hz;intro i;rw[Vm _ _ _ _ (by rw[Pt,EM];omega),EM];by_cases hm:i<m
 ·rw[SC r m k i hm,SC r m (k+1) i hm];by_cases h1:i<256*k
  ·rw[Bc h1,Bc h1,Bc (by omega)]
  ·rw[Bb h1,Bb h1];by_cases h2:i<256*k+256
   ·rw[Bc h2,Pn r k (i-256*k) (by omega),show 256*k+(i-256*k)=i by omega]
   ·rw[Bb h2,Bb (by omega)]
 ·rw[Tu r m k i hm,Tu r m (k+1) i hm,Bb (by omega),Bb (by omega)]
theorem yE (r:List UInt8)(m q c:Nat)(hc:c=min 256 (m-256*q))(h:256*q<=m)(h2:m<=256*q+256):
  splice (List.replicate m (Value.int .u8 0)) (256*q) ((DU r q).take c)=Hh r m q:=by
 apply Hz;intro i;have hl:((DU r q).take c).length=c:=by rw[Be,EM];omega
 rw[Vm _ _ _ _ (by rw[Bp,hl];omega),hl];by_cases hm:i<m
 ·rw[SC r m q i hm];by_cases h1:i<256*q
  ·rw[Bc h1,Bc h1,Ih,Bc hm];rfl
  ·rw[Bb h1,Bb h1,Bc (by omega),I4,Bc (by omega),Pn r q _ (by omega),show 256*q+(i-256*q)=i by omega]
 ·rw[Tu r m q i hm,Ih,Bb hm,Bb (by omega),Bb (by omega)]
theorem pV (r:List UInt8)(hr:AK r=true):Hh r ((r.length+7) / 8) 0=IR (FF r):=by
 rw[US];unfold Hh IR;rw[List.map_map];apply D8;intro i _;have:=WM r i hr;simp[UInt8.toNat_ofNat'];omega
theorem dJ (m:Nat):(madeCells (Value.int .u8 0).cells (m*1)).toList=List.replicate m (Value.int .u8 0):=by
 apply Hz;intro i;simp only[Array.getElem?_toList,Ih,Nat.mul_one];by_cases h:i<m
 ·rw[Bc h,Array.getElem?_eq_getElem (by rw[size_madeCells];exact h)];simp[madeCells,Value.cells,Nat.mod_one]
 ·rw[Bb h,Array.getElem?_eq_none (by rw[size_madeCells];omega)]
theorem sX {w:A5}{base e g n:Nat}{a:List Value}(h:w.ownsRow base e 1 (.slice (some ⟨g,0,none⟩) n n) n a):w.heap[g]? =some (.cells a.toArray e (0,0)):=by
 rcases h.2 with ⟨h1,_⟩|⟨c,cap,b,h1,_,h2,_,_,h3,h4⟩
 ·cases h1
 ·injection h1 with h1 _ h1';injection h1 with h1;injection h1 with h1;subst h1 h1';rw[h2,<-h4,Bh (by rw[Ep];omega),Array.toArray_toList]
theorem WT (w:A5)(B b:Nat)(r:List UInt8)(hw:AN w B b r)(hn:r.length<=1099511627776):
  A9 prog 40 #[.pointer (some ⟨b,0,none⟩)] w fun e w'=>e=.returned (.string ⟨(FF r).toArray⟩)/\Below w.heap.size w w':=by
 obtain⟨i0,hi,ae,af,ag⟩:=Dr Vg;obtain⟨hr,aq,v,I,hc⟩:=hw;have J:b<w.heap.size:=(Dy.1 I).1;have t:=A2 I (N1 r v _);obtain⟨m,hm⟩:=Ai ((r.length+7) / 8);obtain⟨q,hq⟩:=Ai (r.length / 2048);have em:((r.length:Int)+7) / 8=((m:Nat):Int):=by omega
 have K:(r.length:Int) / 2048=((q:Nat):Int):=by omega
 have m1:m<=137438953473:=by omega
 go_enter func40,ntmps40
 have am:=Dl em;have E:=Dl hm;have ab:=Dl hq;clear em hm hq
 go_wp2_with (at_make;refine wpList_make_full _ rfl _ _ 95 rfl w.heap.size 5 i0 (.int .u8 0) 1 Ds hi ae af _ _ _ _ m rfl rfl am.out am.out ?b2 ?b3 ?b4 ?_;(case b2=>(rw[ag];omega));(case b3=>(unfold maxLen;omega));(case b4=>exact Ba _);intro w1 c a;have u:=(a.block b J (by simp)).trans I;have l:=A2 u (N1 r v _))
 obtain⟨o,ho⟩:=Ai (256*q);have eo:(q:Int)*256=((o:Nat):Int):=by omega
 have o1:o<=m:=by have:=E.out;have:=ab.out;omega
 have o2:m<=o+256:=by have:=E.out;have:=ab.out;omega
 have o3:(0:Int)<=(o:Int):=by omega
 have o4:(o:Int)<=(m:Int):=by omega
 rw[eo];have F:=Dl ho;have ar:=Dl K;clear eo ho K;obtain⟨an,n⟩:=Ai (List.replicate m (Value.int .u8 0));have z:=sX c;rw[dJ,n] at z;obtain⟨L,f⟩:=Ai ((DU r q).take (min 256 (m-o)));have M:L.length=min 256 (m-o):=by rw[<-f,Be,EM];omega
 have N:∀v∈L,v.oneCell'=true:=by rw[<-f];exact fun v hv=>Qp _ _ v (List.mem_of_mem_take hv)
 have d:∀j v,L[j]? =some v->w1.cell? ((⟨b,1,none⟩:Addr).add j)=some v:=by
  intro j x O;have hj:j<L.length:=(Hv.1 O).1;rw[Ig];refine A2 u ?_;rw[<-f,I4,Bc (by omega)] at O;unfold HB DL;rw[Cd,Hw,Hs (by rw[EM];omega),ab.out,O]
 have P:Below w.heap.size w w1:=⟨a.os,a.tape,a.output,a.size,fun k hk=>a.block k hk (by simp)⟩;have Q:an.length=m:=by rw[<-n];simp
 have R:=Dl n;have S:=Dl f;have ac:=Dl M;have ao:=Dl Q;have u8:(prog.info? 5).map (·.size)=some 1:=by kernel_rfl
 clear n f M Q c a;refine I0 (by kernel_rfl) ?_;change wpAny _ _ _ _ _ _ _ (World.drew _);refine E0 0 (some 21) (v:=?_) rfl rfl (by kernel_rfl) (by kernel_rfl) (by kernel_rfl) (fun _ _ _ h=>h) (Or.inl ⟨by rfl,?_⟩) ?_
 rotate_left
 ·(intro w;go_simp;try with_reducible rfl)
 rotate_right
 refine E0 1 (some 22) (v:=?_) rfl rfl (by kernel_rfl) (by kernel_rfl) (by kernel_rfl) (fun _ _ _ h=>h) (Or.inl ⟨by rfl,?_⟩) ?_
 rotate_left
 ·(intro w;go_simp;try with_reducible rfl)
 rotate_right
 refine E0 2 (some 23) (v:=?_) rfl rfl (by kernel_rfl) (by kernel_rfl) (by kernel_rfl) (fun _ _ _ h=>h) (Or.inl ⟨by rfl,?_⟩) ?_
 rotate_left
 ·(intro w;go_simp;try with_reducible rfl)
 rotate_right
 refine E0 3 (some 24) (v:=?_) rfl rfl (by kernel_rfl) (by kernel_rfl) (by kernel_rfl) (fun _ _ _ h=>h) (Or.inl ⟨by rfl,?_⟩) ?_
 rotate_left
 ·(intro w;go_simp;try with_reducible rfl)
 rotate_right
 refine E0 4 (some 25) (v:=?_) rfl rfl (by kernel_rfl) (by kernel_rfl) (by kernel_rfl) (fun _ _ _ h=>h) (Or.inl ⟨by rfl,?_⟩) ?_
 rotate_left
 ·(intro w;go_simp;try with_reducible rfl)
 rotate_right
 refine E0 5 (some 26) (v:=?_) rfl rfl (by kernel_rfl) (by kernel_rfl) (by kernel_rfl) (fun _ _ _ h=>h) (Or.inl ⟨by rfl,?_⟩) ?_
 rotate_left
 ·(intro w;go_simp;try with_reducible rfl)
 rotate_right
 refine E0 6 (some 27) (v:=?_) rfl rfl (by kernel_rfl) (by kernel_rfl) (by kernel_rfl) (fun _ _ _ h=>h) (Or.inl ⟨by rfl,?_⟩) ?_
 rotate_left
 ·(intro w;go_simp;try with_reducible rfl)
 rotate_right
 refine Qc 7 (by kernel_rfl) (by kernel_rfl) ?_;simp only[Hq,Ic,Act.put,If,I3,Hx];refine wpList_copy_splice rfl (.tmp 23) (.tmp 27) 95 95 rfl 5 Ds u8 _ _ _ _ _ _ rfl rfl w.heap.size o an 5 (show w1.drew.heap[w.heap.size]? =_ from z) L ?hn ?hpos ?hfit N w.heap.size w P.drew (Ba _) ?_
 case hn=>rw[ac.out]
 case hpos=>
  intro h0;rw[ac.out] at h0;rw[Bb (by omega)];exact⟨rfl,_,rfl,d⟩
 case hfit=>rw[ac.out,ao.out];omega
 intro w2 T A;obtain⟨p0,rfl⟩:=hc.pointer;have U:=(A.block b J).trans I;have V:w2.cell? ⟨b,0,none⟩=some (.pointer p0):=A2 U rfl;have G:Hid (w2.heap[w.heap.size]? =some (.cells (Hh r m q).toArray 5 (0,0))):=by
  have e:=T.out;have e2:=yE r m q (min 256 (m-o)) (by rw[F.out]) (by rw[F.out];exact o1) (by rw[F.out];exact o2);rw[F.out,R.out,S.out] at e2;rw[e2] at e;exact Dl e
 have H:Hid (GK w B r q (.pointer p0)):=by have e:=hc;rw[ab.out] at e;exact Dl e
 clear hc u U l T z d P R S ac ao N I t ar;generalize (if m=o then (some ({block:=w.heap.size,off:=0}:Addr)) else some {block:=w.heap.size,off:=o})=dx
 go_wp2
 go_loopw [4,5] (fun x p wr=>∃(k:Nat) (W:Option Addr),x=.int .i64 ((256*k:Nat):Int)/\p=.pointer W/\256*k<=m/\Hid (GK w B r k (.pointer W))/\Hid (wr.heap[w.heap.size]? =some (.cells (Hh r m k).toArray 5 (0,0)))/\Below w.heap.size w wr) (fun x _ _=>(intOf x).toNat)
 case atStart=>exact⟨q,p0,by rw[F.out],rfl,by rw[F.out];exact o1,H,G,A⟩
 case round=>
  clear H G A V;obtain⟨k,W,rfl,rfl,hk,H,G,hb⟩:=hrel;cases k with
  |zero=>
   have e:=H.out;obtain rfl:W=none:=by injection e
   have c:EU wr 0 5 (.slice (some ⟨w.heap.size,0,none⟩) m m) (FF r):=by
    refine⟨by rw[qX];omega,.inr ⟨w.heap.size,m,(Hh r m 0).toArray,by rw[Ry,E.out],Dn _,G.out,by rw[Ry,E.out];exact Ba _,by unfold maxLen;omega,by simp[Pt],?_⟩⟩;have e:=pV r hr;rw[E.out] at e;rw[<-e,List.toList_toArray];exact Bh (by rw[Pt,Ry,E.out];omega)
   have ht:=EU.text Ds Du Dt c;clear e c
   go_wp2
   go_ret
   exact⟨rfl,hb⟩
  |succ k=>
   obtain⟨g,v',e,au,X,C⟩:=H.out;obtain rfl:W=some ⟨g,0,none⟩:=by injection e
   obtain⟨p1,rfl⟩:=C.pointer;have ah:=Dl C;clear e C;have s:g<w.heap.size:=(Dy.1 X).1;have D:=(hb.block g s).trans X
   go_wp2
   obtain⟨y,hy⟩:=Ai (256*k);have ey:256*((k:Int)+1)-256=((y:Nat):Int):=by omega
   have y1:y+256<=m:=by omega
   have y2:(0:Int)<=(y:Int):=by omega
   have y3:(y:Int)<=(m:Int):=by omega
   rw[ey];have ai:=Dl hy;clear ey hy;obtain⟨ad,i⟩:=Ai (DU r k);have Y:ad.length=256:=by rw[<-i];exact EM _ _
   have aj:∀v∈ad,v.oneCell'=true:=by rw[<-i];exact Qp _ _
   rw[i] at X D;have d:∀j v,ad[j]? =some v->wr.cell? ((⟨g,1,none⟩:Addr).add j)=some v:=by
    intro j x O;rw[Ig];refine A2 D ?_;rw[Cd,Hw,O]
   have ak:=Dl i;have ap:=Dl Y;clear i Y;refine I0 (by kernel_rfl) ?_;change wpAny _ _ _ _ _ _ _ (World.drew _);refine E0 0 (some 41) (v:=?_) rfl rfl (by kernel_rfl) (by kernel_rfl) (by kernel_rfl) (fun _ _ _ h=>h) (Or.inl ⟨by rfl,?_⟩) ?_
   rotate_left
   ·(intro w;go_simp;try with_reducible rfl)
   rotate_right
   refine E0 1 (some 42) (v:=?_) rfl rfl (by kernel_rfl) (by kernel_rfl) (by kernel_rfl) (fun _ _ _ h=>h) (Or.inl ⟨by rfl,?_⟩) ?_
   rotate_left
   ·(intro w;go_simp;try with_reducible rfl)
   rotate_right
   refine E0 2 (some 43) (v:=?_) rfl rfl (by kernel_rfl) (by kernel_rfl) (by kernel_rfl) (fun _ _ _ h=>h) (Or.inl ⟨by rfl,?_⟩) ?_
   rotate_left
   ·(intro w;go_simp;try with_reducible rfl)
   rotate_right
   refine E0 3 (some 44) (v:=?_) rfl rfl (by kernel_rfl) (by kernel_rfl) (by kernel_rfl) (fun _ _ _ h=>h) (Or.inl ⟨by rfl,?_⟩) ?_
   rotate_left
   ·(intro w;go_simp;try with_reducible rfl)
   rotate_right
   refine E0 4 (some 45) (v:=?_) rfl rfl (by kernel_rfl) (by kernel_rfl) (by kernel_rfl) (fun _ _ _ h=>h) (Or.inl ⟨by rfl,?_⟩) ?_
   rotate_left
   ·(intro w;go_simp;try with_reducible rfl)
   rotate_right
   refine E0 5 (some 46) (v:=?_) rfl rfl (by kernel_rfl) (by kernel_rfl) (by kernel_rfl) (fun _ _ _ h=>h) (Or.inl ⟨by rfl,?_⟩) ?_
   rotate_left
   ·(intro w;go_simp;try with_reducible rfl)
   rotate_right
   refine E0 6 (some 47) (v:=?_) rfl rfl (by kernel_rfl) (by kernel_rfl) (by kernel_rfl) (fun _ _ _ h=>h) (Or.inl ⟨by rfl,?_⟩) ?_
   rotate_left
   ·(intro w;go_simp;try with_reducible rfl)
   rotate_right
   refine Qc 7 (by kernel_rfl) (by kernel_rfl) ?_;simp only[Hq,Ic,Act.put,If,I3,Hx]
   refine wpList_copy_splice rfl (.tmp 43) (.tmp 47) 95 95 rfl 5 Ds u8 _ _ _ _ _ _ rfl rfl w.heap.size y (Hh r m (k+1)) 5 (show wr.drew.heap[w.heap.size]? =_ from G.out) ad ?hn2 ?hpos2 ?hfit2 aj w.heap.size w hb.drew (Ba _) ?_
   case hn2=>rw[ap.out];show 256=min 256 (m-y);omega
   case hpos2=>
    intro _;rw[Bb (by omega)];exact⟨rfl,_,rfl,d⟩
   case hfit2=>rw[ap.out,Pt];exact y1
   intro w3 Z aa;have al:Hid (w3.heap[w.heap.size]? =some (.cells (Hh r m k).toArray 5 (0,0))):=by
    have e:=Z.out;rw[<-ak.out,<-ai.out,aI r m k (by omega)] at e;exact Dl e
   have av:w3.cell? ⟨g,0,none⟩=some (.pointer p1):=A2 ((aa.block g s).trans X) rfl;generalize (if m=y then (some ({block:=w.heap.size,off:=0}:Addr)) else some {block:=w.heap.size,off:=y})=dy;clear Z D X d G H hb
   go_wp2
   go_roundw
   case rel=>exact⟨k,p1,by rw[ai.out],rfl,by omega,ah,al,aa⟩
   case measure=>simp[intOf];have:=ai.out;omega
theorem YH (y:Nat):(y:Int) / 2^5=((y / 32:Nat):Int):=by simp
theorem low5 (y:Nat):bits .and .i64 (y:Int) 31=((y%32:Nat):Int):=by
 have:=KE (y:Int) 5 (by omega);rw[show (2:Int)^5-1=31 from rfl] at this;rw[this];simp
theorem Q4 {l:List UInt8}{bit:Int}{v c:Int}(h:AX l bit=(v,c)){k a:IntKind}:Ending.returned (.tuple #[.int k v,.int a c])=.returned (.tuple #[.int k (AX l bit).1,.int a (AX l bit).2]):=by rw[h]
theorem RQ (w:A5)(s:ByteArray)(bit:Int)(hs:s.size<=1099511627776):
  A9 prog 59 #[.string s,.int .i64 bit] w fun e D=>e=.returned (.tuple #[.int .i64 (AX s.data.toList bit).1,.int .i64 (AX s.data.toList bit).2])/\Below w.heap.size w D:=by
 have a:s.data.toList.length=s.size:=rfl;obtain⟨b,q⟩:=Ai w.heap.size;have h:AG (w.alloc (KA s 0)) b s 0:=AG.fresh q (Ea hs (by decide));have f:Below w.heap.size w (w.alloc (KA s 0)):=(Dm _ w).alloc (Ba _) _;have v:(w.alloc (KA s 0)).heap.size=b+1:=by simp;exact q
 rw[q] at f;have x:=Dl q;rw[q];by_cases h1:bit<0\/8*(s.size:Int)<bit
 ·have A:=Dl (RW (l:=s.data.toList) (bit:=bit) (by rw[a];exact h1))
  go_enter func59,ntmps59
  go_wp2_with fail
  refine(NW _ _).mono ?_;rintro e o ⟨rfl,rfl⟩;rw[x.out]
  go_wp2_with fail
  refine(V5 _ _ _ _ bit h h1).mono ?_;rintro e o ⟨rfl,rfl⟩;clear h1
  go_wp2
  go_ret2
  exact⟨Q4 A.out,f⟩
 ·obtain⟨p,rfl⟩:=Dq (by omega:0<=bit);have E:p<=8*s.size:=by omega
  clear h1;by_cases h2:8*s.size<p+22
  ·have A:=Dl (MO (l:=s.data.toList) (p:=p) (by rw[a];exact E) (by rw[a];exact h2));have K:=Dl (FG (l:=s.data.toList) (p:=p) (n:=22) (by omega) (by rw[a];omega))
   go_enter func59,ntmps59
   go_wp2_with fail
   refine(NW _ _).mono ?_;rintro e o ⟨rfl,rfl⟩;rw[x.out]
   go_wp2_with fail
   refine(GA _ _ _ _ (p:Int) h (by omega) (by omega)).mono ?_;rintro e o ⟨rfl,c,d⟩;rw[Do] at c;have i:Below b w o:=f.grown d (by omega) (by intro k g;injection g with g;omega);have r:=d.size
   go_wp2_with fail
   refine(IL _ _ _ _ _ c).mono ?_;rintro e z ⟨rfl,t,j⟩;rw[K.out];have m:Below b w z:=i.grown j (by omega) (by intro k g;injection g with g;omega)
   go_wp2
   go_ret2
   exact⟨Q4 A.out,m⟩
  ·have A:=Dl (IZ (l:=s.data.toList) (p:=p) (by rw[a];omega));have K:=Dl (E7 (l:=s.data.toList) (p:=p) (n:=22) (by omega) (by rw[a];omega));have B:AD s.data.toList p (22:Int).toNat<4194304:=EA s.data.toList p 22;have u:AD s.data.toList p (22:Int).toNat=AD s.data.toList p 22:=rfl;rw[<-u] at A;generalize AD s.data.toList p (22:Int).toNat=y at A K B;clear u
   have G:=Dl (YH y);have F:=Dl (low5 y)
   go_enter func59,ntmps59
   go_wp2_with fail
   refine(NW _ _).mono ?_;rintro e o ⟨rfl,rfl⟩;rw[x.out]
   go_wp2_with fail
   refine(GA _ _ _ _ (p:Int) h (by omega) (by omega)).mono ?_;rintro e o ⟨rfl,c,d⟩;rw[Do] at c;have i:Below b w o:=f.grown d (by omega) (by intro k g;injection g with g;omega);have r:=d.size
   go_wp2_with fail
   refine(IL _ _ _ _ _ c).mono ?_;rintro e z ⟨rfl,t,j⟩;rw[K.out];have m:Below b w z:=i.grown j (by omega) (by intro k g;injection g with g;omega);clear h f v c d t j i r K;by_cases h3:y / 32=1
   ·have d3:((y:Int) / 32 != 1)=false:=by rw[bne_eq_false_iff_eq];omega
    have C:=Dl (A.out.trans (Bc h3));clear A h3
    go_wp2
    go_ret2
    rw[F.out];exact⟨Q4 C.out,m⟩
   ·have d3:((y:Int) / 32 != 1)=true:=by rw[Ff];omega
    have C:=Dl (A.out.trans (Bb h3));clear A h3
    go_wp2
    go_ret2
    exact⟨Q4 C.out,m⟩
theorem SO {l:List UInt8}{bit:Int}{v:Int}{c:Bool}(h:B4 l bit=(v,c)){k:IntKind}:Ending.returned (.tuple #[.int k v,.bool c])=.returned (.tuple #[.int k (B4 l bit).1,.bool (B4 l bit).2]):=by rw[h]
theorem UB (w:A5)(s:ByteArray)(bit:Int)(hs:s.size<=1099511627776):
  A9 prog 190 #[.string s,.int .i64 bit] w fun e F=>e=.returned (.tuple #[.int .i64 (B4 s.data.toList bit).1,.bool (B4 s.data.toList bit).2])/\Below w.heap.size w F:=by
 have d:s.data.toList.length=s.size:=rfl;obtain⟨b,m⟩:=Ai w.heap.size;have f:AG (w.alloc (KA s 0)) b s 0:=AG.fresh m (Ea hs (by decide));have a:Below w.heap.size w (w.alloc (KA s 0)):=(Dm _ w).alloc (Ba _) _;have v:(w.alloc (KA s 0)).heap.size=b+1:=by simp;exact m
 rw[m] at a;have B:=Dl m;rw[m];by_cases h1:bit<0\/8*(s.size:Int)<bit
 ·have A:=Dl (Rb (l:=s.data.toList) (bit:=bit) (by rw[d];exact h1))
  go_enter func190,ntmps190
  go_wp2_with fail
  refine(NW _ _).mono ?_;rintro e u ⟨rfl,rfl⟩;rw[B.out]
  go_wp2_with fail
  refine(V5 _ _ _ _ bit f h1).mono ?_;rintro e u ⟨rfl,rfl⟩;clear h1
  go_wp2
  go_ret2
  exact⟨SO A.out,a⟩
 ·obtain⟨p,rfl⟩:=Dq (by omega:0<=bit);have C:p<=8*s.size:=by omega
  clear h1
  go_enter func190,ntmps190
  go_wp2_with fail
  refine(NW _ _).mono ?_;rintro e u ⟨rfl,rfl⟩;rw[B.out]
  go_wp2_with fail
  refine(GA _ _ _ _ (p:Int) f (by omega) (by omega)).mono ?_;rintro e u ⟨rfl,h,i⟩;rw[Do] at h;have n:Below b w u:=a.grown i (by omega) (by intro k o;injection o with o;omega);have x:=i.size
  go_wp2_with fail
  refine(TM _ _ _ _ h).mono ?_;rintro e D ⟨rfl,c,j⟩;have r:Below b w D:=n.grown j (by omega) (by intro k o;injection o with o;omega);have y:=j.size;have G:b<=D.heap.size:=by omega
  clear f a v h i j n x y;by_cases h3:AD s.data.toList p (gap p)=0
  ·have A:=Dl (OU (l:=s.data.toList) (p:=p) (by rw[d];exact C) h3);have t:JB s.data.toList p=(((gap p:Nat):Int),0):=Bc h3;have E:MC s.data.toList p=p+gap p:=Bc h3;rw[E] at c;rw[t];generalize p+gap p=q at A c;generalize gap p=g;clear h3 t E
   go_wp2_with fail
   refine(E1 _ _ _ _ c).mono ?_;rintro e H ⟨rfl,rfl⟩
   go_wp2_with fail
   refine(RQ _ _ _ hs).mono ?_;rintro e I ⟨rfl,z⟩
   go_wp2
   go_ret2
   exact⟨SO A.out,r.trans (z.mono G)⟩
  ·have A:=Dl (Sv (l:=s.data.toList) (p:=p) (by rw[d];exact C) h3);have t:JB s.data.toList p=(0,5):=Bb h3;rw[t];clear h3 t c
   go_wp2
   go_ret2
   exact⟨SO A.out,r⟩
theorem kA:∀n:Fin 32,bits .or .i64 32 ((n.val:Nat):Int)=((32+n.val:Nat):Int):=by decide +kernel
theorem wV (n:Nat)(h:n<32):EG ((32+n:Nat):Int) 22=true:=by
 unfold EG;rw[Fb];refine⟨by omega,by omega,by omega,?_⟩;show ((32+n:Nat):Int)<2^22;omega
theorem R3 (w:A5)(B b:Nat)(r:List UInt8)(n:Nat)(h:n<32)(l:AN w B b r)(hn:r.length+40<=1099511627776)(i:B<=w.heap.size):
  A9 prog 75 #[.pointer (some ⟨b,0,none⟩),.int .i64 (n:Int)] w fun e j=>e=.returned (.int .i64 0)/\AN j B b (r++List.replicate (gap r.length) 48++D5 n)/\w.grownBy j (some b):=by
 have O:Hid (bits .or .i64 32 (n:Int)=((32+n:Nat):Int)):=Dl (kA ⟨n,h⟩);have k:=wV n h;have F:=Dl k;have G:=Dl (Q9 r.length);have d1:decide ((n:Int)<0)=false:=by simp
 have d2:decide (31<(n:Int))=false:=by simp;omega
 have V:Hid (((32+n:Nat):Int)<=9223372036854775807):=Dl (by omega);clear k h
 go_enter func75,ntmps75
 go_wp2_with fail
 refine(Sf _ B b r l (by omega) i).mono ?_;rintro e m ⟨rfl,d,a⟩;have f:B<=m.heap.size:=Ea i a.size
 go_wp2_with fail
 rw[O.out];refine(HC _ B b _ _ _ d V.out F.out (by have:=G.out;rw[B9,Bp];omega) f).mono ?_;rintro e o ⟨rfl,c,g⟩;rw[qU] at c
 go_wp2
 go_ret
 exact⟨rfl,c,AO a g⟩
def QR (n id q:Int):Bool:=decide (1<=n/\n<=17/\0<=id/\id<=3/\1<=q/\q<=31)
theorem We {n id q:Int}(h:1<=n/\n<=17/\0<=id/\id<=3/\1<=q/\q<=31):QR n id q=true:=Ie h
theorem tS {n id q:Int}(h:¬ (1<=n/\n<=17/\0<=id/\id<=3/\1<=q/\q<=31)):QR n id q=false:=Ib h
theorem rB:∀(i:Fin 4) (q:Fin 32),bits .or .i64 (((i.val:Nat):Int)*32) ((q.val:Nat):Int)=((32*i.val+q.val:Nat):Int):=by decide +kernel
theorem aH:∀(i:Fin 4) (q:Fin 32),AI (32*i.val+q.val) 7=JH i.val q.val:=by decide +kernel
theorem vR (n:Nat)(h:n<128):EG (n:Int) 7=true:=by
 unfold EG;rw[Fb];refine⟨by omega,by omega,by omega,?_⟩;show (n:Int)<2^7;omega
theorem cY (l:List UInt8)(p:Nat)(h:p+7<=8*l.length):AD l p 7 / 32=AD l p 2/\AD l p 7%32=AD l (p+2) 5:=by
 have e:=KZ l p 2 5 (by omega);have a:=EA l (p+2) 5;have b:AD l p 7=AD l p (2+5):=rfl;omega
theorem tC {q:Int}{b:Bool}(h1:q<=31->b=true)(h2:¬ q<=31->b=false):decide (q<=31)=b:=by
 by_cases h:q<=31
 ·rw[h1 h,Ie h]
 ·rw[h2 h,Ib h]
theorem pQ (n id q:Int)(w:A5):
  A9 prog 141 #[.int .i64 n,.int .i64 id,.int .i64 q] w fun e g=>e=.returned (.bool (QR n id q))/\w=g:=by
 obtain⟨b,a⟩:=Ai (QR n id q);rw[a];have d:=Dl a;clear a;have f:Hid ((¬ (1<=n/\n<=17/\0<=id/\id<=3/\1<=q/\q<=31))->b=false):=Dl fun h=>d.out.symm.trans (tS h);have c:Hid ((1<=n/\n<=17/\0<=id/\id<=3/\1<=q/\q<=31)->b=true):=Dl fun h=>d.out.symm.trans (We h)
 go_enter func141,ntmps141
 go_wp2
 all_goals
  go_ret
  refine⟨C8 (fun x=>Ending.returned (Value.bool x)) ?_,rfl⟩
  first
   |exact(f.out (by omega)).symm
   |exact tC (fun h=>c.out (by omega)) (fun h=>f.out (by omega))
theorem lP (w:A5)(B b:Nat)(r:List UInt8)(n id q:Nat)(h:1<=n/\n<=17/\id<=3/\1<=q/\q<=31)(m:AN w B b r)(hn:r.length+80<=1099511627776)(k:B<=w.heap.size):
  A9 prog 105 #[.pointer (some ⟨b,0,none⟩),.int .i64 (n:Int),.int .i64 (id:Int),.int .i64 (q:Int)] w fun e l=>e=.returned (.int .i64 0)/\AN l B b (E2 r n++JH id q)/\w.grownBy l (some b):=by
 have c:=fun w=>pQ n id q w;rw[We (by omega)] at c;have O:Hid (bits .or .i64 ((id:Int)*32) (q:Int)=((32*id+q:Nat):Int)):=Dl (rB ⟨id,by omega⟩ ⟨q,by omega⟩);have o:Hid (AI (32*id+q) 7=JH id q):=Dl (aH ⟨id,by omega⟩ ⟨q,by omega⟩);have F:=Dl (vR (32*id+q) (by omega));have V:Hid (((32*id+q:Nat):Int)<=9223372036854775807):=Dl (by omega)
 have s:IntKind.i64.wrap ((id:Int)*32)=(id:Int)*32:=by rw[Cn];omega
 have p:=Dl (RY r n);have G:=Dl (Q9 r.length);have c2:=R3 w B b r n (by omega) m (by omega) k;clear h
 go_enter func105,ntmps105
 go_wp2_with fail
 refine(c _).mono ?_;rintro e g ⟨rfl,rfl⟩
 go_wp2_with fail
 refine c2.mono ?_;rintro e g ⟨rfl,a,d⟩;have i:B<=g.heap.size:=Ea k d.size;have a:AN g B b (E2 r n):=a
 go_wp2_with fail
 rw[O.out];refine(HC _ B b _ _ _ a V.out F.out (by have:=p.out;have:=G.out;omega) i).mono ?_;rintro e t ⟨rfl,f,j⟩;rw[show (((32*id+q:Nat):Int)).toNat=32*id+q from rfl,show (7:Int).toNat=7 from rfl,o.out] at f
 go_wp2
 go_ret
 exact⟨rfl,f,AO d j⟩
def GW (l:List UInt8)(p:Nat)(n:Int):Int×Nat:=
 if (B4 l p).2=false then (4,p) else if (B4 l p).1≠n then (10,p) else (0,p+gap p+22)
theorem Wp {l:List UInt8}{p:Nat}{n:Int}(h:(B4 l p).2=false):GW l p n=(4,p):=Bc h
theorem XA {l:List UInt8}{p:Nat}{n:Int}(h:(B4 l p).2=true)(h1:(B4 l p).1≠n):GW l p n=(10,p):=by
 unfold GW;rw[Bb (by rw[h];decide),Bc h1]
theorem Yv {l:List UInt8}{p:Nat}{n:Int}(h:(B4 l p).2=true)(h1:(B4 l p).1=n):GW l p n=(0,p+gap p+22):=by
 unfold GW;rw[Bb (by rw[h];decide),Bb (fun k=>k h1)]
theorem aP (w:A5)(b:Nat)(s:ByteArray)(p:Nat)(n:Int)(hr:AG w b s p)(hs:s.size<=1099511627776):
  A9 prog 191 #[.pointer (some ⟨b,0,none⟩),.int .i64 n] w fun e z=>e=.returned (.int .i64 (GW s.data.toList p n).1)/\AG z b s (GW s.data.toList p n).2/\w.grownBy z (some b):=by
 have c1:=fun w=>UB w s (p:Int) hs;have D:s.data.toList.length=s.size:=rfl;have o:=fun h=>Wp (l:=s.data.toList) (p:=p) (n:=n) h;have i:=fun h h1=>XA (l:=s.data.toList) (p:=p) (n:=n) h h1;have j:=fun h h1=>Yv (l:=s.data.toList) (p:=p) (n:=n) h h1;have d:=fun h=>VE (l:=s.data.toList) (p:=p) h;have f:=fun h=>Se (l:=s.data.toList) (p:=p) h
 obtain⟨m,hm⟩:=Ai ((B4 s.data.toList p).1);obtain⟨E,k⟩:=Ai ((B4 s.data.toList p).2);rw[hm,k] at c1;rw[k] at d f o i j;rw[hm] at i j;clear hm k;obtain⟨P,A⟩:=Ai (GW s.data.toList p n);rw[A] at o i j ⊢;clear A;cases E with
 |false=>
  obtain rfl:=o rfl;clear o i j d f
  go_enter func191,ntmps191
  go_wp2_with fail
  refine(KK _ _ _ _ hr).mono ?_;rintro e g ⟨rfl,rfl⟩
  go_wp2_with fail
  refine(E1 _ _ _ _ hr).mono ?_;rintro e g ⟨rfl,rfl⟩
  go_wp2_with fail
  refine(c1 _).mono ?_;rintro e g ⟨rfl,a⟩
  go_wp2
  go_ret
  exact⟨rfl,hr.below a,BR a _⟩
 |true=>
  by_cases c:m=n
  ·obtain rfl:=j rfl c;have d1:(m != n)=false:=by rw[c];simp
   have B:=f rfl;have hi:=d rfl;have C:MC s.data.toList p=p+gap p:=Bc B;have K:=Dl (E7 (l:=s.data.toList) (p:=p+gap p) (n:=22) (by omega) (by omega));have T:Hid (C1 s.data.toList (p+gap p) 22=p+gap p+22):=Dl (by unfold C1;rw[K.out];rfl);clear o i j d f c B hi
   go_enter func191,ntmps191
   go_wp2_with fail
   refine(KK _ _ _ _ hr).mono ?_;rintro e g ⟨rfl,rfl⟩
   go_wp2_with fail
   refine(E1 _ _ _ _ hr).mono ?_;rintro e g ⟨rfl,rfl⟩
   go_wp2_with fail
   refine(c1 _).mono ?_;rintro e g ⟨rfl,a⟩;have q:=hr.below a;have r:=BR a (some b)
   go_wp2_with fail
   refine(TM _ _ _ _ q).mono ?_;rintro e F ⟨rfl,t,u⟩;rw[C] at t;have x:=AO r u;clear hr q r u a C
   go_wp2_with fail
   refine(IL _ _ _ _ 22 t).mono ?_;rintro e G ⟨rfl,v,y⟩;rw[T.out] at v;rw[K.out]
   go_wp2
   go_ret
   exact⟨rfl,v,AO x y⟩
  ·obtain rfl:=i rfl c;have d1:(m != n)=true:=by rw[Ff];exact c
   clear o i j d f c
   go_enter func191,ntmps191
   go_wp2_with fail
   refine(KK _ _ _ _ hr).mono ?_;rintro e g ⟨rfl,rfl⟩
   go_wp2_with fail
   refine(E1 _ _ _ _ hr).mono ?_;rintro e g ⟨rfl,rfl⟩
   go_wp2_with fail
   refine(c1 _).mono ?_;rintro e g ⟨rfl,a⟩
   go_wp2
   go_ret
   exact⟨rfl,hr.below a,BR a _⟩
def F3 (l:List UInt8)(p:Nat):(Int×Int×Int)×Nat:=
 if 8*l.length<p+7 then ((0,0,2),p) else if AD l (p+2) 5=0 then ((0,0,9),p+7)
 else ((((AD l p 2:Nat):Int),((AD l (p+2) 5:Nat):Int),0),p+7)
theorem Xj {l:List UInt8}{p:Nat}(h:8*l.length<p+7):F3 l p=((0,0,2),p):=Bc h
theorem U7 {l:List UInt8}{p:Nat}(h:p+7<=8*l.length)(h1:AD l (p+2) 5=0):F3 l p=((0,0,9),p+7):=by
 unfold F3;rw[Bb (by omega),Bc h1]
theorem Yu {l:List UInt8}{p:Nat}(h:p+7<=8*l.length)(h1:AD l (p+2) 5≠0):F3 l p=((((AD l p 2:Nat):Int),((AD l (p+2) 5:Nat):Int),0),p+7):=by
 unfold F3;rw[Bb (by omega),Bb h1]
theorem aC (w:A5)(b:Nat)(s:ByteArray)(p:Nat)(hr:AG w b s p):
  A9 prog 192 #[.pointer (some ⟨b,0,none⟩)] w fun e o=>e=.returned (.tuple #[.int .i64 (F3 s.data.toList p).1.1,.int .i64 (F3 s.data.toList p).1.2.1,.int .i64 (F3 s.data.toList p).1.2.2])/\AG o b s (F3 s.data.toList p).2/\w.grownBy o (some b):=by
 have d:s.data.toList.length=s.size:=rfl;have q:=hr.2.1;by_cases h:8*s.size<p+7
 ·have K:=Dl (FG (l:=s.data.toList) (p:=p) (n:=7) (by omega) (by omega));have T:Hid (C1 s.data.toList p 7=p):=Dl (by unfold C1;rw[K.out];rfl);rw[Xj (by omega)];clear h q d
  go_enter func192,ntmps192
  go_wp2_with fail
  refine(IL _ _ _ _ 7 hr).mono ?_;rintro e r ⟨rfl,a,c⟩;rw[T.out] at a;rw[K.out]
  go_wp2
  go_ret3
  exact⟨rfl,a,c⟩
 ·have K:=Dl (E7 (l:=s.data.toList) (p:=p) (n:=7) (by omega) (by omega));have T:Hid (C1 s.data.toList p 7=p+7):=Dl (by unfold C1;rw[K.out];rfl);obtain⟨j,f⟩:=cY s.data.toList p (by omega);have k:=EA s.data.toList p 7;have g:=fun h1=>U7 (l:=s.data.toList) (p:=p) (by omega) h1;have i:=fun h1=>Yu (l:=s.data.toList) (p:=p) (by omega) h1;rw[show (7:Int).toNat=7 from rfl] at K
  obtain⟨y,t⟩:=Ai (AD s.data.toList p 7);rw[t] at K j f k;rw[<-j,<-f] at i;rw[<-f] at g;clear h q d t j f;have u:=Dl (YH y);have m:=Dl (low5 y);by_cases h1:y%32=0
  ·have d1:decide (bits .and .i64 (y:Int) 31<1)=true:=by rw[m.out];simp;omega
   rw[g h1];clear g i
   go_enter func192,ntmps192
   go_wp2_with fail
   refine(IL _ _ _ _ 7 hr).mono ?_;rintro e r ⟨rfl,a,c⟩;rw[T.out] at a;rw[K.out]
   go_wp2
   go_ret3
   exact⟨rfl,a,c⟩
  ·have d1:decide (bits .and .i64 (y:Int) 31<1)=false:=by rw[m.out];simp;omega
   rw[i h1];have v:(y:Int) / 32=((y / 32:Nat):Int):=u.out;have x:=Dl v;clear g i v u
   go_enter func192,ntmps192
   go_wp2_with fail
   refine(IL _ _ _ _ 7 hr).mono ?_;rintro e r ⟨rfl,a,c⟩;rw[T.out] at a;rw[K.out]
   go_wp2
   go_ret3
   rw[<-m.out,<-x.out];exact⟨rfl,a,c⟩
theorem lO (l:List UInt8)(p:Nat)(n:Int):
  hdk l p n=if (GW l p n).1=0 then (if (F3 l (GW l p n).2).1.2.2=0 then ((F3 l (GW l p n).2).1.1,(F3 l (GW l p n).2).1.2.1,(F3 l (GW l p n).2).2,0) else (0,0,p,(F3 l (GW l p n).2).1.2.2)) else (0,0,p,(GW l p n).1):=by
 by_cases h:(B4 l p).2=false
 ·rw[Wp h,Ve h];rfl
 ·have a:(B4 l p).2=true:=by simpa using h
  by_cases h1:(B4 l p).1=n
  ·rw[Yv a h1];show _=if (F3 l (p+gap p+22)).1.2.2=0 then _ else _
   by_cases h2:8*l.length<p+gap p+22+7
   ·rw[YF a h1 h2,Xj h2];rfl
   ·by_cases h3:AD l (p+gap p+22+2) 5=0
    ·rw[Un a h1 (by omega) h3,U7 (by omega) h3];rfl
    ·rw[Rc a h1 (by omega) h3,Yu (by omega) h3];rfl
  ·rw[XA a h1,UU a h1];rfl
theorem iM {l:List UInt8}{p:Nat}(h:(F3 l p).1.2.2≠0):(F3 l p).1.1=0/\(F3 l p).1.2.1=0:=by
 revert h;unfold F3
 split
 ·exact fun _=>⟨rfl,rfl⟩
 ·split
  ·exact fun _=>⟨rfl,rfl⟩
  ·exact fun h=>absurd rfl h
def Rp (s:ByteArray)(p:Nat)(n:Int)(b:Nat)(w:A5)(e:Ending)(a:A5):Prop:=
 e=.returned (.tuple #[.int .i64 (hdk s.data.toList p n).1,.int .i64 (hdk s.data.toList p n).2.1,.int .i64 (hdk s.data.toList p n).2.2.2])/\AG a b s (hdk s.data.toList p n).2.2.1/\w.grownBy a (some b)
theorem mV (w:A5)(b:Nat)(s:ByteArray)(p:Nat)(n:Int)(hr:AG w b s p)(hs:s.size<=1099511627776):
  A9 prog 177 #[.pointer (some ⟨b,0,none⟩),.int .i64 n] w (Rp s p n b w):=by
 have c1:=aP w b s p n hr hs;have c2:=fun w q hr=>aC w b s q hr;have hd:=lO s.data.toList p n;have B:=hr.2.1;unfold Rp;obtain⟨P,v⟩:=Ai (hdk s.data.toList p n);rw[v] at hd ⊢;clear v;generalize GW s.data.toList p n=Q at c1 hd;obtain⟨x,q⟩:=Q;dsimp only at c1 hd;by_cases o:x=0
 ·subst o;rw[Bc rfl] at hd;have c3:=fun w hr=>c2 w q hr;have hn:=fun h=>iM (l:=s.data.toList) (p:=q) h;generalize F3 s.data.toList q=F at c3 hd hn;obtain⟨⟨i,k,f⟩,z⟩:=F;dsimp only at c3 hd hn;clear c2;by_cases r:f=0
  ·subst r;rw[Bc rfl] at hd;subst hd;clear hn
   go_enter func177,ntmps177
   go_wp2_with fail
   refine(E1 _ _ _ _ hr).mono ?_;rintro e t ⟨rfl,rfl⟩
   go_wp2_with fail
   refine c1.mono ?_;rintro e t ⟨rfl,a,c⟩
   go_wp2_with fail
   refine(c3 _ a).mono ?_;rintro e y ⟨rfl,g,j⟩
   go_wp2
   go_ret3
   exact⟨rfl,g,AO c j⟩
  ·obtain⟨rfl,rfl⟩:=hn r;rw[Bb r] at hd;subst hd;have d1:(f != 0)=true:=by rw[Ff];exact r
   clear hn r
   go_enter func177,ntmps177
   go_wp2_with fail
   refine(E1 _ _ _ _ hr).mono ?_;rintro e t ⟨rfl,rfl⟩
   go_wp2_with fail
   refine c1.mono ?_;rintro e t ⟨rfl,a,c⟩
   go_wp2_with fail
   refine(c3 _ a).mono ?_;rintro e y ⟨rfl,g,j⟩;have u:=AO c j
   go_wp2_with fail
   refine(GA _ _ _ _ (p:Int) g (by omega) (by omega)).mono ?_;rintro e A ⟨rfl,d,m⟩;rw[Do] at d
   go_wp2
   go_ret3
   exact⟨rfl,d,AO u m⟩
 ·rw[Bb o] at hd;subst hd;have d1:(x != 0)=true:=by rw[Ff];exact o
  have d2:(x==0)=false:=by rw[Ez];exact o
  clear o c2
  go_enter func177,ntmps177
  go_wp2_with fail
  refine(E1 _ _ _ _ hr).mono ?_;rintro e t ⟨rfl,rfl⟩
  go_wp2_with fail
  refine c1.mono ?_;rintro e t ⟨rfl,a,c⟩
  go_wp2_with fail
  refine(GA _ _ _ _ (p:Int) a (by omega) (by omega)).mono ?_;rintro e A ⟨rfl,d,m⟩;rw[Do] at d
  go_wp2
  go_ret3
  exact⟨rfl,d,AO c m⟩
end Go.Proofs.YtjjmalchelniiaaGreatDoor