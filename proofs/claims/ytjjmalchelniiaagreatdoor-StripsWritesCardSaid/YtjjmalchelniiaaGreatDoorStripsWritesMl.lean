/- StripsWrites, 12. No condition. -/
import Derived.Test.YtjjmalchelniiaaGreatDoorStripsWritesMd
import Derived.Test.YtjjmalchelniiaaGreatDoorStripsWritesMg
import Derived.Test.YtjjmalchelniiaaGreatDoorStripsWritesMk
import Derived.Deep.RegionLaw
import Derived.Laws.CopyOwn
open Go.Proofs.Tryz
open Go renaming World->A5,Calls->A9
set_option maxHeartbeats 1000000
namespace Go.Proofs.YtjjmalchelniiaaGreatDoor
section
open Go.RowKit
abbrev I0:=@List.drop_zero
abbrev I3:=@decide_eq_false
abbrev I4:=@decide_eq_true
abbrev I5:=@List.setIfInBounds_toArray
abbrev I6:=@Bool.eq_iff_iff
abbrev I7:=@Addr.add_mid
abbrev I8:=@List.getElem?_replicate
abbrev I9:=@bne_eq_false_iff_eq
abbrev Ia:=@Nat.mul_one
theorem IJ (w:A5)(B b:Nat)(r:List UInt8)(v n:Int)(m:AQ w B b r)(h2:v<=9223372036854775807)(d:F4 v n=true)(hn:r.length+32<=1099511627776)(u:B<=w.heap.size):
  A9 prog 74 #[.pointer (some ⟨b,0,none⟩),.int .i64 v,.int .i64 n] w fun e j=>e=.returned (.int .i64 0)/\AQ j B b (r++AB v.toNat n.toNat)/\w.grownBy j (some b):=by
 have a:AL (AB v.toNat n.toNat)=true:=I2 _ _;have l:(AB v.toNat n.toNat).length<=32:=by rw[BB];have:=(YW d).2.1;omega
 have o:=Dp a;have p:=Dp d;clear a d
 go_enter func74,ntmps74
 go_wp2_with fail
 refine(Qx v n _ h2 p.out).mono ?_;rintro e q ⟨rfl,c⟩;have f:=m.below c;have g:w.grownBy q (some b):=⟨c.os,c.tape,c.output,c.size,fun k s _=>c.block k s⟩;have t:=c.size;clear c
 go_wp2_with fail
 refine(Si _ B b r _ f o.out (by rw[HX];omega) (by omega)).mono ?_;rintro e x ⟨rfl,h,i⟩
 go_wp2
 go_ret
 exact⟨rfl,h,AR g i⟩
def HF (r:List UInt8)(m k:Nat):List Value:=(List.range m).map fun i=>Value.int .u8 ((if i<256*k then 0 else CB r i:Nat):Int)
theorem Qy (r:List UInt8)(m k:Nat):(HF r m k).length=m:=by simp[HF]
theorem TY (r:List UInt8)(m k i:Nat)(h:i<m):(HF r m k)[i]? =some (.int .u8 ((if i<256*k then 0 else CB r i:Nat):Int)):=by
 simp[HF,h]
theorem Te (r:List UInt8)(m k i:Nat)(h:¬ i<m):(HF r m k)[i]? =none:=Fv (by rw[Qy];omega)
theorem Xs {α:Type}(L:List α)(o:Nat)(cs:List α)(i:Nat)(h:o+cs.length<=L.length):(splice L o cs)[i]? =if i<o then L[i]? else if i<o+cs.length then cs[i-o]? else L[i]?:=by
 unfold splice;by_cases h1:i<o
 ·rw[Bc h1,Hd (by rw[Bf];omega),Hr,Bc h1]
 ·rw[Bb h1,Hg (by rw[Bf];omega),Bf,show min o L.length=o by omega];by_cases h2:i<o+cs.length
  ·rw[Bc h2,Hd (by omega)]
  ·rw[Bb h2,Hg (by omega),El]
   congr 1
   omega
theorem cK (r:List UInt8)(m k:Nat)(h:256*(k+1)<=m):splice (HF r m (k+1)) (256*k) (EC r k)=HF r m k:=by
 apply Ho;intro i;rw[Xs _ _ _ _ (by rw[Qy,F3];omega),F3];by_cases hm:i<m
 ·rw[TY r m k i hm,TY r m (k+1) i hm];by_cases h1:i<256*k
  ·rw[Bc h1,Bc h1,Bc (by omega)]
  ·rw[Bb h1,Bb h1];by_cases h2:i<256*k+256
   ·rw[Bc h2,Qe r k (i-256*k) (by omega),show 256*k+(i-256*k)=i by omega]
   ·rw[Bb h2,Bb (by omega)]
 ·rw[Te r m k i hm,Te r m (k+1) i hm,Bb (by omega),Bb (by omega)]
theorem vI (r:List UInt8)(m q c:Nat)(hc:c=min 256 (m-256*q))(h:256*q<=m)(h2:m<=256*q+256):
  splice (List.replicate m (Value.int .u8 0)) (256*q) ((EC r q).take c)=HF r m q:=by
 apply Ho;intro i;have hl:((EC r q).take c).length=c:=by rw[Bf,F3];omega
 rw[Xs _ _ _ _ (by rw[Bl,hl];omega),hl];by_cases hm:i<m
 ·rw[TY r m q i hm];by_cases h1:i<256*q
  ·rw[Bc h1,Bc h1,I8,Bc hm];rfl
  ·rw[Bb h1,Bb h1,Bc (by omega),Hr,Bc (by omega),Qe r q _ (by omega),show 256*q+(i-256*q)=i by omega]
 ·rw[Te r m q i hm,I8,Bb hm,Bb (by omega),Bb (by omega)]
theorem fI (r:List UInt8)(hr:AL r=true):HF r ((r.length+7) / 8) 0=II (BM r):=by
 rw[bH];unfold HF II;rw[List.map_map];apply Db;intro i _;have:=YD r i hr;simp[UInt8.toNat_ofNat'];omega
theorem Y81 (m:Nat):(madeCells (Value.int .u8 0).cells (m*1)).toList=List.replicate m (Value.int .u8 0):=by
 apply Ho;intro i;simp only[Array.getElem?_toList,I8,Ia];by_cases h:i<m
 ·rw[Bc h,Array.getElem?_eq_getElem (by rw[size_madeCells];exact h)];simp[madeCells,Value.cells,Nat.mod_one]
 ·rw[Bb h,Array.getElem?_eq_none (by rw[size_madeCells];omega)]
theorem jK {w:A5}{base e g n:Nat}{a:List Value}(h:w.ownsRow base e 1 (.slice (some ⟨g,0,none⟩) n n) n a):w.heap[g]? =some (.cells a.toArray e (0,0)):=by
 rcases h.2 with ⟨h1,_⟩|⟨c,cap,b,h1,_,h2,_,_,h3,h4⟩
 ·cases h1
 ·injection h1 with h1 _ h1';injection h1 with h1;injection h1 with h1;subst h1 h1';rw[h2,<-h4,Bk (by rw[Ew];omega),Array.toArray_toList]
theorem WH (w:A5)(B b:Nat)(r:List UInt8)(hw:AQ w B b r)(hn:r.length<=1099511627776):
  A9 prog 40 #[.pointer (some ⟨b,0,none⟩)] w fun e w'=>e=.returned (.string ⟨(BM r).toArray⟩)/\Below w.heap.size w w':=by
 obtain⟨i0,hi,ae,af,ag⟩:=Dv Uo;obtain⟨hr,aq,v,I,hc⟩:=hw;have J:b<w.heap.size:=(Ed.1 I).1;have t:=AA I (NL r v _);obtain⟨m,hm⟩:=Ah ((r.length+7) / 8);obtain⟨q,hq⟩:=Ah (r.length / 2048);have em:((r.length:Int)+7) / 8=((m:Nat):Int):=by omega
 have K:(r.length:Int) / 2048=((q:Nat):Int):=by omega
 have m1:m<=137438953473:=by omega
 go_enter func40,ntmps40
 have am:=Dp em;have E:=Dp hm;have ab:=Dp hq;clear em hm hq
 go_wp2_with (at_make;refine wpList_make_full _ rfl _ _ 95 rfl w.heap.size 5 i0 (.int .u8 0) 1 Dw hi ae af _ _ _ _ m rfl rfl am.out am.out ?b2 ?b3 ?b4 ?_;(case b2=>(rw[ag];omega));(case b3=>(unfold maxLen;omega));(case b4=>exact Ba _);intro w1 c a;have u:=(a.block b J (by simp)).trans I;have l:=AA u (NL r v _))
 obtain⟨o,ho⟩:=Ah (256*q);have eo:(q:Int)*256=((o:Nat):Int):=by omega
 have o1:o<=m:=by have:=E.out;have:=ab.out;omega
 have o2:m<=o+256:=by have:=E.out;have:=ab.out;omega
 have o3:(0:Int)<=(o:Int):=by omega
 have o4:(o:Int)<=(m:Int):=by omega
 rw[eo];have F:=Dp ho;have ar:=Dp K;clear eo ho K;obtain⟨an,n⟩:=Ah (List.replicate m (Value.int .u8 0));have z:=jK c;rw[Y81,n] at z;obtain⟨L,f⟩:=Ah ((EC r q).take (min 256 (m-o)));have M:L.length=min 256 (m-o):=by rw[<-f,Bf,F3];omega
 have N:∀v∈L,v.oneCell'=true:=by rw[<-f];exact fun v hv=>Rm _ _ v (List.mem_of_mem_take hv)
 have d:∀j v,L[j]? =some v->w1.cell? ((⟨b,1,none⟩:Addr).add j)=some v:=by
  intro j x O;have hj:j<L.length:=(Hi.1 O).1;rw[I7];refine AA u ?_;rw[<-f,Hr,Bc (by omega)] at O;unfold HY E2;rw[Cg,Hk,Hd (by rw[F3];omega),ab.out,O]
 have P:Below w.heap.size w w1:=⟨a.os,a.tape,a.output,a.size,fun k hk=>a.block k hk (by simp)⟩;have Q:an.length=m:=by rw[<-n];simp
 have R:=Dp n;have S:=Dp f;have ac:=Dp M;have ao:=Dp Q;have u8:(prog.info? 5).map (·.size)=some 1:=by kernel_rfl
 clear n f M Q c a;refine Hp (by kernel_rfl) ?_;change wpAny _ _ _ _ _ _ _ (World.drew _);refine EG 0 (some 21) (v:=?_) rfl rfl (by kernel_rfl) (by kernel_rfl) (by kernel_rfl) (fun _ _ _ h=>h) (Or.inl ⟨by rfl,?_⟩) ?_
 rotate_left
 ·(intro w;go_simp;try with_reducible rfl)
 rotate_right
 refine EG 1 (some 22) (v:=?_) rfl rfl (by kernel_rfl) (by kernel_rfl) (by kernel_rfl) (fun _ _ _ h=>h) (Or.inl ⟨by rfl,?_⟩) ?_
 rotate_left
 ·(intro w;go_simp;try with_reducible rfl)
 rotate_right
 refine EG 2 (some 23) (v:=?_) rfl rfl (by kernel_rfl) (by kernel_rfl) (by kernel_rfl) (fun _ _ _ h=>h) (Or.inl ⟨by rfl,?_⟩) ?_
 rotate_left
 ·(intro w;go_simp;try with_reducible rfl)
 rotate_right
 refine EG 3 (some 24) (v:=?_) rfl rfl (by kernel_rfl) (by kernel_rfl) (by kernel_rfl) (fun _ _ _ h=>h) (Or.inl ⟨by rfl,?_⟩) ?_
 rotate_left
 ·(intro w;go_simp;try with_reducible rfl)
 rotate_right
 refine EG 4 (some 25) (v:=?_) rfl rfl (by kernel_rfl) (by kernel_rfl) (by kernel_rfl) (fun _ _ _ h=>h) (Or.inl ⟨by rfl,?_⟩) ?_
 rotate_left
 ·(intro w;go_simp;try with_reducible rfl)
 rotate_right
 refine EG 5 (some 26) (v:=?_) rfl rfl (by kernel_rfl) (by kernel_rfl) (by kernel_rfl) (fun _ _ _ h=>h) (Or.inl ⟨by rfl,?_⟩) ?_
 rotate_left
 ·(intro w;go_simp;try with_reducible rfl)
 rotate_right
 refine EG 6 (some 27) (v:=?_) rfl rfl (by kernel_rfl) (by kernel_rfl) (by kernel_rfl) (fun _ _ _ h=>h) (Or.inl ⟨by rfl,?_⟩) ?_
 rotate_left
 ·(intro w;go_simp;try with_reducible rfl)
 rotate_right
 refine QS 7 (by kernel_rfl) (by kernel_rfl) ?_;simp only[Hb,I0,Act.put,I5,Hl,Hm];refine wpList_copy_splice rfl (.tmp 23) (.tmp 27) 95 95 rfl 5 Dw u8 _ _ _ _ _ _ rfl rfl w.heap.size o an 5 (show w1.drew.heap[w.heap.size]? =_ from z) L ?hn ?hpos ?hfit N w.heap.size w P.drew (Ba _) ?_
 case hn=>rw[ac.out]
 case hpos=>
  intro h0;rw[ac.out] at h0;rw[Bb (by omega)];exact⟨rfl,_,rfl,d⟩
 case hfit=>rw[ac.out,ao.out];omega
 intro w2 T A;obtain⟨p0,rfl⟩:=hc.pointer;have U:=(A.block b J).trans I;have V:w2.cell? ⟨b,0,none⟩=some (.pointer p0):=AA U rfl;have G:Hid (w2.heap[w.heap.size]? =some (.cells (HF r m q).toArray 5 (0,0))):=by
  have e:=T.out;have e2:=vI r m q (min 256 (m-o)) (by rw[F.out]) (by rw[F.out];exact o1) (by rw[F.out];exact o2);rw[F.out,R.out,S.out] at e2;rw[e2] at e;exact Dp e
 have H:Hid (H4 w B r q (.pointer p0)):=by have e:=hc;rw[ab.out] at e;exact Dp e
 clear hc u U l T z d P R S ac ao N I t ar;generalize (if m=o then (some ({block:=w.heap.size,off:=0}:Addr)) else some {block:=w.heap.size,off:=o})=dx
 go_wp2
 go_loopw [4,5] (fun x p wr=>∃(k:Nat) (W:Option Addr),x=.int .i64 ((256*k:Nat):Int)/\p=.pointer W/\256*k<=m/\Hid (H4 w B r k (.pointer W))/\Hid (wr.heap[w.heap.size]? =some (.cells (HF r m k).toArray 5 (0,0)))/\Below w.heap.size w wr) (fun x _ _=>(intOf x).toNat)
 case atStart=>exact⟨q,p0,by rw[F.out],rfl,by rw[F.out];exact o1,H,G,A⟩
 case round=>
  clear H G A V;obtain⟨k,W,rfl,rfl,hk,H,G,hb⟩:=hrel;cases k with
  |zero=>
   have e:=H.out;obtain rfl:W=none:=by injection e
   have c:DU wr 0 5 (.slice (some ⟨w.heap.size,0,none⟩) m m) (BM r):=by
    refine⟨by rw[fR];omega,.inr ⟨w.heap.size,m,(HF r m 0).toArray,by rw[QY,E.out],Ds _,G.out,by rw[QY,E.out];exact Ba _,by unfold maxLen;omega,by simp[Qy],?_⟩⟩;have e:=fI r hr;rw[E.out] at e;rw[<-e,List.toList_toArray];exact Bk (by rw[Qy,QY,E.out];omega)
   have ht:=DU.text Dw Dy Dx c;clear e c
   go_wp2
   go_ret
   exact⟨rfl,hb⟩
  |succ k=>
   obtain⟨g,v',e,au,X,C⟩:=H.out;obtain rfl:W=some ⟨g,0,none⟩:=by injection e
   obtain⟨p1,rfl⟩:=C.pointer;have ah:=Dp C;clear e C;have s:g<w.heap.size:=(Ed.1 X).1;have D:=(hb.block g s).trans X
   go_wp2
   obtain⟨y,hy⟩:=Ah (256*k);have ey:256*((k:Int)+1)-256=((y:Nat):Int):=by omega
   have y1:y+256<=m:=by omega
   have y2:(0:Int)<=(y:Int):=by omega
   have y3:(y:Int)<=(m:Int):=by omega
   rw[ey];have ai:=Dp hy;clear ey hy;obtain⟨ad,i⟩:=Ah (EC r k);have Y:ad.length=256:=by rw[<-i];exact F3 _ _
   have aj:∀v∈ad,v.oneCell'=true:=by rw[<-i];exact Rm _ _
   rw[i] at X D;have d:∀j v,ad[j]? =some v->wr.cell? ((⟨g,1,none⟩:Addr).add j)=some v:=by
    intro j x O;rw[I7];refine AA D ?_;rw[Cg,Hk,O]
   have ak:=Dp i;have ap:=Dp Y;clear i Y;refine Hp (by kernel_rfl) ?_;change wpAny _ _ _ _ _ _ _ (World.drew _);refine EG 0 (some 41) (v:=?_) rfl rfl (by kernel_rfl) (by kernel_rfl) (by kernel_rfl) (fun _ _ _ h=>h) (Or.inl ⟨by rfl,?_⟩) ?_
   rotate_left
   ·(intro w;go_simp;try with_reducible rfl)
   rotate_right
   refine EG 1 (some 42) (v:=?_) rfl rfl (by kernel_rfl) (by kernel_rfl) (by kernel_rfl) (fun _ _ _ h=>h) (Or.inl ⟨by rfl,?_⟩) ?_
   rotate_left
   ·(intro w;go_simp;try with_reducible rfl)
   rotate_right
   refine EG 2 (some 43) (v:=?_) rfl rfl (by kernel_rfl) (by kernel_rfl) (by kernel_rfl) (fun _ _ _ h=>h) (Or.inl ⟨by rfl,?_⟩) ?_
   rotate_left
   ·(intro w;go_simp;try with_reducible rfl)
   rotate_right
   refine EG 3 (some 44) (v:=?_) rfl rfl (by kernel_rfl) (by kernel_rfl) (by kernel_rfl) (fun _ _ _ h=>h) (Or.inl ⟨by rfl,?_⟩) ?_
   rotate_left
   ·(intro w;go_simp;try with_reducible rfl)
   rotate_right
   refine EG 4 (some 45) (v:=?_) rfl rfl (by kernel_rfl) (by kernel_rfl) (by kernel_rfl) (fun _ _ _ h=>h) (Or.inl ⟨by rfl,?_⟩) ?_
   rotate_left
   ·(intro w;go_simp;try with_reducible rfl)
   rotate_right
   refine EG 5 (some 46) (v:=?_) rfl rfl (by kernel_rfl) (by kernel_rfl) (by kernel_rfl) (fun _ _ _ h=>h) (Or.inl ⟨by rfl,?_⟩) ?_
   rotate_left
   ·(intro w;go_simp;try with_reducible rfl)
   rotate_right
   refine EG 6 (some 47) (v:=?_) rfl rfl (by kernel_rfl) (by kernel_rfl) (by kernel_rfl) (fun _ _ _ h=>h) (Or.inl ⟨by rfl,?_⟩) ?_
   rotate_left
   ·(intro w;go_simp;try with_reducible rfl)
   rotate_right
   refine QS 7 (by kernel_rfl) (by kernel_rfl) ?_;simp only[Hb,I0,Act.put,I5,Hl,Hm]
   refine wpList_copy_splice rfl (.tmp 43) (.tmp 47) 95 95 rfl 5 Dw u8 _ _ _ _ _ _ rfl rfl w.heap.size y (HF r m (k+1)) 5 (show wr.drew.heap[w.heap.size]? =_ from G.out) ad ?hn2 ?hpos2 ?hfit2 aj w.heap.size w hb.drew (Ba _) ?_
   case hn2=>rw[ap.out];show 256=min 256 (m-y);omega
   case hpos2=>
    intro _;rw[Bb (by omega)];exact⟨rfl,_,rfl,d⟩
   case hfit2=>rw[ap.out,Qy];exact y1
   intro w3 Z aa;have al:Hid (w3.heap[w.heap.size]? =some (.cells (HF r m k).toArray 5 (0,0))):=by
    have e:=Z.out;rw[<-ak.out,<-ai.out,cK r m k (by omega)] at e;exact Dp e
   have av:w3.cell? ⟨g,0,none⟩=some (.pointer p1):=AA ((aa.block g s).trans X) rfl;generalize (if m=y then (some ({block:=w.heap.size,off:=0}:Addr)) else some {block:=w.heap.size,off:=y})=dy;clear Z D X d G H hb
   go_wp2
   go_roundw
   case rel=>exact⟨k,p1,by rw[ai.out],rfl,by omega,ah,al,aa⟩
   case measure=>simp[intOf];have:=ai.out;omega
theorem VS (y:Nat):(y:Int) / 2^5=((y / 32:Nat):Int):=by simp
theorem low5 (y:Nat):bits .and .i64 (y:Int) 31=((y%32:Nat):Int):=by
 have:=LR (y:Int) 5 (by omega);rw[show (2:Int)^5-1=31 from rfl] at this;rw[this];simp
theorem Ri {l:List UInt8}{bit:Int}{v c:Int}(h:B0 l bit=(v,c)){k a:IntKind}:Ending.returned (.tuple #[.int k v,.int a c])=.returned (.tuple #[.int k (B0 l bit).1,.int a (B0 l bit).2]):=by rw[h]
theorem SF (w:A5)(s:ByteArray)(bit:Int)(hs:s.size<=1099511627776):
  A9 prog 59 #[.string s,.int .i64 bit] w fun e D=>e=.returned (.tuple #[.int .i64 (B0 s.data.toList bit).1,.int .i64 (B0 s.data.toList bit).2])/\Below w.heap.size w D:=by
 have a:s.data.toList.length=s.size:=rfl;obtain⟨b,q⟩:=Ah w.heap.size;have h:AI (w.alloc (KX s 0)) b s 0:=AI.fresh q (Eg hs (by decide));have f:Below w.heap.size w (w.alloc (KX s 0)):=(Dq _ w).alloc (Ba _) _;have v:(w.alloc (KX s 0)).heap.size=b+1:=by simp;exact q
 rw[q] at f;have x:=Dp q;rw[q];by_cases h1:bit<0\/8*(s.size:Int)<bit
 ·have A:=Dp (U3 (l:=s.data.toList) (bit:=bit) (by rw[a];exact h1))
  go_enter func59,ntmps59
  go_wp2_with fail
  refine(Pq _ _).mono ?_;rintro e o ⟨rfl,rfl⟩;rw[x.out]
  go_wp2_with fail
  refine(Z8 _ _ _ _ bit h h1).mono ?_;rintro e o ⟨rfl,rfl⟩;clear h1
  go_wp2
  go_ret2
  exact⟨Ri A.out,f⟩
 ·obtain⟨p,rfl⟩:=Du (by omega:0<=bit);have E:p<=8*s.size:=by omega
  clear h1;by_cases h2:8*s.size<p+22
  ·have A:=Dp (NY (l:=s.data.toList) (p:=p) (by rw[a];exact E) (by rw[a];exact h2));have K:=Dp (FM (l:=s.data.toList) (p:=p) (n:=22) (by omega) (by rw[a];omega))
   go_enter func59,ntmps59
   go_wp2_with fail
   refine(Pq _ _).mono ?_;rintro e o ⟨rfl,rfl⟩;rw[x.out]
   go_wp2_with fail
   refine(GH _ _ _ _ (p:Int) h (by omega) (by omega)).mono ?_;rintro e o ⟨rfl,c,d⟩;rw[Dr] at c;have i:Below b w o:=f.grown d (by omega) (by intro k g;injection g with g;omega);have r:=d.size
   go_wp2_with fail
   refine(JF _ _ _ _ _ c).mono ?_;rintro e z ⟨rfl,t,j⟩;rw[K.out];have m:Below b w z:=i.grown j (by omega) (by intro k g;injection g with g;omega)
   go_wp2
   go_ret2
   exact⟨Ri A.out,m⟩
  ·have A:=Dp (K0 (l:=s.data.toList) (p:=p) (by rw[a];omega));have K:=Dp (EL (l:=s.data.toList) (p:=p) (n:=22) (by omega) (by rw[a];omega));have B:AE s.data.toList p (22:Int).toNat<4194304:=F1 s.data.toList p 22;have u:AE s.data.toList p (22:Int).toNat=AE s.data.toList p 22:=rfl;rw[<-u] at A;generalize AE s.data.toList p (22:Int).toNat=y at A K B;clear u
   have G:=Dp (VS y);have F:=Dp (low5 y)
   go_enter func59,ntmps59
   go_wp2_with fail
   refine(Pq _ _).mono ?_;rintro e o ⟨rfl,rfl⟩;rw[x.out]
   go_wp2_with fail
   refine(GH _ _ _ _ (p:Int) h (by omega) (by omega)).mono ?_;rintro e o ⟨rfl,c,d⟩;rw[Dr] at c;have i:Below b w o:=f.grown d (by omega) (by intro k g;injection g with g;omega);have r:=d.size
   go_wp2_with fail
   refine(JF _ _ _ _ _ c).mono ?_;rintro e z ⟨rfl,t,j⟩;rw[K.out];have m:Below b w z:=i.grown j (by omega) (by intro k g;injection g with g;omega);clear h f v c d t j i r K;by_cases h3:y / 32=1
   ·have d3:((y:Int) / 32 != 1)=false:=by rw[I9];omega
    have C:=Dp (A.out.trans (Bc h3));clear A h3
    go_wp2
    go_ret2
    rw[F.out];exact⟨Ri C.out,m⟩
   ·have d3:((y:Int) / 32 != 1)=true:=by rw[Fl];omega
    have C:=Dp (A.out.trans (Bb h3));clear A h3
    go_wp2
    go_ret2
    exact⟨Ri C.out,m⟩
theorem Us {l:List UInt8}{bit:Int}{v:Int}{c:Bool}(h:BH l bit=(v,c)){k:IntKind}:Ending.returned (.tuple #[.int k v,.bool c])=.returned (.tuple #[.int k (BH l bit).1,.bool (BH l bit).2]):=by rw[h]
theorem Xn (w:A5)(s:ByteArray)(bit:Int)(hs:s.size<=1099511627776):
  A9 prog 190 #[.string s,.int .i64 bit] w fun e F=>e=.returned (.tuple #[.int .i64 (BH s.data.toList bit).1,.bool (BH s.data.toList bit).2])/\Below w.heap.size w F:=by
 have d:s.data.toList.length=s.size:=rfl;obtain⟨b,m⟩:=Ah w.heap.size;have f:AI (w.alloc (KX s 0)) b s 0:=AI.fresh m (Eg hs (by decide));have a:Below w.heap.size w (w.alloc (KX s 0)):=(Dq _ w).alloc (Ba _) _;have v:(w.alloc (KX s 0)).heap.size=b+1:=by simp;exact m
 rw[m] at a;have B:=Dp m;rw[m];by_cases h1:bit<0\/8*(s.size:Int)<bit
 ·have A:=Dp (U8 (l:=s.data.toList) (bit:=bit) (by rw[d];exact h1))
  go_enter func190,ntmps190
  go_wp2_with fail
  refine(Pq _ _).mono ?_;rintro e u ⟨rfl,rfl⟩;rw[B.out]
  go_wp2_with fail
  refine(Z8 _ _ _ _ bit f h1).mono ?_;rintro e u ⟨rfl,rfl⟩;clear h1
  go_wp2
  go_ret2
  exact⟨Us A.out,a⟩
 ·obtain⟨p,rfl⟩:=Du (by omega:0<=bit);have C:p<=8*s.size:=by omega
  clear h1
  go_enter func190,ntmps190
  go_wp2_with fail
  refine(Pq _ _).mono ?_;rintro e u ⟨rfl,rfl⟩;rw[B.out]
  go_wp2_with fail
  refine(GH _ _ _ _ (p:Int) f (by omega) (by omega)).mono ?_;rintro e u ⟨rfl,h,i⟩;rw[Dr] at h;have n:Below b w u:=a.grown i (by omega) (by intro k o;injection o with o;omega);have x:=i.size
  go_wp2_with fail
  refine(UW _ _ _ _ h).mono ?_;rintro e D ⟨rfl,c,j⟩;have r:Below b w D:=n.grown j (by omega) (by intro k o;injection o with o;omega);have y:=j.size;have G:b<=D.heap.size:=by omega
  clear f a v h i j n x y;by_cases h3:AE s.data.toList p (gap p)=0
  ·have A:=Dp (Qo (l:=s.data.toList) (p:=p) (by rw[d];exact C) h3);have t:K2 s.data.toList p=(((gap p:Nat):Int),0):=Bc h3;have E:MK s.data.toList p=p+gap p:=Bc h3;rw[E] at c;rw[t];generalize p+gap p=q at A c;generalize gap p=g;clear h3 t E
   go_wp2_with fail
   refine(ED _ _ _ _ c).mono ?_;rintro e H ⟨rfl,rfl⟩
   go_wp2_with fail
   refine(SF _ _ _ hs).mono ?_;rintro e I ⟨rfl,z⟩
   go_wp2
   go_ret2
   exact⟨Us A.out,r.trans (z.mono G)⟩
  ·have A:=Dp (Tt (l:=s.data.toList) (p:=p) (by rw[d];exact C) h3);have t:K2 s.data.toList p=(0,5):=Bb h3;rw[t];clear h3 t c
   go_wp2
   go_ret2
   exact⟨Us A.out,r⟩
theorem Qpf:∀n:Fin 32,bits .or .i64 32 ((n.val:Nat):Int)=((32+n.val:Nat):Int):=by decide +kernel
theorem Qd7 (n:Nat)(h:n<32):F4 ((32+n:Nat):Int) 22=true:=by
 unfold F4;rw[Fi];refine⟨by omega,by omega,by omega,?_⟩;show ((32+n:Nat):Int)<2^22;omega
theorem Su (w:A5)(B b:Nat)(r:List UInt8)(n:Nat)(h:n<32)(l:AQ w B b r)(hn:r.length+40<=1099511627776)(i:B<=w.heap.size):
  A9 prog 75 #[.pointer (some ⟨b,0,none⟩),.int .i64 (n:Int)] w fun e j=>e=.returned (.int .i64 0)/\AQ j B b (r++List.replicate (gap r.length) 48++BR n)/\w.grownBy j (some b):=by
 have O:Hid (bits .or .i64 32 (n:Int)=((32+n:Nat):Int)):=Dp (Qpf ⟨n,h⟩);have k:=Qd7 n h;have F:=Dp k;have G:=Dp (Ps r.length);have d1:decide ((n:Int)<0)=false:=by simp
 have d2:decide (31<(n:Int))=false:=by simp;omega
 have V:Hid (((32+n:Nat):Int)<=9223372036854775807):=Dp (by omega);clear k h
 go_enter func75,ntmps75
 go_wp2_with fail
 refine(TV _ B b r l (by omega) i).mono ?_;rintro e m ⟨rfl,d,a⟩;have f:B<=m.heap.size:=Eg i a.size
 go_wp2_with fail
 rw[O.out];refine(IJ _ B b _ _ _ d V.out F.out (by have:=G.out;rw[B9,Bl];omega) f).mono ?_;rintro e o ⟨rfl,c,g⟩;rw[xX] at c
 go_wp2
 go_ret
 exact⟨rfl,c,AR a g⟩
end
section
open Go.RowKit Go.Lib
def AO (l:List UInt8):ByteArray:=⟨l.toArray⟩
theorem MN (l m:List UInt8):AO l++AO m=AO (l++m):=by apply Da;simp[AO]
theorem IC (l:List UInt8):(AO l).size=l.length:=by simp[AO,ByteArray.size]
theorem qO:∀n:Fin 32,[48,48,48,48,48,48,48,48,48,48,48,48,48,48,48,48,49]++AB n.val 5=BR n.val:=by decide +kernel
theorem nU:(⟨#[48,48,48,48,48,48,48,48,48,48,48,48,48,48,48,48,49]⟩:ByteArray)=AO [48,48,48,48,48,48,48,48,48,48,48,48,48,48,48,48,49]:=rfl
theorem Se (n:Nat)(h:n<32)(w:A5):
  A9 prog 43 #[.int .i64 (n:Int)] w fun e b=>e=.returned (.string (AO (BR n)))/\w=b:=by
 have c:=fun w=>KK (n:Int) 5 (by omega) (by omega) (by decide) (by decide) w;rw[Dr,show (5:Int).toNat=5 from rfl] at c;have E:(⟨#[48,48,48,48,48,48,48,48,48,48,48,48,48,48,48,48,49]⟩:ByteArray)++⟨(AB n 5).toArray⟩=AO (BR n):=by
  rw[nU,<-qO ⟨n,h⟩];exact MN _ _
 have a:(⟨(AB n 5).toArray⟩:ByteArray).size=5:=by rw[HX,BB]
 generalize (⟨(AB n 5).toArray⟩:ByteArray)=R at c E a;have d:R.size<=5:=by omega
 have f:=Dp E;clear h a E
 go_enter func43,ntmps43
 go_wp2_with fail
 refine(c _).mono ?_;rintro e g ⟨rfl,rfl⟩
 go_wp2
 go_ret
 rw[f.out];exact⟨rfl,rfl⟩
end
section
open Go.RowKit
def Re (n id q:Int):Bool:=decide (1<=n/\n<=17/\0<=id/\id<=3/\1<=q/\q<=31)
theorem aP {n id q:Int}(h:1<=n/\n<=17/\0<=id/\id<=3/\1<=q/\q<=31):Re n id q=true:=I4 h
theorem nL {n id q:Int}(h:¬ (1<=n/\n<=17/\0<=id/\id<=3/\1<=q/\q<=31)):Re n id q=false:=I3 h
theorem rU:∀(i:Fin 4) (q:Fin 32),bits .or .i64 (((i.val:Nat):Int)*32) ((q.val:Nat):Int)=((32*i.val+q.val:Nat):Int):=by decide +kernel
theorem Y8o:∀(i:Fin 4) (q:Fin 32),AB (32*i.val+q.val) 7=JE i.val q.val:=by decide +kernel
theorem xW (n:Nat)(h:n<128):F4 (n:Int) 7=true:=by
 unfold F4;rw[Fi];refine⟨by omega,by omega,by omega,?_⟩;show (n:Int)<2^7;omega
theorem Y4w (l:List UInt8)(p:Nat)(h:p+7<=8*l.length):AE l p 7 / 32=AE l p 2/\AE l p 7%32=AE l (p+2) 5:=by
 have e:=LC l p 2 5 (by omega);have a:=F1 l (p+2) 5;have b:AE l p 7=AE l p (2+5):=rfl;omega
theorem Qdy {q:Int}{b:Bool}(h1:q<=31->b=true)(h2:¬ q<=31->b=false):decide (q<=31)=b:=by
 by_cases h:q<=31
 ·rw[h1 h,I4 h]
 ·rw[h2 h,I3 h]
theorem qI (n id q:Int)(w:A5):
  A9 prog 141 #[.int .i64 n,.int .i64 id,.int .i64 q] w fun e g=>e=.returned (.bool (Re n id q))/\w=g:=by
 obtain⟨b,a⟩:=Ah (Re n id q);rw[a];have d:=Dp a;clear a;have f:Hid ((¬ (1<=n/\n<=17/\0<=id/\id<=3/\1<=q/\q<=31))->b=false):=Dp fun h=>d.out.symm.trans (nL h);have c:Hid ((1<=n/\n<=17/\0<=id/\id<=3/\1<=q/\q<=31)->b=true):=Dp fun h=>d.out.symm.trans (aP h)
 go_enter func141,ntmps141
 go_wp2
 all_goals
  go_ret
  refine⟨C6 (fun x=>Ending.returned (Value.bool x)) ?_,rfl⟩
  first
   |exact(f.out (by omega)).symm
   |exact Qdy (fun h=>c.out (by omega)) (fun h=>f.out (by omega))
theorem lN (w:A5)(B b:Nat)(r:List UInt8)(n id q:Nat)(h:1<=n/\n<=17/\id<=3/\1<=q/\q<=31)(m:AQ w B b r)(hn:r.length+80<=1099511627776)(k:B<=w.heap.size):
  A9 prog 105 #[.pointer (some ⟨b,0,none⟩),.int .i64 (n:Int),.int .i64 (id:Int),.int .i64 (q:Int)] w fun e l=>e=.returned (.int .i64 0)/\AQ l B b (DS r n++JE id q)/\w.grownBy l (some b):=by
 have c:=fun w=>qI n id q w;rw[aP (by omega)] at c;have O:Hid (bits .or .i64 ((id:Int)*32) (q:Int)=((32*id+q:Nat):Int)):=Dp (rU ⟨id,by omega⟩ ⟨q,by omega⟩);have o:Hid (AB (32*id+q) 7=JE id q):=Dp (Y8o ⟨id,by omega⟩ ⟨q,by omega⟩);have F:=Dp (xW (32*id+q) (by omega));have V:Hid (((32*id+q:Nat):Int)<=9223372036854775807):=Dp (by omega)
 have s:IntKind.i64.wrap ((id:Int)*32)=(id:Int)*32:=by rw[Cq];omega
 have p:=Dp (Ur r n);have G:=Dp (Ps r.length);have c2:=Su w B b r n (by omega) m (by omega) k;clear h
 go_enter func105,ntmps105
 go_wp2_with fail
 refine(c _).mono ?_;rintro e g ⟨rfl,rfl⟩
 go_wp2_with fail
 refine c2.mono ?_;rintro e g ⟨rfl,a,d⟩;have i:B<=g.heap.size:=Eg k d.size;have a:AQ g B b (DS r n):=a
 go_wp2_with fail
 rw[O.out];refine(IJ _ B b _ _ _ a V.out F.out (by have:=p.out;have:=G.out;omega) i).mono ?_;rintro e t ⟨rfl,f,j⟩;rw[show (((32*id+q:Nat):Int)).toNat=32*id+q from rfl,show (7:Int).toNat=7 from rfl,o.out] at f
 go_wp2
 go_ret
 exact⟨rfl,f,AR d j⟩
def GY (l:List UInt8)(p:Nat)(n:Int):Int×Nat:=
 if (BH l p).2=false then (4,p) else if (BH l p).1≠n then (10,p) else (0,p+gap p+22)
theorem YI {l:List UInt8}{p:Nat}{n:Int}(h:(BH l p).2=false):GY l p n=(4,p):=Bc h
theorem Yr {l:List UInt8}{p:Nat}{n:Int}(h:(BH l p).2=true)(h1:(BH l p).1≠n):GY l p n=(10,p):=by
 unfold GY;rw[Bb (by rw[h];decide),Bc h1]
theorem Wp {l:List UInt8}{p:Nat}{n:Int}(h:(BH l p).2=true)(h1:(BH l p).1=n):GY l p n=(0,p+gap p+22):=by
 unfold GY;rw[Bb (by rw[h];decide),Bb (fun k=>k h1)]
theorem Qes (w:A5)(b:Nat)(s:ByteArray)(p:Nat)(n:Int)(hr:AI w b s p)(hs:s.size<=1099511627776):
  A9 prog 191 #[.pointer (some ⟨b,0,none⟩),.int .i64 n] w fun e z=>e=.returned (.int .i64 (GY s.data.toList p n).1)/\AI z b s (GY s.data.toList p n).2/\w.grownBy z (some b):=by
 have c1:=fun w=>Xn w s (p:Int) hs;have D:s.data.toList.length=s.size:=rfl;have o:=fun h=>YI (l:=s.data.toList) (p:=p) (n:=n) h;have i:=fun h h1=>Yr (l:=s.data.toList) (p:=p) (n:=n) h h1;have j:=fun h h1=>Wp (l:=s.data.toList) (p:=p) (n:=n) h h1;have d:=fun h=>W1 (l:=s.data.toList) (p:=p) h;have f:=fun h=>SR (l:=s.data.toList) (p:=p) h
 obtain⟨m,hm⟩:=Ah ((BH s.data.toList p).1);obtain⟨E,k⟩:=Ah ((BH s.data.toList p).2);rw[hm,k] at c1;rw[k] at d f o i j;rw[hm] at i j;clear hm k;obtain⟨P,A⟩:=Ah (GY s.data.toList p n);rw[A] at o i j ⊢;clear A;cases E with
 |false=>
  obtain rfl:=o rfl;clear o i j d f
  go_enter func191,ntmps191
  go_wp2_with fail
  refine(LG _ _ _ _ hr).mono ?_;rintro e g ⟨rfl,rfl⟩
  go_wp2_with fail
  refine(ED _ _ _ _ hr).mono ?_;rintro e g ⟨rfl,rfl⟩
  go_wp2_with fail
  refine(c1 _).mono ?_;rintro e g ⟨rfl,a⟩
  go_wp2
  go_ret
  exact⟨rfl,hr.below a,BZ a _⟩
 |true=>
  by_cases c:m=n
  ·obtain rfl:=j rfl c;have d1:(m != n)=false:=by rw[c];simp
   have B:=f rfl;have hi:=d rfl;have C:MK s.data.toList p=p+gap p:=Bc B;have K:=Dp (EL (l:=s.data.toList) (p:=p+gap p) (n:=22) (by omega) (by omega));have T:Hid (CF s.data.toList (p+gap p) 22=p+gap p+22):=Dp (by unfold CF;rw[K.out];rfl);clear o i j d f c B hi
   go_enter func191,ntmps191
   go_wp2_with fail
   refine(LG _ _ _ _ hr).mono ?_;rintro e g ⟨rfl,rfl⟩
   go_wp2_with fail
   refine(ED _ _ _ _ hr).mono ?_;rintro e g ⟨rfl,rfl⟩
   go_wp2_with fail
   refine(c1 _).mono ?_;rintro e g ⟨rfl,a⟩;have q:=hr.below a;have r:=BZ a (some b)
   go_wp2_with fail
   refine(UW _ _ _ _ q).mono ?_;rintro e F ⟨rfl,t,u⟩;rw[C] at t;have x:=AR r u;clear hr q r u a C
   go_wp2_with fail
   refine(JF _ _ _ _ 22 t).mono ?_;rintro e G ⟨rfl,v,y⟩;rw[T.out] at v;rw[K.out]
   go_wp2
   go_ret
   exact⟨rfl,v,AR x y⟩
  ·obtain rfl:=i rfl c;have d1:(m != n)=true:=by rw[Fl];exact c
   clear o i j d f c
   go_enter func191,ntmps191
   go_wp2_with fail
   refine(LG _ _ _ _ hr).mono ?_;rintro e g ⟨rfl,rfl⟩
   go_wp2_with fail
   refine(ED _ _ _ _ hr).mono ?_;rintro e g ⟨rfl,rfl⟩
   go_wp2_with fail
   refine(c1 _).mono ?_;rintro e g ⟨rfl,a⟩
   go_wp2
   go_ret
   exact⟨rfl,hr.below a,BZ a _⟩
def FF (l:List UInt8)(p:Nat):(Int×Int×Int)×Nat:=
 if 8*l.length<p+7 then ((0,0,2),p) else if AE l (p+2) 5=0 then ((0,0,9),p+7)
 else ((((AE l p 2:Nat):Int),((AE l (p+2) 5:Nat):Int),0),p+7)
theorem Y9 {l:List UInt8}{p:Nat}(h:8*l.length<p+7):FF l p=((0,0,2),p):=Bc h
theorem WP {l:List UInt8}{p:Nat}(h:p+7<=8*l.length)(h1:AE l (p+2) 5=0):FF l p=((0,0,9),p+7):=by
 unfold FF;rw[Bb (by omega),Bc h1]
theorem YV {l:List UInt8}{p:Nat}(h:p+7<=8*l.length)(h1:AE l (p+2) 5≠0):FF l p=((((AE l p 2:Nat):Int),((AE l (p+2) 5:Nat):Int),0),p+7):=by
 unfold FF;rw[Bb (by omega),Bb h1]
theorem xC (w:A5)(b:Nat)(s:ByteArray)(p:Nat)(hr:AI w b s p):
  A9 prog 192 #[.pointer (some ⟨b,0,none⟩)] w fun e o=>e=.returned (.tuple #[.int .i64 (FF s.data.toList p).1.1,.int .i64 (FF s.data.toList p).1.2.1,.int .i64 (FF s.data.toList p).1.2.2])/\AI o b s (FF s.data.toList p).2/\w.grownBy o (some b):=by
 have d:s.data.toList.length=s.size:=rfl;have q:=hr.2.1;by_cases h:8*s.size<p+7
 ·have K:=Dp (FM (l:=s.data.toList) (p:=p) (n:=7) (by omega) (by omega));have T:Hid (CF s.data.toList p 7=p):=Dp (by unfold CF;rw[K.out];rfl);rw[Y9 (by omega)];clear h q d
  go_enter func192,ntmps192
  go_wp2_with fail
  refine(JF _ _ _ _ 7 hr).mono ?_;rintro e r ⟨rfl,a,c⟩;rw[T.out] at a;rw[K.out]
  go_wp2
  go_ret3
  exact⟨rfl,a,c⟩
 ·have K:=Dp (EL (l:=s.data.toList) (p:=p) (n:=7) (by omega) (by omega));have T:Hid (CF s.data.toList p 7=p+7):=Dp (by unfold CF;rw[K.out];rfl);obtain⟨j,f⟩:=Y4w s.data.toList p (by omega);have k:=F1 s.data.toList p 7;have g:=fun h1=>WP (l:=s.data.toList) (p:=p) (by omega) h1;have i:=fun h1=>YV (l:=s.data.toList) (p:=p) (by omega) h1;rw[show (7:Int).toNat=7 from rfl] at K
  obtain⟨y,t⟩:=Ah (AE s.data.toList p 7);rw[t] at K j f k;rw[<-j,<-f] at i;rw[<-f] at g;clear h q d t j f;have u:=Dp (VS y);have m:=Dp (low5 y);by_cases h1:y%32=0
  ·have d1:decide (bits .and .i64 (y:Int) 31<1)=true:=by rw[m.out];simp;omega
   rw[g h1];clear g i
   go_enter func192,ntmps192
   go_wp2_with fail
   refine(JF _ _ _ _ 7 hr).mono ?_;rintro e r ⟨rfl,a,c⟩;rw[T.out] at a;rw[K.out]
   go_wp2
   go_ret3
   exact⟨rfl,a,c⟩
  ·have d1:decide (bits .and .i64 (y:Int) 31<1)=false:=by rw[m.out];simp;omega
   rw[i h1];have v:(y:Int) / 32=((y / 32:Nat):Int):=u.out;have x:=Dp v;clear g i v u
   go_enter func192,ntmps192
   go_wp2_with fail
   refine(JF _ _ _ _ 7 hr).mono ?_;rintro e r ⟨rfl,a,c⟩;rw[T.out] at a;rw[K.out]
   go_wp2
   go_ret3
   rw[<-m.out,<-x.out];exact⟨rfl,a,c⟩
theorem kE (l:List UInt8)(p:Nat)(n:Int):
  hdk l p n=if (GY l p n).1=0 then (if (FF l (GY l p n).2).1.2.2=0 then ((FF l (GY l p n).2).1.1,(FF l (GY l p n).2).1.2.1,(FF l (GY l p n).2).2,0) else (0,0,p,(FF l (GY l p n).2).1.2.2)) else (0,0,p,(GY l p n).1):=by
 by_cases h:(BH l p).2=false
 ·rw[YI h,Yx h];rfl
 ·have a:(BH l p).2=true:=by simpa using h
  by_cases h1:(BH l p).1=n
  ·rw[Wp a h1];show _=if (FF l (p+gap p+22)).1.2.2=0 then _ else _
   by_cases h2:8*l.length<p+gap p+22+7
   ·rw[WQ a h1 h2,Y9 h2];rfl
   ·by_cases h3:AE l (p+gap p+22+2) 5=0
    ·rw[Vq a h1 (by omega) h3,WP (by omega) h3];rfl
    ·rw[US a h1 (by omega) h3,YV (by omega) h3];rfl
  ·rw[Yr a h1,Y7 a h1];rfl
theorem dS {l:List UInt8}{p:Nat}(h:(FF l p).1.2.2≠0):(FF l p).1.1=0/\(FF l p).1.2.1=0:=by
 revert h;unfold FF
 split
 ·exact fun _=>⟨rfl,rfl⟩
 ·split
  ·exact fun _=>⟨rfl,rfl⟩
  ·exact fun h=>absurd rfl h
def Sg (s:ByteArray)(p:Nat)(n:Int)(b:Nat)(w:A5)(e:Ending)(a:A5):Prop:=
 e=.returned (.tuple #[.int .i64 (hdk s.data.toList p n).1,.int .i64 (hdk s.data.toList p n).2.1,.int .i64 (hdk s.data.toList p n).2.2.2])/\AI a b s (hdk s.data.toList p n).2.2.1/\w.grownBy a (some b)
theorem vM (w:A5)(b:Nat)(s:ByteArray)(p:Nat)(n:Int)(hr:AI w b s p)(hs:s.size<=1099511627776):
  A9 prog 177 #[.pointer (some ⟨b,0,none⟩),.int .i64 n] w (Sg s p n b w):=by
 have c1:=Qes w b s p n hr hs;have c2:=fun w q hr=>xC w b s q hr;have hd:=kE s.data.toList p n;have B:=hr.2.1;unfold Sg;obtain⟨P,v⟩:=Ah (hdk s.data.toList p n);rw[v] at hd ⊢;clear v;generalize GY s.data.toList p n=Q at c1 hd;obtain⟨x,q⟩:=Q;dsimp only at c1 hd;by_cases o:x=0
 ·subst o;rw[Bc rfl] at hd;have c3:=fun w hr=>c2 w q hr;have hn:=fun h=>dS (l:=s.data.toList) (p:=q) h;generalize FF s.data.toList q=F at c3 hd hn;obtain⟨⟨i,k,f⟩,z⟩:=F;dsimp only at c3 hd hn;clear c2;by_cases r:f=0
  ·subst r;rw[Bc rfl] at hd;subst hd;clear hn
   go_enter func177,ntmps177
   go_wp2_with fail
   refine(ED _ _ _ _ hr).mono ?_;rintro e t ⟨rfl,rfl⟩
   go_wp2_with fail
   refine c1.mono ?_;rintro e t ⟨rfl,a,c⟩
   go_wp2_with fail
   refine(c3 _ a).mono ?_;rintro e y ⟨rfl,g,j⟩
   go_wp2
   go_ret3
   exact⟨rfl,g,AR c j⟩
  ·obtain⟨rfl,rfl⟩:=hn r;rw[Bb r] at hd;subst hd;have d1:(f != 0)=true:=by rw[Fl];exact r
   clear hn r
   go_enter func177,ntmps177
   go_wp2_with fail
   refine(ED _ _ _ _ hr).mono ?_;rintro e t ⟨rfl,rfl⟩
   go_wp2_with fail
   refine c1.mono ?_;rintro e t ⟨rfl,a,c⟩
   go_wp2_with fail
   refine(c3 _ a).mono ?_;rintro e y ⟨rfl,g,j⟩;have u:=AR c j
   go_wp2_with fail
   refine(GH _ _ _ _ (p:Int) g (by omega) (by omega)).mono ?_;rintro e A ⟨rfl,d,m⟩;rw[Dr] at d
   go_wp2
   go_ret3
   exact⟨rfl,d,AR u m⟩
 ·rw[Bb o] at hd;subst hd;have d1:(x != 0)=true:=by rw[Fl];exact o
  have d2:(x==0)=false:=by rw[Fg];exact o
  clear o c2
  go_enter func177,ntmps177
  go_wp2_with fail
  refine(ED _ _ _ _ hr).mono ?_;rintro e t ⟨rfl,rfl⟩
  go_wp2_with fail
  refine c1.mono ?_;rintro e t ⟨rfl,a,c⟩
  go_wp2_with fail
  refine(GH _ _ _ _ (p:Int) a (by omega) (by omega)).mono ?_;rintro e A ⟨rfl,d,m⟩;rw[Dr] at d
  go_wp2
  go_ret3
  exact⟨rfl,d,AR c m⟩
end
section
open Go.RowKit Go.Lib
theorem kW (a n id q:Nat)(G:a<=1099511627776)(h:n<32/\id<=3/\q<=31)(w:A5):
  A9 prog 77 #[.int .i64 (a:Int),.int .i64 (n:Int),.int .i64 (id:Int),.int .i64 (q:Int)] w fun e u=>e=.returned (.string (AO (EQ a n id q)))/\Below w.heap.size w u:=by
 have c1:=fun w=>Se n h.1 w;have c2:=fun w=>KK (id:Int) 2 (by omega) (by omega) (by decide) (by decide) w;have c3:=fun w=>KK (q:Int) 5 (by omega) (by omega) (by decide) (by decide) w;simp only[Dr,show (5:Int).toNat=5 from rfl,show (2:Int).toNat=2 from rfl] at c2 c3
 have E:Hid (((AO (List.replicate (gap a) 48)++AO (BR n))++AO (AB id 2))++AO (AB q 5)=AO (EQ a n id q)):=Dp (by
  unfold EQ JE;simp only[MN,Bd])
 have y:(AO (BR n)).size=22:=by rw[IC,GI]
 have z:(AO (AB id 2)).size=2:=by rw[IC,BB]
 have A:(AO (AB q 5)).size=5:=by rw[IC,BB]
 rw[show (⟨(AB id 2).toArray⟩:ByteArray)=AO (AB id 2) from rfl] at c2;rw[show (⟨(AB q 5).toArray⟩:ByteArray)=AO (AB q 5) from rfl] at c3;generalize AO (BR n)=H at c1 E y;generalize AO (AB id 2)=I at c2 E z;generalize AO (AB q 5)=J at c3 E A;have K:=Ps a;have d:∀j:Nat,j<=gap a->(((a:Int)+j)%8 != 0)=decide (j<gap a):=by
  intro j hj;unfold gap at hj ⊢;rw[I6,Fl,Fi];omega
 have o:=Dp (fun j=>(by rw[show (⟨#[48]⟩:ByteArray)=AO [48] from rfl,MN,Cd]:AO (List.replicate j 48)++(⟨#[48]⟩:ByteArray)=AO (List.replicate (j+1) 48)));have SZ:=Dp (fun j=>(by rw[IC,Bl]:(AO (List.replicate j 48)).size=j));have p:Hid ((⟨#[]⟩:ByteArray)=AO (List.replicate 0 48)):=Dp rfl
 obtain⟨R,r⟩:∃R:Nat->ByteArray,(fun j=>AO (List.replicate j 48))=R:=⟨_,rfl⟩;have s:∀j,AO (List.replicate j 48)=R j:=fun j=>by rw[<-r]
 simp only[s] at E o SZ p;clear s r;have B:=Dp d;clear d h;generalize gap a=g at *
 go_enter func77,ntmps77
 go_wp2
 go_loop [9] (fun v=>∃j:Nat,j<=g/\v=.string (R j)) (fun v=>g-(match v with|.string x=>x.size|_=>0))
 case atStart=>exact⟨0,Ds _,by rw[p.out]⟩
 case round=>
  obtain⟨j,hj,rfl⟩:=hrel;have hd:=B.out j hj;have hs:=SZ.out j;have hn:=o.out j;have b:=SZ.out (j+1);by_cases f:j<g
  ·obtain⟨Y,i⟩:=Ah (R (j+1));rw[i] at hn b;have k:=Dp hn;have C:=Dp i;clear hn i;obtain⟨X,c⟩:=Ah (R j);rw[c] at hs k ⊢;have d0:(((a:Int)+(X.size:Int))%8 != 0)=true:=by rw[hs,hd];simpa using f
   have l:X.size<=8:=by omega
   have L:=Dp c;have D:=Dp b;clear hd c b E
   go_wp2
   go_round
   case rel=>exact⟨j+1,by omega,by rw[k.out,C.out]⟩
   case measure=>rw[k.out];have:=D.out;simp only;omega
  ·obtain rfl:j=g:=by omega
   have m:=E.out;obtain⟨X,c⟩:=Ah (R j);rw[c] at hs m ⊢;have d0:(((a:Int)+(X.size:Int))%8 != 0)=false:=by rw[hs,hd];simp
   have l:X.size<=8:=by omega
   have F:=Dp m;clear hd m hs c b hn E
   go_wp2_with fail
   refine(c1 _).mono ?_;rintro e t ⟨rfl,rfl⟩
   go_wp2_with fail
   refine(c2 _).mono ?_;rintro e t ⟨rfl,rfl⟩
   go_wp2_with fail
   refine(c3 _).mono ?_;rintro e t ⟨rfl,rfl⟩
   go_wp2
   go_ret
   rw[F.out];exact⟨rfl,Dq _ _⟩
end
end Go.Proofs.YtjjmalchelniiaaGreatDoor
