/- No condition. -/
import Derived.Test.YtjjmalchelniiaaGreatDoorZpd
import Derived.Test.YtjjmalchelniiaaGreatDoorZpg
import Derived.Test.YtjjmalchelniiaaGreatDoorZpk
import Derived.Deep.RegionLaw
import Derived.Laws.CopyOwn
open Go.Proofs.Tryz
open Go renaming World->A5,Calls->A9
set_option maxHeartbeats 2000000
namespace Go.Proofs.YtjjmalchelniiaaGreatDoor
section
open Go.RowKit
theorem Wci{p:Prop}(h:p:=by
 go_enter func67,ntmps67
 go_wp2_with fail
 refine(c1 _).mono ?_;exact Wce):p:=h
theorem Wch{p:Prop}(h:p:=by
 go_wp2
 go_ret2
 exact⟨OC A.out,rfl⟩):p:=h
theorem Wcg{p:Prop}(h:p:=by
 go_enter func34,ntmps34
 go_wp2
 go_ret2
 exact⟨LU A.out,rfl⟩):p:=h
theorem Wcf{p:Prop}(h:p:=by
 go_enter func192,ntmps192
 go_wp2_with fail
 refine(JH _ _ _ _ 7 hr).mono ?_;rintro e q ⟨rfl,a,hg4⟩;rw[T.out] at a;rw[K.out]
 go_wp2
 go_ret3
 exact⟨rfl,a,hg4⟩):p:=h
theorem Wce{p:Prop}(h:p:=by
 rintro e y ⟨rfl,rfl⟩
 go_wp2
 exact I3 (Re rfl _ _ _) rfl ⟨rfl,rfl⟩):p:=h
theorem Wcd{p:Prop}(h:p:=by
 go_enter func191,ntmps191
 go_wp2_with fail
 refine(MH _ _ _ _ hr).mono ?_;rintro e g ⟨rfl,rfl⟩
 go_wp2_with fail
 refine(EF _ _ _ _ hr).mono ?_;rintro e g ⟨rfl,rfl⟩
 go_wp2_with fail
 refine(c1 _).mono ?_;rintro e g ⟨rfl,a⟩
 go_wp2
 go_ret
 exact⟨rfl,hr.below a,BF a _⟩):p:=h
theorem vC{p:Prop}(h:p:=by intro k hk;injection hk with hk;omega):p:=h
theorem vD{p:Prop}(h:p:=by unfold CM;rw[K.out];rfl):p:=h
abbrev I3:=@bodyPost_ret
abbrev I4:=@List.setIfInBounds_toArray
abbrev I5:=@List.drop_zero
abbrev I6:=@decide_eq_false
abbrev I7:=@Bool.eq_iff_iff
abbrev I8:=@decide_eq_true
abbrev I9:=@Addr.add_mid
abbrev Ia:=@List.getElem?_replicate
theorem IG (w:A5)(B b:Nat)(r:List UInt8)(v n:Int)(m:AN w B b r)(h2:v<=9223372036854775807)(d:EW v n=true)(hn:r.length+32<=1099511627776)(t:B<=w.heap.size):
  A9 prog 74 #[.pointer (some ⟨b,0,none⟩),.int .i64 v,.int .i64 n] w fun e j=>e=.returned (.int .i64 0)/\AN j B b (r++AF v.toNat n.toNat)/\w.grownBy j (some b):=by
 have a:AH (AF v.toNat n.toNat)=true:=JL _ _;have l:(AF v.toNat n.toNat).length<=32:=by rw[BS];have:=(dR d).2.1;omega
 have o:=Dm a;have p:=Dm d;clear a d
 go_enter func74,ntmps74
 go_wp2_with fail
 refine(Qr v n _ h2 p.out).mono ?_;rintro e q ⟨rfl,c⟩;have f:=m.below c;have g:w.grownBy q (some b):=⟨c.os,c.tape,c.output,c.size,fun k hk _=>c.block k hk⟩;have s:=c.size;clear c
 go_wp2_with fail
 refine(Wl _ B b r _ f o.out (by rw[LD];omega) sX).mono ?_;rintro e u ⟨rfl,h,i⟩
 go_wp2
 go_ret
 exact⟨rfl,h,AP g i⟩
def HM (r:List UInt8)(m k:Nat):List Value:=(List.range m).map fun i=>Value.int .u8 ((if i<256*k then 0 else CF r i:Nat):Int)
theorem Rt (r:List UInt8)(m k:Nat):(HM r m k).length=m:=by simp[HM]
theorem Wk (r:List UInt8)(m k i:Nat)(h:i<m):(HM r m k)[i]? =some (.int .u8 ((if i<256*k then 0 else CF r i:Nat):Int)):=by
 simp[HM,h]
theorem We (r:List UInt8)(m k i:Nat)(h:¬ i<m):(HM r m k)[i]? =none:=Fr (by rw[Rt];omega)
theorem Xc {α:Type}(L:List α)(o:Nat)(cs:List α)(i:Nat)(h:o+cs.length<=L.length):(splice L o cs)[i]? =if i<o then L[i]? else if i<o+cs.length then cs[i-o]? else L[i]?:=by
 unfold splice;by_cases h1:i<o
 ·rw[Bb h1,Hj tB,Er,Bb h1]
 ·rw[Ba h1,Hm tB,Be,show min o L.length=o by omega];by_cases h2:i<o+cs.length
  ·rw[Bb h2,Hj sX]
  ·rw[Ba h2,Hm sX,Ei]
   congr 1
   omega
theorem jN (r:List UInt8)(m k:Nat)(h:256*(k+1)<=m):splice (HM r m (k+1)) (256*k) (E2 r k)=HM r m k:=by
 apply Hs;intro i;rw[Xc _ _ _ _ (by rw[Rt,EY];omega),EY];by_cases hm:i<m
 ·rw[Wk r m k i hm,Wk r m (k+1) i hm];by_cases h1:i<256*k
  ·rw[Bb h1,Bb h1,Bb sX]
  ·rw[Ba h1,Ba h1];by_cases h2:i<256*k+256
   ·rw[Bb h2,Rn r k (i-256*k) sX,show 256*k+(i-256*k)=i by omega]
   ·rw[Ba h2,Ba sX]
 ·rw[We r m k i hm,We r m (k+1) i hm,Ba sX,Ba sX]
theorem Qim (r:List UInt8)(m q c:Nat)(hc:c=min 256 (m-256*q))(h:256*q<=m)(h2:m<=256*q+256):
  splice (List.replicate m (Value.int .u8 0)) (256*q) ((E2 r q).take c)=HM r m q:=by
 apply Hs;intro i;have hl:((E2 r q).take c).length=c:=by rw[Be,EY];omega
 rw[Xc _ _ _ _ (by rw[Bp,hl];omega),hl];by_cases hm:i<m
 ·rw[Wk r m q i hm];by_cases h1:i<256*q
  ·rw[Bb h1,Bb h1,Ia,Bb hm];rfl
  ·rw[Ba h1,Ba h1,Bb sX,Er,Bb sX,Rn r q _ sX,show 256*q+(i-256*q)=i by omega]
 ·rw[We r m q i hm,Ia,Ba hm,Ba sX,Ba sX]
theorem hO (r:List UInt8)(hr:AH r=true):HM r ((r.length+7) / 8) 0=JQ (FV r):=by
 rw[bD];unfold HM JQ;rw[List.map_map];apply D8;intro i _;have:=dX r i hr;simp[UInt8.toNat_ofNat'];omega
theorem gZ (m:Nat):(madeCells (Value.int .u8 0).cells (m*1)).toList=List.replicate m (Value.int .u8 0):=by
 apply Hs;intro i;simp only[Array.getElem?_toList,Ia,Nat.mul_one];by_cases h:i<m
 ·rw[Bb h,Array.getElem?_eq_getElem (by rw[size_madeCells];exact h)];simp[madeCells,Value.cells,Nat.mod_one]
 ·rw[Ba h,Array.getElem?_eq_none (by rw[size_madeCells];omega)]
theorem nO {w:A5}{base e g n:Nat}{a:List Value}(h:w.ownsRow base e 1 (.slice (some ⟨g,0,none⟩) n n) n a):w.heap[g]? =some (.cells a.toArray e (0,0)):=by
 rcases h.2 with ⟨h1,_⟩|⟨c,cap,b,h1,_,h2,_,_,h3,h4⟩
 ·cases h1
 ·injection h1 with h1 _ h1';injection h1 with h1;injection h1 with h1;subst h1 h1';rw[h2,<-h4,Bh (by rw[Dk];omega),Array.toArray_toList]
theorem XO (w:A5)(B b:Nat)(r:List UInt8)(hw:AN w B b r)(hn:r.length<=1099511627776):
  A9 prog 40 #[.pointer (some ⟨b,0,none⟩)] w fun e w'=>e=.returned (.string ⟨(FV r).toArray⟩)/\Below w.heap.size w w':=by
 obtain⟨i0,hi,ad,ae,af⟩:=Ds Wp;obtain⟨hr,ap,v,I,hc⟩:=hw;have J:b<w.heap.size:=(E9.1 I).1;have t:=AA I (NU r v _);obtain⟨m,hm⟩:=Ah ((r.length+7) / 8);obtain⟨q,hq⟩:=Ah (r.length / 2048);have em:((r.length:Int)+7) / 8=((m:Nat):Int):=sX;have K:(r.length:Int) / 2048=((q:Nat):Int):=sX;have m1:m<=137438953473:=sX
 go_enter func40,ntmps40
 have al:=Dm em;have E:=Dm hm;have aa:=Dm hq;clear em hm hq
 go_wp2_with (at_make;refine wpList_make_full _ rfl _ _ 95 rfl w.heap.size 5 i0 (.int .u8 0) 1 Dt hi ad ae _ _ _ _ m rfl rfl al.out al.out ?b2 ?b3 ?b4 ?_;(case b2=>(rw[af];omega));(case b3=>(unfold maxLen;omega));(case b4=>exact B9 _);intro w1 c a;have u:=(a.block b J sZ).trans I;have l:=AA u (NU r v _))
 obtain⟨o,ho⟩:=Ah (256*q);have eo:(q:Int)*256=((o:Nat):Int):=sX;have o1:o<=m:=by have:=E.out;have:=aa.out;omega
 have o2:m<=o+256:=by have:=E.out;have:=aa.out;omega
 have o3:(0:Int)<=(o:Int):=sX;have o4:(o:Int)<=(m:Int):=sX;rw[eo];have F:=Dm ho;have aq:=Dm K;clear eo ho K;obtain⟨am,n⟩:=Ah (List.replicate m (Value.int .u8 0));have z:=nO c;rw[gZ,n] at z;obtain⟨L,f⟩:=Ah ((E2 r q).take (min 256 (m-o)));have M:L.length=min 256 (m-o):=by rw[<-f,Be,EY];omega
 have N:∀v∈L,v.oneCell'=true:=by rw[<-f];exact fun v hv=>Tl _ _ v (List.mem_of_mem_take hv)
 have d:∀j v,L[j]? =some v->w1.cell? ((⟨b,1,none⟩:Addr).add j)=some v:=by
  intro j x O;have hj:j<L.length:=(Ho.1 O).1;rw[I9];refine AA u ?_;rw[<-f,Er,Bb sX] at O;unfold IC DY;rw[Cj,Hn,Hj vB,aa.out,O]
 have P:Below w.heap.size w w1:=⟨a.os,a.tape,a.output,a.size,fun k hk=>a.block k hk sZ⟩;have Q:am.length=m:=by rw[<-n];simp
 have R:=Dm n;have S:=Dm f;have ab:=Dm M;have an:=Dm Q;have u8:(prog.info? 5).map (·.size)=some 1:=tN;clear n f M Q c a;refine Ht tN ?_;change wpAny _ _ _ _ _ _ _ (World.drew _);refine AW 0 (some 21) (v:=?_) rfl rfl tN tN tN Wbr (Or.inl ⟨vA,?_⟩) ?_
 rotate_left
 ·(intro w;go_simp;try with_reducible rfl)
 rotate_right
 refine AW 1 (some 22) (v:=?_) rfl rfl tN tN tN Wbr (Or.inl ⟨vA,?_⟩) ?_
 rotate_left
 ·(intro w;go_simp;try with_reducible rfl)
 rotate_right
 refine AW 2 (some 23) (v:=?_) rfl rfl tN tN tN Wbr (Or.inl ⟨vA,?_⟩) ?_
 rotate_left
 ·(intro w;go_simp;try with_reducible rfl)
 rotate_right
 refine AW 3 (some 24) (v:=?_) rfl rfl tN tN tN Wbr (Or.inl ⟨vA,?_⟩) ?_
 rotate_left
 ·(intro w;go_simp;try with_reducible rfl)
 rotate_right
 refine AW 4 (some 25) (v:=?_) rfl rfl tN tN tN Wbr (Or.inl ⟨vA,?_⟩) ?_
 rotate_left
 ·(intro w;go_simp;try with_reducible rfl)
 rotate_right
 refine AW 5 (some 26) (v:=?_) rfl rfl tN tN tN Wbr (Or.inl ⟨vA,?_⟩) ?_
 rotate_left
 ·(intro w;go_simp;try with_reducible rfl)
 rotate_right
 refine AW 6 (some 27) (v:=?_) rfl rfl tN tN tN Wbr (Or.inl ⟨vA,?_⟩) ?_
 rotate_left
 ·(intro w;go_simp;try with_reducible rfl)
 rotate_right
 refine RI 7 tN tN ?_;simp only[Hi,I5,Act.put,I4,Hu,Hr];refine wpList_copy_splice rfl (.tmp 23) (.tmp 27) 95 95 rfl 5 Dt u8 _ _ _ _ _ _ rfl rfl w.heap.size o am 5 (show w1.drew.heap[w.heap.size]? =_ from z) L ?hn ?hpos ?hfit N w.heap.size w P.drew (B9 _) ?_
 case hn=>rw[ab.out]
 case hpos=>
  intro h0;rw[ab.out] at h0;rw[Ba sX];exact⟨rfl,_,rfl,d⟩
 case hfit=>rw[ab.out,an.out];omega
 intro w2 T A;obtain⟨p0,rfl⟩:=hc.pointer;have U:=(A.block b J).trans I;have V:w2.cell? ⟨b,0,none⟩=some (.pointer p0):=AA U rfl;have G:Hid (w2.heap[w.heap.size]? =some (.cells (HM r m q).toArray 5 (0,0))):=by
  have e:=T.out;have e2:=Qim r m q (min 256 (m-o)) (by rw[F.out]) (by rw[F.out];exact o1) (by rw[F.out];exact o2);rw[F.out,R.out,S.out] at e2;rw[e2] at e;exact Dm e
 have H:Hid (H4 w B r q (.pointer p0)):=by have e:=hc;rw[aa.out] at e;exact Dm e
 clear hc u U l T z d P R S ab an N I t aq;generalize (if m=o then (some ({block:=w.heap.size,off:=0}:Addr)) else some {block:=w.heap.size,off:=o})=dx
 go_wp2
 go_loopw [4,5] (fun x p wr=>∃(k:Nat) (W:Option Addr),x=.int .i64 ((256*k:Nat):Int)/\p=.pointer W/\256*k<=m/\Hid (H4 w B r k (.pointer W))/\Hid (wr.heap[w.heap.size]? =some (.cells (HM r m k).toArray 5 (0,0)))/\Below w.heap.size w wr) (fun x _ _=>(intOf x).toNat)
 case atStart=>exact⟨q,p0,by rw[F.out],rfl,by rw[F.out];exact o1,H,G,A⟩
 case round=>
  clear H G A V;obtain⟨k,W,rfl,rfl,hk,H,G,hb⟩:=hrel;cases k with
  |zero=>
   have e:=H.out;obtain rfl:W=none:=by injection e
   have c:DT wr 0 5 (.slice (some ⟨w.heap.size,0,none⟩) m m) (FV r):=by
    refine⟨by rw[qL];omega,.inr ⟨w.heap.size,m,(HM r m 0).toArray,by rw[W0,E.out],Do _,G.out,by rw[W0,E.out];exact B9 _,tK,by simp[Rt],?_⟩⟩;have e:=hO r hr;rw[E.out] at e;rw[<-e,List.toList_toArray];exact Bh (by rw[Rt,W0,E.out];omega)
   have ht:=DT.text Dt Dx Du c;clear e c
   go_wp2
   go_ret
   exact⟨rfl,hb⟩
  |succ k=>
   obtain⟨g,v',e,ar,hg,C⟩:=H.out;obtain rfl:W=some ⟨g,0,none⟩:=by injection e
   obtain⟨p1,rfl⟩:=C.pointer;have ag:=Dm C;clear e C;have s:g<w.heap.size:=(E9.1 hg).1;have D:=(hb.block g s).trans hg
   go_wp2
   obtain⟨y,hy⟩:=Ah (256*k);have ey:256*((k:Int)+1)-256=((y:Nat):Int):=sX;have y1:y+256<=m:=sX;have y2:(0:Int)<=(y:Int):=sX;have y3:(y:Int)<=(m:Int):=sX;rw[ey];have ah:=Dm hy;clear ey hy;obtain⟨ac,i⟩:=Ah (E2 r k);have X:ac.length=256:=by rw[<-i];exact EY _ _
   have ai:∀v∈ac,v.oneCell'=true:=by rw[<-i];exact Tl _ _
   rw[i] at hg D;have d:∀j v,ac[j]? =some v->wr.cell? ((⟨g,1,none⟩:Addr).add j)=some v:=by
    intro j x O;rw[I9];refine AA D ?_;rw[Cj,Hn,O]
   have aj:=Dm i;have ao:=Dm X;clear i X;refine Ht tN ?_;change wpAny _ _ _ _ _ _ _ (World.drew _);refine AW 0 (some 41) (v:=?_) rfl rfl tN tN tN Wbr (Or.inl ⟨vA,?_⟩) ?_
   rotate_left
   ·(intro w;go_simp;try with_reducible rfl)
   rotate_right
   refine AW 1 (some 42) (v:=?_) rfl rfl tN tN tN Wbr (Or.inl ⟨vA,?_⟩) ?_
   rotate_left
   ·(intro w;go_simp;try with_reducible rfl)
   rotate_right
   refine AW 2 (some 43) (v:=?_) rfl rfl tN tN tN Wbr (Or.inl ⟨vA,?_⟩) ?_
   rotate_left
   ·(intro w;go_simp;try with_reducible rfl)
   rotate_right
   refine AW 3 (some 44) (v:=?_) rfl rfl tN tN tN Wbr (Or.inl ⟨vA,?_⟩) ?_
   rotate_left
   ·(intro w;go_simp;try with_reducible rfl)
   rotate_right
   refine AW 4 (some 45) (v:=?_) rfl rfl tN tN tN Wbr (Or.inl ⟨vA,?_⟩) ?_
   rotate_left
   ·(intro w;go_simp;try with_reducible rfl)
   rotate_right
   refine AW 5 (some 46) (v:=?_) rfl rfl tN tN tN Wbr (Or.inl ⟨vA,?_⟩) ?_
   rotate_left
   ·(intro w;go_simp;try with_reducible rfl)
   rotate_right
   refine AW 6 (some 47) (v:=?_) rfl rfl tN tN tN Wbr (Or.inl ⟨vA,?_⟩) ?_
   rotate_left
   ·(intro w;go_simp;try with_reducible rfl)
   rotate_right
   refine RI 7 tN tN ?_;simp only[Hi,I5,Act.put,I4,Hu,Hr];refine wpList_copy_splice rfl (.tmp 43) (.tmp 47) 95 95 rfl 5 Dt u8 _ _ _ _ _ _ rfl rfl w.heap.size y (HM r m (k+1)) 5 (show wr.drew.heap[w.heap.size]? =_ from G.out) ac ?hn2 ?hpos2 ?hfit2 ai w.heap.size w hb.drew (B9 _) ?_
   case hn2=>rw[ao.out];show 256=min 256 (m-y);omega
   case hpos2=>
    intro _;rw[Ba sX];exact⟨rfl,_,rfl,d⟩
   case hfit2=>rw[ao.out,Rt];exact y1
   intro w3 Y Z;have ak:Hid (w3.heap[w.heap.size]? =some (.cells (HM r m k).toArray 5 (0,0))):=by
    have e:=Y.out;rw[<-aj.out,<-ah.out,jN r m k sX] at e;exact Dm e
   have au:w3.cell? ⟨g,0,none⟩=some (.pointer p1):=AA ((Z.block g s).trans hg) rfl;generalize (if m=y then (some ({block:=w.heap.size,off:=0}:Addr)) else some {block:=w.heap.size,off:=y})=dy;clear Y D hg d G H hb
   go_wp2
   go_roundw
   case rel=>exact⟨k,p1,by rw[ah.out],rfl,sX,ag,ak,Z⟩
   case measure=>simp[intOf];have:=ah.out;omega
theorem Zh (y:Nat):(y:Int) / 2^5=((y / 32:Nat):Int):=sZ
theorem low5 (y:Nat):bits .and .i64 (y:Int) 31=((y%32:Nat):Int):=by
 have:=LQ (y:Int) 5 sX;rw[show (2:Int)^5-1=31 from rfl] at this;rw[this];simp
theorem LU {l:List UInt8}{bit:Int}{v c:Int}(h:AM l bit=(v,c)){k a:IntKind}:Ending.returned (.tuple #[.int k v,.int a c])=.returned (.tuple #[.int k (AM l bit).1,.int a (AM l bit).2]):=tE
theorem Vh (w:A5)(s:ByteArray)(bit:Int)(hs:s.size<=1099511627776):
  A9 prog 59 #[.string s,.int .i64 bit] w fun e C=>e=.returned (.tuple #[.int .i64 (AM s.data.toList bit).1,.int .i64 (AM s.data.toList bit).2])/\Below w.heap.size w C:=by
 have a:s.data.toList.length=s.size:=rfl;obtain⟨b,o⟩:=Ah w.heap.size;have g:AE (w.alloc (LA s 0)) b s 0:=AE.fresh o (Ef hs sY);have f:Below w.heap.size w (w.alloc (LA s 0)):=(Dn _ w).alloc (B9 _) _;have u:(w.alloc (LA s 0)).heap.size=b+1:=by simp;exact o
 rw[o] at f;have v:=Dm o;rw[o];by_cases h1:bit<0\/8*(s.size:Int)<bit
 ·have A:=Dm (QK (l:=s.data.toList) (bit:=bit) (by rw[a];exact h1))
  go_enter func59,ntmps59
  go_wp2_with fail
  refine(Qa _ _).mono ?_;rintro e m ⟨rfl,rfl⟩;rw[v.out]
  go_wp2_with fail
  refine(bH _ _ _ _ bit g h1).mono ?_;rintro e m ⟨rfl,rfl⟩;clear h1
  go_wp2
  go_ret2
  exact⟨LU A.out,f⟩
 ·obtain⟨p,rfl⟩:=Dr (by omega:0<=bit);have D:p<=8*s.size:=sX;clear h1;by_cases h2:8*s.size<p+22
  ·have A:=Dm (MW (l:=s.data.toList) (p:=p) (by rw[a];exact D) (by rw[a];exact h2));have K:=Dm (FS (l:=s.data.toList) (p:=p) (n:=22) sX uM)
   go_enter func59,ntmps59
   go_wp2_with fail
   refine(Qa _ _).mono ?_;rintro e m ⟨rfl,rfl⟩;rw[v.out]
   go_wp2_with fail
   refine(GQ _ _ _ _ (p:Int) g sX sX).mono ?_;rintro e m ⟨rfl,c,d⟩;rw[Dp] at c;have h:Below b w m:=f.grown d sX vC;have q:=d.size
   go_wp2_with fail
   refine(JH _ _ _ _ _ c).mono ?_;rintro e x ⟨rfl,r,i⟩;rw[K.out];have j:Below b w x:=h.grown i sX vC
   go_wp2
   go_ret2
   exact⟨LU A.out,j⟩
  ·have A:=Dm (IX (l:=s.data.toList) (p:=p) uM);have K:=Dm (EK (l:=s.data.toList) (p:=p) (n:=22) sX uM);have z:AB s.data.toList p (22:Int).toNat<4194304:=EB s.data.toList p 22;have t:AB s.data.toList p (22:Int).toNat=AB s.data.toList p 22:=rfl;rw[<-t] at A;generalize AB s.data.toList p (22:Int).toNat=y at A K z;clear t;have F:=Dm (Zh y);have E:=Dm (low5 y)
   go_enter func59,ntmps59
   go_wp2_with fail
   refine(Qa _ _).mono ?_;rintro e m ⟨rfl,rfl⟩;rw[v.out]
   go_wp2_with fail
   refine(GQ _ _ _ _ (p:Int) g sX sX).mono ?_;rintro e m ⟨rfl,c,d⟩;rw[Dp] at c;have h:Below b w m:=f.grown d sX vC;have q:=d.size
   go_wp2_with fail
   refine(JH _ _ _ _ _ c).mono ?_;rintro e x ⟨rfl,r,i⟩;rw[K.out];have j:Below b w x:=h.grown i sX vC;clear g f u c d r i h q K;by_cases h3:y / 32=1
   ·have d3:((y:Int) / 32 != 1)=false:=by rw[bne_eq_false_iff_eq];omega
    have B:=Dm (A.out.trans (Bb h3));clear A h3
    go_wp2
    go_ret2
    rw[E.out];exact⟨LU B.out,j⟩
   ·have d3:((y:Int) / 32 != 1)=true:=uF;have B:=Dm (A.out.trans (Ba h3));clear A h3
    go_wp2
    go_ret2
    exact⟨LU B.out,j⟩
theorem OC {l:List UInt8}{bit:Int}{v:Int}{c:Bool}(h:BA l bit=(v,c)){k:IntKind}:Ending.returned (.tuple #[.int k v,.bool c])=.returned (.tuple #[.int k (BA l bit).1,.bool (BA l bit).2]):=tE
theorem aB (w:A5)(s:ByteArray)(bit:Int)(hs:s.size<=1099511627776):
  A9 prog 190 #[.string s,.int .i64 bit] w fun e C=>e=.returned (.tuple #[.int .i64 (BA s.data.toList bit).1,.bool (BA s.data.toList bit).2])/\Below w.heap.size w C:=by
 have d:s.data.toList.length=s.size:=rfl;obtain⟨b,m⟩:=Ah w.heap.size;have f:AE (w.alloc (LA s 0)) b s 0:=AE.fresh m (Ef hs sY);have a:Below w.heap.size w (w.alloc (LA s 0)):=(Dn _ w).alloc (B9 _) _;have t:(w.alloc (LA s 0)).heap.size=b+1:=by simp;exact m
 rw[m] at a;have y:=Dm m;rw[m];by_cases h1:bit<0\/8*(s.size:Int)<bit
 ·have A:=Dm (QR (l:=s.data.toList) (bit:=bit) (by rw[d];exact h1))
  go_enter func190,ntmps190
  go_wp2_with fail
  refine(Qa _ _).mono ?_;rintro e r ⟨rfl,rfl⟩;rw[y.out]
  go_wp2_with fail
  refine(bH _ _ _ _ bit f h1).mono ?_;rintro e r ⟨rfl,rfl⟩;clear h1
  go_wp2
  go_ret2
  exact⟨OC A.out,a⟩
 ·obtain⟨p,rfl⟩:=Dr (by omega:0<=bit);have z:p<=8*s.size:=sX;clear h1
  go_enter func190,ntmps190
  go_wp2_with fail
  refine(Qa _ _).mono ?_;rintro e r ⟨rfl,rfl⟩;rw[y.out]
  go_wp2_with fail
  refine(GQ _ _ _ _ (p:Int) f sX sX).mono ?_;rintro e r ⟨rfl,h,i⟩;rw[Dp] at h;have n:Below b w r:=a.grown i sX vC;have u:=i.size
  go_wp2_with fail
  refine(VZ _ _ _ _ h).mono ?_;rintro e B ⟨rfl,c,j⟩;have o:Below b w B:=n.grown j sX vC;have v:=j.size;have D:b<=B.heap.size:=sX;clear f a t h i j n u v;by_cases h3:AB s.data.toList p (gap p)=0
  ·have A:=Dm (P7 (l:=s.data.toList) (p:=p) (by rw[d];exact z) h3);have e1:JU s.data.toList p=(((gap p:Nat):Int),0):=Bb h3;have e2:MY s.data.toList p=p+gap p:=Bb h3;rw[e2] at c;rw[e1];generalize p+gap p=q at A c;generalize gap p=g;clear h3 e1 e2
   go_wp2_with fail
   refine(EF _ _ _ _ c).mono ?_;rintro e E ⟨rfl,rfl⟩
   go_wp2_with fail
   refine(Vh _ _ _ hs).mono ?_;rintro e F ⟨rfl,x⟩
   go_wp2
   go_ret2
   exact⟨OC A.out,o.trans (x.mono D)⟩
  ·have A:=Dm (Tz (l:=s.data.toList) (p:=p) (by rw[d];exact z) h3);have e1:JU s.data.toList p=(0,5):=Ba h3;rw[e1];clear h3 e1 c
   go_wp2
   go_ret2
   exact⟨OC A.out,o⟩
theorem rZ:∀n:Fin 32,bits .or .i64 32 ((n.val:Nat):Int)=((32+n.val:Nat):Int):=uB
theorem kF (n:Nat)(h:n<32):EW ((32+n:Nat):Int) 22=true:=by
 unfold EW;rw[Fg];refine⟨sX,sX,sX,?_⟩;show ((32+n:Nat):Int)<2^22;omega
theorem Vk (w:A5)(B b:Nat)(r:List UInt8)(n:Nat)(h:n<32)(l:AN w B b r)(hn:r.length+40<=1099511627776)(i:B<=w.heap.size):
  A9 prog 75 #[.pointer (some ⟨b,0,none⟩),.int .i64 (n:Int)] w fun e j=>e=.returned (.int .i64 0)/\AN j B b (r++List.replicate (gap r.length) 48++DJ n)/\w.grownBy j (some b):=by
 have O:Hid (bits .or .i64 32 (n:Int)=((32+n:Nat):Int)):=Dm (rZ ⟨n,h⟩);have k:=kF n h;have F:=Dm k;have G:=Dm (Rv r.length);have d1:decide ((n:Int)<0)=false:=sZ;have d2:decide (31<(n:Int))=false:=tO;have V:Hid (((32+n:Nat):Int)<=9223372036854775807):=Dm sX;clear k h
 go_enter func75,ntmps75
 go_wp2_with fail
 refine(TB _ B b r l sX i).mono ?_;rintro e m ⟨rfl,d,a⟩;have f:B<=m.heap.size:=Ef i a.size
 go_wp2_with fail
 rw[O.out];refine(IG _ B b _ _ _ d V.out F.out (by have:=G.out;rw[B8,Bp];omega) f).mono ?_;rintro e o ⟨rfl,c,g⟩;rw[iE] at c
 go_wp2
 go_ret
 exact⟨rfl,c,AP a g⟩
def Tm (n id q:Int):Bool:=decide (1<=n/\n<=17/\0<=id/\id<=3/\1<=q/\q<=31)
theorem Xo {n id q:Int}(h:1<=n/\n<=17/\0<=id/\id<=3/\1<=q/\q<=31):Tm n id q=true:=I8 h
theorem Qa0 {n id q:Int}(h:¬ (1<=n/\n<=17/\0<=id/\id<=3/\1<=q/\q<=31)):Tm n id q=false:=I6 h
theorem pS:∀(i:Fin 4) (q:Fin 32),bits .or .i64 (((i.val:Nat):Int)*32) ((q.val:Nat):Int)=((32*i.val+q.val:Nat):Int):=uB
theorem Qax:∀(i:Fin 4) (q:Fin 32),AF (32*i.val+q.val) 7=JX i.val q.val:=uB
theorem Qaw (n:Nat)(h:n<128):EW (n:Int) 7=true:=by
 unfold EW;rw[Fg];refine⟨sX,sX,sX,?_⟩;show (n:Int)<2^7;omega
theorem Y69 (l:List UInt8)(p:Nat)(h:p+7<=8*l.length):AB l p 7 / 32=AB l p 2/\AB l p 7%32=AB l (p+2) 5:=by
 have e:=KM l p 2 5 sX;have a:=EB l (p+2) 5;have e2:AB l p 7=AB l p (2+5):=rfl;omega
theorem Qfx {q:Int}{b:Bool}(h1:q<=31->b=true)(h2:¬ q<=31->b=false):decide (q<=31)=b:=by
 by_cases h:q<=31
 ·rw[h1 h,I8 h]
 ·rw[h2 h,I6 h]
theorem Y5s (n id q:Int)(w:A5):
  A9 prog 141 #[.int .i64 n,.int .i64 id,.int .i64 q] w fun e g=>e=.returned (.bool (Tm n id q))/\w=g:=by
 obtain⟨b,a⟩:=Ah (Tm n id q);rw[a];have d:=Dm a;clear a;have f:Hid ((¬ (1<=n/\n<=17/\0<=id/\id<=3/\1<=q/\q<=31))->b=false):=Dm fun h=>d.out.symm.trans (Qa0 h);have c:Hid ((1<=n/\n<=17/\0<=id/\id<=3/\1<=q/\q<=31)->b=true):=Dm fun h=>d.out.symm.trans (Xo h)
 go_enter func141,ntmps141
 go_wp2
 all_goals
  go_ret
  refine⟨Bz (fun x=>Ending.returned (Value.bool x)) ?_,rfl⟩
  first
   |exact(f.out sX).symm
   |exact Qfx (fun h=>c.out sX) (fun h=>f.out sX)
theorem Qo1 (w:A5)(B b:Nat)(r:List UInt8)(n id q:Nat)(h:1<=n/\n<=17/\id<=3/\1<=q/\q<=31)(m:AN w B b r)(hn:r.length+80<=1099511627776)(k:B<=w.heap.size):
  A9 prog 105 #[.pointer (some ⟨b,0,none⟩),.int .i64 (n:Int),.int .i64 (id:Int),.int .i64 (q:Int)] w fun e l=>e=.returned (.int .i64 0)/\AN l B b (EH r n++JX id q)/\w.grownBy l (some b):=by
 have c:=fun w=>Y5s n id q w;rw[Xo sX] at c;have O:Hid (bits .or .i64 ((id:Int)*32) (q:Int)=((32*id+q:Nat):Int)):=Dm (pS ⟨id,sX⟩ ⟨q,sX⟩);have o:Hid (AF (32*id+q) 7=JX id q):=Dm (Qax ⟨id,sX⟩ ⟨q,sX⟩);have F:=Dm (Qaw (32*id+q) sX);have V:Hid (((32*id+q:Nat):Int)<=9223372036854775807):=Dm sX;have s:IntKind.i64.wrap ((id:Int)*32)=(id:Int)*32:=by rw[Cr];omega
 have p:=Dm (Uo r n);have G:=Dm (Rv r.length);have c2:=Vk w B b r n sX m sX k;clear h
 go_enter func105,ntmps105
 go_wp2_with fail
 refine(c _).mono ?_;rintro e g ⟨rfl,rfl⟩
 go_wp2_with fail
 refine c2.mono ?_;rintro e g ⟨rfl,a,d⟩;have i:B<=g.heap.size:=Ef k d.size;have a:AN g B b (EH r n):=a
 go_wp2_with fail
 rw[O.out];refine(IG _ B b _ _ _ a V.out F.out (by have:=p.out;have:=G.out;omega) i).mono ?_;rintro e t ⟨rfl,f,j⟩;rw[show (((32*id+q:Nat):Int)).toNat=32*id+q from rfl,show (7:Int).toNat=7 from rfl,o.out] at f
 go_wp2
 go_ret
 exact⟨rfl,f,AP d j⟩
def HF (l:List UInt8)(p:Nat)(n:Int):Int×Nat:=
 if (BA l p).2=false then (4,p) else if (BA l p).1≠n then (10,p) else (0,p+gap p+22)
theorem YO {l:List UInt8}{p:Nat}{n:Int}(h:(BA l p).2=false):HF l p n=(4,p):=Bb h
theorem Xn {l:List UInt8}{p:Nat}{n:Int}(h:(BA l p).2=true)(h1:(BA l p).1≠n):HF l p n=(10,p):=by
 unfold HF;rw[Ba uI,Bb h1]
theorem fL {l:List UInt8}{p:Nat}{n:Int}(h:(BA l p).2=true)(h1:(BA l p).1=n):HF l p n=(0,p+gap p+22):=by
 unfold HF;rw[Ba uI,Ba (fun k=>k h1)]
theorem Qgq (w:A5)(b:Nat)(s:ByteArray)(p:Nat)(n:Int)(hr:AE w b s p)(hs:s.size<=1099511627776):
  A9 prog 191 #[.pointer (some ⟨b,0,none⟩),.int .i64 n] w fun e y=>e=.returned (.int .i64 (HF s.data.toList p n).1)/\AE y b s (HF s.data.toList p n).2/\w.grownBy y (some b):=by
 have c1:=fun w=>aB w s (p:Int) hs;have B:s.data.toList.length=s.size:=rfl;have o:=fun h=>YO (l:=s.data.toList) (p:=p) (n:=n) h;have i:=fun h h1=>Xn (l:=s.data.toList) (p:=p) (n:=n) h h1;have j:=fun h h1=>fL (l:=s.data.toList) (p:=p) (n:=n) h h1;have d:=fun h=>Xh (l:=s.data.toList) (p:=p) h;have f:=fun h=>U0 (l:=s.data.toList) (p:=p) h;obtain⟨m,hm⟩:=Ah ((BA s.data.toList p).1);obtain⟨C,k⟩:=Ah ((BA s.data.toList p).2);rw[hm,k] at c1;rw[k] at d f o i j;rw[hm] at i j;clear hm k;obtain⟨P,z⟩:=Ah (HF s.data.toList p n);rw[z] at o i j ⊢;clear z;cases C with
 |false=>
  obtain rfl:=o rfl;clear o i j d f
  exact Wcd
 |true=>
  by_cases c:m=n
  ·obtain rfl:=j rfl c;have d1:(m != n)=false:=by rw[c];simp
   have A:=f rfl;have hi:=d rfl;have e1:MY s.data.toList p=p+gap p:=Bb A;have K:=Dm (EK (l:=s.data.toList) (p:=p+gap p) (n:=22) sX sX);have T:Hid (CM s.data.toList (p+gap p) 22=p+gap p+22):=Dm vD;clear o i j d f c A hi
   go_enter func191,ntmps191
   go_wp2_with fail
   refine(MH _ _ _ _ hr).mono ?_;rintro e g ⟨rfl,rfl⟩
   go_wp2_with fail
   refine(EF _ _ _ _ hr).mono ?_;rintro e g ⟨rfl,rfl⟩
   go_wp2_with fail
   refine(c1 _).mono ?_;rintro e g ⟨rfl,a⟩;have q:=hr.below a;have r:=BF a (some b)
   go_wp2_with fail
   refine(VZ _ _ _ _ q).mono ?_;rintro e D ⟨rfl,t,u⟩;rw[e1] at t;have x:=AP r u;clear hr q r u a e1
   go_wp2_with fail
   refine(JH _ _ _ _ 22 t).mono ?_;rintro e E ⟨rfl,v,hg4⟩;rw[T.out] at v;rw[K.out]
   go_wp2
   go_ret
   exact⟨rfl,v,AP x hg4⟩
  ·obtain rfl:=i rfl c;have d1:(m != n)=true:=by rw[Fj];exact c
   clear o i j d f c
   exact Wcd
def FI (l:List UInt8)(p:Nat):(Int×Int×Int)×Nat:=
 if 8*l.length<p+7 then ((0,0,2),p) else if AB l (p+2) 5=0 then ((0,0,9),p+7)
 else ((((AB l p 2:Nat):Int),((AB l (p+2) 5:Nat):Int),0),p+7)
theorem WE {l:List UInt8}{p:Nat}(h:8*l.length<p+7):FI l p=((0,0,2),p):=Bb h
theorem Zb {l:List UInt8}{p:Nat}(h:p+7<=8*l.length)(h1:AB l (p+2) 5=0):FI l p=((0,0,9),p+7):=by
 unfold FI;rw[Ba sX,Bb h1]
theorem XW {l:List UInt8}{p:Nat}(h:p+7<=8*l.length)(h1:AB l (p+2) 5≠0):FI l p=((((AB l p 2:Nat):Int),((AB l (p+2) 5:Nat):Int),0),p+7):=by
 unfold FI;rw[Ba sX,Ba h1]
theorem qQ (w:A5)(b:Nat)(s:ByteArray)(p:Nat)(hr:AE w b s p):
  A9 prog 192 #[.pointer (some ⟨b,0,none⟩)] w fun e m=>e=.returned (.tuple #[.int .i64 (FI s.data.toList p).1.1,.int .i64 (FI s.data.toList p).1.2.1,.int .i64 (FI s.data.toList p).1.2.2])/\AE m b s (FI s.data.toList p).2/\w.grownBy m (some b):=by
 have c:s.data.toList.length=s.size:=rfl;have o:=hr.2.1;by_cases h:8*s.size<p+7
 ·have K:=Dm (FS (l:=s.data.toList) (p:=p) (n:=7) sX sX);have T:Hid (CM s.data.toList p 7=p):=Dm vD;rw[WE sX];clear h o c
  exact Wcf
 ·have K:=Dm (EK (l:=s.data.toList) (p:=p) (n:=7) sX sX);have T:Hid (CM s.data.toList p 7=p+7):=Dm vD;obtain⟨i,d⟩:=Y69 s.data.toList p sX;have j:=EB s.data.toList p 7;have f:=fun h1=>Zb (l:=s.data.toList) (p:=p) sX h1;have g:=fun h1=>XW (l:=s.data.toList) (p:=p) sX h1;rw[show (7:Int).toNat=7 from rfl] at K;obtain⟨y,r⟩:=Ah (AB s.data.toList p 7);rw[r] at K i d j;rw[<-i,<-d] at g;rw[<-d] at f;clear h o c r i d;have t:=Dm (Zh y);have k:=Dm (low5 y);by_cases h1:y%32=0
  ·have d1:decide (bits .and .i64 (y:Int) 31<1)=true:=by rw[k.out];simp;omega
   rw[f h1];clear f g
   exact Wcf
  ·have d1:decide (bits .and .i64 (y:Int) 31<1)=false:=by rw[k.out];simp;omega
   rw[g h1];have e1:(y:Int) / 32=((y / 32:Nat):Int):=t.out;have u:=Dm e1;clear f g e1 t
   go_enter func192,ntmps192
   go_wp2_with fail
   refine(JH _ _ _ _ 7 hr).mono ?_;rintro e q ⟨rfl,a,hg4⟩;rw[T.out] at a;rw[K.out]
   go_wp2
   go_ret3
   rw[<-k.out,<-u.out];exact⟨rfl,a,hg4⟩
theorem pN (l:List UInt8)(p:Nat)(n:Int):
  hdk l p n=if (HF l p n).1=0 then (if (FI l (HF l p n).2).1.2.2=0 then ((FI l (HF l p n).2).1.1,(FI l (HF l p n).2).1.2.1,(FI l (HF l p n).2).2,0) else (0,0,p,(FI l (HF l p n).2).1.2.2)) else (0,0,p,(HF l p n).1):=by
 by_cases h:(BA l p).2=false
 ·rw[YO h,UZ h];rfl
 ·have a:(BA l p).2=true:=by simpa using h
  by_cases h1:(BA l p).1=n
  ·rw[fL a h1];show _=if (FI l (p+gap p+22)).1.2.2=0 then _ else _
   by_cases h2:8*l.length<p+gap p+22+7
   ·rw[Ug a h1 h2,WE h2];rfl
   ·by_cases h3:AB l (p+gap p+22+2) 5=0
    ·rw[Wb a h1 sX h3,Zb sX h3];rfl
    ·rw[RN a h1 sX h3,XW sX h3];rfl
  ·rw[Xn a h1,TP a h1];rfl
theorem Yyf {l:List UInt8}{p:Nat}(h:(FI l p).1.2.2≠0):(FI l p).1.1=0/\(FI l p).1.2.1=0:=by
 revert h;unfold FI
 split
 ·exact fun _=>⟨rfl,rfl⟩
 ·split
  ·exact fun _=>⟨rfl,rfl⟩
  ·exact fun h=>absurd rfl h
def U4 (s:ByteArray)(p:Nat)(n:Int)(b:Nat)(w:A5)(e:Ending)(a:A5):Prop:=
 e=.returned (.tuple #[.int .i64 (hdk s.data.toList p n).1,.int .i64 (hdk s.data.toList p n).2.1,.int .i64 (hdk s.data.toList p n).2.2.2])/\AE a b s (hdk s.data.toList p n).2.2.1/\w.grownBy a (some b)
theorem qX (w:A5)(b:Nat)(s:ByteArray)(p:Nat)(n:Int)(hr:AE w b s p)(hs:s.size<=1099511627776):
  A9 prog 177 #[.pointer (some ⟨b,0,none⟩),.int .i64 n] w (U4 s p n b w):=by
 have c1:=Qgq w b s p n hr hs;have c2:=fun w q hr=>qQ w b s q hr;have hd:=pN s.data.toList p n;have A:=hr.2.1;unfold U4;obtain⟨P,u⟩:=Ah (hdk s.data.toList p n);rw[u] at hd ⊢;clear u;generalize HF s.data.toList p n=Q at c1 hd;obtain⟨x,q⟩:=Q;dsimp only at c1 hd;by_cases m:x=0
 ·subst m;rw[Bb rfl] at hd;have c3:=fun w hr=>c2 w q hr;have hn:=fun h=>Yyf (l:=s.data.toList) (p:=q) h;generalize FI s.data.toList q=F at c3 hd hn;obtain⟨⟨i,k,f⟩,z⟩:=F;dsimp only at c3 hd hn;clear c2;by_cases o:f=0
  ·subst o;rw[Bb rfl] at hd;subst hd;clear hn
   go_enter func177,ntmps177
   go_wp2_with fail
   refine(EF _ _ _ _ hr).mono ?_;rintro e r ⟨rfl,rfl⟩
   go_wp2_with fail
   refine c1.mono ?_;rintro e r ⟨rfl,a,c⟩
   go_wp2_with fail
   refine(c3 _ a).mono ?_;rintro e v ⟨rfl,g,j⟩
   go_wp2
   go_ret3
   exact⟨rfl,g,AP c j⟩
  ·obtain⟨rfl,rfl⟩:=hn o;rw[Ba o] at hd;subst hd;have d1:(f != 0)=true:=by rw[Fj];exact o
   clear hn o
   go_enter func177,ntmps177
   go_wp2_with fail
   refine(EF _ _ _ _ hr).mono ?_;rintro e r ⟨rfl,rfl⟩
   go_wp2_with fail
   refine c1.mono ?_;rintro e r ⟨rfl,a,c⟩
   go_wp2_with fail
   refine(c3 _ a).mono ?_;rintro e v ⟨rfl,g,j⟩;have t:=AP c j
   go_wp2_with fail
   refine(GQ _ _ _ _ (p:Int) g sX sX).mono ?_;rintro e y ⟨rfl,d,hg4⟩;rw[Dp] at d
   go_wp2
   go_ret3
   exact⟨rfl,d,AP t hg4⟩
 ·rw[Ba m] at hd;subst hd;have d1:(x != 0)=true:=by rw[Fj];exact m
  have d2:(x==0)=false:=by rw[Fe];exact m
  clear m c2
  go_enter func177,ntmps177
  go_wp2_with fail
  refine(EF _ _ _ _ hr).mono ?_;rintro e r ⟨rfl,rfl⟩
  go_wp2_with fail
  refine c1.mono ?_;rintro e r ⟨rfl,a,c⟩
  go_wp2_with fail
  refine(GQ _ _ _ _ (p:Int) a sX sX).mono ?_;rintro e y ⟨rfl,d,hg4⟩;rw[Dp] at d
  go_wp2
  go_ret3
  exact⟨rfl,d,AP c hg4⟩
theorem VA (l:List UInt8)(p:Nat)(h:p+22<=8*l.length):AB l p 22 / 32=AB l p 17/\AB l p 22%32=AB l (p+17) 5:=by
 have e:=KM l p 17 5 sX;have a:=EB l (p+17) 5;have e2:AB l p 22=AB l p (17+5):=rfl;omega
theorem Qk4 (l:List UInt8)(p:Nat)(h:p+22<=8*l.length):((l |> A2).drop p).take 17=AF (AB l p 17) 17:=by
 have hr:AH (((A2 l).drop p).take 17)=true:=ET _ _ (DH _ _ (GX l));have hl:(((A2 l).drop p).take 17).length=17:=by
  have:=AZ l;rw[Be,Bf];omega
 have e:=Lq _ hr;rw[hl] at e;exact e.symm
theorem jD (l:List UInt8)(p:Nat)(h:p+22<=8*l.length)(h1:AB l p 22 / 32=1):
  (!((A2 l).drop p).take 17 == [48,48,48,48,48,48,48,48,48,48,48,48,48,48,48,48,49])=false:=by
 rw[(VA l p h).1] at h1;rw[show ((A2 l).drop p).take 17=AF (AB l p 17) 17 from Qk4 l p h,h1]
 rfl
theorem Qo0 (l:List UInt8)(p:Nat)(h:p+22<=8*l.length)(h1:AB l p 22 / 32≠1):
  (!((A2 l).drop p).take 17 == [48,48,48,48,48,48,48,48,48,48,48,48,48,48,48,48,49])=true:=by
 rw[Bool.not_eq_true',Fe];intro a;apply h1;rw[(VA l p h).1];unfold AB;rw[a]
 rfl
theorem Se (s:ByteArray)(bit:Int)(hs:s.size<=1099511627776)(w:A5):
  A9 prog 34 #[.string ⟨(A2 s.data.toList).toArray⟩,.int .i64 bit] w fun e j=>e=.returned (.tuple #[.int .i64 (AM s.data.toList bit).1,.int .i64 (AM s.data.toList bit).2])/\w=j:=by
 have a:s.data.toList.length=s.size:=rfl;have b:=N7 s;by_cases h1:bit<0
 ·have A:=Dm (QK (l:=s.data.toList) (bit:=bit) (.inl h1))
  exact Wcg
 ·have d1:decide (bit<0)=false:=uD;by_cases h2:8*(s.size:Int)<bit
  ·have A:=Dm (QK (l:=s.data.toList) (bit:=bit) (.inr (by rw[a];exact h2)));have Z:=Dm b;generalize (⟨(A2 s.data.toList).toArray⟩:ByteArray)=S at Z ⊢;have k:=Z.out;have d2:decide ((S.size:Int)<bit)=true:=tO;clear b Z
   exact Wcg
  ·obtain⟨p,rfl⟩:=Dr (by omega:0<=bit);have m:p<=8*s.size:=sX;clear h1 h2;by_cases h3:8*s.size<p+22
   ·have A:=Dm (MW (l:=s.data.toList) (p:=p) (by rw[a];exact m) (by rw[a];exact h3));have Z:=Dm b;generalize (⟨(A2 s.data.toList).toArray⟩:ByteArray)=S at Z ⊢;have k:=Z.out;have d2:decide ((S.size:Int)<(p:Int))=false:=tO;have d3:decide ((S.size:Int)-p<22)=true:=tO;clear b Z
    exact Wcg
   ·have A:=Dm (IX (l:=s.data.toList) (p:=p) uM);have hcut:=PS s p 17;have h:=PS s (p+17) 5;generalize (⟨(A2 s.data.toList).toArray⟩:ByteArray)=S at b hcut h ⊢;have d2:decide ((S.size:Int)<(p:Int))=false:=tO;have d3:decide ((S.size:Int)-p<22)=false:=tO;have c:p+22<=8*s.data.toList.length:=uM;by_cases h4:AB s.data.toList p 22 / 32=1
    ·have i:=Dm (A.out.trans (Bb h4));have n:=jD _ p c h4;have d:AH (List.take 5 (List.drop (p+17) (A2 s.data.toList)))=true:=ET _ _ (DH _ _ (GX _));have f:(List.take 5 (List.drop (p+17) (A2 s.data.toList))).length<=32:=tB;have g:num (List.take 5 (List.drop (p+17) (A2 s.data.toList)))=AB s.data.toList p 22%32:=(VA _ p c).2.symm;have o:=Dm d;have q:=Dm f;have r:=Dm g;clear a c h4 d f g A
     go_enter func34,ntmps34
     go_wp2_with fail
     refine(ND ⟨(List.take 5 (List.drop (p+17) (A2 s.data.toList))).toArray⟩ (by rw[LD];exact q.out) o.out _).mono ?_;rintro e t ⟨rfl,rfl⟩;rw[show (⟨(List.take 5 (List.drop (p+17) (A2 s.data.toList))).toArray⟩:ByteArray).data.toList=List.take 5 (List.drop (p+17) (A2 s.data.toList)) from rfl,r.out]
     go_wp2
     go_ret2
     exact⟨LU i.out,rfl⟩
    ·have i:=Dm (A.out.trans (Ba h4));have n:=Qo0 _ p c h4;clear a c h4 A
     go_enter func34,ntmps34
     go_wp2
     go_ret2
     exact⟨LU i.out,rfl⟩
theorem Ut (s:ByteArray)(i:Nat)(h:i<(⟨(A2 s.data.toList).toArray⟩:ByteArray).size):(A2 s.data.toList)[i]? =some ((⟨(A2 s.data.toList).toArray⟩:ByteArray)[i]):=by
 rw[Fh (by rw[LD] at h;exact h)]
 rfl
theorem eJ (s:ByteArray)(bit:Int)(hs:s.size<=1099511627776)(w:A5):
  A9 prog 66 #[.string ⟨(A2 s.data.toList).toArray⟩,.int .i64 bit] w fun e C=>e=.returned (.tuple #[.int .i64 (BA s.data.toList bit).1,.bool (BA s.data.toList bit).2])/\w=C:=by
 have d:s.data.toList.length=s.size:=rfl;have f:=N7 s;have a:=Ut s;have b:=Se s;by_cases h1:bit<0
 ·have A:=Dm (QR (l:=s.data.toList) (bit:=bit) (.inl h1));clear f a b
  go_enter func66,ntmps66
  exact Wch
 ·have d1:decide (bit<0)=false:=uD;by_cases h2:8*(s.size:Int)<bit
  ·have A:=Dm (QR (l:=s.data.toList) (bit:=bit) (.inr (by rw[d];exact h2)));have Z:=Dm f;clear a b;generalize (⟨(A2 s.data.toList).toArray⟩:ByteArray)=S at Z ⊢;have G:=Z.out;have d2:decide ((S.size:Int)<bit)=true:=tO;clear f Z
   go_enter func66,ntmps66
   exact Wch
  ·obtain⟨p,rfl⟩:=Dr (by omega:0<=bit);have u:p<=8*s.size:=sX;have o:=S1 u;have m:=JJ s.data.toList p (gap p) (by rw[d];exact o);have c:=fun h=>P7 (l:=s.data.toList) (p:=p) (by rw[d];exact u) h;have n:=fun h=>Tz (l:=s.data.toList) (p:=p) (by rw[d];exact u) h;obtain⟨g,hg⟩:=Ah (gap p);have q:∀j:Nat,j<=g->(((p:Int)+j)%8 != 0)=decide (j<g):=by
    intro j hj;rw[<-hg] at hj ⊢;unfold gap at hj ⊢;rw[I7,Fj,Fg];omega
   rw[hg] at o m c n;have D:=Dm q;have x:=Dm m;have y:=Dm a;have Y:=Dm c;have E:=Dm n;have z:=Dm b;clear h1 h2 q m a c n b hg;generalize (⟨(A2 s.data.toList).toArray⟩:ByteArray)=S at f y z ⊢;have d2:decide ((S.size:Int)<(p:Int))=false:=tO
   go_enter func66,ntmps66
   go_wp2
   go_loop [1] (fun i=>∃j:Nat,j<=g/\i=.int .i64 ((p:Int)+j)/\Hid (∀k,k<j->(A2 s.data.toList)[p+k]? =some 48)) (fun i=>p+g-(intOf i).toNat)
   case atStart=>exact⟨0,Do _,sZ,Dm fun k hk=>absurd hk (Fi k)⟩
   case round=>
    obtain⟨j,hj,rfl,H⟩:=hrel;have hd:=D.out j hj;by_cases r:j<g
    ·have d0:(((p:Int)+j)%8 != 0)=true:=by rw[hd];simpa using r
     have v:p+j<S.size:=sX;have t:=y.out (p+j) v;by_cases hc:S[p+j].toNat=48
     ·have c0:((S[p+j].toNat:Int) != 48)=false:=by rw[hc];rfl
      have B:S[p+j]=48:=Hp.1 hc;rw[B] at t;have N:=Dm (fun k (hk:k<j+1)=>(by
       rcases Fq k j with h|h
       ·exact H.out k h
       ·obtain rfl:k=j:=sX;exact t:(A2 s.data.toList)[p+k]? =some 48))
      clear t B hc hd
      go_wp2
      go_round
      case rel=>exact⟨j+1,sX,tP,N⟩
      case measure=>simp[intOf];omega
     ·have c0:((S[p+j].toNat:Int) != 48)=true:=uF;have A:=Dm (E.out fun F=>by
       have:=x.out.1 F j r;rw[t] at this;injection this with this;exact hc (by rw[this];rfl))
      clear t hc hd
      exact Wch
    ·obtain rfl:j=g:=sX;have d0:(((p:Int)+j)%8 != 0)=false:=by rw[hd];simp
     have A:=Dm (Y.out (x.out.2 H.out));clear hd
     go_wp2_with fail
     rw[show (p:Int)+(j:Int)=((p+j:Nat):Int) by omega];refine(z.out _ hs _).mono ?_;rintro e I ⟨rfl,rfl⟩
     exact Wch
end
section
open Go.RowKit Go.Lib
theorem Re {a:Func}{t u v x:Tmp}(h:a.results=#[.tmp t,.tmp u,.tmp v,.tmp x])(tmps:Array Value)(P:Program)(w:A5):
  (results a tmps).run P w=.ok (.tuple #[tmps.getD t undef,tmps.getD u undef,tmps.getD v undef,tmps.getD x undef]) w:=by
 simp[results,h]
theorem nF (s:ByteArray)(p:Nat)(n:Int)(I:p<=8*s.size)(hs:s.size<=1099511627776)(w:A5):
  A9 prog 67 #[.string ⟨(A2 s.data.toList).toArray⟩,.int .i64 (p:Int),.int .i64 n] w fun e u=>e=.returned (.tuple #[.int .i64 (hdk s.data.toList p n).1,.int .i64 (hdk s.data.toList p n).2.1,.int .i64 ((hdk s.data.toList p n).2.2.1:Int),.int .i64 (hdk s.data.toList p n).2.2.2])/\w=u:=by
 have c1:=fun w=>eJ s (p:Int) hs w;have v:s.data.toList.length=s.size:=rfl;have C:=N7 s;have hcut:=PS s (p+gap p+22) 2;have a:=PS s (p+gap p+22+2) 5;have r:∀w,A9 prog 63 #[.string ⟨(((A2 s.data.toList).drop (p+gap p+22)).take 2).toArray⟩] w fun e u=>e=.returned (.int .i64 (AB s.data.toList (p+gap p+22) 2:Nat))/\w=u:=fun w=>
  ND ⟨(((A2 s.data.toList).drop (p+gap p+22)).take 2).toArray⟩ (by rw[LD,Be];omega) (ET _ _ (DH _ _ (GX _))) w
 have k:∀w,A9 prog 63 #[.string ⟨(((A2 s.data.toList).drop (p+gap p+22+2)).take 5).toArray⟩] w fun e u=>e=.returned (.int .i64 (AB s.data.toList (p+gap p+22+2) 5:Nat))/\w=u:=fun w=>
  ND ⟨(((A2 s.data.toList).drop (p+gap p+22+2)).take 5).toArray⟩ (by rw[LD,Be];omega) (ET _ _ (DH _ _ (GX _))) w
 have t:=fun h=>UZ (l:=s.data.toList) (p:=p) (n:=n) h;have o:=fun h h1=>TP (l:=s.data.toList) (p:=p) (n:=n) h h1;have f:=fun h h1 h2=>Ug (l:=s.data.toList) (p:=p) (n:=n) h h1 h2;have c:=fun h h1 h2 h3=>Wb (l:=s.data.toList) (p:=p) (n:=n) h h1 h2 h3;have b:=fun h h1 h2 h3=>RN (l:=s.data.toList) (p:=p) (n:=n) h h1 h2 h3;rw[v] at f c b;obtain⟨H,E⟩:=Ah (hdk s.data.toList p n);rw[E] at t o f c b ⊢;obtain⟨m,hm⟩:=Ah ((BA s.data.toList p).1);obtain⟨F,q⟩:=Ah ((BA s.data.toList p).2);rw[hm,q] at c1;rw[q] at t o f c b;rw[hm] at o f c b;have hg:=Rv p;have x:∀j:Nat,j<=gap p->(((p:Int)+j)%8 != 0)=decide (j<gap p):=by
  intro j hj;unfold gap at hj ⊢;rw[I7,Fj,Fg];omega
 generalize (⟨(((A2 s.data.toList).drop (p+gap p+22)).take 2).toArray⟩:ByteArray)=J at hcut r;generalize (⟨(((A2 s.data.toList).drop (p+gap p+22+2)).take 5).toArray⟩:ByteArray)=K at a k;generalize AB s.data.toList (p+gap p+22) 2=y1 at r b;generalize AB s.data.toList (p+gap p+22+2) 5=y2 at k c b;generalize gap p=g at *;generalize (⟨(A2 s.data.toList).toArray⟩:ByteArray)=S at c1 C hcut a ⊢;clear E hm q v;have G:=Dm x;clear x;cases F with
 |false=>
  obtain rfl:=t rfl;clear t o f c b r k hcut a
  exact Wci
 |true=>
  by_cases d:m=n
  ·subst d;have z:=Dm fun h2=>f rfl rfl h2;have A:=Dm fun h2 h3=>c rfl rfl h2 h3;have B:=Dm fun h2 h3=>b rfl rfl h2 h3;have d1:(m != m)=false:=sZ;clear t o f c b
   go_enter func67,ntmps67
   go_wp2_with fail
   refine(c1 _).mono ?_;rintro e y ⟨rfl,rfl⟩
   go_wp2
   go_loop [12] (fun i=>∃j:Nat,j<=g/\i=.int .i64 ((p:Int)+j)) (fun i=>p+g-(intOf i).toNat)
   case atStart=>exact⟨0,Do _,sZ⟩
   case round=>
    obtain⟨j,hj,rfl⟩:=hrel;have hd:=G.out j hj;by_cases D:j<g
    ·have d0:(((p:Int)+j)%8 != 0)=true:=by rw[hd];simpa using D
     clear hd
     go_wp2
     go_round
     case rel=>exact⟨j+1,sX,tP⟩
     case measure=>simp[intOf];omega
    ·obtain rfl:j=g:=sX;have d0:(((p:Int)+j)%8 != 0)=false:=by rw[hd];simp
     clear hd;rw[show (p:Int)+(j:Int)=((p+j:Nat):Int) by omega] at d0 ⊢;by_cases h2:8*s.size<p+j+22+7
     ·obtain rfl:=z.out h2;have d2:decide ((S.size:Int)-(((p+j:Nat):Int)+22)<7)=true:=tO;clear z A B r k hcut a
      go_wp2
      exact I3 (Re rfl _ _ _) rfl ⟨rfl,rfl⟩
     ·have d2:decide ((S.size:Int)-(((p+j:Nat):Int)+22)<7)=false:=tO;by_cases h3:y2=0
      ·obtain rfl:=A.out sX h3;have d3:((y2:Int)==0)=true:=by rw[h3];rfl
       clear z A B
       go_wp2_with fail
       refine(k _).mono ?_;exact Wce
      ·obtain rfl:=B.out sX h3;have d3:((y2:Int)==0)=false:=uC;clear z A B
       go_wp2_with fail
       refine(k _).mono ?_;rintro e y ⟨rfl,rfl⟩
       go_wp2_with fail
       refine(r _).mono ?_;exact Wce
  ·obtain rfl:=o rfl d;have d1:(m != n)=true:=by rw[Fj];exact d
   clear t o f c b r k hcut a d
   exact Wci
end
end Go.Proofs.YtjjmalchelniiaaGreatDoor
