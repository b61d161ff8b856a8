/- No condition. -/
import Derived.Test.YtjjmalchelniiaaGreatDoorZpb
import Derived.Test.YtjjmalchelniiaaGreatDoorZpd
import Derived.Test.YtjjmalchelniiaaGreatDoorZpe
import Derived.Lib.OthersKept
open Go.Proofs.Tryz
open Go renaming World->A5,Calls->A9,Value->A0
set_option maxHeartbeats 1000000
namespace Go.Proofs.YtjjmalchelniiaaGreatDoor
open Go.RowKit
theorem Wcc{p:Prop}(h:p:=by
 exact FW (ty:=109) (x:=.tmp 42) (ad:=⟨b,1,none⟩) tN tN G.out):p:=h
theorem Wcb{p:Prop}(h:p:=by
 exact FW (ty:=108) (x:=.tmp 38) (ad:=⟨b,0,none⟩) tN tN E.out):p:=h
theorem Wca{p:Prop}(h:p:=by
 exact FW (ty:=109) (x:=.tmp 42) (ad:=⟨b,1,none⟩) tN tN P.out):p:=h
theorem Wb9{p:Prop}(h:p:=by
 exact FW (ty:=108) (x:=.tmp 38) (ad:=⟨b,0,none⟩) tN tN O.out):p:=h
theorem Wb8{p:Prop}(h:p:=by
 clear c
 go_wp2
 go_roundw
 case rel=>exact⟨p+1,sX,j.out,d,M.out⟩
 case measure=>simp only[World.iterPos,j.out,n.out];omega):p:=h
theorem Wb7{p:Prop}(h:p:=by
 rintro e S ⟨rfl,o,hg4⟩;have a:=hg4.block K (E9.1 D.out).1 (by simpa using y.symm);have A:=Dm (a.trans D.out);clear a
 go_wp2
 go_roundw
 case rel=>exact⟨p+1,sX,A.out,by rw[T.out,C.out,<-Bg];exact o,AP i hg4⟩
 case measure=>simp only[World.iterPos,A.out,M.out];omega):p:=h
theorem Wbr{p:Prop}(h:p:=by exact fun _ _ _ h=>h):p:=h
theorem uY{p:Prop}(h:p:=by rw[Hz _ _ _ _ _ (by rintro rfl;rw[a] at ho;cases ho)];exact ho):p:=h
theorem uZ{p:Prop}(h:p:=by rw[Bj];omega):p:=h
theorem vA{p:Prop}(h:p:=by rfl):p:=h
theorem vB{p:Prop}(h:p:=by rw[EY];omega):p:=h
abbrev Hg:=@beq_eq_false_iff_ne
abbrev Hh:=@bne_iff_ne
abbrev Hi:=@List.drop_succ_cons
abbrev Hj:=@List.getElem?_append_left
abbrev Hk:=@World.grownBy_alloc
abbrev Hl:=@World.block_lt_of_cell?
abbrev Hm:=@List.getElem?_append_right
abbrev Hn:=@List.getElem?_cons_succ
abbrev Ho:=@List.getElem?_eq_some_iff
abbrev Hp:=@UInt8.toNat_inj
abbrev Hq:=@List.getElem?_eq_none
abbrev Hr:=@List.set_cons_succ
abbrev Hs:=@List.ext_getElem?
abbrev Ht:=@wp_region_any
abbrev Hu:=@List.set_cons_zero
abbrev Hv:=@List.all_eq_false
abbrev Hw:=@List.length_set
abbrev Hx:=@Array.toList_setIfInBounds
abbrev Hy:=@World.cell?_setCell_other
abbrev Hz:=@Lib.iterAt_other
abbrev I0:=@run_loadVar_mid
theorem Ai{α}(a:α):∃b,a=b:=⟨a,rfl⟩
theorem Zw (s:ByteArray)(p:Nat)(h:p<s.size)(c:s[p].toNat=48\/s[p].toNat=49):Utf8.decode s p=(s[p].toNat,1):=
 decode_ascii s p h sX
theorem Qe5 (s:ByteArray)(p:Nat)(h:p<s.size)(c0:s[p].toNat≠48)(c1:s[p].toNat≠49):(Utf8.decode s p).1≠48/\(Utf8.decode s p).1≠49:=by
 by_cases a:s[p].toNat<128
 ·rw[decode_ascii s p h a];exact⟨c0,c1⟩
 ·have:=(decode_high s p h sX).1;omega
theorem Qmd (s:ByteArray)(p:Nat)(h:p<s.size)(c0:s[p].toNat≠48)(c1:s[p].toNat≠49):AH s.data.toList=false:=by
 unfold AH;rw[Hv];refine⟨s[p],Bl (by exact h),?_⟩;have e1:¬ s[p]=48:=fun e=>c0 (by rw[e];rfl);have e2:¬ s[p]=49:=fun e=>c1 (by rw[e];rfl);simp[e1,e2]
theorem pF (s:ByteArray)(p:Nat)(h:p<s.size)(c:s[p].toNat=48\/s[p].toNat=49)(hr:AH (s.data.toList.take p)=true):AH (s.data.toList.take (p+1))=true:=by
 have e:AH (s.data.toList.take (p+1))=(AH (s.data.toList.take p)&&(s[p]==48 || s[p]==49)):=kM _ s.data.toList p h;rw[e,hr];rcases c with c|c
 ·have:s[p]=48:=Hp.1 c;rw[this];rfl
 ·have:s[p]=49:=Hp.1 c;rw[this];rfl
theorem Qa5 (s:ByteArray)(w:A5):
  A9 prog 143 #[.string s] w fun e o=>e=.returned (.bool (AH s.data.toList))/\Below w.heap.size w o:=by
 obtain⟨B,i⟩:=Ai w.heap.size;have f:(w.iter s 0).heap[B]? =some (.stringIter s 0):=by rw[<-i];exact World.iter_heap w s 0
 have g:Below B w (w.iter s 0):=(Dn B w).alloc sX _;have l:=Dm f;rw[i];have q:=Dm i;clear f i
 go_enter func143,ntmps143
 go_wp2
 rw[q.out]
 go_loopw [] (fun wr=>∃p:Nat,p<=s.size/\wr.heap[B]? =some (.stringIter s p)/\Below B w wr/\AH (s.data.toList.take p)=true) (fun wr=>s.size-wr.iterPos B)
 case atStart=>exact⟨0,Do _,l.out,g,rfl⟩
 case round=>
  clear l g;obtain⟨p,r,hit,m,hr⟩:=hrel;have R:=Dm hr;clear hr;by_cases b:p<s.size
  ·have h:∀ty,(Instr.next (.pointer (some ⟨B,0,none⟩)) true ty).run prog wr=_:=fun ty=>Lib.run_next_any_at wr B s p ty hit b;have a:=Lib.iterAt_heap wr B s p (p+(Utf8.decode s p).2) hit;have d:=Lib.below_iterAt m (k:=B) (B9 _) s (p+(Utf8.decode s p).2);by_cases c:s[p].toNat=48\/s[p].toNat=49
   ·have hd:=Zw s p b c;have M:=Dm (pF s p b c R.out);rw[hd] at h a d;clear hd;have j:=Dm a;have n:=Dm hit;clear hit a;rcases c with c|c
    ·have d1:((s[p].toNat:Int) != 48)=false:=by rw[c];rfl
     exact Wb8
    ·have d1:((s[p].toNat:Int) != 48)=true:=by rw[c];rfl
     have d2:((s[p].toNat:Int) != 49)=false:=by rw[c];rfl
     exact Wb8
   ·have S:=Dm (Qmd s p b sX sX);obtain⟨e0,e1⟩:=Qe5 s p b sX sX;have d1:(((Utf8.decode s p).1:Int) != 48)=true:=by rw[Hh];omega
    have d2:(((Utf8.decode s p).1:Int) != 49)=true:=by rw[Hh];omega
    clear c hit a e0 e1
    go_wp2
    go_ret
    exact⟨AJ S.out.symm,d⟩
  ·have h:∀ty,(Instr.next (.pointer (some ⟨B,0,none⟩)) true ty).run prog wr=_:=fun ty=>Lib.run_next_end_at wr B s p ty hit b;obtain rfl:p=s.size:=sX;clear hit
   go_wp2
   go_ret
   exact⟨AJ (by rw[<-R.out,Bh (by exact B9 _)]),m⟩
def E2 (r:List UInt8)(k:Nat):List A0:=(List.range 256).map fun i=>Value.int .u8 ((CF r (256*k+i):Nat):Int)
theorem EY (r:List UInt8)(k:Nat):(E2 r k).length=256:=by simp[E2]
theorem Rn (r:List UInt8)(k i:Nat)(h:i<256):(E2 r k)[i]? =some (.int .u8 ((CF r (256*k+i):Nat):Int)):=by
 simp[E2,h]
theorem Tl (r:List UInt8)(k:Nat):∀v∈E2 r k,v.oneCell'=true:=by
 intro v hv;obtain⟨_,_,rfl⟩:=List.mem_map.1 hv
 rfl
theorem bL (r s:List UInt8)(k:Nat)(h:∀i,i<256->CF r (256*k+i)=CF s (256*k+i)):E2 r k=E2 s k:=by
 unfold E2;apply D8;intro i hi;rw[h i (Bs.1 hi)]
theorem Yte (r e:List UInt8)(k:Nat)(h:2048*(k+1)<=r.length):E2 (r++e) k=E2 r k:=
 bL _ _ _ fun i hi=>aF r e _ sX
theorem rJ (r:List UInt8)(k:Nat)(h:r.length<=2048*k):E2 r k=List.replicate 256 (.int .u8 0):=by
 unfold E2;rw[List.eq_replicate_iff];refine⟨sZ,fun v hv=>?_⟩;obtain⟨i,_,rfl⟩:=List.mem_map.1 hv;rw[TW r _ sX]
 rfl
def H4 (w:A5)(B:Nat)(r:List UInt8):Nat->A0->Prop
 |0,v=>v=.pointer none
 |k+1,v=>∃g a,v=.pointer (some ⟨g,0,none⟩)/\B<=g/\w.heap[g]? =some (.cells (a::E2 r k).toArray 116 (0,0))/\H4 w B r k a
theorem H4.kept {w a:A5}{B:Nat}{r:List UInt8}(h:∀g cs T,B<=g->w.heap[g]? =some (.cells cs T (0,0))->a.heap[g]? =some (.cells cs T (0,0))):∀{k:Nat} {v:A0},H4 w B r k v->H4 a B r k v
 |0,_,c=>c
 |_+1,_,⟨g,v',e,hg,hh,c⟩=>⟨g,v',e,hg,h g _ _ hg hh,c.kept h⟩
theorem H4.more {w:A5}{B:Nat}{r:List UInt8}(e:List UInt8):∀{k:Nat} {v:A0},2048*k<=r.length->H4 w B r k v->H4 w B (r++e) k v
 |0,_,_,c=>c
 |k+1,_,h,⟨g,v',e1,hg,hh,c⟩=>⟨g,v',e1,hg,by rw[Yte r e k h];exact hh,c.more e sX⟩
theorem H4.pointer {w:A5}{B:Nat}{r:List UInt8}{k:Nat}{v:A0}(h:H4 w B r k v):∃p,v=.pointer p:=by
 cases k with
 |zero=>exact⟨none,h⟩
 |succ k=>obtain⟨g,a,e,_⟩:=h;exact⟨_,e⟩
def DY (r:List UInt8)(v:A0)(k:Nat):List A0:=v::(E2 r k++[.int .i64 (r.length:Int)])
def IC (r:List UInt8)(v:A0):List A0:=DY r v (r.length / 2048)
theorem Zl (r:List UInt8)(v:A0)(k:Nat):(DY r v k).length=258:=by simp[DY,EY]
theorem NU (r:List UInt8)(v:A0)(k:Nat):(DY r v k)[257]? =some (.int .i64 (r.length:Int)):=by
 unfold DY;rw[Hn,Hm vB,EY]
 rfl
theorem Yyy (r:List UInt8)(v:A0)(k i:Nat)(h:i<256):(DY r v k)[1+i]? =some (.int .u8 ((CF r (256*k+i):Nat):Int)):=by
 unfold DY;rw[Cj,Hn,Hj vB,Rn _ _ _ h]
def AN (w:A5)(B b:Nat)(r:List UInt8):Prop:=
 AH r=true/\b<B/\∃v,w.heap[b]? =some (.cells (IC r v).toArray 111 (0,0))/\H4 w B r (r.length / 2048) v
theorem AN.kept {w a:A5}{B b:Nat}{r:List UInt8}(h:AN w B b r)(c:∀cs T,w.heap[b]? =some (.cells cs T (0,0))->a.heap[b]? =some (.cells cs T (0,0)))
  (hc:∀g cs T,B<=g->w.heap[g]? =some (.cells cs T (0,0))->a.heap[g]? =some (.cells cs T (0,0))):AN a B b r:=by
 obtain⟨h1,h2,v,h3,h4⟩:=h;exact⟨h1,h2,v,c _ _ h3,h4.kept hc⟩
theorem AN.lt {w:A5}{B b:Nat}{r:List UInt8}(h:AN w B b r):b<w.heap.size:=by
 obtain⟨_,_,v,h3,_⟩:=h;exact(E9.1 h3).1
theorem AN.below {w a:A5}{B b:Nat}{r:List UInt8}(h:AN w B b r)(c:Below w.heap.size w a):AN a B b r:=
 h.kept (fun _ _ ho=>by rw[c.block b (E9.1 ho).1];exact ho) (fun g _ _ _ ho=>by rw[c.block g (E9.1 ho).1];exact ho)
theorem Qce (r:List UInt8)(v:A0)(k:Nat):(DY r v k).set 257 (.int .i64 ((r.length:Int)+1))=DY (r++[48]) v k:=by
 unfold DY;rw[Hr,List.set_append_right _ _ vB,EY,bL (r++[48]) r _ fun i _=>Yxy r _,B8]
 rfl
theorem Qmi (r s:List UInt8)(k i:Nat)(hi:i<256)(x:Nat)(a:CF s (256*k+i)=x)(h:∀j,j<256->j≠i->CF s (256*k+j)=CF r (256*k+j)):
  (E2 r k).set i (.int .u8 (x:Int))=E2 s k:=by
 apply Hs;intro j;by_cases hj:j<256
 ·rw[Rn s k j hj];by_cases e:i=j
  ·subst e;rw[List.getElem?_set_self (by rw[EY];exact hi),a]
  ·rw[List.getElem?_set_ne e,Rn r k j hj,h j hj (fun b=>e b.symm)]
 ·rw[Hq (by rw[Hw,EY];omega),Hq vB]
theorem eA (n:Nat):256*(n / 2048)+n%2048 / 8=n / 8:=sX
theorem Qpm (r:List UInt8)(v:A0):
  ((DY r v (r.length / 2048)).set (1+r.length%2048 / 8) (.int .u8 ((CF r (r.length / 8)+2^(7-r.length%8):Nat):Int))).set 257 (.int .i64 ((r.length:Int)+1))=DY (r++[49]) v (r.length / 2048):=by
 unfold DY;rw[Cj 1,Hr,List.set_append_left _ _ vB,Hr,List.set_append_right _ _ (by rw[Hw,EY];omega),Hw,EY,
  B8,Bo,
  Qmi r (r++[49]) _ _ sX _ (by rw[eA,mN]) (fun j hj a=>YY r 49 _ sX)]
 rfl
theorem Xi (r:List UInt8)(d:UInt8)(v:A0)(h:r.length%2048≠2047):DY (r++[d]) v (r.length / 2048)=IC (r++[d]) v:=by
 unfold IC;rw[B8,Bo,show (r.length+1) / 2048=r.length / 2048 by omega]
theorem Qli (r:List UInt8)(d:UInt8)(v:A0)(h:r.length%2048=2047):IC (r++[d]) v=v::(List.replicate 256 (.int .u8 0)++[.int .i64 (((r++[d]).length:Nat):Int)]):=by
 unfold IC DY;rw[rJ _ _ (by rw[B8,Bo];omega)]
theorem dH (o:Nat):∀(l:List A0) (k:Nat) (a:Array A0),o+k+l.length<=a.size->
  (l.zipIdx k).foldl (fun a x=>a.setIfInBounds (o+x.snd) x.fst) a=(a.toList.take (o+k)++(l++a.toList.drop (o+k+l.length))).toArray
 |[],k,a,_=>sZ
 |v::l,k,a,h=>by
  rw[Bi] at h;rw[List.zipIdx_cons,List.foldl_cons,dH o l (k+1) _ tO]
  congr 1
  apply Hs;intro i;simp only[Hx,List.getElem?_append,Be,Hw,Dk,Er,Ei,List.getElem?_set,Bi,List.getElem?_cons];by_cases h1:i<o+k
  ·simp[h1,show i<o+(k+1) by omega,show min (o+(k+1)) a.size=o+(k+1) by omega,show min (o+k) a.size=o+k by omega,show ¬ o+k=i by omega]
  ·by_cases h2:i=o+k
   ·subst h2;simp[show min (o+(k+1)) a.size=o+(k+1) by omega,show min (o+k) a.size=o+k by omega,show o+k<o+(k+1) by omega,show o+k<a.size by omega]
   ·have e:i-(o+k)=i-(o+(k+1))+1:=sX;simp[h1,show ¬ i<o+(k+1) by omega,show min (o+(k+1)) a.size=o+(k+1) by omega,show min (o+k) a.size=o+k by omega,e];by_cases h3:i-(o+(k+1))<l.length
    ·simp[h3]
    ·simp[h3];rw[Ba sX]
     congr 1
     omega
theorem WZ:∃Z:Array A0,(∀w,(zeroValue 109).run prog w=.ok (.agg Z) w)/\(prog.info? 109).map (·.size)=some Z.size/\Hid (Z=(List.replicate 256 (.int .u8 0)).toArray):=by
 refine⟨(List.replicate 256 (.int .u8 0)).toArray,?_,tN,Dm rfl⟩;have h:(prog.info? 109).map (fun i=>i.zero)=some (some (.agg (List.replicate 256 (.int .u8 0)).toArray)):=tN;generalize (List.replicate 256 (Value.int .u8 0)).toArray=Z at h ⊢;cases hq:prog.info? 109 with
 |none=>simp[hq] at h
 |some i=>
  simp[hq] at h;intro w;simp[zeroValue,typeInfo,hq,h]
theorem Yt:∃Z:Array A0,(∀w,(zeroValue 116).run prog w=.ok (.agg Z) w)/\Z.size=257:=by
 refine⟨#[.pointer none]++Array.replicate 256 (.int .u8 0),?_,sZ⟩;have h:(prog.info? 116).map (fun i=>(i.zero,i.size))=some (some (.agg (#[.pointer none]++Array.replicate 256 (.int .u8 0))),257):=tN;cases hq:prog.info? 116 with
 |none=>simp[hq] at h
 |some i=>
  simp[hq] at h;intro w;simp[zeroValue,typeInfo,hq,h.1]
theorem Zd (Z:Array A0)(v:A0)(cs:List A0)(a:Z.size=257)(hc:cs.length=256):
  List.foldl (fun cs x=>cs.setIfInBounds (1+x.snd) x.fst) (Z.setIfInBounds 0 v) cs.zipIdx=(v::cs).toArray:=by
 rw[dH 1 cs 0 _ tO];obtain⟨l⟩:=Z;have hl:l.length=257:=a
 congr 1
 match l,hl with
 |x::l,hl=>
  simp only[Bi] at hl;simp only[Hx,Hu,C6,Dq,Bk,hc];rw[show 1+256=256+1 from rfl,Hi,Cd sX];simp
theorem Y0 {w a c:A5}{B b:Nat}{r:List UInt8}{d:UInt8}{p:Option Addr}(hr:AH (r++[d])=true)(e:b<B)(j:B<=w.heap.size)(k:r.length%2048=2047)
  (hc:H4 w B r (r.length / 2048) (.pointer p))(i:w.grownBy a (some b))
  (f:a.heap[b]? =some (.cells (DY (r++[d]) (.pointer p) (r.length / 2048)).toArray 111 (0,0)))
  (hg4:((a.alloc (.cells (.pointer p::E2 (r++[d]) (r.length / 2048)).toArray 116)).setCell ⟨b,0,none⟩ (.pointer (some ⟨a.heap.size,0,none⟩))).drew.grownBy c (some b))
  (h:c.heap[b]? =some (.cells (((DY (r++[d]) (.pointer p) (r.length / 2048)).set 0 (.pointer (some ⟨a.heap.size,0,none⟩))).take 1++((List.replicate 256 (Value.int .u8 0)) ++
   ((DY (r++[d]) (.pointer p) (r.length / 2048)).set 0 (.pointer (some ⟨a.heap.size,0,none⟩))).drop (1+256))).toArray 111 (0,0))):
  AN c B b (r++[d])/\w.grownBy c (some b):=by
 have l:b<a.heap.size:=(E9.1 f).1;have m:a.grownBy ((a.alloc (.cells (.pointer p::E2 (r++[d]) (r.length / 2048)).toArray 116)).setCell ⟨b,0,none⟩ (.pointer (some ⟨a.heap.size,0,none⟩))).drew (some b):=
  AP (Hk a _ _) (AP (D3 _ ⟨b,0,none⟩ _) (KU _ _))
 have G:=AP i (AP m hg4);refine⟨⟨hr,e,.pointer (some ⟨a.heap.size,0,none⟩),?_,?_⟩,G⟩
 ·rw[h,Qli r d _ k];unfold DY;rw[Hu,Dq,Bk,Cj 1,Hi,List.drop_append,EY,Cd vB]
  rfl
 ·rw[show (r++[d]).length / 2048=r.length / 2048+1 by rw[B8,Bo];omega];refine⟨a.heap.size,.pointer p,rfl,Ef j i.size,?_,?_⟩
  ·rw[hg4.block a.heap.size sZ tO];show (((a.alloc _).setCell _ _)).heap[a.heap.size]? =_;rw[heap_setCell_other _ _ _ _ (by show a.heap.size≠b;omega)];exact heap_alloc_new a _
  ·refine(hc.kept fun g _ _ hg ho=>?_).more [d] sX;rw[G.block g (E9.1 ho).1 tO];exact ho
set_option maxRecDepth 100000 in
theorem Qpe (w:A5)(B b:Nat)(r:List UInt8)(hw:AN w B b r)(hn:r.length<=1099511627776)(hB:B<=w.heap.size):
  A9 prog 106 #[.pointer (some ⟨b,0,none⟩),.int .i32 49] w fun e w'=>e=.returned (.tuple #[])/\AN w' B b (r++[49])/\w.grownBy w' (some b):=by
 obtain⟨hr,E,v,F,hc⟩:=hw;have u:=AA F (NU r v _);have hf:=fun o=>AL (o:=o) F
 go_enter func106,ntmps106
 go_wp2
 obtain⟨k,hk⟩:=Ai (r.length%2048);have ek:((r.length:Int)%2048)=((k:Nat):Int):=sX;rw[ek];have k0:(0:Int)<=(k:Int):=sX;have k1:(k:Int)<2048:=sX;have i0:(0:Int)<=(k:Int) / 8:=sX;have i1:(k:Int) / 8<256:=sX;have hx:=AA F (Yyy r v _ (k / 8) sX);rw[<-hk,eA,hk] at hx;have G:=Dm hk;clear ek hk
 go_region
 have e1:bits .or .u8 ((CF r (r.length / 8):Nat):Int) (128 / 2^(k%8))=((CF r (r.length / 8)+2^(7-r.length%8):Nat):Int):=by
  obtain⟨A,hA⟩:=iD r;have hk:=G.out;have e:k%8=r.length%8:=sX;rw[e,jU _ _ A sX hA (dX r _ hr)]
 rw[e1];have f:=B3 (o:=1+k / 8) (.int .u8 ((CF r (r.length / 8)+2^(7-r.length%8):Nat):Int)) F;have y:=AP (D3 w ⟨b,1+k / 8,none⟩ (.int .u8 ((CF r (r.length / 8)+2^(7-r.length%8):Nat):Int))) (KU _ _);have f:(w.setCell ⟨b,1+k / 8,none⟩ (.int .u8 ((CF r (r.length / 8)+2^(7-r.length%8):Nat):Int))).drew.heap[b]? =_:=f;have l:=Qpm r v;have hk:=G.out;rw[hk] at l;generalize (w.setCell ⟨b,1+k / 8,none⟩ (.int .u8 ((CF r (r.length / 8)+2^(7-r.length%8):Nat):Int))).drew=S at f y ⊢;have H:(((IC r v).set (1+k / 8) (.int .u8 ((CF r (r.length / 8)+2^(7-r.length%8):Nat):Int))))[257]? =some (.int .i64 (r.length:Int)):=by
  rw[List.getElem?_set_ne sX];exact NU r v _
 have s:=AA f H;have T:=fun o=>AL (o:=o) f;have a:=B3 (o:=257) (.int .i64 ((r.length:Int)+1)) f;have a:(S.setCell ⟨b,257,none⟩ (.int .i64 ((r.length:Int)+1))).heap[b]? =some (.cells (DY (r++[49]) v (r.length / 2048)).toArray 111 (0,0)):=by rw[a];unfold IC;rw[l]
 have m:=AP y (D3 S ⟨b,257,none⟩ (.int .i64 ((r.length:Int)+1)));have U:=Dm a;clear f a l H e1 hx hf u i0 i1 F hk;by_cases n:k=2047
 ·have ht:((k:Int)==2047)=true:=uZ
  go_wp2
  have a:=U.out;generalize S.setCell ⟨b,257,none⟩ (.int .i64 ((r.length:Int)+1))=c at a m ⊢;clear U s T y;obtain⟨p,rfl⟩:=hc.pointer;obtain⟨K,V⟩:=Ai (r.length / 2048);rw[V] at a hc;obtain⟨cs,q⟩:=Ai (E2 (r++[49]) K);have z:cs.length=256:=by rw[<-q];exact EY _ _
  have ah:∀v∈cs,v.oneCell'=true:=by rw[<-q];exact Tl _ _
  have d:c.cell? ⟨b,0,none⟩=some (.pointer p):=AA a rfl;have C:c.rangeAt b 1 cs:=by
   intro j v hv;have hj:j<cs.length:=(Ho.1 hv).1;refine AA a ?_;unfold DY;rw[q,Cj,Hn,Hj hj,hv]
  have W:c.frozen? ⟨b,0,none⟩=false:=AL a;have X:∀o,(c.alloc o).cell? ⟨b,0,none⟩=some (.pointer p):=fun o=>by
   rw[World.cell?_alloc_lt _ _ _ (Hl c _ d)];exact d
  have ag:∀o,(c.alloc o).frozen? ⟨b,0,none⟩=false:=fun o=>by
   rw[World.frozen?_alloc_past _ _ _ (Hl c _ d)];exact AL a
  have t:∀o,(c.alloc o).rangeAt b 1 cs:=fun o=>World.rangeAt_alloc C o;have I:∀o x,((c.alloc o).setCell ⟨b,0,none⟩ x).rangeAt b 1 cs:=fun o x j v hv=>by
   rw[Hy _ _ _ _ (by intro e;injection e with _ e;omega)];exact t o j v hv
  have hu:=underlying109;have hi:(prog.info? 109).map (·.size)=some cs.length:=by rw[z];kernel_rfl
  obtain⟨Z,ai,J⟩:=Yt;have aj:Z≠#[]:=by rintro rfl;simp at J
  have ak:=Zd Z (.pointer p) cs J z;have al:=Dm m;have L:=Dm a;have Y:=Dm q;have ap:=Dm z;have R:=Dm V;have am:=Dm hc;clear m a q V hc;have M:(loadVar 108 ⟨b,0,none⟩).run prog c.drew=.ok (.pointer p) c.drew:=by go_simp
  have N:=I0 c.drew b 1 _ cs _ ((World.rangeAt_drew _ _ _ _).2 C) hu rfl hi;have O:=Dm M;have P:=Dm N;clear M N;refine Ht tN ?_;change wpAny _ _ _ _ _ _ _ (World.drew _);refine Eo (i:=0) (v:=?_) rfl tN tN tN Wbr (Or.inl ⟨vA,?_⟩) ?_
  rotate_left
  ·(intro w;go_simp;try with_reducible rfl)
  rotate_right
  refine Eo (i:=1) (v:=?_) rfl tN tN tN Wbr (Or.inl ⟨vA,?_⟩) ?_
  rotate_left
  ·(intro w;go_simp;try with_reducible rfl)
  rotate_right
  refine Eo (i:=2) (v:=?_) rfl tN tN tN Wbr (Or.inl ⟨vA,?_⟩) ?_
  rotate_left
  ·(intro w;go_simp;try with_reducible rfl)
  rotate_right
  refine Eo (i:=3) (v:=?_) rfl tN tN tN Wbr (Or.inl ⟨vA,?_⟩) ?_
  rotate_left
  ·(intro w;go_simp;try with_reducible rfl)
  rotate_right
  refine Eo (i:=5) (v:=?_) rfl tN tN tN Wbr (Or.inl ⟨vA,?_⟩) ?_
  rotate_left
  ·(intro w;go_simp;try with_reducible rfl)
  rotate_right
  refine Eo (i:=6) (v:=?_) rfl tN tN tN Wbr (Or.inl ⟨vA,?_⟩) ?_
  rotate_left
  ·(intro w;go_simp;try with_reducible rfl)
  rotate_right
  refine Eo (i:=7) (v:=?_) rfl tN tN tN Wbr (Or.inl ⟨vA,?_⟩) ?_
  rotate_left
  ·(intro w;go_simp;try with_reducible rfl)
  rotate_right
  refine aN (i:=4) (j:=8) (di:=some 39) (dj:=some 43) (vi:=.pointer p) (vj:=.agg cs.toArray) rfl rfl rfl rfl rfl rfl ?r1 ?r2 ?r3 sY ?h1 ?h2 ?h3 ?h4 ?hc ?h
  case r1=>kernel_rfl
  case r2=>kernel_rfl
  case r3=>kernel_rfl
  case h1=>exact Wb9
  case h2=>exact Wca
  case h3=>exact Wca
  case h4=>exact Wb9
  case hc=>kernel_rfl
  refine RI 9 tN tN ?_;have Q:(((c.alloc (.cells (.pointer p::cs).toArray 116)).setCell ⟨b,0,none⟩ (.pointer (some ⟨c.heap.size,0,none⟩))).drew).heap[b]? =_:=
   B3 (.pointer (some ⟨c.heap.size,0,none⟩)) ((Below.heap_alloc c _ b (Hl c _ d)).trans L.out)
  have an:=Dm Q;obtain⟨aa,ao,ab,D⟩:=WZ;have ac:∀v∈aa.toList,v.oneCell'=true:=by
   rw[D.out];intro v hv;rw[Cv hv]
   rfl
  have ae:1+aa.size<=((DY (r++[49]) (.pointer p) K).set 0 (.pointer (some ⟨c.heap.size,0,none⟩))).toArray.size:=by
   rw[D.out];simp[Zl]
  clear d C W t I Q
  go_wp2_with (refine YG rfl 109 _ _ rfl b 1 aa rfl rfl _ _ an.out ab ac ae ?_;intro w4 af hg4)
  go_end0
  refine⟨rfl,Y0 (by rw[D7,hr];rfl) E hB (by rw[G.out];exact n) (by rw[R.out];exact am.out) al.out (by rw[R.out];exact L.out) (by rw[R.out,Y.out];exact hg4) ?_⟩;have e:=af.out;rw[D.out] at e;rw[R.out,e]
  rfl
 ·have ht:((k:Int)==2047)=false:=by rw[Hg];omega
  go_wp2
  go_end0
  have hm:=Xi r 49 v (by rw[G.out];exact n);refine⟨rfl,⟨by rw[D7,hr];rfl,E,v,by rw[U.out,hm],?_⟩,m⟩;have hk:=G.out;rw[B8,Bo,show (r.length+1) / 2048=r.length / 2048 by omega];refine(hc.kept fun g _ _ hg ho=>?_).more [49] sX;rw[m.block g (E9.1 ho).1 tO];exact ho
set_option maxRecDepth 100000 in
theorem aU (w:A5)(B b:Nat)(r:List UInt8)(Y:AN w B b r)(hn:r.length<=1099511627776)(hB:B<=w.heap.size):
  A9 prog 106 #[.pointer (some ⟨b,0,none⟩),.int .i32 48] w fun e W=>e=.returned (.tuple #[])/\AN W B b (r++[48])/\w.grownBy W (some b):=by
 obtain⟨hr,u,v,I,hc⟩:=Y;have m:=AA I (NU r v _);have L:=fun o=>AL (o:=o) I;have a:=B3 (o:=257) (.int .i64 ((r.length:Int)+1)) I;have a:(w.setCell ⟨b,257,none⟩ (.int .i64 ((r.length:Int)+1))).heap[b]? =some (.cells (DY (r++[48]) v (r.length / 2048)).toArray 111 (0,0)):=by rw[a];unfold IC;rw[Qce]
 have k:=D3 w ⟨b,257,none⟩ (.int .i64 ((r.length:Int)+1));have M:=Dm a;clear a I;by_cases c:r.length%2048=2047
 ·have ht:(((r.length:Int)%2048)==2047)=true:=uZ;have F:=Dm c;clear c
  go_enter func106,ntmps106
  go_wp2
  have c:=F.out;have a:=M.out;generalize w.setCell ⟨b,257,none⟩ (.int .i64 ((r.length:Int)+1))=d at a k ⊢;clear M m L;obtain⟨p,rfl⟩:=hc.pointer;obtain⟨K,N⟩:=Ai (r.length / 2048);rw[N] at a hc;obtain⟨cs,l⟩:=Ai (E2 (r++[48]) K);have q:cs.length=256:=by rw[<-l];exact EY _ _
  have aa:∀v∈cs,v.oneCell'=true:=by rw[<-l];exact Tl _ _
  have f:d.cell? ⟨b,0,none⟩=some (.pointer p):=AA a rfl;have s:d.rangeAt b 1 cs:=by
   intro j v hv;have hj:j<cs.length:=(Ho.1 hv).1;refine AA a ?_;unfold DY;rw[l,Cj,Hn,Hj hj,hv]
  have O:d.frozen? ⟨b,0,none⟩=false:=AL a;have P:∀o,(d.alloc o).cell? ⟨b,0,none⟩=some (.pointer p):=fun o=>by
   rw[World.cell?_alloc_lt _ _ _ (Hl d _ f)];exact f
  have X:∀o,(d.alloc o).frozen? ⟨b,0,none⟩=false:=fun o=>by
   rw[World.frozen?_alloc_past _ _ _ (Hl d _ f)];exact AL a
  have n:∀o,(d.alloc o).rangeAt b 1 cs:=fun o=>World.rangeAt_alloc s o;have y:∀o x,((d.alloc o).setCell ⟨b,0,none⟩ x).rangeAt b 1 cs:=fun o x j v hv=>by
   rw[Hy _ _ _ _ (by intro e;injection e with _ e;omega)];exact n o j v hv
  have hu:=underlying109;have hi:(prog.info? 109).map (·.size)=some cs.length:=by rw[q];kernel_rfl
  obtain⟨Z,ab,z⟩:=Yt;have ac:Z≠#[]:=by rintro rfl;simp at z
  have ae:=Zd Z (.pointer p) cs z q;have af:=Dm k;have A:=Dm a;have Q:=Dm l;have aj:=Dm q;have J:=Dm N;have ag:=Dm hc;clear k a l N hc;have C:(loadVar 108 ⟨b,0,none⟩).run prog d.drew=.ok (.pointer p) d.drew:=by go_simp
  have D:=I0 d.drew b 1 _ cs _ ((World.rangeAt_drew _ _ _ _).2 s) hu rfl hi;have E:=Dm C;have G:=Dm D;clear C D;refine Ht tN ?_;change wpAny _ _ _ _ _ _ _ (World.drew _);refine Eo (i:=0) (v:=?_) rfl tN tN tN Wbr (Or.inl ⟨vA,?_⟩) ?_
  rotate_left
  ·(intro w;go_simp;try with_reducible rfl)
  rotate_right
  refine Eo (i:=1) (v:=?_) rfl tN tN tN Wbr (Or.inl ⟨vA,?_⟩) ?_
  rotate_left
  ·(intro w;go_simp;try with_reducible rfl)
  rotate_right
  refine Eo (i:=2) (v:=?_) rfl tN tN tN Wbr (Or.inl ⟨vA,?_⟩) ?_
  rotate_left
  ·(intro w;go_simp;try with_reducible rfl)
  rotate_right
  refine Eo (i:=3) (v:=?_) rfl tN tN tN Wbr (Or.inl ⟨vA,?_⟩) ?_
  rotate_left
  ·(intro w;go_simp;try with_reducible rfl)
  rotate_right
  refine Eo (i:=5) (v:=?_) rfl tN tN tN Wbr (Or.inl ⟨vA,?_⟩) ?_
  rotate_left
  ·(intro w;go_simp;try with_reducible rfl)
  rotate_right
  refine Eo (i:=6) (v:=?_) rfl tN tN tN Wbr (Or.inl ⟨vA,?_⟩) ?_
  rotate_left
  ·(intro w;go_simp;try with_reducible rfl)
  rotate_right
  refine Eo (i:=7) (v:=?_) rfl tN tN tN Wbr (Or.inl ⟨vA,?_⟩) ?_
  rotate_left
  ·(intro w;go_simp;try with_reducible rfl)
  rotate_right
  refine aN (i:=4) (j:=8) (di:=some 39) (dj:=some 43) (vi:=.pointer p) (vj:=.agg cs.toArray) rfl rfl rfl rfl rfl rfl ?r1 ?r2 ?r3 sY ?h1 ?h2 ?h3 ?h4 ?hc ?h
  case r1=>kernel_rfl
  case r2=>kernel_rfl
  case r3=>kernel_rfl
  case h1=>exact Wcb
  case h2=>exact Wcc
  case h3=>exact Wcc
  case h4=>exact Wcb
  case hc=>kernel_rfl
  refine RI 9 tN tN ?_;have H:(((d.alloc (.cells (.pointer p::cs).toArray 116)).setCell ⟨b,0,none⟩ (.pointer (some ⟨d.heap.size,0,none⟩))).drew).heap[b]? =_:=
   B3 (.pointer (some ⟨d.heap.size,0,none⟩)) ((Below.heap_alloc d _ b (Hl d _ f)).trans A.out)
  have ah:=Dm H;obtain⟨R,ai,S,t⟩:=WZ;have T:∀v∈R.toList,v.oneCell'=true:=by
   rw[t.out];intro v hv;rw[Cv hv]
   rfl
  have U:1+R.size<=((DY (r++[48]) (.pointer p) K).set 0 (.pointer (some ⟨d.heap.size,0,none⟩))).toArray.size:=by
   rw[t.out];simp[Zl]
  clear f s O n y H
  go_wp2_with (refine YG rfl 109 _ _ rfl b 1 R rfl rfl _ _ ah.out S T U ?_;intro w4 V hg4)
  go_end0
  refine⟨rfl,Y0 (by rw[D7,hr];rfl) u hB (by exact c) (by rw[J.out];exact ag.out) af.out (by rw[J.out];exact A.out) (by rw[J.out,Q.out];exact hg4) ?_⟩;have e:=V.out;rw[t.out] at e;rw[J.out,e]
  rfl
 ·have ht:(((r.length:Int)%2048)==2047)=false:=by rw[Hg];omega
  have F:=Dm c;clear c
  go_enter func106,ntmps106
  go_wp2
  go_end0
  have hm:=Xi r 48 v F.out;refine⟨rfl,⟨by rw[D7,hr];rfl,u,v,by rw[M.out,hm],?_⟩,k⟩;have hk:=F.out;rw[B8,Bo,show (r.length+1) / 2048=r.length / 2048 by omega];refine(hc.kept fun g _ _ hg ho=>?_).more [48] sX;rw[k.block g (E9.1 ho).1 tO];exact ho
def HD:Obj:=.cells (IC [] (.pointer none)).toArray 111 (0,0)
theorem AN.fresh {w:A5}{B b:Nat}(a:w.heap.size=b)(c:b<B):AN (w.alloc HD) B b []:=by
 subst a;exact⟨rfl,c,.pointer none,heap_alloc_new w HD,rfl⟩
theorem lU:∃Z:Array A0,(∀w,(zeroValue 111).run prog w=.ok (.agg Z) w)/\Hid (Z=(IC [] (.pointer none)).toArray):=by
 refine⟨(IC [] (.pointer none)).toArray,?_,Dm rfl⟩;have h:(prog.info? 111).map (fun i=>i.zero)=some (some (.agg (IC [] (.pointer none)).toArray)):=tN;generalize (IC [] (Value.pointer none)).toArray=Z at h ⊢;cases hq:prog.info? 111 with
 |none=>simp[hq] at h
 |some i=>
  simp[hq] at h;intro w;simp[zeroValue,typeInfo,hq,h]
theorem Sd (w:A5):A9 prog 36 #[] w fun e b=>e=.returned (.pointer (some ⟨w.heap.size,0,none⟩))/\w.alloc HD=b:=by
 obtain⟨Z,c,a⟩:=lU
 go_enter func36,ntmps36
 go_wp2
 go_ret
 refine⟨rfl,?_⟩;unfold HD;rw[<-a.out]
theorem Yc (w:A5)(B b:Nat)(r:List UInt8)(c:AN w B b r):
  A9 prog 38 #[.pointer (some ⟨b,0,none⟩)] w fun e d=>e=.returned (.int .i64 (r.length:Int))/\w=d:=by
 obtain⟨hr,f,v,g,hc⟩:=c;have a:=AA g (NU r v _)
 go_enter func38,ntmps38
 go_wp2
 go_ret
 exact⟨rfl,rfl⟩
theorem TB (w:A5)(B b:Nat)(r:List UInt8)(l:AN w B b r)(hn:r.length+8<=1099511627776)(u:B<=w.heap.size):
  A9 prog 73 #[.pointer (some ⟨b,0,none⟩)] w fun e m=>e=.returned (.int .i64 ((gap r.length:Nat):Int))/\AN m B b (r++List.replicate (gap r.length) 48)/\w.grownBy m (some b):=by
 have d:=l;obtain⟨hr,p,v,n,hc⟩:=d;have a:=AA n (NU r v _);clear n hc
 go_enter func73,ntmps73
 go_wp2
 obtain⟨k,hk⟩:=Ai (gap r.length);have q:k<8:=by rw[<-hk];unfold gap;omega
 have o:7-((r.length:Int)+7)%8=((k:Nat):Int):=by rw[<-hk];unfold gap;omega
 rw[o];have K:=Dm hk;clear hk o a
 go_loopw [14] (fun i wr=>∃j:Nat,j<=k/\i=.int .i64 j/\AN wr B b (r++List.replicate j 48)/\w.grownBy wr (some b)) (fun i _=>k-(intOf i).toNat)
 case atStart=>exact⟨0,Do _,rfl,by simpa using l,World.grownBy.refl _ _⟩
 case round=>
  obtain⟨j,hj,rfl,c,hg⟩:=hrel;have s:=hg.size;by_cases t:j<k
  ·have f:(r++List.replicate j 48).length<=1099511627776:=by rw[B8,Bp];omega
   go_wp2_with fail
   refine(aU _ B b _ c f sX).mono ?_;rintro e x ⟨rfl,g,h⟩
   go_wp2
   go_roundw
   case rel=>exact⟨j+1,sX,tP,by rw[List.replicate_succ',<-Bg];exact g,AP hg h⟩
   case measure=>simp[intOf];omega
  ·obtain rfl:j=k:=sX
   go_wp2
   go_ret
   rw[K.out];exact⟨rfl,c,hg⟩
theorem Qay {w wr:A5}{row:Option Nat}{K:Nat}(h:w.grownBy wr row)(a:w.heap.size<=K)(s:ByteArray)(p:Nat):w.grownBy (wr.iterAt K s p) row:=
 ⟨h.os,h.tape,h.output,by rw[Lib.iterAt_size];exact h.size,fun k hk hr=>by rw[Hz _ _ _ _ _ (by omega)];exact h.block k hk hr⟩
theorem AN.iterAt {w:A5}{B b:Nat}{r:List UInt8}(h:AN w B b r){K:Nat}{s:ByteArray}{q:Nat}(a:w.heap[K]? =some (.stringIter s q))(p:Nat):AN (w.iterAt K s p) B b r:=
 h.kept (fun cs T ho=>uY) (fun g cs T _ ho=>uY)
theorem lE (s:ByteArray)(p:Nat)(h:p<s.size)(hr:AH s.data.toList=true):s[p]=48\/s[p]=49:=by
 have:=NN s.data.toList p h hr;have e:s.data.toList[p]=s[p]:=rfl;rw[e] at this;rcases this with c|c
 ·exact .inl (Hp.1 c)
 ·exact .inr (Hp.1 c)
theorem nD (s:ByteArray)(p:Nat)(h:p<s.size):s.data.toList.take (p+1)=s.data.toList.take p++[s[p]]:=Bd h
theorem Wl (w:A5)(B b:Nat)(r:List UInt8)(s:ByteArray)(G:AN w B b r)(hs:AH s.data.toList=true)(hn:r.length+s.size<=1099511627776)(U:B<=w.heap.size):
  A9 prog 108 #[.pointer (some ⟨b,0,none⟩),.string s] w fun e I=>e=.returned (.int .i64 0)/\AN I B b (r++s.data.toList)/\w.grownBy I (some b):=by
 have N:=Dm hs;obtain⟨H,O⟩:=Ai w.heap.size
 go_enter func108,ntmps108
 go_wp2_with fail
 refine(Qa5 s _).mono ?_;rintro e j ⟨rfl,l⟩;have q:=G.below l;have t:w.grownBy j (some b):=⟨l.os,l.tape,l.output,l.size,fun k hk _=>l.block k hk⟩;obtain⟨K,E⟩:=Ai j.heap.size;have F:w.heap.size<=K:=by have:=l.size;omega
 have m:(j.iter s 0).heap[K]? =some (.stringIter s 0):=by rw[<-E];exact World.iter_heap j s 0
 have u:AN (j.iter s 0) B b r:=q.below ((Dn _ j).alloc (B9 _) _);have x:w.grownBy (j.iter s 0) (some b):=AP t (Hk j _ _);have P:=Dm m;have Q:=Dm E;clear m E l q t G O
 go_wp2
 rw[Q.out]
 go_loopw [] (fun wr=>∃p:Nat,p<=s.size/\wr.heap[K]? =some (.stringIter s p)/\AN wr B b (r++s.data.toList.take p)/\w.grownBy wr (some b)) (fun wr=>s.size-wr.iterPos K)
 case atStart=>exact⟨0,Do _,P.out,by simpa using u,x⟩
 case round=>
  clear u x;obtain⟨p,V,hit,g,hg⟩:=hrel;have R:=hg.size;have y:b≠K:=by
   rintro rfl;obtain⟨_,_,v,J,_⟩:=g;rw[hit] at J;cases J
  by_cases d:p<s.size
  ·have h:∀ty,(Instr.next (.pointer (some ⟨K,0,none⟩)) true ty).run prog wr=_:=fun ty=>Lib.run_next_any_at wr K s p ty hit d;have f:=Lib.iterAt_heap wr K s p (p+(Utf8.decode s p).2) hit;have n:=g.iterAt hit (p+(Utf8.decode s p).2);have i:=Qay hg F s (p+(Utf8.decode s p).2);have hc:=lE s p d N.out;have hd:=Zw s p d (by rcases hc with c|c <;> rw[c];exact .inl rfl;exact .inr rfl);rw[hd] at h f n i;have z:(r++s.data.toList.take p).length<=1099511627776:=by rw[B8,Be];omega
   have L:=i.size;have T:=Dm (nD s p d);have M:=Dm hit;have D:=Dm f;clear hd hit f hg g;rcases hc with c|c
   ·rw[c] at h;have C:=Dm c;clear c
    go_wp2_with fail
    refine(aU _ B b _ n z sX).mono ?_;exact Wb7
   ·rw[c] at h;have C:=Dm c;clear c
    go_wp2_with fail
    refine(Qpe _ B b _ n z sX).mono ?_;exact Wb7
  ·have h:∀ty,(Instr.next (.pointer (some ⟨K,0,none⟩)) true ty).run prog wr=_:=fun ty=>Lib.run_next_end_at wr K s p ty hit d;obtain rfl:p=s.size:=sX;clear hit
   go_wp2
   go_ret
   exact⟨rfl,by rwa [Bh (by exact B9 _)] at g,hg⟩
end Go.Proofs.YtjjmalchelniiaaGreatDoor