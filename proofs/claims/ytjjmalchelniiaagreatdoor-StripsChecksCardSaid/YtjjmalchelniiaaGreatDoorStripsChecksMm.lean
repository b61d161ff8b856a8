/- StripsChecks, 13. No condition. -/
import Derived.Test.YtjjmalchelniiaaGreatDoorStripsChecksMb
import Derived.Test.YtjjmalchelniiaaGreatDoorStripsChecksMe
import Derived.Test.YtjjmalchelniiaaGreatDoorStripsChecksMl
open Go.Proofs.Tryz
open Go renaming Value->A0,World->A5,Calls->A9
set_option maxHeartbeats 1000000
namespace Go.Proofs.YtjjmalchelniiaaGreatDoor
open Go.RowKit
abbrev Hq:=@List.drop_succ_cons
abbrev Hr:=@beq_eq_false_iff_ne
abbrev Hs:=@List.getElem?_append_left
abbrev Ht:=@World.block_lt_of_cell?
abbrev Hu:=@List.getElem?_append_right
abbrev Hv:=@List.getElem?_eq_some_iff
abbrev Hw:=@List.getElem?_cons_succ
abbrev Hx:=@List.set_cons_succ
abbrev Hy:=@List.getElem?_eq_none
abbrev Hz:=@List.ext_getElem?
abbrev I0:=@wp_region_any
abbrev I3:=@List.set_cons_zero
abbrev I4:=@List.getElem?_take
abbrev I5:=@World.grownBy_alloc
abbrev I6:=@List.length_set
abbrev I7:=@Array.toList_setIfInBounds
abbrev I8:=@World.cell?_setCell_other
abbrev I9:=@Lib.iterAt_other
abbrev Ia:=@run_loadVar_mid
theorem Ak{α}(a:α):∃b,a=b:=⟨a,rfl⟩
def DU (r:List UInt8)(k:Nat):List A0:=(List.range 256).map fun i=>Value.int .u8 ((BX r (256*k+i):Nat):Int)
theorem EM (r:List UInt8)(k:Nat):(DU r k).length=256:=by simp[DU]
theorem Pn (r:List UInt8)(k i:Nat)(h:i<256):(DU r k)[i]? =some (.int .u8 ((BX r (256*k+i):Nat):Int)):=by
 simp[DU,h]
theorem Qp (r:List UInt8)(k:Nat):∀v∈DU r k,v.oneCell'=true:=by
 intro v hv;obtain⟨_,_,rfl⟩:=List.mem_map.1 hv
 rfl
theorem Uo (r s:List UInt8)(k:Nat)(h:∀i,i<256->BX r (256*k+i)=BX s (256*k+i)):DU r k=DU s k:=by
 unfold DU;apply D8;intro i hi;rw[h i (Bq.1 hi)]
theorem mL (r e:List UInt8)(k:Nat)(h:2048*(k+1)<=r.length):DU (r++e) k=DU r k:=
 Uo _ _ _ fun i hi=>YB r e _ (by omega)
theorem yR (r:List UInt8)(k:Nat)(h:r.length<=2048*k):DU r k=List.replicate 256 (.int .u8 0):=by
 unfold DU;rw[List.eq_replicate_iff];refine⟨by simp,fun v hv=>?_⟩;obtain⟨i,_,rfl⟩:=List.mem_map.1 hv;rw[RG r _ (by omega)]
 rfl
def GK (w:A5)(B:Nat)(r:List UInt8):Nat->A0->Prop
 |0,v=>v=.pointer none
 |k+1,v=>∃g a,v=.pointer (some ⟨g,0,none⟩)/\B<=g/\w.heap[g]? =some (.cells (a::DU r k).toArray 116 (0,0))/\GK w B r k a
theorem GK.kept {w a:A5}{B:Nat}{r:List UInt8}(h:∀g cs T,B<=g->w.heap[g]? =some (.cells cs T (0,0))->a.heap[g]? =some (.cells cs T (0,0))):∀{k:Nat} {v:A0},GK w B r k v->GK a B r k v
 |0,_,c=>c
 |_+1,_,⟨g,v',e,hg,hh,c⟩=>⟨g,v',e,hg,h g _ _ hg hh,c.kept h⟩
theorem GK.more {w:A5}{B:Nat}{r:List UInt8}(e:List UInt8):∀{k:Nat} {v:A0},2048*k<=r.length->GK w B r k v->GK w B (r++e) k v
 |0,_,_,c=>c
 |k+1,_,h,⟨g,v',e1,hg,hh,c⟩=>⟨g,v',e1,hg,by rw[mL r e k h];exact hh,c.more e (by omega)⟩
theorem GK.pointer {w:A5}{B:Nat}{r:List UInt8}{k:Nat}{v:A0}(h:GK w B r k v):∃p,v=.pointer p:=by
 cases k with
 |zero=>exact⟨none,h⟩
 |succ k=>obtain⟨g,a,e,_⟩:=h;exact⟨_,e⟩
def DL (r:List UInt8)(v:A0)(k:Nat):List A0:=v::(DU r k++[.int .i64 (r.length:Int)])
def HB (r:List UInt8)(v:A0):List A0:=DL r v (r.length / 2048)
theorem W6 (r:List UInt8)(v:A0)(k:Nat):(DL r v k).length=258:=by simp[DL,EM]
theorem N1 (r:List UInt8)(v:A0)(k:Nat):(DL r v k)[257]? =some (.int .i64 (r.length:Int)):=by
 unfold DL;rw[Hw,Hu (by rw[EM];omega),EM]
 rfl
theorem lT (r:List UInt8)(v:A0)(k i:Nat)(h:i<256):(DL r v k)[1+i]? =some (.int .u8 ((BX r (256*k+i):Nat):Int)):=by
 unfold DL;rw[Cd,Hw,Hs (by rw[EM];omega),Pn _ _ _ h]
def AN (w:A5)(B b:Nat)(r:List UInt8):Prop:=
 AK r=true/\b<B/\∃v,w.heap[b]? =some (.cells (HB r v).toArray 111 (0,0))/\GK w B r (r.length / 2048) v
theorem AN.kept {w a:A5}{B b:Nat}{r:List UInt8}(h:AN w B b r)(c:∀cs T,w.heap[b]? =some (.cells cs T (0,0))->a.heap[b]? =some (.cells cs T (0,0)))
  (hc:∀g cs T,B<=g->w.heap[g]? =some (.cells cs T (0,0))->a.heap[g]? =some (.cells cs T (0,0))):AN a B b r:=by
 obtain⟨h1,h2,v,h3,h4⟩:=h;exact⟨h1,h2,v,c _ _ h3,h4.kept hc⟩
theorem AN.lt {w:A5}{B b:Nat}{r:List UInt8}(h:AN w B b r):b<w.heap.size:=by
 obtain⟨_,_,v,h3,_⟩:=h;exact(Dy.1 h3).1
theorem AN.below {w a:A5}{B b:Nat}{r:List UInt8}(h:AN w B b r)(c:Below w.heap.size w a):AN a B b r:=
 h.kept (fun _ _ ho=>by rw[c.block b (Dy.1 ho).1];exact ho) (fun g _ _ _ ho=>by rw[c.block g (Dy.1 ho).1];exact ho)
theorem mX (r:List UInt8)(v:A0)(k:Nat):(DL r v k).set 257 (.int .i64 ((r.length:Int)+1))=DL (r++[48]) v k:=by
 unfold DL;rw[Hx,List.set_append_right _ _ (by rw[EM];omega),EM,Uo (r++[48]) r _ fun i _=>bU r _,B9]
 rfl
theorem dP (r s:List UInt8)(k i:Nat)(hi:i<256)(x:Nat)(a:BX s (256*k+i)=x)(h:∀j,j<256->j≠i->BX s (256*k+j)=BX r (256*k+j)):
  (DU r k).set i (.int .u8 (x:Int))=DU s k:=by
 apply Hz;intro j;by_cases hj:j<256
 ·rw[Pn s k j hj];by_cases e:i=j
  ·subst e;rw[List.getElem?_set_self (by rw[EM];exact hi),a]
  ·rw[List.getElem?_set_ne e,Pn r k j hj,h j hj (fun b=>e b.symm)]
 ·rw[Hy (by rw[I6,EM];omega),Hy (by rw[EM];omega)]
theorem Ye (n:Nat):256*(n / 2048)+n%2048 / 8=n / 8:=by omega
theorem jF (r:List UInt8)(v:A0):
  ((DL r v (r.length / 2048)).set (1+r.length%2048 / 8) (.int .u8 ((BX r (r.length / 8)+2^(7-r.length%8):Nat):Int))).set 257 (.int .i64 ((r.length:Int)+1))=DL (r++[49]) v (r.length / 2048):=by
 unfold DL;rw[Cd 1,Hx,List.set_append_left _ _ (by rw[EM];omega),Hx,List.set_append_right _ _ (by rw[I6,EM];omega),I6,EM,
  B9,Bo,
  dP r (r++[49]) _ _ (by omega) _ (by rw[Ye,fM]) (fun j hj a=>WK r 49 _ (by omega))]
 rfl
theorem VY (r:List UInt8)(d:UInt8)(v:A0)(h:r.length%2048≠2047):DL (r++[d]) v (r.length / 2048)=HB (r++[d]) v:=by
 unfold HB;rw[B9,Bo,show (r.length+1) / 2048=r.length / 2048 by omega]
theorem lV (r:List UInt8)(d:UInt8)(v:A0)(h:r.length%2048=2047):HB (r++[d]) v=v::(List.replicate 256 (.int .u8 0)++[.int .i64 (((r++[d]).length:Nat):Int)]):=by
 unfold HB DL;rw[yR _ _ (by rw[B9,Bo];omega)]
theorem Yj (o:Nat):∀(l:List A0) (k:Nat) (a:Array A0),o+k+l.length<=a.size->
  (l.zipIdx k).foldl (fun a x=>a.setIfInBounds (o+x.snd) x.fst) a=(a.toList.take (o+k)++(l++a.toList.drop (o+k+l.length))).toArray
 |[],k,a,_=>by simp
 |v::l,k,a,h=>by
  rw[Bi] at h;rw[List.zipIdx_cons,List.foldl_cons,Yj o l (k+1) _ (by simp;omega)]
  congr 1
  apply Hz;intro i;simp only[I7,List.getElem?_append,Be,I6,Ep,I4,Ef,List.getElem?_set,Bi,List.getElem?_cons];by_cases h1:i<o+k
  ·simp[h1,show i<o+(k+1) by omega,show min (o+(k+1)) a.size=o+(k+1) by omega,show min (o+k) a.size=o+k by omega,show ¬ o+k=i by omega]
  ·by_cases h2:i=o+k
   ·subst h2;simp[show min (o+(k+1)) a.size=o+(k+1) by omega,show min (o+k) a.size=o+k by omega,show o+k<o+(k+1) by omega,show o+k<a.size by omega]
   ·have e:i-(o+k)=i-(o+(k+1))+1:=by omega
    simp[h1,show ¬ i<o+(k+1) by omega,show min (o+(k+1)) a.size=o+(k+1) by omega,show min (o+k) a.size=o+k by omega,e];by_cases h3:i-(o+(k+1))<l.length
    ·simp[h3]
    ·simp[h3];rw[Bb (by omega)]
     congr 1
     omega
theorem Zj:∃Z:Array A0,(∀w,(zeroValue 109).run prog w=.ok (.agg Z) w)/\(prog.info? 109).map (·.size)=some Z.size/\Hid (Z=(List.replicate 256 (.int .u8 0)).toArray):=by
 refine⟨(List.replicate 256 (.int .u8 0)).toArray,?_,by kernel_rfl,Dl rfl⟩;have h:(prog.info? 109).map (fun i=>i.zero)=some (some (.agg (List.replicate 256 (.int .u8 0)).toArray)):=by kernel_rfl
 generalize (List.replicate 256 (Value.int .u8 0)).toArray=Z at h ⊢;cases hq:prog.info? 109 with
 |none=>simp[hq] at h
 |some i=>
  simp[hq] at h;intro w;simp[zeroValue,typeInfo,hq,h]
theorem Uc:∃Z:Array A0,(∀w,(zeroValue 116).run prog w=.ok (.agg Z) w)/\Z.size=257:=by
 refine⟨#[.pointer none]++Array.replicate 256 (.int .u8 0),?_,by simp⟩;have h:(prog.info? 116).map (fun i=>(i.zero,i.size))=some (some (.agg (#[.pointer none]++Array.replicate 256 (.int .u8 0))),257):=by kernel_rfl
 cases hq:prog.info? 116 with
 |none=>simp[hq] at h
 |some i=>
  simp[hq] at h;intro w;simp[zeroValue,typeInfo,hq,h.1]
theorem Yz (Z:Array A0)(v:A0)(cs:List A0)(a:Z.size=257)(hc:cs.length=256):
  List.foldl (fun cs x=>cs.setIfInBounds (1+x.snd) x.fst) (Z.setIfInBounds 0 v) cs.zipIdx=(v::cs).toArray:=by
 rw[Yj 1 cs 0 _ (by simp;omega)];obtain⟨l⟩:=Z;have hl:l.length=257:=a
 congr 1
 match l,hl with
 |x::l,hl=>
  simp only[Bi] at hl;simp only[I7,I3,Cw,Dp,Bk,hc];rw[show 1+256=256+1 from rfl,Hq,Cp (by omega)];simp
theorem VS {w a e:A5}{B b:Nat}{r:List UInt8}{d:UInt8}{p:Option Addr}(hr:AK (r++[d])=true)(f:b<B)(k:B<=w.heap.size)(l:r.length%2048=2047)
  (hc:GK w B r (r.length / 2048) (.pointer p))(j:w.grownBy a (some b))
  (h:a.heap[b]? =some (.cells (DL (r++[d]) (.pointer p) (r.length / 2048)).toArray 111 (0,0)))
  (c:((a.alloc (.cells (.pointer p::DU (r++[d]) (r.length / 2048)).toArray 116)).setCell ⟨b,0,none⟩ (.pointer (some ⟨a.heap.size,0,none⟩))).drew.grownBy e (some b))
  (i:e.heap[b]? =some (.cells (((DL (r++[d]) (.pointer p) (r.length / 2048)).set 0 (.pointer (some ⟨a.heap.size,0,none⟩))).take 1++((List.replicate 256 (Value.int .u8 0)) ++
   ((DL (r++[d]) (.pointer p) (r.length / 2048)).set 0 (.pointer (some ⟨a.heap.size,0,none⟩))).drop (1+256))).toArray 111 (0,0))):
  AN e B b (r++[d])/\w.grownBy e (some b):=by
 have m:b<a.heap.size:=(Dy.1 h).1;have n:a.grownBy ((a.alloc (.cells (.pointer p::DU (r++[d]) (r.length / 2048)).toArray 116)).setCell ⟨b,0,none⟩ (.pointer (some ⟨a.heap.size,0,none⟩))).drew (some b):=
  AO (I5 a _ _) (AO (DC _ ⟨b,0,none⟩ _) (JX _ _))
 have G:=AO j (AO n c);refine⟨⟨hr,f,.pointer (some ⟨a.heap.size,0,none⟩),?_,?_⟩,G⟩
 ·rw[i,lV r d _ l];unfold DL;rw[I3,Dp,Bk,Cd 1,Hq,List.drop_append,EM,Cp (by rw[EM];omega)]
  rfl
 ·rw[show (r++[d]).length / 2048=r.length / 2048+1 by rw[B9,Bo];omega];refine⟨a.heap.size,.pointer p,rfl,Ea k j.size,?_,?_⟩
  ·rw[c.block a.heap.size (by simp) (by simp;omega)];show (((a.alloc _).setCell _ _)).heap[a.heap.size]? =_;rw[heap_setCell_other _ _ _ _ (by show a.heap.size≠b;omega)];exact heap_alloc_new a _
  ·refine(hc.kept fun g _ _ o ho=>?_).more [d] (by omega);rw[G.block g (Dy.1 ho).1 (by simp;omega)];exact ho
set_option maxRecDepth 100000 in
theorem bD (w:A5)(B b:Nat)(r:List UInt8)(hw:AN w B b r)(hn:r.length<=1099511627776)(hB:B<=w.heap.size):
  A9 prog 106 #[.pointer (some ⟨b,0,none⟩),.int .i32 49] w fun e w'=>e=.returned (.tuple #[])/\AN w' B b (r++[49])/\w.grownBy w' (some b):=by
 obtain⟨hr,F,v,G,hc⟩:=hw;have y:=A2 G (N1 r v _);have hf:=fun o=>AW (o:=o) G
 go_enter func106,ntmps106
 go_wp2
 obtain⟨k,s⟩:=Ak (r.length%2048);have ek:((r.length:Int)%2048)=((k:Nat):Int):=by omega
 rw[ek];have k0:(0:Int)<=(k:Int):=by omega
 have k1:(k:Int)<2048:=by omega
 have i0:(0:Int)<=(k:Int) / 8:=by omega
 have i1:(k:Int) / 8<256:=by omega
 have hx:=A2 G (lT r v _ (k / 8) (by omega));rw[<-s,Ye,s] at hx;have H:=Dl s;clear ek s
 go_region
 have e1:bits .or .u8 ((BX r (r.length / 8):Nat):Int) (128 / 2^(k%8))=((BX r (r.length / 8)+2^(7-r.length%8):Nat):Int):=by
  obtain⟨A,hA⟩:=lF r;have s:=H.out;have e:k%8=r.length%8:=by omega
  rw[e,xK _ _ A (by omega) hA (WM r _ hr)]
 rw[e1];have f:=B3 (o:=1+k / 8) (.int .u8 ((BX r (r.length / 8)+2^(7-r.length%8):Nat):Int)) G;have z:=AO (DC w ⟨b,1+k / 8,none⟩ (.int .u8 ((BX r (r.length / 8)+2^(7-r.length%8):Nat):Int))) (JX _ _);have f:(w.setCell ⟨b,1+k / 8,none⟩ (.int .u8 ((BX r (r.length / 8)+2^(7-r.length%8):Nat):Int))).drew.heap[b]? =_:=f;have l:=jF r v;have s:=H.out;rw[s] at l
 generalize (w.setCell ⟨b,1+k / 8,none⟩ (.int .u8 ((BX r (r.length / 8)+2^(7-r.length%8):Nat):Int))).drew=T at f z ⊢;have I:(((HB r v).set (1+k / 8) (.int .u8 ((BX r (r.length / 8)+2^(7-r.length%8):Nat):Int))))[257]? =some (.int .i64 (r.length:Int)):=by
  rw[List.getElem?_set_ne (by omega)];exact N1 r v _
 have t:=A2 f I;have U:=fun o=>AW (o:=o) f;have a:=B3 (o:=257) (.int .i64 ((r.length:Int)+1)) f;have a:(T.setCell ⟨b,257,none⟩ (.int .i64 ((r.length:Int)+1))).heap[b]? =some (.cells (DL (r++[49]) v (r.length / 2048)).toArray 111 (0,0)):=by rw[a];unfold HB;rw[l]
 have m:=AO z (DC T ⟨b,257,none⟩ (.int .i64 ((r.length:Int)+1)));have V:=Dl a;clear f a l I e1 hx hf y i0 i1 G s;by_cases n:k=2047
 ·have ht:((k:Int)==2047)=true:=by rw[Bm];omega
  go_wp2
  have a:=V.out;generalize T.setCell ⟨b,257,none⟩ (.int .i64 ((r.length:Int)+1))=c at a m ⊢;clear V t U z;obtain⟨p,rfl⟩:=hc.pointer;obtain⟨K,W⟩:=Ak (r.length / 2048);rw[W] at a hc;obtain⟨cs,q⟩:=Ak (DU (r++[49]) K);have C:cs.length=256:=by rw[<-q];exact EM _ _
  have aj:∀v∈cs,v.oneCell'=true:=by rw[<-q];exact Qp _ _
  have d:c.cell? ⟨b,0,none⟩=some (.pointer p):=A2 a rfl;have D:c.rangeAt b 1 cs:=by
   intro j v hv;have hj:j<cs.length:=(Hv.1 hv).1;refine A2 a ?_;unfold DL;rw[q,Cd,Hw,Hs hj,hv]
  have X:c.frozen? ⟨b,0,none⟩=false:=AW a;have Y:∀o,(c.alloc o).cell? ⟨b,0,none⟩=some (.pointer p):=fun o=>by
   rw[World.cell?_alloc_lt _ _ _ (Ht c _ d)];exact d
  have ai:∀o,(c.alloc o).frozen? ⟨b,0,none⟩=false:=fun o=>by
   rw[World.frozen?_alloc_past _ _ _ (Ht c _ d)];exact AW a
  have u:∀o,(c.alloc o).rangeAt b 1 cs:=fun o=>World.rangeAt_alloc D o;have J:∀o x,((c.alloc o).setCell ⟨b,0,none⟩ x).rangeAt b 1 cs:=fun o x j v hv=>by
   rw[I8 _ _ _ _ (by intro e;injection e with _ e;omega)];exact u o j v hv
  have hu:=underlying109;have hi:(prog.info? 109).map (·.size)=some cs.length:=by rw[C];kernel_rfl
  obtain⟨Z,ak,L⟩:=Uc;have al:Z≠#[]:=by rintro rfl;simp at L
  have am:=Yz Z (.pointer p) cs L C;have an:=Dl m;have M:=Dl a;have aa:=Dl q;have ar:=Dl C;have S:=Dl W;have ao:=Dl hc;clear m a q W hc;have N:(loadVar 108 ⟨b,0,none⟩).run prog c.drew=.ok (.pointer p) c.drew:=by go_simp
  have O:=Ia c.drew b 1 _ cs _ ((World.rangeAt_drew _ _ _ _).2 D) hu rfl hi;have P:=Dl N;have Q:=Dl O;clear N O;refine I0 (by kernel_rfl) ?_;change wpAny _ _ _ _ _ _ _ (World.drew _);refine Ej (i:=0) (v:=?_) rfl (by kernel_rfl) (by kernel_rfl) (by kernel_rfl) (fun _ _ _ h=>h) (Or.inl ⟨by rfl,?_⟩) ?_
  rotate_left
  ·(intro w;go_simp;try with_reducible rfl)
  rotate_right
  refine Ej (i:=1) (v:=?_) rfl (by kernel_rfl) (by kernel_rfl) (by kernel_rfl) (fun _ _ _ h=>h) (Or.inl ⟨by rfl,?_⟩) ?_
  rotate_left
  ·(intro w;go_simp;try with_reducible rfl)
  rotate_right
  refine Ej (i:=2) (v:=?_) rfl (by kernel_rfl) (by kernel_rfl) (by kernel_rfl) (fun _ _ _ h=>h) (Or.inl ⟨by rfl,?_⟩) ?_
  rotate_left
  ·(intro w;go_simp;try with_reducible rfl)
  rotate_right
  refine Ej (i:=3) (v:=?_) rfl (by kernel_rfl) (by kernel_rfl) (by kernel_rfl) (fun _ _ _ h=>h) (Or.inl ⟨by rfl,?_⟩) ?_
  rotate_left
  ·(intro w;go_simp;try with_reducible rfl)
  rotate_right
  refine Ej (i:=5) (v:=?_) rfl (by kernel_rfl) (by kernel_rfl) (by kernel_rfl) (fun _ _ _ h=>h) (Or.inl ⟨by rfl,?_⟩) ?_
  rotate_left
  ·(intro w;go_simp;try with_reducible rfl)
  rotate_right
  refine Ej (i:=6) (v:=?_) rfl (by kernel_rfl) (by kernel_rfl) (by kernel_rfl) (fun _ _ _ h=>h) (Or.inl ⟨by rfl,?_⟩) ?_
  rotate_left
  ·(intro w;go_simp;try with_reducible rfl)
  rotate_right
  refine Ej (i:=7) (v:=?_) rfl (by kernel_rfl) (by kernel_rfl) (by kernel_rfl) (fun _ _ _ h=>h) (Or.inl ⟨by rfl,?_⟩) ?_
  rotate_left
  ·(intro w;go_simp;try with_reducible rfl)
  rotate_right
  refine Wy (i:=4) (j:=8) (di:=some 39) (dj:=some 43) (vi:=.pointer p) (vj:=.agg cs.toArray) rfl rfl rfl rfl rfl rfl ?r1 ?r2 ?r3 (by decide) ?h1 ?h2 ?h3 ?h4 ?hc ?h
  case r1=>kernel_rfl
  case r2=>kernel_rfl
  case r3=>kernel_rfl
  case h1=>exact FU (ty:=108) (x:=.tmp 38) (ad:=⟨b,0,none⟩) (by kernel_rfl) (by kernel_rfl) P.out
  case h2=>exact FU (ty:=109) (x:=.tmp 42) (ad:=⟨b,1,none⟩) (by kernel_rfl) (by kernel_rfl) Q.out
  case h3=>exact FU (ty:=109) (x:=.tmp 42) (ad:=⟨b,1,none⟩) (by kernel_rfl) (by kernel_rfl) Q.out
  case h4=>exact FU (ty:=108) (x:=.tmp 38) (ad:=⟨b,0,none⟩) (by kernel_rfl) (by kernel_rfl) P.out
  case hc=>kernel_rfl
  refine Qc 9 (by kernel_rfl) (by kernel_rfl) ?_;have R:(((c.alloc (.cells (.pointer p::cs).toArray 116)).setCell ⟨b,0,none⟩ (.pointer (some ⟨c.heap.size,0,none⟩))).drew).heap[b]? =_:=
   B3 (.pointer (some ⟨c.heap.size,0,none⟩)) ((Below.heap_alloc c _ b (Ht c _ d)).trans M.out)
  have ap:=Dl R;obtain⟨ab,aq,ac,E⟩:=Zj;have ae:∀v∈ab.toList,v.oneCell'=true:=by
   rw[E.out];intro v hv;rw[Cs hv]
   rfl
  have af:1+ab.size<=((DL (r++[49]) (.pointer p) K).set 0 (.pointer (some ⟨c.heap.size,0,none⟩))).toArray.size:=by
   rw[E.out];simp[W6]
  clear d D X u J R
  go_wp2_with (refine UE rfl 109 _ _ rfl b 1 ab rfl rfl _ _ ap.out ac ae af ?_;intro w4 ag ah)
  go_end0
  refine⟨rfl,VS (by rw[CX,hr];rfl) F hB (by rw[H.out];exact n) (by rw[S.out];exact ao.out) an.out (by rw[S.out];exact M.out) (by rw[S.out,aa.out];exact ah) ?_⟩;have e:=ag.out;rw[E.out] at e;rw[S.out,e]
  rfl
 ·have ht:((k:Int)==2047)=false:=by rw[Hr];omega
  go_wp2
  go_end0
  have hm:=VY r 49 v (by rw[H.out];exact n);refine⟨rfl,⟨by rw[CX,hr];rfl,F,v,by rw[V.out,hm],?_⟩,m⟩;have s:=H.out;rw[B9,Bo,show (r.length+1) / 2048=r.length / 2048 by omega];refine(hc.kept fun g _ _ hg ho=>?_).more [49] (by omega);rw[m.block g (Dy.1 ho).1 (by simp;omega)];exact ho
set_option maxRecDepth 100000 in
theorem Uh (w:A5)(B b:Nat)(r:List UInt8)(hw:AN w B b r)(hn:r.length<=1099511627776)(hB:B<=w.heap.size):
  A9 prog 106 #[.pointer (some ⟨b,0,none⟩),.int .i32 48] w fun e X=>e=.returned (.tuple #[])/\AN X B b (r++[48])/\w.grownBy X (some b):=by
 obtain⟨hr,u,v,I,hc⟩:=hw;have m:=A2 I (N1 r v _);have L:=fun o=>AW (o:=o) I;have a:=B3 (o:=257) (.int .i64 ((r.length:Int)+1)) I;have a:(w.setCell ⟨b,257,none⟩ (.int .i64 ((r.length:Int)+1))).heap[b]? =some (.cells (DL (r++[48]) v (r.length / 2048)).toArray 111 (0,0)):=by rw[a];unfold HB;rw[mX]
 have k:=DC w ⟨b,257,none⟩ (.int .i64 ((r.length:Int)+1));have M:=Dl a;clear a I;by_cases c:r.length%2048=2047
 ·have ht:(((r.length:Int)%2048)==2047)=true:=by rw[Bm];omega
  have F:=Dl c;clear c
  go_enter func106,ntmps106
  go_wp2
  have c:=F.out;have a:=M.out;generalize w.setCell ⟨b,257,none⟩ (.int .i64 ((r.length:Int)+1))=d at a k ⊢;clear M m L;obtain⟨p,rfl⟩:=hc.pointer;obtain⟨K,N⟩:=Ak (r.length / 2048);rw[N] at a hc;obtain⟨cs,l⟩:=Ak (DU (r++[48]) K);have q:cs.length=256:=by rw[<-l];exact EM _ _
  have aa:∀v∈cs,v.oneCell'=true:=by rw[<-l];exact Qp _ _
  have f:d.cell? ⟨b,0,none⟩=some (.pointer p):=A2 a rfl;have s:d.rangeAt b 1 cs:=by
   intro j v hv;have hj:j<cs.length:=(Hv.1 hv).1;refine A2 a ?_;unfold DL;rw[l,Cd,Hw,Hs hj,hv]
  have O:d.frozen? ⟨b,0,none⟩=false:=AW a;have P:∀o,(d.alloc o).cell? ⟨b,0,none⟩=some (.pointer p):=fun o=>by
   rw[World.cell?_alloc_lt _ _ _ (Ht d _ f)];exact f
  have Y:∀o,(d.alloc o).frozen? ⟨b,0,none⟩=false:=fun o=>by
   rw[World.frozen?_alloc_past _ _ _ (Ht d _ f)];exact AW a
  have n:∀o,(d.alloc o).rangeAt b 1 cs:=fun o=>World.rangeAt_alloc s o;have y:∀o x,((d.alloc o).setCell ⟨b,0,none⟩ x).rangeAt b 1 cs:=fun o x j v hv=>by
   rw[I8 _ _ _ _ (by intro e;injection e with _ e;omega)];exact n o j v hv
  have hu:=underlying109;have hi:(prog.info? 109).map (·.size)=some cs.length:=by rw[q];kernel_rfl
  obtain⟨Z,ab,z⟩:=Uc;have ac:Z≠#[]:=by rintro rfl;simp at z
  have ae:=Yz Z (.pointer p) cs z q;have af:=Dl k;have A:=Dl a;have Q:=Dl l;have aj:=Dl q;have J:=Dl N;have ag:=Dl hc;clear k a l N hc;have C:(loadVar 108 ⟨b,0,none⟩).run prog d.drew=.ok (.pointer p) d.drew:=by go_simp
  have D:=Ia d.drew b 1 _ cs _ ((World.rangeAt_drew _ _ _ _).2 s) hu rfl hi;have E:=Dl C;have G:=Dl D;clear C D;refine I0 (by kernel_rfl) ?_;change wpAny _ _ _ _ _ _ _ (World.drew _);refine Ej (i:=0) (v:=?_) rfl (by kernel_rfl) (by kernel_rfl) (by kernel_rfl) (fun _ _ _ h=>h) (Or.inl ⟨by rfl,?_⟩) ?_
  rotate_left
  ·(intro w;go_simp;try with_reducible rfl)
  rotate_right
  refine Ej (i:=1) (v:=?_) rfl (by kernel_rfl) (by kernel_rfl) (by kernel_rfl) (fun _ _ _ h=>h) (Or.inl ⟨by rfl,?_⟩) ?_
  rotate_left
  ·(intro w;go_simp;try with_reducible rfl)
  rotate_right
  refine Ej (i:=2) (v:=?_) rfl (by kernel_rfl) (by kernel_rfl) (by kernel_rfl) (fun _ _ _ h=>h) (Or.inl ⟨by rfl,?_⟩) ?_
  rotate_left
  ·(intro w;go_simp;try with_reducible rfl)
  rotate_right
  refine Ej (i:=3) (v:=?_) rfl (by kernel_rfl) (by kernel_rfl) (by kernel_rfl) (fun _ _ _ h=>h) (Or.inl ⟨by rfl,?_⟩) ?_
  rotate_left
  ·(intro w;go_simp;try with_reducible rfl)
  rotate_right
  refine Ej (i:=5) (v:=?_) rfl (by kernel_rfl) (by kernel_rfl) (by kernel_rfl) (fun _ _ _ h=>h) (Or.inl ⟨by rfl,?_⟩) ?_
  rotate_left
  ·(intro w;go_simp;try with_reducible rfl)
  rotate_right
  refine Ej (i:=6) (v:=?_) rfl (by kernel_rfl) (by kernel_rfl) (by kernel_rfl) (fun _ _ _ h=>h) (Or.inl ⟨by rfl,?_⟩) ?_
  rotate_left
  ·(intro w;go_simp;try with_reducible rfl)
  rotate_right
  refine Ej (i:=7) (v:=?_) rfl (by kernel_rfl) (by kernel_rfl) (by kernel_rfl) (fun _ _ _ h=>h) (Or.inl ⟨by rfl,?_⟩) ?_
  rotate_left
  ·(intro w;go_simp;try with_reducible rfl)
  rotate_right
  refine Wy (i:=4) (j:=8) (di:=some 39) (dj:=some 43) (vi:=.pointer p) (vj:=.agg cs.toArray) rfl rfl rfl rfl rfl rfl ?r1 ?r2 ?r3 (by decide) ?h1 ?h2 ?h3 ?h4 ?hc ?h
  case r1=>kernel_rfl
  case r2=>kernel_rfl
  case r3=>kernel_rfl
  case h1=>exact FU (ty:=108) (x:=.tmp 38) (ad:=⟨b,0,none⟩) (by kernel_rfl) (by kernel_rfl) E.out
  case h2=>exact FU (ty:=109) (x:=.tmp 42) (ad:=⟨b,1,none⟩) (by kernel_rfl) (by kernel_rfl) G.out
  case h3=>exact FU (ty:=109) (x:=.tmp 42) (ad:=⟨b,1,none⟩) (by kernel_rfl) (by kernel_rfl) G.out
  case h4=>exact FU (ty:=108) (x:=.tmp 38) (ad:=⟨b,0,none⟩) (by kernel_rfl) (by kernel_rfl) E.out
  case hc=>kernel_rfl
  refine Qc 9 (by kernel_rfl) (by kernel_rfl) ?_;have H:(((d.alloc (.cells (.pointer p::cs).toArray 116)).setCell ⟨b,0,none⟩ (.pointer (some ⟨d.heap.size,0,none⟩))).drew).heap[b]? =_:=
   B3 (.pointer (some ⟨d.heap.size,0,none⟩)) ((Below.heap_alloc d _ b (Ht d _ f)).trans A.out)
  have ah:=Dl H;obtain⟨R,ai,S,t⟩:=Zj;have T:∀v∈R.toList,v.oneCell'=true:=by
   rw[t.out];intro v hv;rw[Cs hv]
   rfl
  have U:1+R.size<=((DL (r++[48]) (.pointer p) K).set 0 (.pointer (some ⟨d.heap.size,0,none⟩))).toArray.size:=by
   rw[t.out];simp[W6]
  clear f s O n y H
  go_wp2_with (refine UE rfl 109 _ _ rfl b 1 R rfl rfl _ _ ah.out S T U ?_;intro w4 V W)
  go_end0
  refine⟨rfl,VS (by rw[CX,hr];rfl) u hB (by exact c) (by rw[J.out];exact ag.out) af.out (by rw[J.out];exact A.out) (by rw[J.out,Q.out];exact W) ?_⟩;have e:=V.out;rw[t.out] at e;rw[J.out,e]
  rfl
 ·have ht:(((r.length:Int)%2048)==2047)=false:=by rw[Hr];omega
  have F:=Dl c;clear c
  go_enter func106,ntmps106
  go_wp2
  go_end0
  have hm:=VY r 48 v F.out;refine⟨rfl,⟨by rw[CX,hr];rfl,u,v,by rw[M.out,hm],?_⟩,k⟩;have hk:=F.out;rw[B9,Bo,show (r.length+1) / 2048=r.length / 2048 by omega];refine(hc.kept fun g _ _ hg ho=>?_).more [48] (by omega);rw[k.block g (Dy.1 ho).1 (by simp;omega)];exact ho
def GN:Obj:=.cells (HB [] (.pointer none)).toArray 111 (0,0)
theorem AN.fresh {w:A5}{B b:Nat}(a:w.heap.size=b)(c:b<B):AN (w.alloc GN) B b []:=by
 subst a;exact⟨rfl,c,.pointer none,heap_alloc_new w GN,rfl⟩
theorem aU:∃Z:Array A0,(∀w,(zeroValue 111).run prog w=.ok (.agg Z) w)/\Hid (Z=(HB [] (.pointer none)).toArray):=by
 refine⟨(HB [] (.pointer none)).toArray,?_,Dl rfl⟩;have h:(prog.info? 111).map (fun i=>i.zero)=some (some (.agg (HB [] (.pointer none)).toArray)):=by kernel_rfl
 generalize (HB [] (Value.pointer none)).toArray=Z at h ⊢;cases hq:prog.info? 111 with
 |none=>simp[hq] at h
 |some i=>
  simp[hq] at h;intro w;simp[zeroValue,typeInfo,hq,h]
theorem Qf (w:A5):A9 prog 36 #[] w fun e b=>e=.returned (.pointer (some ⟨w.heap.size,0,none⟩))/\w.alloc GN=b:=by
 obtain⟨Z,c,a⟩:=aU
 go_enter func36,ntmps36
 go_wp2
 go_ret
 refine⟨rfl,?_⟩;unfold GN;rw[<-a.out]
theorem YU (w:A5)(B b:Nat)(r:List UInt8)(c:AN w B b r):
  A9 prog 38 #[.pointer (some ⟨b,0,none⟩)] w fun e d=>e=.returned (.int .i64 (r.length:Int))/\w=d:=by
 obtain⟨hr,f,v,g,hc⟩:=c;have a:=A2 g (N1 r v _)
 go_enter func38,ntmps38
 go_wp2
 go_ret
 exact⟨rfl,rfl⟩
theorem Sf (w:A5)(B b:Nat)(r:List UInt8)(n:AN w B b r)(hn:r.length+8<=1099511627776)(y:B<=w.heap.size):
  A9 prog 73 #[.pointer (some ⟨b,0,none⟩)] w fun e o=>e=.returned (.int .i64 ((gap r.length:Nat):Int))/\AN o B b (r++List.replicate (gap r.length) 48)/\w.grownBy o (some b):=by
 have f:=n;obtain⟨hr,s,v,p,hc⟩:=f;have a:=A2 p (N1 r v _);clear p hc
 go_enter func73,ntmps73
 go_wp2
 obtain⟨k,d⟩:=Ak (gap r.length);have t:k<8:=by rw[<-d];unfold gap;omega
 have q:7-((r.length:Int)+7)%8=((k:Nat):Int):=by rw[<-d];unfold gap;omega
 rw[q];have K:=Dl d;clear d q a
 go_loopw [14] (fun i wr=>∃j:Nat,j<=k/\i=.int .i64 j/\AN wr B b (r++List.replicate j 48)/\w.grownBy wr (some b)) (fun i _=>k-(intOf i).toNat)
 case atStart=>exact⟨0,Dn _,rfl,by simpa using n,World.grownBy.refl _ _⟩
 case round=>
  obtain⟨j,hj,rfl,c,g⟩:=hrel;have u:=g.size;by_cases x:j<k
  ·have h:(r++List.replicate j 48).length<=1099511627776:=by rw[B9,Bp];omega
   go_wp2_with fail
   refine(Uh _ B b _ c h (by omega)).mono ?_;rintro e z ⟨rfl,l,m⟩
   go_wp2
   go_roundw
   case rel=>exact⟨j+1,by omega,by go_num,by rw[List.replicate_succ',<-Bf];exact l,AO g m⟩
   case measure=>simp[intOf];omega
  ·obtain rfl:j=k:=by omega
   go_wp2
   go_ret
   rw[K.out];exact⟨rfl,c,g⟩
theorem wS {w wr:A5}{row:Option Nat}{K:Nat}(h:w.grownBy wr row)(b:w.heap.size<=K)(s:ByteArray)(p:Nat):w.grownBy (wr.iterAt K s p) row:=
 ⟨h.os,h.tape,h.output,by rw[Lib.iterAt_size];exact h.size,fun k a hr=>by rw[I9 _ _ _ _ _ (by omega)];exact h.block k a hr⟩
theorem AN.iterAt {w:A5}{B b:Nat}{r:List UInt8}(h:AN w B b r){K:Nat}{s:ByteArray}{q:Nat}(a:w.heap[K]? =some (.stringIter s q))(p:Nat):AN (w.iterAt K s p) B b r:=
 h.kept (fun cs T ho=>by rw[I9 _ _ _ _ _ (by rintro rfl;rw[a] at ho;cases ho)];exact ho) (fun g cs T _ ho=>by rw[I9 _ _ _ _ _ (by rintro rfl;rw[a] at ho;cases ho)];exact ho)
theorem kU (s:ByteArray)(p:Nat)(h:p<s.size)(hr:AK s.data.toList=true):s[p]=48\/s[p]=49:=by
 have:=Qv s.data.toList p h hr;have e:s.data.toList[p]=s[p]:=rfl;rw[e] at this;rcases this with c|c
 ·exact .inl (Hp.1 c)
 ·exact .inr (Hp.1 c)
theorem yP (s:ByteArray)(p:Nat)(h:p<s.size):s.data.toList.take (p+1)=s.data.toList.take p++[s[p]]:=Bd h
theorem TO (w:A5)(B b:Nat)(r:List UInt8)(s:ByteArray)(J:AN w B b r)(hs:AK s.data.toList=true)(hn:r.length+s.size<=1099511627776)(X:B<=w.heap.size):
  A9 prog 108 #[.pointer (some ⟨b,0,none⟩),.string s] w fun e L=>e=.returned (.int .i64 0)/\AN L B b (r++s.data.toList)/\w.grownBy L (some b):=by
 have P:=Dl hs;obtain⟨H,Q⟩:=Ak w.heap.size
 go_enter func108,ntmps108
 go_wp2_with fail
 refine(cA s _).mono ?_;rintro e l ⟨rfl,m⟩;have t:=J.below m;have u:w.grownBy l (some b):=⟨m.os,m.tape,m.output,m.size,fun k R _=>m.block k R⟩;obtain⟨K,G⟩:=Ak l.heap.size;have I:w.heap.size<=K:=by have:=m.size;omega
 have n:(l.iter s 0).heap[K]? =some (.stringIter s 0):=by rw[<-G];exact World.iter_heap l s 0
 have x:AN (l.iter s 0) B b r:=t.below ((Dm _ l).alloc (Ba _) _);have y:w.grownBy (l.iter s 0) (some b):=AO u (I5 l _ _);have S:=Dl n;have U:=Dl G;clear n G m t u J Q
 go_wp2
 rw[U.out]
 go_loopw [] (fun wr=>∃p:Nat,p<=s.size/\wr.heap[K]? =some (.stringIter s p)/\AN wr B b (r++s.data.toList.take p)/\w.grownBy wr (some b)) (fun wr=>s.size-wr.iterPos K)
 case atStart=>exact⟨0,Dn _,S.out,by simpa using x,y⟩
 case round=>
  clear x y;obtain⟨p,Y,hit,h,E⟩:=hrel;have V:=E.size;have z:b≠K:=by
   rintro rfl;obtain⟨_,_,v,M,_⟩:=h;rw[hit] at M;cases M
  by_cases d:p<s.size
  ·have i:∀ty,(Instr.next (.pointer (some ⟨K,0,none⟩)) true ty).run prog wr=_:=fun ty=>Lib.run_next_any_at wr K s p ty hit d;have f:=Lib.iterAt_heap wr K s p (p+(Utf8.decode s p).2) hit;have o:=h.iterAt hit (p+(Utf8.decode s p).2);have j:=wS E I s (p+(Utf8.decode s p).2);have hc:=kU s p d P.out
   have hd:=XJ s p d (by rcases hc with c|c <;> rw[c];exact .inl rfl;exact .inr rfl);rw[hd] at i f o j;have A:(r++s.data.toList.take p).length<=1099511627776:=by rw[B9,Be];omega
   have N:=j.size;have T:=Dl (yP s p d);have O:=Dl hit;have F:=Dl f;clear hd hit f E h;rcases hc with c|c
   ·rw[c] at i;have C:=Dl c;clear c
    go_wp2_with fail
    refine(Uh _ B b _ o A (by omega)).mono ?_;rintro e W ⟨rfl,q,g⟩;have a:=g.block K (Dy.1 F.out).1 (by simpa using z.symm);have D:=Dl (a.trans F.out);clear a
    go_wp2
    go_roundw
    case rel=>exact⟨p+1,by omega,D.out,by rw[T.out,C.out,<-Bf];exact q,AO j g⟩
    case measure=>simp only[World.iterPos,D.out,O.out];omega
   ·rw[c] at i;have C:=Dl c;clear c
    go_wp2_with fail
    refine(bD _ B b _ o A (by omega)).mono ?_;rintro e W ⟨rfl,q,g⟩;have a:=g.block K (Dy.1 F.out).1 (by simpa using z.symm);have D:=Dl (a.trans F.out);clear a
    go_wp2
    go_roundw
    case rel=>exact⟨p+1,by omega,D.out,by rw[T.out,C.out,<-Bf];exact q,AO j g⟩
    case measure=>simp only[World.iterPos,D.out,O.out];omega
  ·have i:∀ty,(Instr.next (.pointer (some ⟨K,0,none⟩)) true ty).run prog wr=_:=fun ty=>Lib.run_next_end_at wr K s p ty hit d;obtain rfl:p=s.size:=by omega
   clear hit
   go_wp2
   go_ret
   exact⟨rfl,by rwa [Bh (by exact Ba _)] at h,E⟩
end Go.Proofs.YtjjmalchelniiaaGreatDoor