/- StripsWrites, 11. No condition. -/
import Derived.Test.YtjjmalchelniiaaGreatDoorStripsWritesMb
import Derived.Test.YtjjmalchelniiaaGreatDoorStripsWritesMd
import Derived.Test.YtjjmalchelniiaaGreatDoorStripsWritesMe
import Derived.Lib.OthersKept
open Go.Proofs.Tryz
open Go renaming World->A5,Calls->A9,Value->A0
set_option maxHeartbeats 1000000
namespace Go.Proofs.YtjjmalchelniiaaGreatDoor
open Go.RowKit
abbrev Hb:=@List.drop_succ_cons
abbrev Hc:=@beq_eq_false_iff_ne
abbrev Hd:=@List.getElem?_append_left
abbrev He:=@bne_iff_ne
abbrev Hg:=@List.getElem?_append_right
abbrev Hi:=@List.getElem?_eq_some_iff
abbrev Hj:=@World.block_lt_of_cell?
abbrev Hk:=@List.getElem?_cons_succ
abbrev Hl:=@List.set_cons_zero
abbrev Hm:=@List.set_cons_succ
abbrev Hn:=@List.getElem?_eq_none
abbrev Ho:=@List.ext_getElem?
abbrev Hp:=@wp_region_any
abbrev Hq:=@UInt8.toNat_inj
abbrev Hr:=@List.getElem?_take
abbrev Hs:=@List.all_eq_false
abbrev Ht:=@List.set_append_right
abbrev Hu:=@World.grownBy_alloc
abbrev Hv:=@List.length_set
abbrev Hw:=@Array.toList_setIfInBounds
abbrev Hx:=@World.cell?_setCell_other
abbrev Hy:=@Lib.iterAt_other
abbrev Hz:=@run_loadVar_mid
theorem Ai{α}(a:α):∃b,a=b:=⟨a,rfl⟩
theorem Wn (s:ByteArray)(p:Nat)(h:p<s.size)(c:s[p].toNat=48\/s[p].toNat=49):Utf8.decode s p=(s[p].toNat,1):=
 decode_ascii s p h (by omega)
theorem jA (s:ByteArray)(p:Nat)(h:p<s.size)(a:s[p].toNat≠48)(c1:s[p].toNat≠49):(Utf8.decode s p).1≠48/\(Utf8.decode s p).1≠49:=by
 by_cases b:s[p].toNat<128
 ·rw[decode_ascii s p h b];exact⟨a,c1⟩
 ·have:=(decode_high s p h (by omega)).1;omega
theorem nC (s:ByteArray)(p:Nat)(h:p<s.size)(a:s[p].toNat≠48)(c1:s[p].toNat≠49):AL s.data.toList=false:=by
 unfold AL;rw[Hs];refine⟨s[p],Bn (by exact h),?_⟩;have b:¬ s[p]=48:=fun e=>a (by rw[e];rfl);have c:¬ s[p]=49:=fun e=>c1 (by rw[e];rfl);simp[b,c]
theorem gT (s:ByteArray)(p:Nat)(h:p<s.size)(c:s[p].toNat=48\/s[p].toNat=49)(hr:AL (s.data.toList.take p)=true):AL (s.data.toList.take (p+1))=true:=by
 have e:AL (s.data.toList.take (p+1))=(AL (s.data.toList.take p)&&(s[p]==48 || s[p]==49)):=rD _ s.data.toList p h;rw[e,hr];rcases c with c|c
 ·have:s[p]=48:=Hq.1 c;rw[this];rfl
 ·have:s[p]=49:=Hq.1 c;rw[this];rfl
theorem zB (s:ByteArray)(w:A5):
  A9 prog 143 #[.string s] w fun e o=>e=.returned (.bool (AL s.data.toList))/\Below w.heap.size w o:=by
 obtain⟨B,i⟩:=Ai w.heap.size;have f:(w.iter s 0).heap[B]? =some (.stringIter s 0):=by rw[<-i];exact World.iter_heap w s 0
 have g:Below B w (w.iter s 0):=(Dq B w).alloc (by omega) _;have l:=Dp f;rw[i];have q:=Dp i;clear f i
 go_enter func143,ntmps143
 go_wp2
 rw[q.out]
 go_loopw [] (fun wr=>∃p:Nat,p<=s.size/\wr.heap[B]? =some (.stringIter s p)/\Below B w wr/\AL (s.data.toList.take p)=true) (fun wr=>s.size-wr.iterPos B)
 case atStart=>exact⟨0,Ds _,l.out,g,rfl⟩
 case round=>
  clear l g;obtain⟨p,u,hit,m,hr⟩:=hrel;have R:=Dp hr;clear hr;by_cases b:p<s.size
  ·have h:∀ty,(Instr.next (.pointer (some ⟨B,0,none⟩)) true ty).run prog wr=_:=fun ty=>Lib.run_next_any_at wr B s p ty hit b;have a:=Lib.iterAt_heap wr B s p (p+(Utf8.decode s p).2) hit;have d:=Lib.below_iterAt m (k:=B) (Ba _) s (p+(Utf8.decode s p).2);by_cases c:s[p].toNat=48\/s[p].toNat=49
   ·have hd:=Wn s p b c;have M:=Dp (gT s p b c R.out);rw[hd] at h a d;clear hd;have j:=Dp a;have n:=Dp hit;clear hit a;rcases c with c|c
    ·have d1:((s[p].toNat:Int) != 48)=false:=by rw[c];rfl
     clear c
     go_wp2
     go_roundw
     case rel=>exact⟨p+1,by omega,j.out,d,M.out⟩
     case measure=>simp only[World.iterPos,j.out,n.out];omega
    ·have d1:((s[p].toNat:Int) != 48)=true:=by rw[c];rfl
     have d2:((s[p].toNat:Int) != 49)=false:=by rw[c];rfl
     clear c
     go_wp2
     go_roundw
     case rel=>exact⟨p+1,by omega,j.out,d,M.out⟩
     case measure=>simp only[World.iterPos,j.out,n.out];omega
   ·have S:=Dp (nC s p b (by omega) (by omega));obtain⟨r,t⟩:=jA s p b (by omega) (by omega);have d1:(((Utf8.decode s p).1:Int) != 48)=true:=by rw[He];omega
    have d2:(((Utf8.decode s p).1:Int) != 49)=true:=by rw[He];omega
    clear c hit a r t
    go_wp2
    go_ret
    exact⟨AH S.out.symm,d⟩
  ·have h:∀ty,(Instr.next (.pointer (some ⟨B,0,none⟩)) true ty).run prog wr=_:=fun ty=>Lib.run_next_end_at wr B s p ty hit b;obtain rfl:p=s.size:=by omega
   clear hit
   go_wp2
   go_ret
   exact⟨AH (by rw[<-R.out,Bk (by exact Ba _)]),m⟩
def EC (r:List UInt8)(k:Nat):List A0:=(List.range 256).map fun i=>Value.int .u8 ((CB r (256*k+i):Nat):Int)
theorem F3 (r:List UInt8)(k:Nat):(EC r k).length=256:=by simp[EC]
theorem Qe (r:List UInt8)(k i:Nat)(h:i<256):(EC r k)[i]? =some (.int .u8 ((CB r (256*k+i):Nat):Int)):=by
 simp[EC,h]
theorem Rm (r:List UInt8)(k:Nat):∀v∈EC r k,v.oneCell'=true:=by
 intro v hv;obtain⟨_,_,rfl⟩:=List.mem_map.1 hv
 rfl
theorem aY (r s:List UInt8)(k:Nat)(h:∀i,i<256->CB r (256*k+i)=CB s (256*k+i)):EC r k=EC s k:=by
 unfold EC;apply Db;intro i hi;rw[h i (Bt.1 hi)]
theorem jN (r e:List UInt8)(k:Nat)(h:2048*(k+1)<=r.length):EC (r++e) k=EC r k:=
 aY _ _ _ fun i hi=>aF r e _ (by omega)
theorem rJ (r:List UInt8)(k:Nat)(h:r.length<=2048*k):EC r k=List.replicate 256 (.int .u8 0):=by
 unfold EC;rw[List.eq_replicate_iff];refine⟨by simp,fun v hv=>?_⟩;obtain⟨i,_,rfl⟩:=List.mem_map.1 hv;rw[T9 r _ (by omega)]
 rfl
def H4 (w:A5)(B:Nat)(r:List UInt8):Nat->A0->Prop
 |0,v=>v=.pointer none
 |k+1,v=>∃g a,v=.pointer (some ⟨g,0,none⟩)/\B<=g/\w.heap[g]? =some (.cells (a::EC r k).toArray 116 (0,0))/\H4 w B r k a
theorem H4.kept {w a:A5}{B:Nat}{r:List UInt8}(h:∀g cs T,B<=g->w.heap[g]? =some (.cells cs T (0,0))->a.heap[g]? =some (.cells cs T (0,0))):∀{k:Nat} {v:A0},H4 w B r k v->H4 a B r k v
 |0,_,c=>c
 |_+1,_,⟨g,v',e,hg,hh,c⟩=>⟨g,v',e,hg,h g _ _ hg hh,c.kept h⟩
theorem H4.more {w:A5}{B:Nat}{r:List UInt8}(e:List UInt8):∀{k:Nat} {v:A0},2048*k<=r.length->H4 w B r k v->H4 w B (r++e) k v
 |0,_,_,c=>c
 |k+1,_,h,⟨g,v',e1,hg,hh,c⟩=>⟨g,v',e1,hg,by rw[jN r e k h];exact hh,c.more e (by omega)⟩
theorem H4.pointer {w:A5}{B:Nat}{r:List UInt8}{k:Nat}{v:A0}(h:H4 w B r k v):∃p,v=.pointer p:=by
 cases k with
 |zero=>exact⟨none,h⟩
 |succ k=>obtain⟨g,a,e,_⟩:=h;exact⟨_,e⟩
def E2 (r:List UInt8)(v:A0)(k:Nat):List A0:=v::(EC r k++[.int .i64 (r.length:Int)])
def HY (r:List UInt8)(v:A0):List A0:=E2 r v (r.length / 2048)
theorem WV (r:List UInt8)(v:A0)(k:Nat):(E2 r v k).length=258:=by simp[E2,F3]
theorem NL (r:List UInt8)(v:A0)(k:Nat):(E2 r v k)[257]? =some (.int .i64 (r.length:Int)):=by
 unfold E2;rw[Hk,Hg (by rw[F3];omega),F3]
 rfl
theorem Yw0 (r:List UInt8)(v:A0)(k i:Nat)(h:i<256):(E2 r v k)[1+i]? =some (.int .u8 ((CB r (256*k+i):Nat):Int)):=by
 unfold E2;rw[Cg,Hk,Hd (by rw[F3];omega),Qe _ _ _ h]
def AQ (w:A5)(B b:Nat)(r:List UInt8):Prop:=
 AL r=true/\b<B/\∃v,w.heap[b]? =some (.cells (HY r v).toArray 111 (0,0))/\H4 w B r (r.length / 2048) v
theorem AQ.kept {w a:A5}{B b:Nat}{r:List UInt8}(h:AQ w B b r)(c:∀cs T,w.heap[b]? =some (.cells cs T (0,0))->a.heap[b]? =some (.cells cs T (0,0)))
  (hc:∀g cs T,B<=g->w.heap[g]? =some (.cells cs T (0,0))->a.heap[g]? =some (.cells cs T (0,0))):AQ a B b r:=by
 obtain⟨h1,h2,v,h3,h4⟩:=h;exact⟨h1,h2,v,c _ _ h3,h4.kept hc⟩
theorem AQ.lt {w:A5}{B b:Nat}{r:List UInt8}(h:AQ w B b r):b<w.heap.size:=by
 obtain⟨_,_,v,h3,_⟩:=h;exact(Ed.1 h3).1
theorem AQ.below {w a:A5}{B b:Nat}{r:List UInt8}(h:AQ w B b r)(c:Below w.heap.size w a):AQ a B b r:=
 h.kept (fun _ _ ho=>by rw[c.block b (Ed.1 ho).1];exact ho) (fun g _ _ _ ho=>by rw[c.block g (Ed.1 ho).1];exact ho)
theorem nI (r:List UInt8)(v:A0)(k:Nat):(E2 r v k).set 257 (.int .i64 ((r.length:Int)+1))=E2 (r++[48]) v k:=by
 unfold E2;rw[Hm,Ht _ _ (by rw[F3];omega),F3,aY (r++[48]) r _ fun i _=>Yv5 r _,B9]
 rfl
theorem oL (r s:List UInt8)(k i:Nat)(hi:i<256)(x:Nat)(a:CB s (256*k+i)=x)(h:∀j,j<256->j≠i->CB s (256*k+j)=CB r (256*k+j)):
  (EC r k).set i (.int .u8 (x:Int))=EC s k:=by
 apply Ho;intro j;by_cases hj:j<256
 ·rw[Qe s k j hj];by_cases e:i=j
  ·subst e;rw[List.getElem?_set_self (by rw[F3];exact hi),a]
  ·rw[List.getElem?_set_ne e,Qe r k j hj,h j hj (fun b=>e b.symm)]
 ·rw[Hn (by rw[Hv,F3];omega),Hn (by rw[F3];omega)]
theorem Wr (n:Nat):256*(n / 2048)+n%2048 / 8=n / 8:=by omega
theorem kF (r:List UInt8)(v:A0):
  ((E2 r v (r.length / 2048)).set (1+r.length%2048 / 8) (.int .u8 ((CB r (r.length / 8)+2^(7-r.length%8):Nat):Int))).set 257 (.int .i64 ((r.length:Int)+1))=E2 (r++[49]) v (r.length / 2048):=by
 unfold E2;rw[Cg 1,Hm,List.set_append_left _ _ (by rw[F3];omega),Hm,Ht _ _ (by rw[Hv,F3];omega),Hv,F3,
  B9,Bq,
  oL r (r++[49]) _ _ (by omega) _ (by rw[Wr,nO]) (fun j hj a=>Yi r 49 _ (by omega))]
 rfl
theorem aW (r:List UInt8)(d:UInt8)(v:A0)(h:r.length%2048≠2047):E2 (r++[d]) v (r.length / 2048)=HY (r++[d]) v:=by
 unfold HY;rw[B9,Bq,show (r.length+1) / 2048=r.length / 2048 by omega]
theorem yG (r:List UInt8)(d:UInt8)(v:A0)(h:r.length%2048=2047):HY (r++[d]) v=v::(List.replicate 256 (.int .u8 0)++[.int .i64 (((r++[d]).length:Nat):Int)]):=by
 unfold HY E2;rw[rJ _ _ (by rw[B9,Bq];omega)]
theorem Yh (o:Nat):∀(l:List A0) (k:Nat) (a:Array A0),o+k+l.length<=a.size->
  (l.zipIdx k).foldl (fun a x=>a.setIfInBounds (o+x.snd) x.fst) a=(a.toList.take (o+k)++(l++a.toList.drop (o+k+l.length))).toArray
 |[],k,a,_=>by simp
 |v::l,k,a,h=>by
  rw[Bh] at h;rw[List.zipIdx_cons,List.foldl_cons,Yh o l (k+1) _ (by simp;omega)]
  congr 1
  apply Ho;intro i;simp only[Hw,List.getElem?_append,Bf,Hv,Ew,Hr,El,List.getElem?_set,Bh,List.getElem?_cons];by_cases h1:i<o+k
  ·simp[h1,show i<o+(k+1) by omega,show min (o+(k+1)) a.size=o+(k+1) by omega,show min (o+k) a.size=o+k by omega,show ¬ o+k=i by omega]
  ·by_cases h2:i=o+k
   ·subst h2;simp[show min (o+(k+1)) a.size=o+(k+1) by omega,show min (o+k) a.size=o+k by omega,show o+k<o+(k+1) by omega,show o+k<a.size by omega]
   ·have e:i-(o+k)=i-(o+(k+1))+1:=by omega
    simp[h1,show ¬ i<o+(k+1) by omega,show min (o+(k+1)) a.size=o+(k+1) by omega,show min (o+k) a.size=o+k by omega,e];by_cases h3:i-(o+(k+1))<l.length
    ·simp[h3]
    ·simp[h3];rw[Bb (by omega)]
     congr 1
     omega
theorem Zt:∃Z:Array A0,(∀w,(zeroValue 109).run prog w=.ok (.agg Z) w)/\(prog.info? 109).map (·.size)=some Z.size/\Hid (Z=(List.replicate 256 (.int .u8 0)).toArray):=by
 refine⟨(List.replicate 256 (.int .u8 0)).toArray,?_,by kernel_rfl,Dp rfl⟩;have h:(prog.info? 109).map (fun i=>i.zero)=some (some (.agg (List.replicate 256 (.int .u8 0)).toArray)):=by kernel_rfl
 generalize (List.replicate 256 (Value.int .u8 0)).toArray=Z at h ⊢;cases hq:prog.info? 109 with
 |none=>simp[hq] at h
 |some i=>
  simp[hq] at h;intro w;simp[zeroValue,typeInfo,hq,h]
theorem Yd:∃Z:Array A0,(∀w,(zeroValue 116).run prog w=.ok (.agg Z) w)/\Z.size=257:=by
 refine⟨#[.pointer none]++Array.replicate 256 (.int .u8 0),?_,by simp⟩;have h:(prog.info? 116).map (fun i=>(i.zero,i.size))=some (some (.agg (#[.pointer none]++Array.replicate 256 (.int .u8 0))),257):=by kernel_rfl
 cases hq:prog.info? 116 with
 |none=>simp[hq] at h
 |some i=>
  simp[hq] at h;intro w;simp[zeroValue,typeInfo,hq,h.1]
theorem XT (Z:Array A0)(v:A0)(cs:List A0)(a:Z.size=257)(hc:cs.length=256):
  List.foldl (fun cs x=>cs.setIfInBounds (1+x.snd) x.fst) (Z.setIfInBounds 0 v) cs.zipIdx=(v::cs).toArray:=by
 rw[Yh 1 cs 0 _ (by simp;omega)];obtain⟨l⟩:=Z;have hl:l.length=257:=a
 congr 1
 match l,hl with
 |x::l,hl=>
  simp only[Bh] at hl;simp only[Hw,Hl,Cy,Dt,Bi,hc];rw[show 1+256=256+1 from rfl,Hb,Cs (by omega)];simp
theorem XF {w a e:A5}{B b:Nat}{r:List UInt8}{d:UInt8}{p:Option Addr}(hr:AL (r++[d])=true)(f:b<B)(k:B<=w.heap.size)(l:r.length%2048=2047)
  (hc:H4 w B r (r.length / 2048) (.pointer p))(j:w.grownBy a (some b))
  (h:a.heap[b]? =some (.cells (E2 (r++[d]) (.pointer p) (r.length / 2048)).toArray 111 (0,0)))
  (c:((a.alloc (.cells (.pointer p::EC (r++[d]) (r.length / 2048)).toArray 116)).setCell ⟨b,0,none⟩ (.pointer (some ⟨a.heap.size,0,none⟩))).drew.grownBy e (some b))
  (i:e.heap[b]? =some (.cells (((E2 (r++[d]) (.pointer p) (r.length / 2048)).set 0 (.pointer (some ⟨a.heap.size,0,none⟩))).take 1++((List.replicate 256 (Value.int .u8 0)) ++
   ((E2 (r++[d]) (.pointer p) (r.length / 2048)).set 0 (.pointer (some ⟨a.heap.size,0,none⟩))).drop (1+256))).toArray 111 (0,0))):
  AQ e B b (r++[d])/\w.grownBy e (some b):=by
 have m:b<a.heap.size:=(Ed.1 h).1;have n:a.grownBy ((a.alloc (.cells (.pointer p::EC (r++[d]) (r.length / 2048)).toArray 116)).setCell ⟨b,0,none⟩ (.pointer (some ⟨a.heap.size,0,none⟩))).drew (some b):=
  AR (Hu a _ _) (AR (DM _ ⟨b,0,none⟩ _) (KW _ _))
 have G:=AR j (AR n c);refine⟨⟨hr,f,.pointer (some ⟨a.heap.size,0,none⟩),?_,?_⟩,G⟩
 ·rw[i,yG r d _ l];unfold E2;rw[Hl,Dt,Bi,Cg 1,Hb,List.drop_append,F3,Cs (by rw[F3];omega)]
  rfl
 ·rw[show (r++[d]).length / 2048=r.length / 2048+1 by rw[B9,Bq];omega];refine⟨a.heap.size,.pointer p,rfl,Eg k j.size,?_,?_⟩
  ·rw[c.block a.heap.size (by simp) (by simp;omega)];show (((a.alloc _).setCell _ _)).heap[a.heap.size]? =_;rw[heap_setCell_other _ _ _ _ (by show a.heap.size≠b;omega)];exact heap_alloc_new a _
  ·refine(hc.kept fun g _ _ o ho=>?_).more [d] (by omega);rw[G.block g (Ed.1 ho).1 (by simp;omega)];exact ho
set_option maxRecDepth 100000 in
theorem iS (w:A5)(B b:Nat)(r:List UInt8)(hw:AQ w B b r)(hn:r.length<=1099511627776)(hB:B<=w.heap.size):
  A9 prog 106 #[.pointer (some ⟨b,0,none⟩),.int .i32 49] w fun e w'=>e=.returned (.tuple #[])/\AQ w' B b (r++[49])/\w.grownBy w' (some b):=by
 obtain⟨hr,F,v,G,hc⟩:=hw;have y:=AA G (NL r v _);have hf:=fun o=>AZ (o:=o) G
 go_enter func106,ntmps106
 go_wp2
 obtain⟨k,s⟩:=Ai (r.length%2048);have ek:((r.length:Int)%2048)=((k:Nat):Int):=by omega
 rw[ek];have k0:(0:Int)<=(k:Int):=by omega
 have k1:(k:Int)<2048:=by omega
 have i0:(0:Int)<=(k:Int) / 8:=by omega
 have i1:(k:Int) / 8<256:=by omega
 have hx:=AA G (Yw0 r v _ (k / 8) (by omega));rw[<-s,Wr,s] at hx;have H:=Dp s;clear ek s
 go_region
 have e1:bits .or .u8 ((CB r (r.length / 8):Nat):Int) (128 / 2^(k%8))=((CB r (r.length / 8)+2^(7-r.length%8):Nat):Int):=by
  obtain⟨A,hA⟩:=jT r;have s:=H.out;have e:k%8=r.length%8:=by omega
  rw[e,fQ _ _ A (by omega) hA (YD r _ hr)]
 rw[e1];have f:=BF (o:=1+k / 8) (.int .u8 ((CB r (r.length / 8)+2^(7-r.length%8):Nat):Int)) G;have z:=AR (DM w ⟨b,1+k / 8,none⟩ (.int .u8 ((CB r (r.length / 8)+2^(7-r.length%8):Nat):Int))) (KW _ _);have f:(w.setCell ⟨b,1+k / 8,none⟩ (.int .u8 ((CB r (r.length / 8)+2^(7-r.length%8):Nat):Int))).drew.heap[b]? =_:=f;have l:=kF r v;have s:=H.out;rw[s] at l
 generalize (w.setCell ⟨b,1+k / 8,none⟩ (.int .u8 ((CB r (r.length / 8)+2^(7-r.length%8):Nat):Int))).drew=T at f z ⊢;have I:(((HY r v).set (1+k / 8) (.int .u8 ((CB r (r.length / 8)+2^(7-r.length%8):Nat):Int))))[257]? =some (.int .i64 (r.length:Int)):=by
  rw[List.getElem?_set_ne (by omega)];exact NL r v _
 have t:=AA f I;have U:=fun o=>AZ (o:=o) f;have a:=BF (o:=257) (.int .i64 ((r.length:Int)+1)) f;have a:(T.setCell ⟨b,257,none⟩ (.int .i64 ((r.length:Int)+1))).heap[b]? =some (.cells (E2 (r++[49]) v (r.length / 2048)).toArray 111 (0,0)):=by rw[a];unfold HY;rw[l]
 have m:=AR z (DM T ⟨b,257,none⟩ (.int .i64 ((r.length:Int)+1)));have V:=Dp a;clear f a l I e1 hx hf y i0 i1 G s;by_cases n:k=2047
 ·have ht:((k:Int)==2047)=true:=by rw[Bm];omega
  go_wp2
  have a:=V.out;generalize T.setCell ⟨b,257,none⟩ (.int .i64 ((r.length:Int)+1))=c at a m ⊢;clear V t U z;obtain⟨p,rfl⟩:=hc.pointer;obtain⟨K,W⟩:=Ai (r.length / 2048);rw[W] at a hc;obtain⟨cs,q⟩:=Ai (EC (r++[49]) K);have C:cs.length=256:=by rw[<-q];exact F3 _ _
  have aj:∀v∈cs,v.oneCell'=true:=by rw[<-q];exact Rm _ _
  have d:c.cell? ⟨b,0,none⟩=some (.pointer p):=AA a rfl;have D:c.rangeAt b 1 cs:=by
   intro j v hv;have hj:j<cs.length:=(Hi.1 hv).1;refine AA a ?_;unfold E2;rw[q,Cg,Hk,Hd hj,hv]
  have X:c.frozen? ⟨b,0,none⟩=false:=AZ a;have Y:∀o,(c.alloc o).cell? ⟨b,0,none⟩=some (.pointer p):=fun o=>by
   rw[World.cell?_alloc_lt _ _ _ (Hj c _ d)];exact d
  have ai:∀o,(c.alloc o).frozen? ⟨b,0,none⟩=false:=fun o=>by
   rw[World.frozen?_alloc_past _ _ _ (Hj c _ d)];exact AZ a
  have u:∀o,(c.alloc o).rangeAt b 1 cs:=fun o=>World.rangeAt_alloc D o;have J:∀o x,((c.alloc o).setCell ⟨b,0,none⟩ x).rangeAt b 1 cs:=fun o x j v hv=>by
   rw[Hx _ _ _ _ (by intro e;injection e with _ e;omega)];exact u o j v hv
  have hu:=underlying109;have hi:(prog.info? 109).map (·.size)=some cs.length:=by rw[C];kernel_rfl
  obtain⟨Z,ak,L⟩:=Yd;have al:Z≠#[]:=by rintro rfl;simp at L
  have am:=XT Z (.pointer p) cs L C;have an:=Dp m;have M:=Dp a;have aa:=Dp q;have ar:=Dp C;have S:=Dp W;have ao:=Dp hc;clear m a q W hc;have N:(loadVar 108 ⟨b,0,none⟩).run prog c.drew=.ok (.pointer p) c.drew:=by go_simp
  have O:=Hz c.drew b 1 _ cs _ ((World.rangeAt_drew _ _ _ _).2 D) hu rfl hi;have P:=Dp N;have Q:=Dp O;clear N O;refine Hp (by kernel_rfl) ?_;change wpAny _ _ _ _ _ _ _ (World.drew _);refine Ep (i:=0) (v:=?_) rfl (by kernel_rfl) (by kernel_rfl) (by kernel_rfl) (fun _ _ _ h=>h) (Or.inl ⟨by rfl,?_⟩) ?_
  rotate_left
  ·(intro w;go_simp;try with_reducible rfl)
  rotate_right
  refine Ep (i:=1) (v:=?_) rfl (by kernel_rfl) (by kernel_rfl) (by kernel_rfl) (fun _ _ _ h=>h) (Or.inl ⟨by rfl,?_⟩) ?_
  rotate_left
  ·(intro w;go_simp;try with_reducible rfl)
  rotate_right
  refine Ep (i:=2) (v:=?_) rfl (by kernel_rfl) (by kernel_rfl) (by kernel_rfl) (fun _ _ _ h=>h) (Or.inl ⟨by rfl,?_⟩) ?_
  rotate_left
  ·(intro w;go_simp;try with_reducible rfl)
  rotate_right
  refine Ep (i:=3) (v:=?_) rfl (by kernel_rfl) (by kernel_rfl) (by kernel_rfl) (fun _ _ _ h=>h) (Or.inl ⟨by rfl,?_⟩) ?_
  rotate_left
  ·(intro w;go_simp;try with_reducible rfl)
  rotate_right
  refine Ep (i:=5) (v:=?_) rfl (by kernel_rfl) (by kernel_rfl) (by kernel_rfl) (fun _ _ _ h=>h) (Or.inl ⟨by rfl,?_⟩) ?_
  rotate_left
  ·(intro w;go_simp;try with_reducible rfl)
  rotate_right
  refine Ep (i:=6) (v:=?_) rfl (by kernel_rfl) (by kernel_rfl) (by kernel_rfl) (fun _ _ _ h=>h) (Or.inl ⟨by rfl,?_⟩) ?_
  rotate_left
  ·(intro w;go_simp;try with_reducible rfl)
  rotate_right
  refine Ep (i:=7) (v:=?_) rfl (by kernel_rfl) (by kernel_rfl) (by kernel_rfl) (fun _ _ _ h=>h) (Or.inl ⟨by rfl,?_⟩) ?_
  rotate_left
  ·(intro w;go_simp;try with_reducible rfl)
  rotate_right
  refine VG (i:=4) (j:=8) (di:=some 39) (dj:=some 43) (vi:=.pointer p) (vj:=.agg cs.toArray) rfl rfl rfl rfl rfl rfl ?r1 ?r2 ?r3 (by decide) ?h1 ?h2 ?h3 ?h4 ?hc ?h
  case r1=>kernel_rfl
  case r2=>kernel_rfl
  case r3=>kernel_rfl
  case h1=>exact GA (ty:=108) (x:=.tmp 38) (ad:=⟨b,0,none⟩) (by kernel_rfl) (by kernel_rfl) P.out
  case h2=>exact GA (ty:=109) (x:=.tmp 42) (ad:=⟨b,1,none⟩) (by kernel_rfl) (by kernel_rfl) Q.out
  case h3=>exact GA (ty:=109) (x:=.tmp 42) (ad:=⟨b,1,none⟩) (by kernel_rfl) (by kernel_rfl) Q.out
  case h4=>exact GA (ty:=108) (x:=.tmp 38) (ad:=⟨b,0,none⟩) (by kernel_rfl) (by kernel_rfl) P.out
  case hc=>kernel_rfl
  refine QS 9 (by kernel_rfl) (by kernel_rfl) ?_;have R:(((c.alloc (.cells (.pointer p::cs).toArray 116)).setCell ⟨b,0,none⟩ (.pointer (some ⟨c.heap.size,0,none⟩))).drew).heap[b]? =_:=
   BF (.pointer (some ⟨c.heap.size,0,none⟩)) ((Below.heap_alloc c _ b (Hj c _ d)).trans M.out)
  have ap:=Dp R;obtain⟨ab,aq,ac,E⟩:=Zt;have ae:∀v∈ab.toList,v.oneCell'=true:=by
   rw[E.out];intro v hv;rw[Cu hv]
   rfl
  have af:1+ab.size<=((E2 (r++[49]) (.pointer p) K).set 0 (.pointer (some ⟨c.heap.size,0,none⟩))).toArray.size:=by
   rw[E.out];simp[WV]
  clear d D X u J R
  go_wp2_with (refine Vm rfl 109 _ _ rfl b 1 ab rfl rfl _ _ ap.out ac ae af ?_;intro w4 ag ah)
  go_end0
  refine⟨rfl,XF (by rw[CO,hr];rfl) F hB (by rw[H.out];exact n) (by rw[S.out];exact ao.out) an.out (by rw[S.out];exact M.out) (by rw[S.out,aa.out];exact ah) ?_⟩;have e:=ag.out;rw[E.out] at e;rw[S.out,e]
  rfl
 ·have ht:((k:Int)==2047)=false:=by rw[Hc];omega
  go_wp2
  go_end0
  have hm:=aW r 49 v (by rw[H.out];exact n);refine⟨rfl,⟨by rw[CO,hr];rfl,F,v,by rw[V.out,hm],?_⟩,m⟩;have s:=H.out;rw[B9,Bq,show (r.length+1) / 2048=r.length / 2048 by omega];refine(hc.kept fun g _ _ hg ho=>?_).more [49] (by omega);rw[m.block g (Ed.1 ho).1 (by simp;omega)];exact ho
set_option maxRecDepth 100000 in
theorem ZD (w:A5)(B b:Nat)(r:List UInt8)(hw:AQ w B b r)(hn:r.length<=1099511627776)(hB:B<=w.heap.size):
  A9 prog 106 #[.pointer (some ⟨b,0,none⟩),.int .i32 48] w fun e X=>e=.returned (.tuple #[])/\AQ X B b (r++[48])/\w.grownBy X (some b):=by
 obtain⟨hr,u,v,I,hc⟩:=hw;have m:=AA I (NL r v _);have L:=fun o=>AZ (o:=o) I;have a:=BF (o:=257) (.int .i64 ((r.length:Int)+1)) I;have a:(w.setCell ⟨b,257,none⟩ (.int .i64 ((r.length:Int)+1))).heap[b]? =some (.cells (E2 (r++[48]) v (r.length / 2048)).toArray 111 (0,0)):=by rw[a];unfold HY;rw[nI]
 have k:=DM w ⟨b,257,none⟩ (.int .i64 ((r.length:Int)+1));have M:=Dp a;clear a I;by_cases c:r.length%2048=2047
 ·have ht:(((r.length:Int)%2048)==2047)=true:=by rw[Bm];omega
  have F:=Dp c;clear c
  go_enter func106,ntmps106
  go_wp2
  have c:=F.out;have a:=M.out;generalize w.setCell ⟨b,257,none⟩ (.int .i64 ((r.length:Int)+1))=d at a k ⊢;clear M m L;obtain⟨p,rfl⟩:=hc.pointer;obtain⟨K,N⟩:=Ai (r.length / 2048);rw[N] at a hc;obtain⟨cs,l⟩:=Ai (EC (r++[48]) K);have q:cs.length=256:=by rw[<-l];exact F3 _ _
  have aa:∀v∈cs,v.oneCell'=true:=by rw[<-l];exact Rm _ _
  have f:d.cell? ⟨b,0,none⟩=some (.pointer p):=AA a rfl;have s:d.rangeAt b 1 cs:=by
   intro j v hv;have hj:j<cs.length:=(Hi.1 hv).1;refine AA a ?_;unfold E2;rw[l,Cg,Hk,Hd hj,hv]
  have O:d.frozen? ⟨b,0,none⟩=false:=AZ a;have P:∀o,(d.alloc o).cell? ⟨b,0,none⟩=some (.pointer p):=fun o=>by
   rw[World.cell?_alloc_lt _ _ _ (Hj d _ f)];exact f
  have Y:∀o,(d.alloc o).frozen? ⟨b,0,none⟩=false:=fun o=>by
   rw[World.frozen?_alloc_past _ _ _ (Hj d _ f)];exact AZ a
  have n:∀o,(d.alloc o).rangeAt b 1 cs:=fun o=>World.rangeAt_alloc s o;have y:∀o x,((d.alloc o).setCell ⟨b,0,none⟩ x).rangeAt b 1 cs:=fun o x j v hv=>by
   rw[Hx _ _ _ _ (by intro e;injection e with _ e;omega)];exact n o j v hv
  have hu:=underlying109;have hi:(prog.info? 109).map (·.size)=some cs.length:=by rw[q];kernel_rfl
  obtain⟨Z,ab,z⟩:=Yd;have ac:Z≠#[]:=by rintro rfl;simp at z
  have ae:=XT Z (.pointer p) cs z q;have af:=Dp k;have A:=Dp a;have Q:=Dp l;have aj:=Dp q;have J:=Dp N;have ag:=Dp hc;clear k a l N hc;have C:(loadVar 108 ⟨b,0,none⟩).run prog d.drew=.ok (.pointer p) d.drew:=by go_simp
  have D:=Hz d.drew b 1 _ cs _ ((World.rangeAt_drew _ _ _ _).2 s) hu rfl hi;have E:=Dp C;have G:=Dp D;clear C D;refine Hp (by kernel_rfl) ?_;change wpAny _ _ _ _ _ _ _ (World.drew _);refine Ep (i:=0) (v:=?_) rfl (by kernel_rfl) (by kernel_rfl) (by kernel_rfl) (fun _ _ _ h=>h) (Or.inl ⟨by rfl,?_⟩) ?_
  rotate_left
  ·(intro w;go_simp;try with_reducible rfl)
  rotate_right
  refine Ep (i:=1) (v:=?_) rfl (by kernel_rfl) (by kernel_rfl) (by kernel_rfl) (fun _ _ _ h=>h) (Or.inl ⟨by rfl,?_⟩) ?_
  rotate_left
  ·(intro w;go_simp;try with_reducible rfl)
  rotate_right
  refine Ep (i:=2) (v:=?_) rfl (by kernel_rfl) (by kernel_rfl) (by kernel_rfl) (fun _ _ _ h=>h) (Or.inl ⟨by rfl,?_⟩) ?_
  rotate_left
  ·(intro w;go_simp;try with_reducible rfl)
  rotate_right
  refine Ep (i:=3) (v:=?_) rfl (by kernel_rfl) (by kernel_rfl) (by kernel_rfl) (fun _ _ _ h=>h) (Or.inl ⟨by rfl,?_⟩) ?_
  rotate_left
  ·(intro w;go_simp;try with_reducible rfl)
  rotate_right
  refine Ep (i:=5) (v:=?_) rfl (by kernel_rfl) (by kernel_rfl) (by kernel_rfl) (fun _ _ _ h=>h) (Or.inl ⟨by rfl,?_⟩) ?_
  rotate_left
  ·(intro w;go_simp;try with_reducible rfl)
  rotate_right
  refine Ep (i:=6) (v:=?_) rfl (by kernel_rfl) (by kernel_rfl) (by kernel_rfl) (fun _ _ _ h=>h) (Or.inl ⟨by rfl,?_⟩) ?_
  rotate_left
  ·(intro w;go_simp;try with_reducible rfl)
  rotate_right
  refine Ep (i:=7) (v:=?_) rfl (by kernel_rfl) (by kernel_rfl) (by kernel_rfl) (fun _ _ _ h=>h) (Or.inl ⟨by rfl,?_⟩) ?_
  rotate_left
  ·(intro w;go_simp;try with_reducible rfl)
  rotate_right
  refine VG (i:=4) (j:=8) (di:=some 39) (dj:=some 43) (vi:=.pointer p) (vj:=.agg cs.toArray) rfl rfl rfl rfl rfl rfl ?r1 ?r2 ?r3 (by decide) ?h1 ?h2 ?h3 ?h4 ?hc ?h
  case r1=>kernel_rfl
  case r2=>kernel_rfl
  case r3=>kernel_rfl
  case h1=>exact GA (ty:=108) (x:=.tmp 38) (ad:=⟨b,0,none⟩) (by kernel_rfl) (by kernel_rfl) E.out
  case h2=>exact GA (ty:=109) (x:=.tmp 42) (ad:=⟨b,1,none⟩) (by kernel_rfl) (by kernel_rfl) G.out
  case h3=>exact GA (ty:=109) (x:=.tmp 42) (ad:=⟨b,1,none⟩) (by kernel_rfl) (by kernel_rfl) G.out
  case h4=>exact GA (ty:=108) (x:=.tmp 38) (ad:=⟨b,0,none⟩) (by kernel_rfl) (by kernel_rfl) E.out
  case hc=>kernel_rfl
  refine QS 9 (by kernel_rfl) (by kernel_rfl) ?_;have H:(((d.alloc (.cells (.pointer p::cs).toArray 116)).setCell ⟨b,0,none⟩ (.pointer (some ⟨d.heap.size,0,none⟩))).drew).heap[b]? =_:=
   BF (.pointer (some ⟨d.heap.size,0,none⟩)) ((Below.heap_alloc d _ b (Hj d _ f)).trans A.out)
  have ah:=Dp H;obtain⟨R,ai,S,t⟩:=Zt;have T:∀v∈R.toList,v.oneCell'=true:=by
   rw[t.out];intro v hv;rw[Cu hv]
   rfl
  have U:1+R.size<=((E2 (r++[48]) (.pointer p) K).set 0 (.pointer (some ⟨d.heap.size,0,none⟩))).toArray.size:=by
   rw[t.out];simp[WV]
  clear f s O n y H
  go_wp2_with (refine Vm rfl 109 _ _ rfl b 1 R rfl rfl _ _ ah.out S T U ?_;intro w4 V W)
  go_end0
  refine⟨rfl,XF (by rw[CO,hr];rfl) u hB (by exact c) (by rw[J.out];exact ag.out) af.out (by rw[J.out];exact A.out) (by rw[J.out,Q.out];exact W) ?_⟩;have e:=V.out;rw[t.out] at e;rw[J.out,e]
  rfl
 ·have ht:(((r.length:Int)%2048)==2047)=false:=by rw[Hc];omega
  have F:=Dp c;clear c
  go_enter func106,ntmps106
  go_wp2
  go_end0
  have hm:=aW r 48 v F.out;refine⟨rfl,⟨by rw[CO,hr];rfl,u,v,by rw[M.out,hm],?_⟩,k⟩;have hk:=F.out;rw[B9,Bq,show (r.length+1) / 2048=r.length / 2048 by omega];refine(hc.kept fun g _ _ hg ho=>?_).more [48] (by omega);rw[k.block g (Ed.1 ho).1 (by simp;omega)];exact ho
def GS:Obj:=.cells (HY [] (.pointer none)).toArray 111 (0,0)
theorem AQ.fresh {w:A5}{B b:Nat}(a:w.heap.size=b)(c:b<B):AQ (w.alloc GS) B b []:=by
 subst a;exact⟨rfl,c,.pointer none,heap_alloc_new w GS,rfl⟩
theorem pS:∃Z:Array A0,(∀w,(zeroValue 111).run prog w=.ok (.agg Z) w)/\Hid (Z=(HY [] (.pointer none)).toArray):=by
 refine⟨(HY [] (.pointer none)).toArray,?_,Dp rfl⟩;have h:(prog.info? 111).map (fun i=>i.zero)=some (some (.agg (HY [] (.pointer none)).toArray)):=by kernel_rfl
 generalize (HY [] (Value.pointer none)).toArray=Z at h ⊢;cases hq:prog.info? 111 with
 |none=>simp[hq] at h
 |some i=>
  simp[hq] at h;intro w;simp[zeroValue,typeInfo,hq,h]
theorem Ru (w:A5):A9 prog 36 #[] w fun e b=>e=.returned (.pointer (some ⟨w.heap.size,0,none⟩))/\w.alloc GS=b:=by
 obtain⟨Z,c,a⟩:=pS
 go_enter func36,ntmps36
 go_wp2
 go_ret
 refine⟨rfl,?_⟩;unfold GS;rw[<-a.out]
theorem WM (w:A5)(B b:Nat)(r:List UInt8)(c:AQ w B b r):
  A9 prog 38 #[.pointer (some ⟨b,0,none⟩)] w fun e d=>e=.returned (.int .i64 (r.length:Int))/\w=d:=by
 obtain⟨hr,f,v,g,hc⟩:=c;have a:=AA g (NL r v _)
 go_enter func38,ntmps38
 go_wp2
 go_ret
 exact⟨rfl,rfl⟩
theorem TV (w:A5)(B b:Nat)(r:List UInt8)(n:AQ w B b r)(hn:r.length+8<=1099511627776)(y:B<=w.heap.size):
  A9 prog 73 #[.pointer (some ⟨b,0,none⟩)] w fun e o=>e=.returned (.int .i64 ((gap r.length:Nat):Int))/\AQ o B b (r++List.replicate (gap r.length) 48)/\w.grownBy o (some b):=by
 have f:=n;obtain⟨hr,s,v,p,hc⟩:=f;have a:=AA p (NL r v _);clear p hc
 go_enter func73,ntmps73
 go_wp2
 obtain⟨k,d⟩:=Ai (gap r.length);have t:k<8:=by rw[<-d];unfold gap;omega
 have q:7-((r.length:Int)+7)%8=((k:Nat):Int):=by rw[<-d];unfold gap;omega
 rw[q];have K:=Dp d;clear d q a
 go_loopw [14] (fun i wr=>∃j:Nat,j<=k/\i=.int .i64 j/\AQ wr B b (r++List.replicate j 48)/\w.grownBy wr (some b)) (fun i _=>k-(intOf i).toNat)
 case atStart=>exact⟨0,Ds _,rfl,by simpa using n,World.grownBy.refl _ _⟩
 case round=>
  obtain⟨j,hj,rfl,c,g⟩:=hrel;have u:=g.size;by_cases x:j<k
  ·have h:(r++List.replicate j 48).length<=1099511627776:=by rw[B9,Bl];omega
   go_wp2_with fail
   refine(ZD _ B b _ c h (by omega)).mono ?_;rintro e z ⟨rfl,l,m⟩
   go_wp2
   go_roundw
   case rel=>exact⟨j+1,by omega,by go_num,by rw[Cd,<-Bd];exact l,AR g m⟩
   case measure=>simp[intOf];omega
  ·obtain rfl:j=k:=by omega
   go_wp2
   go_ret
   rw[K.out];exact⟨rfl,c,g⟩
theorem dK {w wr:A5}{row:Option Nat}{K:Nat}(h:w.grownBy wr row)(b:w.heap.size<=K)(s:ByteArray)(p:Nat):w.grownBy (wr.iterAt K s p) row:=
 ⟨h.os,h.tape,h.output,by rw[Lib.iterAt_size];exact h.size,fun k a hr=>by rw[Hy _ _ _ _ _ (by omega)];exact h.block k a hr⟩
theorem AQ.iterAt {w:A5}{B b:Nat}{r:List UInt8}(h:AQ w B b r){K:Nat}{s:ByteArray}{q:Nat}(a:w.heap[K]? =some (.stringIter s q))(p:Nat):AQ (w.iterAt K s p) B b r:=
 h.kept (fun cs T ho=>by rw[Hy _ _ _ _ _ (by rintro rfl;rw[a] at ho;cases ho)];exact ho) (fun g cs T _ ho=>by rw[Hy _ _ _ _ _ (by rintro rfl;rw[a] at ho;cases ho)];exact ho)
theorem pE (s:ByteArray)(p:Nat)(h:p<s.size)(hr:AL s.data.toList=true):s[p]=48\/s[p]=49:=by
 have:=PM s.data.toList p h hr;have e:s.data.toList[p]=s[p]:=rfl;rw[e] at this;rcases this with c|c
 ·exact .inl (Hq.1 c)
 ·exact .inr (Hq.1 c)
theorem Qgq (s:ByteArray)(p:Nat)(h:p<s.size):s.data.toList.take (p+1)=s.data.toList.take p++[s[p]]:=Be h
theorem Si (w:A5)(B b:Nat)(r:List UInt8)(s:ByteArray)(J:AQ w B b r)(hs:AL s.data.toList=true)(hn:r.length+s.size<=1099511627776)(X:B<=w.heap.size):
  A9 prog 108 #[.pointer (some ⟨b,0,none⟩),.string s] w fun e L=>e=.returned (.int .i64 0)/\AQ L B b (r++s.data.toList)/\w.grownBy L (some b):=by
 have P:=Dp hs;obtain⟨H,Q⟩:=Ai w.heap.size
 go_enter func108,ntmps108
 go_wp2_with fail
 refine(zB s _).mono ?_;rintro e l ⟨rfl,m⟩;have t:=J.below m;have u:w.grownBy l (some b):=⟨m.os,m.tape,m.output,m.size,fun k R _=>m.block k R⟩;obtain⟨K,G⟩:=Ai l.heap.size;have I:w.heap.size<=K:=by have:=m.size;omega
 have n:(l.iter s 0).heap[K]? =some (.stringIter s 0):=by rw[<-G];exact World.iter_heap l s 0
 have x:AQ (l.iter s 0) B b r:=t.below ((Dq _ l).alloc (Ba _) _);have y:w.grownBy (l.iter s 0) (some b):=AR u (Hu l _ _);have S:=Dp n;have U:=Dp G;clear n G m t u J Q
 go_wp2
 rw[U.out]
 go_loopw [] (fun wr=>∃p:Nat,p<=s.size/\wr.heap[K]? =some (.stringIter s p)/\AQ wr B b (r++s.data.toList.take p)/\w.grownBy wr (some b)) (fun wr=>s.size-wr.iterPos K)
 case atStart=>exact⟨0,Ds _,S.out,by simpa using x,y⟩
 case round=>
  clear x y;obtain⟨p,Y,hit,h,E⟩:=hrel;have V:=E.size;have z:b≠K:=by
   rintro rfl;obtain⟨_,_,v,M,_⟩:=h;rw[hit] at M;cases M
  by_cases d:p<s.size
  ·have i:∀ty,(Instr.next (.pointer (some ⟨K,0,none⟩)) true ty).run prog wr=_:=fun ty=>Lib.run_next_any_at wr K s p ty hit d;have f:=Lib.iterAt_heap wr K s p (p+(Utf8.decode s p).2) hit;have o:=h.iterAt hit (p+(Utf8.decode s p).2);have j:=dK E I s (p+(Utf8.decode s p).2);have hc:=pE s p d P.out
   have hd:=Wn s p d (by rcases hc with c|c <;> rw[c];exact .inl rfl;exact .inr rfl);rw[hd] at i f o j;have A:(r++s.data.toList.take p).length<=1099511627776:=by rw[B9,Bf];omega
   have N:=j.size;have T:=Dp (Qgq s p d);have O:=Dp hit;have F:=Dp f;clear hd hit f E h;rcases hc with c|c
   ·rw[c] at i;have C:=Dp c;clear c
    go_wp2_with fail
    refine(ZD _ B b _ o A (by omega)).mono ?_;rintro e W ⟨rfl,q,g⟩;have a:=g.block K (Ed.1 F.out).1 (by simpa using z.symm);have D:=Dp (a.trans F.out);clear a
    go_wp2
    go_roundw
    case rel=>exact⟨p+1,by omega,D.out,by rw[T.out,C.out,<-Bd];exact q,AR j g⟩
    case measure=>simp only[World.iterPos,D.out,O.out];omega
   ·rw[c] at i;have C:=Dp c;clear c
    go_wp2_with fail
    refine(iS _ B b _ o A (by omega)).mono ?_;rintro e W ⟨rfl,q,g⟩;have a:=g.block K (Ed.1 F.out).1 (by simpa using z.symm);have D:=Dp (a.trans F.out);clear a
    go_wp2
    go_roundw
    case rel=>exact⟨p+1,by omega,D.out,by rw[T.out,C.out,<-Bd];exact q,AR j g⟩
    case measure=>simp only[World.iterPos,D.out,O.out];omega
  ·have i:∀ty,(Instr.next (.pointer (some ⟨K,0,none⟩)) true ty).run prog wr=_:=fun ty=>Lib.run_next_end_at wr K s p ty hit d;obtain rfl:p=s.size:=by omega
   clear hit
   go_wp2
   go_ret
   exact⟨rfl,by rwa [Bk (by exact Ba _)] at h,E⟩
end Go.Proofs.YtjjmalchelniiaaGreatDoor