/- No condition. -/
import Derived.Test.YtnamlooifcpoaaaGreatDoorScreensStillMb
import Derived.Test.YtnamlooifcpoaaaGreatDoorScreensStillMc
import Derived.Test.YtnamlooifcpoaaaGreatDoorScreensStillMbc
import Derived.BigRegion
namespace Go.Proofs.YtnamlooifcpoaaaGreatDoor
open Go.RowKit
def Yat (r:List UInt8)(k:Nat):List Value:=(List.range 256).map fun i=>Value.int .u8 ((Ya4 r (256*k+i):Nat):Int)
theorem Yai (r:List UInt8)(k:Nat):(Yat r k).length=256:=by simp[Yat]
theorem Ydo (r:List UInt8)(k i:Nat)(h:i<256):(Yat r k)[i]? =some (.int .u8 ((Ya4 r (256*k+i):Nat):Int)):=by
 simp[Yat,h]
theorem Ye0 (r:List UInt8)(k:Nat):∀v∈Yat r k,v.oneCell'=true:=by
 intro v hv;obtain⟨_,_,rfl⟩:=List.mem_map.1 hv
 rfl
theorem Yej (r s:List UInt8)(k:Nat)(h:∀i,i<256→Ya4 r (256*k+i)=Ya4 s (256*k+i)):Yat r k=Yat s k:=by
 unfold Yat;apply List.map_congr_left;intro i hi;rw[h i (List.mem_range.1 hi)]
theorem Yhp (r e:List UInt8)(k:Nat)(h:2048*(k+1)≤r.length):Yat (r++e) k=Yat r k:=
 Yej _ _ _ fun i hi=>Yhc r e _ (by omega)
theorem Yhq (r:List UInt8)(k:Nat)(h:r.length≤2048*k):Yat r k=List.replicate 256 (.int .u8 0):=by
 unfold Yat;rw[List.eq_replicate_iff];refine⟨by simp,fun v hv=>?_⟩;obtain⟨i,_,rfl⟩:=List.mem_map.1 hv;rw[Ye3 r _ (by omega)]
 rfl
def Yg4 (w:World)(B:Nat)(r:List UInt8):Nat→Value→Prop
 |0,v=>v=.pointer none
 |k+1,v=>∃g v',v=.pointer (some ⟨g,0,none⟩)∧B≤g∧w.heap[g]? =some (.cells (v'::Yat r k).toArray 191 (0,0))∧Yg4 w B r k v'
theorem Yg4.kept {w w':World}{B:Nat}{r:List UInt8}(h:∀g cs T,B≤g→w.heap[g]? =some (.cells cs T (0,0))→w'.heap[g]? =some (.cells cs T (0,0))):∀{k:Nat} {v:Value},Yg4 w B r k v→Yg4 w' B r k v
 |0,_,c=>c
 |_+1,_,⟨g,v',e,hg,hh,c⟩=>⟨g,v',e,hg,h g _ _ hg hh,c.kept h⟩
theorem Yg4.more {w:World}{B:Nat}{r:List UInt8}(e:List UInt8):∀{k:Nat} {v:Value},2048*k≤r.length→Yg4 w B r k v→Yg4 w B (r++e) k v
 |0,_,_,c=>c
 |k+1,_,h,⟨g,v',e1,hg,hh,c⟩=>⟨g,v',e1,hg,by rw[Yhp r e k h];exact hh,c.more e (by omega)⟩
theorem Yg4.pointer {w:World}{B:Nat}{r:List UInt8}{k:Nat}{v:Value}(h:Yg4 w B r k v):∃p,v=.pointer p:=by
 cases k with
 |zero=>exact⟨none,h⟩
 |succ k=>obtain⟨g,v',e,_⟩:=h;exact⟨_,e⟩
def Yax (r:List UInt8)(v:Value)(k:Nat):List Value:=v::(Yat r k++[.int .i64 (r.length:Int)])
def Ycp (r:List UInt8)(v:Value):List Value:=Yax r v (r.length / 2048)
theorem Yeh (r:List UInt8)(v:Value)(k:Nat):(Yax r v k).length=258:=by simp[Yax,Yai]
theorem Yc4 (r:List UInt8)(v:Value)(k:Nat):(Yax r v k)[257]? =some (.int .i64 (r.length:Int)):=by
 unfold Yax;rw[List.getElem?_cons_succ,List.getElem?_append_right (by rw[Yai];omega),Yai]
 rfl
theorem Ykh (r:List UInt8)(v:Value)(k i:Nat)(h:i<256):(Yax r v k)[1+i]? =some (.int .u8 ((Ya4 r (256*k+i):Nat):Int)):=by
 unfold Yax;rw[Nat.add_comm,List.getElem?_cons_succ,List.getElem?_append_left (by rw[Yai];omega),Ydo _ _ _ h]
def Ydd (w:World)(B b:Nat)(r:List UInt8):Prop:=
 Ybs r=true∧b<B∧∃v,w.heap[b]? =some (.cells (Ycp r v).toArray 153 (0,0))∧Yg4 w B r (r.length / 2048) v
theorem Ydd.kept {w w':World}{B b:Nat}{r:List UInt8}(h:Ydd w B b r)(hb:∀cs T,w.heap[b]? =some (.cells cs T (0,0))→w'.heap[b]? =some (.cells cs T (0,0)))
  (hc:∀g cs T,B≤g→w.heap[g]? =some (.cells cs T (0,0))→w'.heap[g]? =some (.cells cs T (0,0))):Ydd w' B b r:=by
 obtain⟨h1,h2,v,h3,h4⟩:=h;exact⟨h1,h2,v,hb _ _ h3,h4.kept hc⟩
theorem Ydd.lt {w:World}{B b:Nat}{r:List UInt8}(h:Ydd w B b r):b<w.heap.size:=by
 obtain⟨_,_,v,h3,_⟩:=h;exact(Array.getElem?_eq_some_iff.1 h3).1
theorem Ydd.below {w w':World}{B b:Nat}{r:List UInt8}(h:Ydd w B b r)(hb:Below w.heap.size w w'):Ydd w' B b r:=
 h.kept (fun _ _ ho=>by rw[hb.block b (Array.getElem?_eq_some_iff.1 ho).1];exact ho) (fun g _ _ _ ho=>by rw[hb.block g (Array.getElem?_eq_some_iff.1 ho).1];exact ho)
theorem Yqx (r:List UInt8)(v:Value)(k:Nat):(Yax r v k).set 257 (.int .i64 ((r.length:Int)+1))=Yax (r++[48]) v k:=by
 unfold Yax;rw[List.set_cons_succ,List.set_append_right _ _ (by rw[Yai];omega),Yai,Yej (r++[48]) r _ fun i _=>Yj8 r _,List.length_append]
 rfl
theorem Yxb (r s:List UInt8)(k i:Nat)(hi:i<256)(x:Nat)(hx:Ya4 s (256*k+i)=x)(h:∀j,j<256→j≠i→Ya4 s (256*k+j)=Ya4 r (256*k+j)):
  (Yat r k).set i (.int .u8 (x:Int))=Yat s k:=by
 apply List.ext_getElem?;intro j;by_cases hj:j<256
 ·rw[Ydo s k j hj];by_cases e:i=j
  ·subst e;rw[List.getElem?_set_self (by rw[Yai];exact hi),hx]
  ·rw[List.getElem?_set_ne e,Ydo r k j hj,h j hj (fun e'=>e e'.symm)]
 ·rw[List.getElem?_eq_none (by rw[List.length_set,Yai];omega),List.getElem?_eq_none (by rw[Yai];omega)]
theorem Yhr (n:Nat):256*(n / 2048)+n%2048 / 8=n / 8:=by omega
theorem Yzi (r:List UInt8)(v:Value):
  ((Yax r v (r.length / 2048)).set (1+r.length%2048 / 8) (.int .u8 ((Ya4 r (r.length / 8)+2^(7-r.length%8):Nat):Int))).set 257 (.int .i64 ((r.length:Int)+1))=Yax (r++[49]) v (r.length / 2048):=by
 unfold Yax;rw[Nat.add_comm 1,List.set_cons_succ,List.set_append_left _ _ (by rw[Yai];omega),List.set_cons_succ,List.set_append_right _ _ (by rw[List.length_set,Yai];omega),List.length_set,Yai,
  List.length_append,List.length_singleton,
  Yxb r (r++[49]) _ _ (by omega) _ (by rw[Yhr,Ypp]) (fun j hj hne=>Yd6 r 49 _ (by omega))]
 rfl
theorem Yo1 (r:List UInt8)(d:UInt8)(v:Value)(h:r.length%2048≠2047):Yax (r++[d]) v (r.length / 2048)=Ycp (r++[d]) v:=by
 unfold Ycp;rw[List.length_append,List.length_singleton,show (r.length+1) / 2048=r.length / 2048 by omega]
theorem Ywf (r:List UInt8)(d:UInt8)(v:Value)(h:r.length%2048=2047):Ycp (r++[d]) v=v::(List.replicate 256 (.int .u8 0)++[.int .i64 (((r++[d]).length:Nat):Int)]):=by
 unfold Ycp Yax;rw[Yhq _ _ (by rw[List.length_append,List.length_singleton];omega)]
theorem Yls (o:Nat):∀(l:List Value) (k:Nat) (a:Array Value),o+k+l.length≤a.size→
  (l.zipIdx k).foldl (fun a x=>a.setIfInBounds (o+x.snd) x.fst) a=(a.toList.take (o+k)++(l++a.toList.drop (o+k+l.length))).toArray
 |[],k,a,_=>by simp
 |v::l,k,a,h=>by
  rw[List.length_cons] at h;rw[List.zipIdx_cons,List.foldl_cons,Yls o l (k+1) _ (by simp;omega)]
  congr 1
  apply List.ext_getElem?;intro i;simp only[Array.toList_setIfInBounds,List.getElem?_append,List.length_take,List.length_set,Array.length_toList,List.getElem?_take,List.getElem?_drop,List.getElem?_set,List.length_cons,List.getElem?_cons];by_cases h1:i<o+k
  ·simp[h1,show i<o+(k+1) by omega,show min (o+(k+1)) a.size=o+(k+1) by omega,show min (o+k) a.size=o+k by omega,show ¬ o+k=i by omega]
  ·by_cases h2:i=o+k
   ·subst h2;simp[show min (o+(k+1)) a.size=o+(k+1) by omega,show min (o+k) a.size=o+k by omega,show o+k<o+(k+1) by omega,show o+k<a.size by omega]
   ·have e:i-(o+k)=i-(o+(k+1))+1:=by omega
    simp[h1,show ¬ i<o+(k+1) by omega,show min (o+(k+1)) a.size=o+(k+1) by omega,show min (o+k) a.size=o+k by omega,e];by_cases h3:i-(o+(k+1))<l.length
    ·simp[h3]
    ·simp[h3];rw[if_neg (by omega)]
     congr 1
     omega
theorem Yo6:∃Z:Array Value,(∀w,(zeroValue 151).run Tryz.prog w=.ok (.agg Z) w)∧(Tryz.prog.info? 151).map (·.size)=some Z.size∧Hid (Z=(List.replicate 256 (.int .u8 0)).toArray):=by
 refine⟨(List.replicate 256 (.int .u8 0)).toArray,?_,by kernel_rfl,Lib.hid rfl⟩;have h:(Tryz.prog.info? 151).map (fun i=>i.zero)=some (some (.agg (List.replicate 256 (.int .u8 0)).toArray)):=by kernel_rfl
 generalize (List.replicate 256 (Value.int .u8 0)).toArray=Z at h ⊢;cases hq:Tryz.prog.info? 151 with
 |none=>simp[hq] at h
 |some i=>
  simp[hq] at h;intro w;simp[zeroValue,typeInfo,hq,h]
theorem Yi9:∃Z:Array Value,(∀w,(zeroValue 191).run Tryz.prog w=.ok (.agg Z) w)∧Z.size=257:=by
 refine⟨#[.pointer none]++Array.replicate 256 (.int .u8 0),?_,by simp⟩;have h:(Tryz.prog.info? 191).map (fun i=>(i.zero,i.size))=some (some (.agg (#[.pointer none]++Array.replicate 256 (.int .u8 0))),257):=by kernel_rfl
 cases hq:Tryz.prog.info? 191 with
 |none=>simp[hq] at h
 |some i=>
  simp[hq] at h;intro w;simp[zeroValue,typeInfo,hq,h.1]
theorem Yi8 (Z:Array Value)(v:Value)(cs:List Value)(hZ:Z.size=257)(hc:cs.length=256):
  List.foldl (fun cs x=>cs.setIfInBounds (1+x.snd) x.fst) (Z.setIfInBounds 0 v) cs.zipIdx=(v::cs).toArray:=by
 rw[Yls 1 cs 0 _ (by simp;omega)];obtain⟨l⟩:=Z;have hl:l.length=257:=hZ
 congr 1
 match l,hl with
 |x::l,hl=>
  simp only[List.length_cons] at hl;simp only[Array.toList_setIfInBounds,List.set_cons_zero,Nat.add_zero,List.take_succ_cons,List.take_zero,hc];rw[show 1+256=256+1 from rfl,List.drop_succ_cons,List.drop_eq_nil_of_le (by omega)];simp
theorem Yow {w w2 w4:World}{B b:Nat}{r:List UInt8}{d:UInt8}{p:Option Addr}(hr:Ybs (r++[d])=true)(hbB:b<B)(hB:B≤w.heap.size)(hf:r.length%2048=2047)
  (hc:Yg4 w B r (r.length / 2048) (.pointer p))(g2:w.grownBy w2 (some b))
  (hh2:w2.heap[b]? =some (.cells (Yax (r++[d]) (.pointer p) (r.length / 2048)).toArray 153 (0,0)))
  (hg4:((w2.alloc (.cells (.pointer p::Yat (r++[d]) (r.length / 2048)).toArray 191)).setCell ⟨b,0,none⟩ (.pointer (some ⟨w2.heap.size,0,none⟩))).drew.grownBy w4 (some b))
  (hh4:w4.heap[b]? =some (.cells (((Yax (r++[d]) (.pointer p) (r.length / 2048)).set 0 (.pointer (some ⟨w2.heap.size,0,none⟩))).take 1++((List.replicate 256 (Value.int .u8 0)) ++
   ((Yax (r++[d]) (.pointer p) (r.length / 2048)).set 0 (.pointer (some ⟨w2.heap.size,0,none⟩))).drop (1+256))).toArray 153 (0,0))):
  Ydd w4 B b (r++[d])∧w.grownBy w4 (some b):=by
 have hlt:b<w2.heap.size:=(Array.getElem?_eq_some_iff.1 hh2).1;have g3:w2.grownBy ((w2.alloc (.cells (.pointer p::Yat (r++[d]) (r.length / 2048)).toArray 191)).setCell ⟨b,0,none⟩ (.pointer (some ⟨w2.heap.size,0,none⟩))).drew (some b):=
  Yag (World.grownBy_alloc w2 _ _) (Yag (Ya2 _ ⟨b,0,none⟩ _) (Ygm _ _))
 have G:=Yag g2 (Yag g3 hg4);refine⟨⟨hr,hbB,.pointer (some ⟨w2.heap.size,0,none⟩),?_,?_⟩,G⟩
 ·rw[hh4,Ywf r d _ hf];unfold Yax;rw[List.set_cons_zero,List.take_succ_cons,List.take_zero,Nat.add_comm 1,List.drop_succ_cons,List.drop_append,Yai,List.drop_eq_nil_of_le (by rw[Yai];omega)]
  rfl
 ·rw[show (r++[d]).length / 2048=r.length / 2048+1 by rw[List.length_append,List.length_singleton];omega];refine⟨w2.heap.size,.pointer p,rfl,Nat.le_trans hB g2.size,?_,?_⟩
  ·rw[hg4.block w2.heap.size (by simp) (by simp;omega)];show (((w2.alloc _).setCell _ _)).heap[w2.heap.size]? =_;rw[heap_setCell_other _ _ _ _ (by show w2.heap.size≠b;omega)];exact heap_alloc_new w2 _
  ·refine(hc.kept fun g _ _ hg ho=>?_).more [d] (by omega);rw[G.block g (Array.getElem?_eq_some_iff.1 ho).1 (by simp;omega)];exact ho
set_option maxRecDepth 100000 in
set_option maxHeartbeats 1000000 in
theorem Yy9 (w:World)(B b:Nat)(r:List UInt8)(hw:Ydd w B b r)(hn:r.length≤1099511627776)(hB:B≤w.heap.size):
  Calls Tryz.prog 154 #[.pointer (some ⟨b,0,none⟩),.int .i32 49] w fun e w'=>e=.returned (.tuple #[])∧Ydd w' B b (r++[49])∧w.grownBy w' (some b):=by
 obtain⟨hr,hbB,v,hh,hc⟩:=hw;have hbits:=Yac hh (Yc4 r v _);have hf:=fun o=>Ya9 (o:=o) hh
 go_enter Tryz.func154,Tryz.ntmps154
 go_wp2
 obtain⟨k,hk⟩:∃k,r.length%2048=k:=⟨_,rfl⟩;have ek:((r.length:Int)%2048)=((k:Nat):Int):=by omega
 rw[ek];have k0:(0:Int)≤(k:Int):=by omega
 have k1:(k:Int)<2048:=by omega
 have i0:(0:Int)≤(k:Int) / 8:=by omega
 have i1:(k:Int) / 8<256:=by omega
 have hx:=Yac hh (Ykh r v _ (k / 8) (by omega));rw[←hk,Yhr,hk] at hx;have KK:=Lib.hid hk;clear ek hk
 go_region
 have e1:bits .or .u8 ((Ya4 r (r.length / 8):Nat):Int) (128 / 2^(k%8))=((Ya4 r (r.length / 8)+2^(7-r.length%8):Nat):Int):=by
  obtain⟨A,hA⟩:=Ypo r;have hk:=KK.out;have e:k%8=r.length%8:=by omega
  rw[e,Y0e _ _ A (by omega) hA (Yr5 r _ hr)]
 rw[e1];have hh1:=Ycq (o:=1+k / 8) (.int .u8 ((Ya4 r (r.length / 8)+2^(7-r.length%8):Nat):Int)) hh;have hg1:=Yag (Ya2 w ⟨b,1+k / 8,none⟩ (.int .u8 ((Ya4 r (r.length / 8)+2^(7-r.length%8):Nat):Int))) (Ygm _ _);have hh1:(w.setCell ⟨b,1+k / 8,none⟩ (.int .u8 ((Ya4 r (r.length / 8)+2^(7-r.length%8):Nat):Int))).drew.heap[b]? =_:=hh1;have hset:=Yzi r v;have hk:=KK.out;rw[hk] at hset
 generalize (w.setCell ⟨b,1+k / 8,none⟩ (.int .u8 ((Ya4 r (r.length / 8)+2^(7-r.length%8):Nat):Int))).drew=w1 at hh1 hg1 ⊢;have hb1:(((Ycp r v).set (1+k / 8) (.int .u8 ((Ya4 r (r.length / 8)+2^(7-r.length%8):Nat):Int))))[257]? =some (.int .i64 (r.length:Int)):=by
  rw[List.getElem?_set_ne (by omega)];exact Yc4 r v _
 have hbits1:=Yac hh1 hb1;have hf1:=fun o=>Ya9 (o:=o) hh1;have hh2:=Ycq (o:=257) (.int .i64 ((r.length:Int)+1)) hh1;have hh2:(w1.setCell ⟨b,257,none⟩ (.int .i64 ((r.length:Int)+1))).heap[b]? =some (.cells (Yax (r++[49]) v (r.length / 2048)).toArray 153 (0,0)):=by rw[hh2];unfold Ycp;rw[hset]
 have hg2:=Yag hg1 (Ya2 w1 ⟨b,257,none⟩ (.int .i64 ((r.length:Int)+1)));have H2:=Lib.hid hh2;clear hh1 hh2 hset hb1 e1 hx hf hbits i0 i1 hh hk;by_cases hfull:k=2047
 ·have ht:((k:Int)==2047)=true:=by rw[beq_iff_eq];omega
  go_wp2
  have hh2:=H2.out;generalize w1.setCell ⟨b,257,none⟩ (.int .i64 ((r.length:Int)+1))=w2 at hh2 hg2 ⊢;clear H2 hbits1 hf1 hg1;obtain⟨p,rfl⟩:=hc.pointer;obtain⟨K,hK⟩:∃K,r.length / 2048=K:=⟨_,rfl⟩;rw[hK] at hh2 hc;obtain⟨cs,hcs⟩:∃cs,Yat (r++[49]) K=cs:=⟨_,rfl⟩;have hcl:cs.length=256:=by rw[←hcs];exact Yai _ _
  have hc1:∀v∈cs,v.oneCell'=true:=by rw[←hcs];exact Ye0 _ _
  have hfst:w2.cell? ⟨b,0,none⟩=some (.pointer p):=Yac hh2 rfl;have hrg:w2.rangeAt b 1 cs:=by
   intro j v hv;have hj:j<cs.length:=(List.getElem?_eq_some_iff.1 hv).1;refine Yac hh2 ?_;unfold Yax;rw[hcs,Nat.add_comm,List.getElem?_cons_succ,List.getElem?_append_left hj,hv]
  have hfr:w2.frozen? ⟨b,0,none⟩=false:=Ya9 hh2;have hfst2:∀o,(w2.alloc o).cell? ⟨b,0,none⟩=some (.pointer p):=fun o=>by
   rw[World.cell?_alloc_lt _ _ _ (World.block_lt_of_cell? w2 _ hfst)];exact hfst
  have hfr2:∀o,(w2.alloc o).frozen? ⟨b,0,none⟩=false:=fun o=>by
   rw[World.frozen?_alloc_past _ _ _ (World.block_lt_of_cell? w2 _ hfst)];exact Ya9 hh2
  have hrg2:∀o,(w2.alloc o).rangeAt b 1 cs:=fun o=>World.rangeAt_alloc hrg o;have hrg3:∀o x,((w2.alloc o).setCell ⟨b,0,none⟩ x).rangeAt b 1 cs:=fun o x j v hv=>by
   rw[World.cell?_setCell_other _ _ _ _ (by intro e;injection e with _ e;omega)];exact hrg2 o j v hv
  have hu:=Tryz.underlying151;have hi:(Tryz.prog.info? 151).map (·.size)=some cs.length:=by rw[hcl];kernel_rfl
  obtain⟨Z,hz1,hz2⟩:=Yi9;have hz3:Z≠#[]:=by rintro rfl;simp at hz2
  have hz4:=Yi8 Z (.pointer p) cs hz2 hcl;have G2:=Lib.hid hg2;have HH2:=Lib.hid hh2;have HCS:=Lib.hid hcs;have CL:=Lib.hid hcl;have EK:=Lib.hid hK;have HC:=Lib.hid hc;clear hg2 hh2 hcs hK hc;have hl1:(loadVar 150 ⟨b,0,none⟩).run Tryz.prog w2.drew=.ok (.pointer p) w2.drew:=by go_simp
  have hl2:=run_loadVar_mid w2.drew b 1 _ cs _ ((World.rangeAt_drew _ _ _ _).2 hrg) hu rfl hi;have HL1:=Lib.hid hl1;have HL2:=Lib.hid hl2;clear hl1 hl2;refine wp_region_any (by kernel_rfl) ?_;change wpAny _ _ _ _ _ _ _ (World.drew _);refine wpAny_take (i:=0) (v:=?_) rfl (by kernel_rfl) (by kernel_rfl) (by kernel_rfl) (fun _ _ _ h=>h) (Or.inl ⟨by rfl,?_⟩) ?_
  rotate_left
  ·(intro w;go_simp;try with_reducible rfl)
  rotate_right
  refine wpAny_take (i:=1) (v:=?_) rfl (by kernel_rfl) (by kernel_rfl) (by kernel_rfl) (fun _ _ _ h=>h) (Or.inl ⟨by rfl,?_⟩) ?_
  rotate_left
  ·(intro w;go_simp;try with_reducible rfl)
  rotate_right
  refine wpAny_take (i:=2) (v:=?_) rfl (by kernel_rfl) (by kernel_rfl) (by kernel_rfl) (fun _ _ _ h=>h) (Or.inl ⟨by rfl,?_⟩) ?_
  rotate_left
  ·(intro w;go_simp;try with_reducible rfl)
  rotate_right
  refine wpAny_take (i:=3) (v:=?_) rfl (by kernel_rfl) (by kernel_rfl) (by kernel_rfl) (fun _ _ _ h=>h) (Or.inl ⟨by rfl,?_⟩) ?_
  rotate_left
  ·(intro w;go_simp;try with_reducible rfl)
  rotate_right
  refine wpAny_take (i:=5) (v:=?_) rfl (by kernel_rfl) (by kernel_rfl) (by kernel_rfl) (fun _ _ _ h=>h) (Or.inl ⟨by rfl,?_⟩) ?_
  rotate_left
  ·(intro w;go_simp;try with_reducible rfl)
  rotate_right
  refine wpAny_take (i:=6) (v:=?_) rfl (by kernel_rfl) (by kernel_rfl) (by kernel_rfl) (fun _ _ _ h=>h) (Or.inl ⟨by rfl,?_⟩) ?_
  rotate_left
  ·(intro w;go_simp;try with_reducible rfl)
  rotate_right
  refine wpAny_take (i:=7) (v:=?_) rfl (by kernel_rfl) (by kernel_rfl) (by kernel_rfl) (fun _ _ _ h=>h) (Or.inl ⟨by rfl,?_⟩) ?_
  rotate_left
  ·(intro w;go_simp;try with_reducible rfl)
  rotate_right
  refine Yjw (i:=4) (j:=8) (di:=some 39) (dj:=some 43) (vi:=.pointer p) (vj:=.agg cs.toArray) rfl rfl rfl rfl rfl rfl ?r1 ?r2 ?r3 (by decide) ?h1 ?h2 ?h3 ?h4 ?hc ?h
  case r1=>kernel_rfl
  case r2=>kernel_rfl
  case r3=>kernel_rfl
  case h1=>exact Ya8 (ty:=150) (x:=.tmp 38) (ad:=⟨b,0,none⟩) (by kernel_rfl) (by kernel_rfl) HL1.out
  case h2=>exact Ya8 (ty:=151) (x:=.tmp 42) (ad:=⟨b,1,none⟩) (by kernel_rfl) (by kernel_rfl) HL2.out
  case h3=>exact Ya8 (ty:=151) (x:=.tmp 42) (ad:=⟨b,1,none⟩) (by kernel_rfl) (by kernel_rfl) HL2.out
  case h4=>exact Ya8 (ty:=150) (x:=.tmp 38) (ad:=⟨b,0,none⟩) (by kernel_rfl) (by kernel_rfl) HL1.out
  case hc=>kernel_rfl
  refine Yew 9 (by kernel_rfl) (by kernel_rfl) ?_;have hh3:(((w2.alloc (.cells (.pointer p::cs).toArray 191)).setCell ⟨b,0,none⟩ (.pointer (some ⟨w2.heap.size,0,none⟩))).drew).heap[b]? =_:=
   Ycq (.pointer (some ⟨w2.heap.size,0,none⟩)) ((Below.heap_alloc w2 _ b (World.block_lt_of_cell? w2 _ hfst)).trans HH2.out)
  have H3:=Lib.hid hh3;obtain⟨Z2,hz5,hz6,hz7⟩:=Yo6;have hz8:∀v∈Z2.toList,v.oneCell'=true:=by
   rw[hz7.out];intro v hv;rw[List.eq_of_mem_replicate hv]
   rfl
  have hz9:1+Z2.size≤((Yax (r++[49]) (.pointer p) K).set 0 (.pointer (some ⟨w2.heap.size,0,none⟩))).toArray.size:=by
   rw[hz7.out];simp[Yeh]
  clear hfst hrg hfr hrg2 hrg3 hh3
  go_wp2_with (refine Yb1 rfl 151 _ _ rfl b 1 Z2 rfl rfl _ _ H3.out hz6 hz8 hz9 ?_;intro w4 hh4 hg4)
  go_end0
  refine⟨rfl,Yow (by rw[Ycb,hr];rfl) hbB hB (by rw[KK.out];exact hfull) (by rw[EK.out];exact HC.out) G2.out (by rw[EK.out];exact HH2.out) (by rw[EK.out,HCS.out];exact hg4) ?_⟩;have e:=hh4.out;rw[hz7.out] at e;rw[EK.out,e]
  rfl
 ·have ht:((k:Int)==2047)=false:=by rw[beq_eq_false_iff_ne];omega
  go_wp2
  go_end0
  have hm:=Yo1 r 49 v (by rw[KK.out];exact hfull);refine⟨rfl,⟨by rw[Ycb,hr];rfl,hbB,v,by rw[H2.out,hm],?_⟩,hg2⟩;have hk:=KK.out;rw[List.length_append,List.length_singleton,show (r.length+1) / 2048=r.length / 2048 by omega];refine(hc.kept fun g _ _ hg ho=>?_).more [49] (by omega);rw[hg2.block g (Array.getElem?_eq_some_iff.1 ho).1 (by simp;omega)];exact ho
set_option maxRecDepth 100000 in
set_option maxHeartbeats 1000000 in
theorem Yjc (w:World)(B b:Nat)(r:List UInt8)(hw:Ydd w B b r)(hn:r.length≤1099511627776)(hB:B≤w.heap.size):
  Calls Tryz.prog 154 #[.pointer (some ⟨b,0,none⟩),.int .i32 48] w fun e w'=>e=.returned (.tuple #[])∧Ydd w' B b (r++[48])∧w.grownBy w' (some b):=by
 obtain⟨hr,hbB,v,hh,hc⟩:=hw;have hbits1:=Yac hh (Yc4 r v _);have hf1:=fun o=>Ya9 (o:=o) hh;have hh2:=Ycq (o:=257) (.int .i64 ((r.length:Int)+1)) hh;have hh2:(w.setCell ⟨b,257,none⟩ (.int .i64 ((r.length:Int)+1))).heap[b]? =some (.cells (Yax (r++[48]) v (r.length / 2048)).toArray 153 (0,0)):=by rw[hh2];unfold Ycp;rw[Yqx]
 have hg2:=Ya2 w ⟨b,257,none⟩ (.int .i64 ((r.length:Int)+1));have H2:=Lib.hid hh2;clear hh2 hh;by_cases hfull:r.length%2048=2047
 ·have ht:(((r.length:Int)%2048)==2047)=true:=by rw[beq_iff_eq];omega
  have F:=Lib.hid hfull;clear hfull
  go_enter Tryz.func154,Tryz.ntmps154
  go_wp2
  have hfull:=F.out;have hh2:=H2.out;generalize w.setCell ⟨b,257,none⟩ (.int .i64 ((r.length:Int)+1))=w2 at hh2 hg2 ⊢;clear H2 hbits1 hf1;obtain⟨p,rfl⟩:=hc.pointer;obtain⟨K,hK⟩:∃K,r.length / 2048=K:=⟨_,rfl⟩;rw[hK] at hh2 hc;obtain⟨cs,hcs⟩:∃cs,Yat (r++[48]) K=cs:=⟨_,rfl⟩;have hcl:cs.length=256:=by rw[←hcs];exact Yai _ _
  have hc1:∀v∈cs,v.oneCell'=true:=by rw[←hcs];exact Ye0 _ _
  have hfst:w2.cell? ⟨b,0,none⟩=some (.pointer p):=Yac hh2 rfl;have hrg:w2.rangeAt b 1 cs:=by
   intro j v hv;have hj:j<cs.length:=(List.getElem?_eq_some_iff.1 hv).1;refine Yac hh2 ?_;unfold Yax;rw[hcs,Nat.add_comm,List.getElem?_cons_succ,List.getElem?_append_left hj,hv]
  have hfr:w2.frozen? ⟨b,0,none⟩=false:=Ya9 hh2;have hfst2:∀o,(w2.alloc o).cell? ⟨b,0,none⟩=some (.pointer p):=fun o=>by
   rw[World.cell?_alloc_lt _ _ _ (World.block_lt_of_cell? w2 _ hfst)];exact hfst
  have hfr2:∀o,(w2.alloc o).frozen? ⟨b,0,none⟩=false:=fun o=>by
   rw[World.frozen?_alloc_past _ _ _ (World.block_lt_of_cell? w2 _ hfst)];exact Ya9 hh2
  have hrg2:∀o,(w2.alloc o).rangeAt b 1 cs:=fun o=>World.rangeAt_alloc hrg o;have hrg3:∀o x,((w2.alloc o).setCell ⟨b,0,none⟩ x).rangeAt b 1 cs:=fun o x j v hv=>by
   rw[World.cell?_setCell_other _ _ _ _ (by intro e;injection e with _ e;omega)];exact hrg2 o j v hv
  have hu:=Tryz.underlying151;have hi:(Tryz.prog.info? 151).map (·.size)=some cs.length:=by rw[hcl];kernel_rfl
  obtain⟨Z,hz1,hz2⟩:=Yi9;have hz3:Z≠#[]:=by rintro rfl;simp at hz2
  have hz4:=Yi8 Z (.pointer p) cs hz2 hcl;have G2:=Lib.hid hg2;have HH2:=Lib.hid hh2;have HCS:=Lib.hid hcs;have CL:=Lib.hid hcl;have EK:=Lib.hid hK;have HC:=Lib.hid hc;clear hg2 hh2 hcs hK hc;have hl1:(loadVar 150 ⟨b,0,none⟩).run Tryz.prog w2.drew=.ok (.pointer p) w2.drew:=by go_simp
  have hl2:=run_loadVar_mid w2.drew b 1 _ cs _ ((World.rangeAt_drew _ _ _ _).2 hrg) hu rfl hi;have HL1:=Lib.hid hl1;have HL2:=Lib.hid hl2;clear hl1 hl2;refine wp_region_any (by kernel_rfl) ?_;change wpAny _ _ _ _ _ _ _ (World.drew _);refine wpAny_take (i:=0) (v:=?_) rfl (by kernel_rfl) (by kernel_rfl) (by kernel_rfl) (fun _ _ _ h=>h) (Or.inl ⟨by rfl,?_⟩) ?_
  rotate_left
  ·(intro w;go_simp;try with_reducible rfl)
  rotate_right
  refine wpAny_take (i:=1) (v:=?_) rfl (by kernel_rfl) (by kernel_rfl) (by kernel_rfl) (fun _ _ _ h=>h) (Or.inl ⟨by rfl,?_⟩) ?_
  rotate_left
  ·(intro w;go_simp;try with_reducible rfl)
  rotate_right
  refine wpAny_take (i:=2) (v:=?_) rfl (by kernel_rfl) (by kernel_rfl) (by kernel_rfl) (fun _ _ _ h=>h) (Or.inl ⟨by rfl,?_⟩) ?_
  rotate_left
  ·(intro w;go_simp;try with_reducible rfl)
  rotate_right
  refine wpAny_take (i:=3) (v:=?_) rfl (by kernel_rfl) (by kernel_rfl) (by kernel_rfl) (fun _ _ _ h=>h) (Or.inl ⟨by rfl,?_⟩) ?_
  rotate_left
  ·(intro w;go_simp;try with_reducible rfl)
  rotate_right
  refine wpAny_take (i:=5) (v:=?_) rfl (by kernel_rfl) (by kernel_rfl) (by kernel_rfl) (fun _ _ _ h=>h) (Or.inl ⟨by rfl,?_⟩) ?_
  rotate_left
  ·(intro w;go_simp;try with_reducible rfl)
  rotate_right
  refine wpAny_take (i:=6) (v:=?_) rfl (by kernel_rfl) (by kernel_rfl) (by kernel_rfl) (fun _ _ _ h=>h) (Or.inl ⟨by rfl,?_⟩) ?_
  rotate_left
  ·(intro w;go_simp;try with_reducible rfl)
  rotate_right
  refine wpAny_take (i:=7) (v:=?_) rfl (by kernel_rfl) (by kernel_rfl) (by kernel_rfl) (fun _ _ _ h=>h) (Or.inl ⟨by rfl,?_⟩) ?_
  rotate_left
  ·(intro w;go_simp;try with_reducible rfl)
  rotate_right
  refine Yjw (i:=4) (j:=8) (di:=some 39) (dj:=some 43) (vi:=.pointer p) (vj:=.agg cs.toArray) rfl rfl rfl rfl rfl rfl ?r1 ?r2 ?r3 (by decide) ?h1 ?h2 ?h3 ?h4 ?hc ?h
  case r1=>kernel_rfl
  case r2=>kernel_rfl
  case r3=>kernel_rfl
  case h1=>exact Ya8 (ty:=150) (x:=.tmp 38) (ad:=⟨b,0,none⟩) (by kernel_rfl) (by kernel_rfl) HL1.out
  case h2=>exact Ya8 (ty:=151) (x:=.tmp 42) (ad:=⟨b,1,none⟩) (by kernel_rfl) (by kernel_rfl) HL2.out
  case h3=>exact Ya8 (ty:=151) (x:=.tmp 42) (ad:=⟨b,1,none⟩) (by kernel_rfl) (by kernel_rfl) HL2.out
  case h4=>exact Ya8 (ty:=150) (x:=.tmp 38) (ad:=⟨b,0,none⟩) (by kernel_rfl) (by kernel_rfl) HL1.out
  case hc=>kernel_rfl
  refine Yew 9 (by kernel_rfl) (by kernel_rfl) ?_;have hh3:(((w2.alloc (.cells (.pointer p::cs).toArray 191)).setCell ⟨b,0,none⟩ (.pointer (some ⟨w2.heap.size,0,none⟩))).drew).heap[b]? =_:=
   Ycq (.pointer (some ⟨w2.heap.size,0,none⟩)) ((Below.heap_alloc w2 _ b (World.block_lt_of_cell? w2 _ hfst)).trans HH2.out)
  have H3:=Lib.hid hh3;obtain⟨Z2,hz5,hz6,hz7⟩:=Yo6;have hz8:∀v∈Z2.toList,v.oneCell'=true:=by
   rw[hz7.out];intro v hv;rw[List.eq_of_mem_replicate hv]
   rfl
  have hz9:1+Z2.size≤((Yax (r++[48]) (.pointer p) K).set 0 (.pointer (some ⟨w2.heap.size,0,none⟩))).toArray.size:=by
   rw[hz7.out];simp[Yeh]
  clear hfst hrg hfr hrg2 hrg3 hh3
  go_wp2_with (refine Yb1 rfl 151 _ _ rfl b 1 Z2 rfl rfl _ _ H3.out hz6 hz8 hz9 ?_;intro w4 hh4 hg4)
  go_end0
  refine⟨rfl,Yow (by rw[Ycb,hr];rfl) hbB hB (by exact hfull) (by rw[EK.out];exact HC.out) G2.out (by rw[EK.out];exact HH2.out) (by rw[EK.out,HCS.out];exact hg4) ?_⟩;have e:=hh4.out;rw[hz7.out] at e;rw[EK.out,e]
  rfl
 ·have ht:(((r.length:Int)%2048)==2047)=false:=by rw[beq_eq_false_iff_ne];omega
  have F:=Lib.hid hfull;clear hfull
  go_enter Tryz.func154,Tryz.ntmps154
  go_wp2
  go_end0
  have hm:=Yo1 r 48 v F.out;refine⟨rfl,⟨by rw[Ycb,hr];rfl,hbB,v,by rw[H2.out,hm],?_⟩,hg2⟩;have hk:=F.out;rw[List.length_append,List.length_singleton,show (r.length+1) / 2048=r.length / 2048 by omega];refine(hc.kept fun g _ _ hg ho=>?_).more [48] (by omega);rw[hg2.block g (Array.getElem?_eq_some_iff.1 ho).1 (by simp;omega)];exact ho
def Yfu:Obj:=.cells (Ycp [] (.pointer none)).toArray 153 (0,0)
theorem Ydd.fresh {w:World}{B b:Nat}(hb:w.heap.size=b)(hB:b<B):Ydd (w.alloc Yfu) B b []:=by
 subst hb;exact⟨rfl,hB,.pointer none,heap_alloc_new w Yfu,rfl⟩
theorem Yzt:∃Z:Array Value,(∀w,(zeroValue 153).run Tryz.prog w=.ok (.agg Z) w)∧Hid (Z=(Ycp [] (.pointer none)).toArray):=by
 refine⟨(Ycp [] (.pointer none)).toArray,?_,Lib.hid rfl⟩;have h:(Tryz.prog.info? 153).map (fun i=>i.zero)=some (some (.agg (Ycp [] (.pointer none)).toArray)):=by kernel_rfl
 generalize (Ycp [] (Value.pointer none)).toArray=Z at h ⊢;cases hq:Tryz.prog.info? 153 with
 |none=>simp[hq] at h
 |some i=>
  simp[hq] at h;intro w;simp[zeroValue,typeInfo,hq,h]
set_option maxHeartbeats 1000000 in
theorem Yo2 (w:World):Calls Tryz.prog 92 #[] w fun e w'=>e=.returned (.pointer (some ⟨w.heap.size,0,none⟩))∧w.alloc Yfu=w':=by
 obtain⟨Z,hz1,hz2⟩:=Yzt
 go_enter Tryz.func92,Tryz.ntmps92
 go_wp2
 go_ret
 refine⟨rfl,?_⟩;unfold Yfu;rw[←hz2.out]
set_option maxHeartbeats 1000000 in
theorem Ysq (w:World)(B b:Nat)(r:List UInt8)(hw:Ydd w B b r)(hn:r.length+8≤1099511627776)(hB:B≤w.heap.size):
  Calls Tryz.prog 141 #[.pointer (some ⟨b,0,none⟩)] w fun e w'=>e=.returned (.int .i64 ((gap r.length:Nat):Int))∧Ydd w' B b (r++List.replicate (gap r.length) 48)∧w.grownBy w' (some b):=by
 have hw0:=hw;obtain⟨hr,hbB,v,hh,hc⟩:=hw0;have hbits:=Yac hh (Yc4 r v _);clear hh hc
 go_enter Tryz.func141,Tryz.ntmps141
 go_wp2
 obtain⟨k,hk⟩:∃k,gap r.length=k:=⟨_,rfl⟩;have hk8:k<8:=by rw[←hk];unfold gap;omega
 have ek:7-((r.length:Int)+7)%8=((k:Nat):Int):=by rw[←hk];unfold gap;omega
 rw[ek];have K:=Lib.hid hk;clear hk ek hbits
 go_loopw [14] (fun i wr=>∃j:Nat,j≤k∧i=.int .i64 j∧Ydd wr B b (r++List.replicate j 48)∧w.grownBy wr (some b)) (fun i _=>k-(intOf i).toNat)
 case atStart=>exact⟨0,Nat.zero_le _,rfl,by simpa using hw,World.grownBy.refl _ _⟩
 case round=>
  obtain⟨j,hj,rfl,hw1,hg⟩:=hrel;have hsz:=hg.size;by_cases hlt:j<k
  ·have hln:(r++List.replicate j 48).length≤1099511627776:=by rw[List.length_append,List.length_replicate];omega
   go_wp2_with fail
   refine(Yjc _ B b _ hw1 hln (by omega)).mono ?_;rintro e w2 ⟨rfl,hw2,hg2⟩
   go_wp2
   go_roundw
   case rel=>exact⟨j+1,by omega,by go_num,by rw[List.replicate_succ',←List.append_assoc];exact hw2,Yag hg hg2⟩
   case measure=>simp[intOf];omega
  ·obtain rfl:j=k:=by omega
   go_wp2
   go_ret
   rw[K.out];exact⟨rfl,hw1,hg⟩
theorem Yp1 {w wr:World}{row:Option Nat}{K:Nat}(h:w.grownBy wr row)(hK:w.heap.size≤K)(s:ByteArray)(p:Nat):w.grownBy (wr.iterAt K s p) row:=
 ⟨h.os,h.tape,h.output,by rw[Lib.iterAt_size];exact h.size,fun k hk hr=>by rw[Lib.iterAt_other _ _ _ _ _ (by omega)];exact h.block k hk hr⟩
theorem Ydd.iterAt {w:World}{B b:Nat}{r:List UInt8}(h:Ydd w B b r){K:Nat}{s:ByteArray}{q:Nat}(hK:w.heap[K]? =some (.stringIter s q))(p:Nat):Ydd (w.iterAt K s p) B b r:=
 h.kept (fun cs T ho=>by rw[Lib.iterAt_other _ _ _ _ _ (by rintro rfl;rw[hK] at ho;cases ho)];exact ho) (fun g cs T _ ho=>by rw[Lib.iterAt_other _ _ _ _ _ (by rintro rfl;rw[hK] at ho;cases ho)];exact ho)
theorem Yw4 (s:ByteArray)(p:Nat)(h:p<s.size)(hr:Ybs s.data.toList=true):s[p]=48∨s[p]=49:=by
 have:=Yl1 s.data.toList p h hr;have e:s.data.toList[p]=s[p]:=rfl;rw[e] at this;rcases this with c|c
 ·exact .inl (UInt8.toNat_inj.1 c)
 ·exact .inr (UInt8.toNat_inj.1 c)
theorem Yu3 (s:ByteArray)(p:Nat)(h:p<s.size):s.data.toList.take (p+1)=s.data.toList.take p++[s[p]]:=List.take_succ_eq_append_getElem h
set_option maxHeartbeats 1000000 in
theorem Yoe (w:World)(B b:Nat)(r:List UInt8)(s:ByteArray)(hw:Ydd w B b r)(hs:Ybs s.data.toList=true)(hn:r.length+s.size≤1099511627776)(hB:B≤w.heap.size):
  Calls Tryz.prog 143 #[.pointer (some ⟨b,0,none⟩),.string s] w fun e w'=>e=.returned (.int .i64 0)∧Ydd w' B b (r++s.data.toList)∧w.grownBy w' (some b):=by
 have SR:=Lib.hid hs;obtain⟨H,hH⟩:∃H,w.heap.size=H:=⟨_,rfl⟩
 go_enter Tryz.func143,Tryz.ntmps143
 go_wp2_with fail
 refine(Yp5 s _).mono ?_;rintro e w1 ⟨rfl,hb⟩;have hw1:=hw.below hb;have hg1:w.grownBy w1 (some b):=⟨hb.os,hb.tape,hb.output,hb.size,fun k hk _=>hb.block k hk⟩;obtain⟨K,hK⟩:∃K,w1.heap.size=K:=⟨_,rfl⟩;have hKw:w.heap.size≤K:=by have:=hb.size;omega
 have hit0:(w1.iter s 0).heap[K]? =some (.stringIter s 0):=by rw[←hK];exact World.iter_heap w1 s 0
 have hw2:Ydd (w1.iter s 0) B b r:=hw1.below ((Below.refl _ w1).alloc (Nat.le_refl _) _);have hg2:w.grownBy (w1.iter s 0) (some b):=Yag hg1 (World.grownBy_alloc w1 _ _);have IT:=Lib.hid hit0;have EK:=Lib.hid hK;clear hit0 hK hb hw1 hg1 hw hH
 go_wp2
 rw[EK.out]
 go_loopw [] (fun wr=>∃p:Nat,p≤s.size∧wr.heap[K]? =some (.stringIter s p)∧Ydd wr B b (r++s.data.toList.take p)∧w.grownBy wr (some b)) (fun wr=>s.size-wr.iterPos K)
 case atStart=>exact⟨0,Nat.zero_le _,IT.out,by simpa using hw2,hg2⟩
 case round=>
  clear hw2 hg2;obtain⟨p,hp,hit,hwr,hg⟩:=hrel;have hsz:=hg.size;have hbK:b≠K:=by
   rintro rfl;obtain⟨_,_,v,hh,_⟩:=hwr;rw[hit] at hh;cases hh
  by_cases hlt:p<s.size
  ·have hnx:∀ty,(Instr.next (.pointer (some ⟨K,0,none⟩)) true ty).run Tryz.prog wr=_:=fun ty=>Lib.run_next_any_at wr K s p ty hit hlt;have hit2:=Lib.iterAt_heap wr K s p (p+(Utf8.decode s p).2) hit;have hw3:=hwr.iterAt hit (p+(Utf8.decode s p).2);have hg3:=Yp1 hg hKw s (p+(Utf8.decode s p).2);have hc:=Yw4 s p hlt SR.out
   have hd:=Ylm s p hlt (by rcases hc with c|c <;> rw[c];exact .inl rfl;exact .inr rfl);rw[hd] at hnx hit2 hw3 hg3;have hln:(r++s.data.toList.take p).length≤1099511627776:=by rw[List.length_append,List.length_take];omega
   have hsz3:=hg3.size;have T:=Lib.hid (Yu3 s p hlt);have HI:=Lib.hid hit;have H2:=Lib.hid hit2;clear hd hit hit2 hg hwr;rcases hc with c|c
   ·rw[c] at hnx;have C:=Lib.hid c;clear c
    go_wp2_with fail
    refine(Yjc _ B b _ hw3 hln (by omega)).mono ?_;rintro e w2 ⟨rfl,hw4,hg4⟩;have hkeep:=hg4.block K (Array.getElem?_eq_some_iff.1 H2.out).1 (by simpa using hbK.symm);have H4:=Lib.hid (hkeep.trans H2.out);clear hkeep
    go_wp2
    go_roundw
    case rel=>exact⟨p+1,by omega,H4.out,by rw[T.out,C.out,←List.append_assoc];exact hw4,Yag hg3 hg4⟩
    case measure=>simp only[World.iterPos,H4.out,HI.out];omega
   ·rw[c] at hnx;have C:=Lib.hid c;clear c
    go_wp2_with fail
    refine(Yy9 _ B b _ hw3 hln (by omega)).mono ?_;rintro e w2 ⟨rfl,hw4,hg4⟩;have hkeep:=hg4.block K (Array.getElem?_eq_some_iff.1 H2.out).1 (by simpa using hbK.symm);have H4:=Lib.hid (hkeep.trans H2.out);clear hkeep
    go_wp2
    go_roundw
    case rel=>exact⟨p+1,by omega,H4.out,by rw[T.out,C.out,←List.append_assoc];exact hw4,Yag hg3 hg4⟩
    case measure=>simp only[World.iterPos,H4.out,HI.out];omega
  ·have hnx:∀ty,(Instr.next (.pointer (some ⟨K,0,none⟩)) true ty).run Tryz.prog wr=_:=fun ty=>Lib.run_next_end_at wr K s p ty hit hlt;obtain rfl:p=s.size:=by omega
   clear hit
   go_wp2
   go_ret
   exact⟨rfl,by rwa [List.take_of_length_le (by exact Nat.le_refl _)] at hwr,hg⟩
end Go.Proofs.YtnamlooifcpoaaaGreatDoor