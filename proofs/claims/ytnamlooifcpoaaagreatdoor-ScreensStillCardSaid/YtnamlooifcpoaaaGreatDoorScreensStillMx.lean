/- No condition. -/
import Derived.Test.YtnamlooifcpoaaaGreatDoorScreensStillMa
import Derived.Test.YtnamlooifcpoaaaGreatDoorScreensStillMu
import Derived.Test.YtnamlooifcpoaaaGreatDoorScreensStillMw
import Derived.Lib.SlBuf
import Derived.Laws.OwnMore
namespace Go.Proofs.YtnamlooifcpoaaaGreatDoor
open Go.RowKit Go.Lib
def Yfe (w:World)(g n m:Nat)(x:Int):Prop:=∀i,i<n→(w.cell? ⟨g,i,none⟩).isSome=true∧w.frozen? ⟨g,i,none⟩=false∧(i<m→w.cell? ⟨g,i,none⟩=some (.int .u8 x))
theorem Yfe.start {w:World}{cs:Array Value}{e:TypeId}{n:Nat}(x:Int)(hn:n≤cs.size)(q:Nat):Yfe ((w.alloc (.cells cs e)).drewN q) w.heap.size n 0 x:=by
 intro i hi;rw[World.cell?_drewN,World.cell?_alloc_mark,Array.getElem?_eq_getElem (by omega),World.frozen?_drewN,World.frozen?_alloc_mark w cs e 0 0 i];exact⟨rfl,by simp,fun h=>by omega⟩
theorem Yfe.more {w:World}{g n m:Nat}{x:Int}(h:Yfe w g n m x)(d:Nat)(hd:m+d≤n):Yfe (w.setCells g m (List.replicate d (Value.int .u8 x))) g n (m+d) x:=by
 have hl:(List.replicate d (Value.int .u8 x)).length=d:=List.length_replicate;intro i hi;obtain⟨h1,h2,h3⟩:=h i hi;rw[World.frozen?_setCells];by_cases e:m≤i∧i<m+d
 ·obtain⟨j,rfl⟩:∃j,i=m+j:=⟨i-m,by omega⟩;rw[World.cell?_setCells_in g _ m w (fun j hj=>by rw[hl] at hj;exact(h (m+j) (by omega)).1) j (by rw[hl];omega)];exact⟨rfl,h2,fun _=>by simp⟩
 ·rw[World.cell?_setCells_out g _ m w _ (fun _ _=>by rw[hl];show i<m∨m+d≤i;omega)];exact⟨h1,h2,fun hlt=>h3 (by omega)⟩
theorem Yfe.copy {w:World}{g n m c cd:Nat}{x:Int}{T e ty:TypeId}(h:Yfe w g n m x)(hT:Tryz.prog.underlying T=some (.slice e))(hs:(Tryz.prog.info? e).map (·.size)=some 1)(hc:c≤m)(hm:m<n)(sc:Nat):
  (Builtin.copy_ #[T,T] ty #[.slice (some ⟨g,m,none⟩) (n-m) cd,.slice (some ⟨g,0,none⟩) c sc]).run Tryz.prog w=.ok (.int .i64 ((min c (n-m):Nat):Int)) (w.setCells g m (List.replicate (min c (n-m)) (Value.int .u8 x))):=by
 have hl:∀d,(List.replicate d (Value.int .u8 x)).length=d:=fun d=>List.length_replicate;have hr:=run_copy_cells (P:=Tryz.prog) w T T ty e g m (n-m) cd ⟨g,0,none⟩ c sc (List.replicate (min c (n-m)) (Value.int .u8 x)) hT hs (hl _)
  (fun j v hj=>by
   have hj2:=(List.getElem?_eq_some_iff.1 hj).1;rw[hl] at hj2;have e1:(⟨g,0,none⟩:Addr).add j=⟨g,j,none⟩:=by unfold Addr.add;split <;> simp_all
   rw[e1,(h j (by omega)).2.2 (by omega)]
   simpa [List.getElem?_replicate,hj2] using hj)
  (fun j hj=>by rw[hl] at hj;exact(h (m+j) (by omega)).1) (fun j hj=>by rw[hl] at hj;exact(h (m+j) (by omega)).2.1)
  (fun u hu=>by rw[List.eq_of_mem_replicate hu];rfl)
 rw[hl] at hr;exact hr
theorem Yfe.first {w:World}{g n b c:Nat}{x:Int}{T e ty:TypeId}(h:Yfe w g n 0 x)(hT:Tryz.prog.underlying T=some (.slice e))(hs:(Tryz.prog.info? e).map (·.size)=some 1)(hn:1≤n)(hx:w.cell? ⟨b,0,none⟩=some (.int .u8 x))(cd:Nat):
  (Builtin.copy_ #[T,T] ty #[.slice (some ⟨g,0,none⟩) n cd,.slice (some ⟨b,0,none⟩) 1 c]).run Tryz.prog w=.ok (.int .i64 1) (w.setCells g 0 (List.replicate 1 (Value.int .u8 x))):=
 run_copy_cells (P:=Tryz.prog) w T T ty e g 0 n cd ⟨b,0,none⟩ 1 c (List.replicate 1 (Value.int .u8 x)) hT hs (Nat.min_eq_left hn).symm
  (fun j v hj=>by
   match j,hj with
   |0,hj=>cases hj;exact hx)
  (fun j hj=>(h (0+j) (by simp at hj;omega)).1) (fun j hj=>(h (0+j) (by simp at hj;omega)).2.1)
  (fun u hu=>by rw[List.eq_of_mem_replicate hu];rfl)
theorem Yx4:∀w,(Go.sizeOf 5).run Tryz.prog w=.ok 1 w:=fun w=>by
 have h:(Tryz.prog.info? 5).map (·.size)=some 1:=by kernel_rfl
 cases hq:Tryz.prog.info? 5 with
 |none=>simp[hq] at h
 |some i=>
  simp[hq] at h;simp[Go.sizeOf,typeInfo,hq,h]
theorem Yjr (g n m:Nat)(h:m<n)(W:World):(Instr.slice 22 (.slice (some ⟨g,0,none⟩) n n) (some (.int .i64 (m:Int))) none none).run Tryz.prog W=.ok (.slice (some ⟨g,m,none⟩) (n-m) (n-m)) W:=by
 have:=Lib.run_slice_tailV (P:=Tryz.prog) W 22 5 Tryz.underlying22 Yx4 g n m (by omega);unfold Lib.tailV at this;rwa [if_neg (by omega)] at this
theorem Yjq (g n m:Nat)(h:m≤n)(h0:1≤n)(W:World):(Instr.slice 22 (.slice (some ⟨g,0,none⟩) n n) none (some (.int .i64 (m:Int))) none).run Tryz.prog W=.ok (.slice (some ⟨g,0,none⟩) m n) W:=by
 have ht':Tryz.prog.underlying 22=some (.slice (Tryz.prog.elem 22)):=by simp[Program.elem,Tryz.underlying22]
 have he:Tryz.prog.elem 22=5:=by simp[Program.elem,Tryz.underlying22]
 rw[run_slice_h W 22 _ _ _ ht' .i64 _ (by omega) (by omega),he,Yx4];have hne:¬ n=0:=by omega
 simp[Result.andThen,sliced,hne,Addr.add]
theorem Ykv:(Tryz.prog.info? 5).map (·.size)=some 1:=by kernel_rfl
set_option maxRecDepth 1000000 in
set_option maxHeartbeats 8000000 in
theorem Yn0 (b c n:Nat)(x:Int)(w:World)(hx:w.cell? ⟨b,0,none⟩=some (.int .u8 x))(hr:0≤x∧x≤255)(h1:1≤n)(hn:n<1073741824):
  Calls Tryz.prog 75 #[.slice (some ⟨b,0,none⟩) 1 c,.int .i64 (n:Int)] w fun e w'=>∃v,e=.returned v∧Yc7 w' v w.heap.size n (fun _=>x)∧Below w.heap.size w w':=by
 have cm:=fun w=>Yl2 n (by omega) w;have t0:((n:Int)==0)=false:=by simp;omega
 obtain⟨cs,hrunM,hle,_⟩:=Lib.run_makeNoZero (P:=Tryz.prog) w #[3] 22 5 Tryz.underlying22 n (by omega);have hcall:(callFunc 101 #[.int .i64 (n:Int)]).run Tryz.prog w=.ok (.value (.slice (some ⟨w.heap.size,0,none⟩) n cs.size)) ((w.alloc (.cells cs 5)).drewN 2):=by
  rw[run_callFunc_extern Tryz.func101 (by kernel_rfl) (by kernel_rfl) (by kernel_rfl) (e:=Extern.BytealgMakeNoZero.makeNoZero #[3] #[22]) (by kernel_rfl),hrunM]
  rfl
 clear hrunM;have i0:(0:Int)≤(n:Int):=by omega
 have i1:(n:Int)≤(cs.size:Int):=by omega
 have B0:=Lib.hid (Yfe.start (w:=w) (e:=5) x hle 2);have hxx:((w.alloc (.cells cs 5)).drewN 2).cell? ⟨b,0,none⟩=some (.int .u8 x):=by
  rw[World.cell?_drewN];exact((((Below.refl w.heap.size w).alloc (Nat.le_refl _) (.cells cs 5)).cell (p:=⟨b,0,none⟩) (World.block_lt_of_cell? w ⟨b,0,none⟩ hx))).trans hx
 have hr1:=fun ty=>B0.out.first (ty:=ty) (c:=c) Tryz.underlying22 Ykv h1 hxx n;have B1:=Lib.hid (B0.out.more 1 (by omega));have hbe:Below w.heap.size w (((w.alloc (.cells cs 5)).drewN 2).setCells w.heap.size 0 (List.replicate 1 (Value.int .u8 x))):=
  (show Below w.heap.size w ((w.alloc (.cells cs 5)).drewN 2) from⟨rfl,rfl,rfl,by simp,fun k hk=>heap_alloc_old w _ hk⟩).grown (Yb3 _ _ _ _) (by simp) (fun k hk=>by injection hk with hk;omega)
 have hR:=Lib.hid hr;generalize hw0:(w.alloc (.cells cs 5)).drewN 2=w0 at *;generalize hw1:w0.setCells w.heap.size 0 (List.replicate 1 (Value.int .u8 x))=w1 at *;clear hw0 hw1 B0 hxx hr hx;by_cases hbig:8192<n
 case pos=>
  have tb:decide ((8192:Int)<(n:Int))=true:=by simp;omega
  go_enter Tryz.func75,Tryz.ntmps75
  go_wp2_with (first|(with_reducible refine(cm _).mono ?_;rintro e w1 ⟨rfl,rfl⟩)|(at_builtin;refine Lib.wpList_copy_run _ rfl _ _ 22 22 rfl _ _ rfl rfl (hr1 _) ?_))
  clear hr1 hcall i0 i1 tb
  go_loopw [10] (fun z wr=>∃m:Nat,1≤m∧m≤n∧z=.int .i64 m∧Hid (Yfe wr w.heap.size n m x)∧Below w.heap.size w wr) (fun z _=>n-(RowKit.intOf z).toNat)
  case atStart=>exact⟨1,by omega,h1,rfl,B1.out,hbe⟩
  case round=>
   clear B1 hbe;obtain⟨m,hm1,hmn,rfl,HB,hb⟩:=hrel;by_cases hlt:m<n
   ·have t1:decide ((m:Int)<(n:Int))=true:=by simp;omega
    obtain⟨ch,hch,hc1,hc2⟩:∃ch:Nat,min (m:Int) (8192:Int)=(ch:Int)∧1≤ch∧ch≤m:=⟨min m 8192,by omega,by omega,by omega⟩;have hsl1:=fun W=>Yjr w.heap.size n m hlt W;have hsl2:=fun W=>Yjq w.heap.size n ch (by omega) (by omega) W;have HBd:Yfe wr.drew w.heap.size n m x:=HB.out;have hcp:=fun ty=>HBd.copy (ty:=ty) (cd:=n-m) Tryz.underlying22 Ykv hc2 hlt n;have hmo:=HBd.more (min ch (n-m)) (by omega)
    have hbn:Below w.heap.size w (wr.drew.setCells w.heap.size m (List.replicate (min ch (n-m)) (Value.int .u8 x))):=hb.drew.grown (Yb3 _ _ _ _) hb.size (fun k hk=>by injection hk with hk;omega);have hd:1≤min ch (n-m)∧m+min ch (n-m)≤n:=by omega
    generalize min ch (n-m)=d at hcp hmo hbn hd;generalize hwn:wr.drew.setCells w.heap.size m (List.replicate d (Value.int .u8 x))=wn at hcp hmo hbn;have HBN:=Lib.hid hmo;clear hwn hmo HBd
    go_wp2
    refine wp_region_any (by kernel_rfl) ?_;change wpAny _ _ _ _ _ _ _ (World.drew _);refine Ybx 0 (some 67) (v:=?_) rfl rfl (by kernel_rfl) (by kernel_rfl) (by kernel_rfl) (fun _ _ _ h=>h) (Or.inl ⟨by rfl,?_⟩) ?_
    rotate_left
    ·(intro w;go_simp;try with_reducible rfl)
    rotate_right
    refine Ybx 1 (some 68) (v:=?_) rfl rfl (by kernel_rfl) (by kernel_rfl) (by kernel_rfl) (fun _ _ _ h=>h) (Or.inl ⟨by rfl,?_⟩) ?_
    rotate_left
    ·(intro w;go_simp;try with_reducible rfl)
    rotate_right
    refine Ybx 2 (some 69) (v:=?_) rfl rfl (by kernel_rfl) (by kernel_rfl) (by kernel_rfl) (fun _ _ _ h=>h) (Or.inl ⟨by rfl,?_⟩) ?_
    rotate_left
    ·(intro w;go_simp;try with_reducible rfl)
    rotate_right
    refine Ybx 3 (some 70) (v:=.slice (some ⟨w.heap.size,m,none⟩) (n-m) (n-m)) rfl rfl (by kernel_rfl) (by kernel_rfl) (by kernel_rfl) (fun _ _ _ h=>h) (Or.inl ⟨by rfl,?_⟩) ?_
    ·(intro w;go_simp;try with_reducible rfl)
    refine Ybx 4 (some 71) (v:=?_) rfl rfl (by kernel_rfl) (by kernel_rfl) (by kernel_rfl) (fun _ _ _ h=>h) (Or.inl ⟨by rfl,?_⟩) ?_
    rotate_left
    ·(intro w;go_simp;try with_reducible rfl)
    rotate_right
    refine Ybx 5 (some 72) (v:=?_) rfl rfl (by kernel_rfl) (by kernel_rfl) (by kernel_rfl) (fun _ _ _ h=>h) (Or.inl ⟨by rfl,?_⟩) ?_
    rotate_left
    ·(intro w;go_simp;try with_reducible rfl)
    rotate_right
    refine Ybx 6 (some 73) (v:=.slice (some ⟨w.heap.size,0,none⟩) ch n) rfl rfl (by kernel_rfl) (by kernel_rfl) (by kernel_rfl) (fun _ _ _ h=>h) (Or.inl ⟨by rfl,?_⟩) ?_
    ·(intro w;go_simp;try with_reducible rfl)
    refine Yew 7 (by kernel_rfl) (by kernel_rfl) ?_
    go_wp2_with (at_builtin;refine Lib.wpList_copy_run _ rfl _ _ 22 22 rfl _ _ rfl rfl (hcp _) ?_)
    go_roundw
    case rel=>exact⟨m+d,by omega,by omega,by go_num,HBN.out,hbn⟩
    case measure=>simp[RowKit.intOf];omega
   ·obtain rfl:m=n:=by omega
    have t1:decide ((m:Int)<(m:Int))=false:=by simp
    go_wp2
    go_ret
    exact⟨_,rfl,⟨m,rfl,Nat.le_refl _,fun i hi=>⟨(HB.out i hi).2.2 hi,(HB.out i hi).2.1,hR.out⟩⟩,hb⟩
 case neg=>
  have tb:decide ((8192:Int)<(n:Int))=false:=by simp;omega
  go_enter Tryz.func75,Tryz.ntmps75
  go_wp2_with (first|(with_reducible refine(cm _).mono ?_;rintro e w1 ⟨rfl,rfl⟩)|(at_builtin;refine Lib.wpList_copy_run _ rfl _ _ 22 22 rfl _ _ rfl rfl (hr1 _) ?_))
  clear hr1 hcall i0 i1 tb
  go_loopw [10] (fun z wr=>∃m:Nat,1≤m∧m≤n∧z=.int .i64 m∧Hid (Yfe wr w.heap.size n m x)∧Below w.heap.size w wr) (fun z _=>n-(RowKit.intOf z).toNat)
  case atStart=>exact⟨1,by omega,h1,rfl,B1.out,hbe⟩
  case round=>
   clear B1 hbe;obtain⟨m,hm1,hmn,rfl,HB,hb⟩:=hrel;by_cases hlt:m<n
   ·have t1:decide ((m:Int)<(n:Int))=true:=by simp;omega
    obtain⟨ch,hch,hc1,hc2⟩:∃ch:Nat,min (m:Int) (n:Int)=(ch:Int)∧1≤ch∧ch≤m:=⟨min m n,by omega,by omega,by omega⟩;have hsl1:=fun W=>Yjr w.heap.size n m hlt W;have hsl2:=fun W=>Yjq w.heap.size n ch (by omega) (by omega) W;have HBd:Yfe wr.drew w.heap.size n m x:=HB.out;have hcp:=fun ty=>HBd.copy (ty:=ty) (cd:=n-m) Tryz.underlying22 Ykv hc2 hlt n;have hmo:=HBd.more (min ch (n-m)) (by omega)
    have hbn:Below w.heap.size w (wr.drew.setCells w.heap.size m (List.replicate (min ch (n-m)) (Value.int .u8 x))):=hb.drew.grown (Yb3 _ _ _ _) hb.size (fun k hk=>by injection hk with hk;omega);have hd:1≤min ch (n-m)∧m+min ch (n-m)≤n:=by omega
    generalize min ch (n-m)=d at hcp hmo hbn hd;generalize hwn:wr.drew.setCells w.heap.size m (List.replicate d (Value.int .u8 x))=wn at hcp hmo hbn;have HBN:=Lib.hid hmo;clear hwn hmo HBd
    go_wp2
    refine wp_region_any (by kernel_rfl) ?_;change wpAny _ _ _ _ _ _ _ (World.drew _);refine Ybx 0 (some 67) (v:=?_) rfl rfl (by kernel_rfl) (by kernel_rfl) (by kernel_rfl) (fun _ _ _ h=>h) (Or.inl ⟨by rfl,?_⟩) ?_
    rotate_left
    ·(intro w;go_simp;try with_reducible rfl)
    rotate_right
    refine Ybx 1 (some 68) (v:=?_) rfl rfl (by kernel_rfl) (by kernel_rfl) (by kernel_rfl) (fun _ _ _ h=>h) (Or.inl ⟨by rfl,?_⟩) ?_
    rotate_left
    ·(intro w;go_simp;try with_reducible rfl)
    rotate_right
    refine Ybx 2 (some 69) (v:=?_) rfl rfl (by kernel_rfl) (by kernel_rfl) (by kernel_rfl) (fun _ _ _ h=>h) (Or.inl ⟨by rfl,?_⟩) ?_
    rotate_left
    ·(intro w;go_simp;try with_reducible rfl)
    rotate_right
    refine Ybx 3 (some 70) (v:=.slice (some ⟨w.heap.size,m,none⟩) (n-m) (n-m)) rfl rfl (by kernel_rfl) (by kernel_rfl) (by kernel_rfl) (fun _ _ _ h=>h) (Or.inl ⟨by rfl,?_⟩) ?_
    ·(intro w;go_simp;try with_reducible rfl)
    refine Ybx 4 (some 71) (v:=?_) rfl rfl (by kernel_rfl) (by kernel_rfl) (by kernel_rfl) (fun _ _ _ h=>h) (Or.inl ⟨by rfl,?_⟩) ?_
    rotate_left
    ·(intro w;go_simp;try with_reducible rfl)
    rotate_right
    refine Ybx 5 (some 72) (v:=?_) rfl rfl (by kernel_rfl) (by kernel_rfl) (by kernel_rfl) (fun _ _ _ h=>h) (Or.inl ⟨by rfl,?_⟩) ?_
    rotate_left
    ·(intro w;go_simp;try with_reducible rfl)
    rotate_right
    refine Ybx 6 (some 73) (v:=.slice (some ⟨w.heap.size,0,none⟩) ch n) rfl rfl (by kernel_rfl) (by kernel_rfl) (by kernel_rfl) (fun _ _ _ h=>h) (Or.inl ⟨by rfl,?_⟩) ?_
    ·(intro w;go_simp;try with_reducible rfl)
    refine Yew 7 (by kernel_rfl) (by kernel_rfl) ?_
    go_wp2_with (at_builtin;refine Lib.wpList_copy_run _ rfl _ _ 22 22 rfl _ _ rfl rfl (hcp _) ?_)
    go_roundw
    case rel=>exact⟨m+d,by omega,by omega,by go_num,HBN.out,hbn⟩
    case measure=>simp[RowKit.intOf];omega
   ·obtain rfl:m=n:=by omega
    have t1:decide ((m:Int)<(m:Int))=false:=by simp
    go_wp2
    go_ret
    exact⟨_,rfl,⟨m,rfl,Nat.le_refl _,fun i hi=>⟨(HB.out i hi).2.2 hi,(HB.out i hi).2.1,hR.out⟩⟩,hb⟩
structure Yjy (w:World) (lo:Nat) (v:Nat→Value) (g n:Nat→Nat) (f:Nat→Nat→Int) (i:Nat):Prop where
 pl:∀p,p<i→Yc7 w (v p) (g p) (n p) (f p)
 from_:∀p,p<i→lo≤g p
 apart:∀p q,p<i→q<i→p≠q→g p≠g q
 rest:∀p,i≤p→v p=.slice none 0 0
theorem Yjy.none (w:World)(lo:Nat)(g n:Nat→Nat)(f:Nat→Nat→Int):Yjy w lo Ycc g n f 0:=⟨fun p hp=>by omega,fun p hp=>by omega,fun p q hp=>by omega,fun _ _=>rfl⟩
section
variable {w w':World}{lo:Nat}{v:Nat→Value}{g n:Nat→Nat}{f:Nat→Nat→Int}{i:Nat}
theorem Yjy.keep (h:Yjy w lo v g n f i)(hk:∀p,p<i→w'.heap[g p]? =w.heap[g p]?):Yjy w' lo v g n f i:=⟨fun p hp=>(h.pl p hp).keep (hk p hp),h.from_,h.apart,h.rest⟩
theorem Yjy.set (h:Yjy w lo v g n f i){a:Addr}(ha:a.block<lo)(x:Value):Yjy (w.setCell a x) lo v g n f i:=h.keep fun p hp=>heap_setCell_other w a (g p) x (by have:=h.from_ p hp;omega)
theorem Yjy.next (h:Yjy w lo v g n f i)(hn:∀p,0<n p)(hb:Below w.heap.size w w')(hlo:lo≤w.heap.size){x:Value}{R:Nat}(hx:Yc7 w' x R (n i) (f i))(hR:w.heap.size≤R):
  Yjy w' lo (Yx3 v i x) (fun q=>if q=i then R else g q) n f (i+1):=by
 have hlt:∀p,p<i→g p<w.heap.size:=fun p hp=>(h.pl p hp).lt (hn p);refine⟨fun p hp=>?_,fun p hp=>?_,fun p q hp hq hne=>?_,fun p hp=>?_⟩
 ·by_cases e:p=i
  ·subst e;rw[Yzh];simp only[if_true];exact hx
  ·rw[Yjn _ _ e];simp only[if_neg e];exact(h.pl p (by omega)).keep (hb.block _ (hlt p (by omega)))
 ·by_cases e:p=i
  ·simp only[if_pos e];omega
  ·simp only[if_neg e];exact h.from_ p (by omega)
 ·by_cases e:p=i
  ·have e2:¬ q=i:=fun e3=>hne (e.trans e3.symm);simp only[if_pos e,if_neg e2];have:=hlt q (by omega);omega
  ·by_cases e2:q=i
   ·simp only[if_neg e,if_pos e2];have:=hlt p (by omega);omega
   ·simp only[if_neg e,if_neg e2];exact h.apart p q (by omega) (by omega) hne
 ·rw[Yjn _ _ (by omega)];exact h.rest p (by omega)
theorem Yjy.all (h:Yjy w lo v g n f 3):Yb0 w lo v g n f:=⟨h.pl,h.from_,h.apart⟩
end
theorem Ybf:(Tryz.prog.info? 25).map (·.size)=some 4:=by kernel_rfl
theorem Yf9 (w:World):(zeroValue 25).run Tryz.prog w=.ok (.agg (frA 0 Ycc)) w:=by
 have h:(Tryz.prog.info? 25).map (fun i=>i.zero)=some (some (.agg (frA 0 Ycc))):=by kernel_rfl
 generalize frA 0 Ycc=Z at h ⊢;cases hq:Tryz.prog.info? 25 with
 |none=>simp[hq] at h
 |some i=>
  simp[hq] at h;simp[zeroValue,typeInfo,hq,h]
def Yva (k:Int)(f:Nat→Nat→Int)(w:World)(e:Ending)(w':World):Prop:=
 ∃v g,e=.returned (.tuple #[.agg (frA k v),.int .i64 0])∧Yb0 w' w.heap.size v g (siz k) f∧Below w.heap.size w w'
set_option maxRecDepth 1000000 in
set_option maxHeartbeats 8000000 in
theorem Ytr (k s:Int)(w:World)(hk:Ybr k=true):Calls Tryz.prog 51 #[.int .i64 k,.int .i64 s] w (Yva k (fun _ _=>Yay s 0 255) w):=by
 have c1:=fun w=>Yft k w;rw[hk] at c1;have c2:=fun w=>Ygk s w;have hr:0≤Yay s 0 255∧Yay s 0 255≤255:=⟨Ybw _ _ _,Ybv _ _ _ (by omega)⟩;have HN:=Lib.hid (fun p=>Yby hk p);generalize Yay s 0 255=y at *;obtain⟨B,wA,wB,hB,hwA,hwB,hzA,hzB,hC0,hC1,hbC⟩:=Ygs w (.cells (frA 0 Ycc) 25 (0,0)) (.cells (frA k Ycc) 25 (0,0));unfold frA frL Ycc at hwA hwB;have HWA:=Lib.hid hwA;have HWB:=Lib.hid hwB
 have HB:=Lib.hid hB;have HP0:=Lib.hid (Yjy.none wB (B+2) (fun _=>0) (siz k) (fun _ _=>y));have CS:=Lib.hid (fun p hp w=>Ydl k p hp w);have HM:=Lib.hid (fun p=>Yeu k p);clear hwA hwB hB hk hzA
 go_enter Tryz.func51,Tryz.ntmps51
 go_wp2_with (with_reducible refine(c1 _).mono ?_;rintro e w1 ⟨rfl,rfl⟩)
 rw[HWA.out,HB.out,HWB.out]
 go_loopw [14] (fun z wr=>∃i:Nat,i≤3∧z=.int .i64 i∧∃v g,wr.heap[B]? =some (frO 25 0 Ycc)∧wr.heap[B+1]? =some (frO 25 k v)∧Yjy wr (B+2) v g (siz k) (fun _ _=>y) i∧Below B w wr∧B+2≤wr.heap.size) (fun z _=>3-(RowKit.intOf z).toNat)
 case atStart=>exact⟨0,by omega,rfl,Ycc,fun _=>0,hC0,hC1,HP0.out,hbC,by omega⟩
 case round=>
  clear hC0 hC1 hbC hzB HP0;obtain⟨i,hi,rfl,v,g,h0,h1,hP,hb,hz⟩:=hrel;by_cases hlt:i<3
  ·have t0:decide ((i:Int)<3)=true:=by simp;omega
   have c3:=CS.out i hlt;have hn0:=HN.out i;have hnm:=HM.out i;have HPH:=Lib.hid hP;have H0:=Lib.hid h0;have H1:=Lib.hid h1;have HBB:=Lib.hid hb;clear h0 h1 hP hb;generalize hN:siz k i=N at c3 hn0 hnm;have HNN:=Lib.hid hN;clear hN
   go_wp2_with (first|(with_reducible refine(c2 _).mono ?_;rintro e w1 ⟨rfl,rfl⟩)|(with_reducible refine(c3 _).mono ?_;rintro e w1 ⟨rfl,rfl⟩))
   have hce:(wr.alloc (.cells #[.int .u8 y] 5 (0,0))).cell? ⟨wr.heap.size,0,none⟩=some (.int .u8 y):=cell_of_row _ _ 0 _ _ _ (heap_alloc_new wr _);have hba:Below wr.heap.size wr (wr.alloc (.cells #[.int .u8 y] 5 (0,0))):=(Below.refl _ wr).alloc (Nat.le_refl _) _;have hza:(wr.alloc (.cells #[.int .u8 y] 5 (0,0))).heap.size=wr.heap.size+1:=by simp
   refine(Yn0 wr.heap.size 1 N y _ hce hr hn0 (by omega)).mono ?_;rintro e w3 ⟨x,rfl,hx,hbx⟩;generalize wr.alloc (.cells #[.int .u8 y] 5 (0,0))=wx at hbx hx hba hza;obtain⟨cx,hxe⟩:∃c,x=.slice (some ⟨wx.heap.size,0,none⟩) N c:=by
    obtain⟨c,h,_⟩:=hx;exact⟨c,h⟩
   subst hxe;have hb3:Below wr.heap.size wr w3:=hba.trans (hbx.mono (by omega));have h03:=(hb3.block B (by omega)).trans H0.out;have h13:=(hb3.block (B+1) (by omega)).trans H1.out;have cc:=Yco h13 hlt;have ff:=Ysr h13 (1+i)
   have PUT:=Lib.hid (⟨Yx3 v i (.slice (some ⟨wx.heap.size,0,none⟩) N cx),_,Yba h03 (by simp),Yxz h13 hlt _,(HPH.out.next HN.out hb3 hz (by rw[HNN.out];exact hx) (by omega)).set (by simp) _,(HBB.out.trans (hb3.mono (by omega))).setCell (by simp) _,by have:=hb3.size;simp[World.setCell];omega⟩:∃v g,(w3.setCell ⟨B+1,1+i,none⟩ (.slice (some ⟨wx.heap.size,0,none⟩) N cx)).heap[B]? =some (frO 25 0 Ycc)∧(w3.setCell ⟨B+1,1+i,none⟩ (.slice (some ⟨wx.heap.size,0,none⟩) N cx)).heap[B+1]? =some (frO 25 k v)∧Yjy (w3.setCell ⟨B+1,1+i,none⟩ (.slice (some ⟨wx.heap.size,0,none⟩) N cx)) (B+2) v g (siz k) (fun _ _=>y) (i+1)∧Below B w (w3.setCell ⟨B+1,1+i,none⟩ (.slice (some ⟨wx.heap.size,0,none⟩) N cx))∧B+2≤(w3.setCell ⟨B+1,1+i,none⟩ (.slice (some ⟨wx.heap.size,0,none⟩) N cx)).heap.size)
   clear h03 h13 hb3 hbx hx hba hza hce
   go_wp2
   go_roundw
   case rel=>exact⟨i+1,by omega,by go_num,PUT.out⟩
   case measure=>simp[RowKit.intOf];omega
  ·obtain rfl:i=3:=by omega
   have t0:decide ((3:Int)<3)=false:=by simp
   have hA:=hP.all;have HSV:=Ya0 Ybf k v;have HOV:=Ycv k v hA.ones;have HYV:(frA 0 Ycc).size=(frA k v).size:=rfl;have h0':wr.heap[B]? =some (.cells (frA 0 Ycc) 25 (0,0)):=h0;have h1':wr.heap[B+1]? =some (.cells (frA k v) 25 (0,0)):=h1;have HA:=Lib.hid hA;clear h0 h1 hA hP;obtain⟨Z,hZ⟩:∃Z,frA k v=Z:=⟨_,rfl⟩;rw[hZ] at HSV HOV HYV h1';have HZ:=Lib.hid hZ;clear hZ;generalize frA 0 Ycc=Y at *
   go_wp2_with (first|(with_reducible refine wpList_load_row rfl 25 _ rfl (B+1) rfl 25 Z (0,0) _ h1' Tryz.underlying25 rfl HSV ?_)|(with_reducible refine Yad rfl 25 _ _ rfl B Z Y rfl rfl 25 h0' HSV HYV HOV ?_;intro w2 hh2 hg2))
   refine bodyPost_ret (Yak rfl _ _ B 25 _ (0,0) _ rfl hh2 Tryz.underlying25 rfl HSV) rfl ?_;refine⟨v,g,by rw[HZ.out];rfl,?_,?_⟩
   ·rw[HB.out];refine(HA.out.mono (by omega)).keep fun p hp=>hg2.block _ ((HA.out.pl p hp).lt (HN.out p)) ?_;have:=HA.out.from_ p hp;intro e;injection e with e;omega
   ·rw[HB.out];exact hb.grown hg2 (by omega) (fun k hk=>by injection hk with hk;omega)
def Yro (k:Int)(f:Nat→Nat→Int)(w:World)(e:Ending)(w':World):Prop:=
 ∃v g,e=.returned (.agg (frA k v))∧Yb0 w' w.heap.size v g (siz k) f∧Below w.heap.size w w'
end Go.Proofs.YtnamlooifcpoaaaGreatDoor