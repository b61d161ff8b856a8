/- No condition. -/
import Derived.Test.YtnamlooifcpoaaaGreatDoorScreensNextMv
import Derived.Test.YtnamlooifcpoaaaGreatDoorScreensNextMx
import Derived.Lib.SlBuf
import Derived.Laws.OwnMore
namespace Go.Proofs.YtnamlooifcpoaaaGreatDoor
open Go.RowKit Go.Lib
def Yg8 (w:World)(g n m:Nat)(x:Int):Prop:=∀i,i<n→(w.cell? ⟨g,i,none⟩).isSome=true∧w.frozen? ⟨g,i,none⟩=false∧(i<m→w.cell? ⟨g,i,none⟩=some (.int .u8 x))
theorem Yg8.start {w:World}{cs:Array Value}{e:TypeId}{n:Nat}(x:Int)(hn:n≤cs.size)(q:Nat):Yg8 ((w.alloc (.cells cs e)).drewN q) w.heap.size n 0 x:=by
 intro i hi;rw[World.cell?_drewN,World.cell?_alloc_mark,Array.getElem?_eq_getElem (by omega),World.frozen?_drewN,World.frozen?_alloc_mark w cs e 0 0 i];exact⟨rfl,by simp,fun h=>by omega⟩
theorem Yg8.more {w:World}{g n m:Nat}{x:Int}(h:Yg8 w g n m x)(d:Nat)(hd:m+d≤n):Yg8 (w.setCells g m (List.replicate d (Value.int .u8 x))) g n (m+d) x:=by
 have hl:(List.replicate d (Value.int .u8 x)).length=d:=List.length_replicate;intro i hi;obtain⟨h1,h2,h3⟩:=h i hi;rw[World.frozen?_setCells];by_cases e:m≤i∧i<m+d
 ·obtain⟨j,rfl⟩:∃j,i=m+j:=⟨i-m,by omega⟩;rw[World.cell?_setCells_in g _ m w (fun j hj=>by rw[hl] at hj;exact(h (m+j) (by omega)).1) j (by rw[hl];omega)];exact⟨rfl,h2,fun _=>by simp⟩
 ·rw[World.cell?_setCells_out g _ m w _ (fun _ _=>by rw[hl];show i<m∨m+d≤i;omega)];exact⟨h1,h2,fun hlt=>h3 (by omega)⟩
theorem Yg8.copy {w:World}{g n m c cd:Nat}{x:Int}{T e ty:TypeId}(h:Yg8 w g n m x)(hT:Tryz.prog.underlying T=some (.slice e))(hs:(Tryz.prog.info? e).map (·.size)=some 1)(hc:c≤m)(hm:m<n)(sc:Nat):
  (Builtin.copy_ #[T,T] ty #[.slice (some ⟨g,m,none⟩) (n-m) cd,.slice (some ⟨g,0,none⟩) c sc]).run Tryz.prog w=.ok (.int .i64 ((min c (n-m):Nat):Int)) (w.setCells g m (List.replicate (min c (n-m)) (Value.int .u8 x))):=by
 have hl:∀d,(List.replicate d (Value.int .u8 x)).length=d:=fun d=>List.length_replicate;have hr:=run_copy_cells (P:=Tryz.prog) w T T ty e g m (n-m) cd ⟨g,0,none⟩ c sc (List.replicate (min c (n-m)) (Value.int .u8 x)) hT hs (hl _)
  (fun j v hj=>by
   have hj2:=(List.getElem?_eq_some_iff.1 hj).1;rw[hl] at hj2;have e1:(⟨g,0,none⟩:Addr).add j=⟨g,j,none⟩:=by unfold Addr.add;split <;> simp_all
   rw[e1,(h j (by omega)).2.2 (by omega)]
   simpa [List.getElem?_replicate,hj2] using hj)
  (fun j hj=>by rw[hl] at hj;exact(h (m+j) (by omega)).1) (fun j hj=>by rw[hl] at hj;exact(h (m+j) (by omega)).2.1)
  (fun u hu=>by rw[List.eq_of_mem_replicate hu];rfl)
 rw[hl] at hr;exact hr
theorem Yg8.first {w:World}{g n b c:Nat}{x:Int}{T e ty:TypeId}(h:Yg8 w g n 0 x)(hT:Tryz.prog.underlying T=some (.slice e))(hs:(Tryz.prog.info? e).map (·.size)=some 1)(hn:1≤n)(hx:w.cell? ⟨b,0,none⟩=some (.int .u8 x))(cd:Nat):
  (Builtin.copy_ #[T,T] ty #[.slice (some ⟨g,0,none⟩) n cd,.slice (some ⟨b,0,none⟩) 1 c]).run Tryz.prog w=.ok (.int .i64 1) (w.setCells g 0 (List.replicate 1 (Value.int .u8 x))):=
 run_copy_cells (P:=Tryz.prog) w T T ty e g 0 n cd ⟨b,0,none⟩ 1 c (List.replicate 1 (Value.int .u8 x)) hT hs (Nat.min_eq_left hn).symm
  (fun j v hj=>by
   match j,hj with
   |0,hj=>cases hj;exact hx)
  (fun j hj=>(h (0+j) (by simp at hj;omega)).1) (fun j hj=>(h (0+j) (by simp at hj;omega)).2.1)
  (fun u hu=>by rw[List.eq_of_mem_replicate hu];rfl)
theorem Y1j:∀w,(Go.sizeOf 5).run Tryz.prog w=.ok 1 w:=fun w=>by
 have h:(Tryz.prog.info? 5).map (·.size)=some 1:=by kernel_rfl
 cases hq:Tryz.prog.info? 5 with
 |none=>simp[hq] at h
 |some i=>
  simp[hq] at h;simp[Go.sizeOf,typeInfo,hq,h]
theorem Ylt (g n m:Nat)(h:m<n)(W:World):(Instr.slice 22 (.slice (some ⟨g,0,none⟩) n n) (some (.int .i64 (m:Int))) none none).run Tryz.prog W=.ok (.slice (some ⟨g,m,none⟩) (n-m) (n-m)) W:=by
 have:=Lib.run_slice_tailV (P:=Tryz.prog) W 22 5 Tryz.underlying22 Y1j g n m (by omega);unfold Lib.tailV at this;rwa [if_neg (by omega)] at this
theorem Yls (g n m:Nat)(h:m≤n)(h0:1≤n)(W:World):(Instr.slice 22 (.slice (some ⟨g,0,none⟩) n n) none (some (.int .i64 (m:Int))) none).run Tryz.prog W=.ok (.slice (some ⟨g,0,none⟩) m n) W:=by
 have ht':Tryz.prog.underlying 22=some (.slice (Tryz.prog.elem 22)):=by simp[Program.elem,Tryz.underlying22]
 have he:Tryz.prog.elem 22=5:=by simp[Program.elem,Tryz.underlying22]
 rw[run_slice_h W 22 _ _ _ ht' .i64 _ (by omega) (by omega),he,Y1j];have hne:¬ n=0:=by omega
 simp[Result.andThen,sliced,hne,Addr.add]
theorem Ync:(Tryz.prog.info? 5).map (·.size)=some 1:=by kernel_rfl
set_option maxRecDepth 1000000 in
set_option maxHeartbeats 8000000 in
theorem Yqm (b c n:Nat)(x:Int)(w:World)(hx:w.cell? ⟨b,0,none⟩=some (.int .u8 x))(hr:0≤x∧x≤255)(h1:1≤n)(hn:n<1073741824):
  Calls Tryz.prog 75 #[.slice (some ⟨b,0,none⟩) 1 c,.int .i64 (n:Int)] w fun e w'=>∃v,e=.returned v∧Ydg w' v w.heap.size n (fun _=>x)∧Below w.heap.size w w':=by
 have cm:=fun w=>Yoq n (by omega) w;have t0:((n:Int)==0)=false:=by simp;omega
 obtain⟨cs,hrunM,hle,_⟩:=Lib.run_makeNoZero (P:=Tryz.prog) w #[3] 22 5 Tryz.underlying22 n (by omega);have hcall:(callFunc 101 #[.int .i64 (n:Int)]).run Tryz.prog w=.ok (.value (.slice (some ⟨w.heap.size,0,none⟩) n cs.size)) ((w.alloc (.cells cs 5)).drewN 2):=by
  rw[run_callFunc_extern Tryz.func101 (by kernel_rfl) (by kernel_rfl) (by kernel_rfl) (e:=Extern.BytealgMakeNoZero.makeNoZero #[3] #[22]) (by kernel_rfl),hrunM]
  rfl
 clear hrunM;have i0:(0:Int)≤(n:Int):=by omega
 have i1:(n:Int)≤(cs.size:Int):=by omega
 have B0:=Lib.hid (Yg8.start (w:=w) (e:=5) x hle 2);have hxx:((w.alloc (.cells cs 5)).drewN 2).cell? ⟨b,0,none⟩=some (.int .u8 x):=by
  rw[World.cell?_drewN];exact((((Below.refl w.heap.size w).alloc (Nat.le_refl _) (.cells cs 5)).cell (p:=⟨b,0,none⟩) (World.block_lt_of_cell? w ⟨b,0,none⟩ hx))).trans hx
 have hr1:=fun ty=>B0.out.first (ty:=ty) (c:=c) Tryz.underlying22 Ync h1 hxx n;have B1:=Lib.hid (B0.out.more 1 (by omega));have hbe:Below w.heap.size w (((w.alloc (.cells cs 5)).drewN 2).setCells w.heap.size 0 (List.replicate 1 (Value.int .u8 x))):=
  (show Below w.heap.size w ((w.alloc (.cells cs 5)).drewN 2) from⟨rfl,rfl,rfl,by simp,fun k hk=>heap_alloc_old w _ hk⟩).grown (Yc3 _ _ _ _) (by simp) (fun k hk=>by injection hk with hk;omega)
 have hR:=Lib.hid hr;generalize hw0:(w.alloc (.cells cs 5)).drewN 2=w0 at *;generalize hw1:w0.setCells w.heap.size 0 (List.replicate 1 (Value.int .u8 x))=w1 at *;clear hw0 hw1 B0 hxx hr hx;by_cases hbig:8192<n
 case pos=>
  have tb:decide ((8192:Int)<(n:Int))=true:=by simp;omega
  go_enter Tryz.func75,Tryz.ntmps75
  go_wp2_with (first|(with_reducible refine(cm _).mono ?_;rintro e w1 ⟨rfl,rfl⟩)|(at_builtin;refine Lib.wpList_copy_run _ rfl _ _ 22 22 rfl _ _ rfl rfl (hr1 _) ?_))
  clear hr1 hcall i0 i1 tb
  go_loopw [10] (fun z wr=>∃m:Nat,1≤m∧m≤n∧z=.int .i64 m∧Hid (Yg8 wr w.heap.size n m x)∧Below w.heap.size w wr) (fun z _=>n-(RowKit.intOf z).toNat)
  case atStart=>exact⟨1,by omega,h1,rfl,B1.out,hbe⟩
  case round=>
   clear B1 hbe;obtain⟨m,hm1,hmn,rfl,HB,hb⟩:=hrel;by_cases hlt:m<n
   ·have t1:decide ((m:Int)<(n:Int))=true:=by simp;omega
    obtain⟨ch,hch,hc1,hc2⟩:∃ch:Nat,min (m:Int) (8192:Int)=(ch:Int)∧1≤ch∧ch≤m:=⟨min m 8192,by omega,by omega,by omega⟩;have hsl1:=fun W=>Ylt w.heap.size n m hlt W;have hsl2:=fun W=>Yls w.heap.size n ch (by omega) (by omega) W;have HBd:Yg8 wr.drew w.heap.size n m x:=HB.out;have hcp:=fun ty=>HBd.copy (ty:=ty) (cd:=n-m) Tryz.underlying22 Ync hc2 hlt n;have hmo:=HBd.more (min ch (n-m)) (by omega)
    have hbn:Below w.heap.size w (wr.drew.setCells w.heap.size m (List.replicate (min ch (n-m)) (Value.int .u8 x))):=hb.drew.grown (Yc3 _ _ _ _) hb.size (fun k hk=>by injection hk with hk;omega);have hd:1≤min ch (n-m)∧m+min ch (n-m)≤n:=by omega
    generalize min ch (n-m)=d at hcp hmo hbn hd;generalize hwn:wr.drew.setCells w.heap.size m (List.replicate d (Value.int .u8 x))=wn at hcp hmo hbn;have HBN:=Lib.hid hmo;clear hwn hmo HBd
    go_wp2
    refine wp_region_any (by kernel_rfl) ?_;change wpAny _ _ _ _ _ _ _ (World.drew _);refine Yco 0 (some 67) (v:=?_) rfl rfl (by kernel_rfl) (by kernel_rfl) (by kernel_rfl) (fun _ _ _ h=>h) (Or.inl ⟨by rfl,?_⟩) ?_
    rotate_left
    ·(intro w;go_simp;try with_reducible rfl)
    rotate_right
    refine Yco 1 (some 68) (v:=?_) rfl rfl (by kernel_rfl) (by kernel_rfl) (by kernel_rfl) (fun _ _ _ h=>h) (Or.inl ⟨by rfl,?_⟩) ?_
    rotate_left
    ·(intro w;go_simp;try with_reducible rfl)
    rotate_right
    refine Yco 2 (some 69) (v:=?_) rfl rfl (by kernel_rfl) (by kernel_rfl) (by kernel_rfl) (fun _ _ _ h=>h) (Or.inl ⟨by rfl,?_⟩) ?_
    rotate_left
    ·(intro w;go_simp;try with_reducible rfl)
    rotate_right
    refine Yco 3 (some 70) (v:=.slice (some ⟨w.heap.size,m,none⟩) (n-m) (n-m)) rfl rfl (by kernel_rfl) (by kernel_rfl) (by kernel_rfl) (fun _ _ _ h=>h) (Or.inl ⟨by rfl,?_⟩) ?_
    ·(intro w;go_simp;try with_reducible rfl)
    refine Yco 4 (some 71) (v:=?_) rfl rfl (by kernel_rfl) (by kernel_rfl) (by kernel_rfl) (fun _ _ _ h=>h) (Or.inl ⟨by rfl,?_⟩) ?_
    rotate_left
    ·(intro w;go_simp;try with_reducible rfl)
    rotate_right
    refine Yco 5 (some 72) (v:=?_) rfl rfl (by kernel_rfl) (by kernel_rfl) (by kernel_rfl) (fun _ _ _ h=>h) (Or.inl ⟨by rfl,?_⟩) ?_
    rotate_left
    ·(intro w;go_simp;try with_reducible rfl)
    rotate_right
    refine Yco 6 (some 73) (v:=.slice (some ⟨w.heap.size,0,none⟩) ch n) rfl rfl (by kernel_rfl) (by kernel_rfl) (by kernel_rfl) (fun _ _ _ h=>h) (Or.inl ⟨by rfl,?_⟩) ?_
    ·(intro w;go_simp;try with_reducible rfl)
    refine Ygh 7 (by kernel_rfl) (by kernel_rfl) ?_
    go_wp2_with (at_builtin;refine Lib.wpList_copy_run _ rfl _ _ 22 22 rfl _ _ rfl rfl (hcp _) ?_)
    go_roundw
    case rel=>exact⟨m+d,by omega,by omega,by go_num,HBN.out,hbn⟩
    case measure=>simp[RowKit.intOf];omega
   ·obtain rfl:m=n:=by omega
    have t1:decide ((m:Int)<(m:Int))=false:=by simp
    go_wp2
    go_ret
    exact⟨_,rfl,⟨m,rfl,Nat.le_refl _,fun i hi=>⟨(HB.out i hi).2.2 hi,(HB.out i hi).2.1,hR.out⟩⟩,hb⟩
 case neg=>
  have tb:decide ((8192:Int)<(n:Int))=false:=by simp;omega
  go_enter Tryz.func75,Tryz.ntmps75
  go_wp2_with (first|(with_reducible refine(cm _).mono ?_;rintro e w1 ⟨rfl,rfl⟩)|(at_builtin;refine Lib.wpList_copy_run _ rfl _ _ 22 22 rfl _ _ rfl rfl (hr1 _) ?_))
  clear hr1 hcall i0 i1 tb
  go_loopw [10] (fun z wr=>∃m:Nat,1≤m∧m≤n∧z=.int .i64 m∧Hid (Yg8 wr w.heap.size n m x)∧Below w.heap.size w wr) (fun z _=>n-(RowKit.intOf z).toNat)
  case atStart=>exact⟨1,by omega,h1,rfl,B1.out,hbe⟩
  case round=>
   clear B1 hbe;obtain⟨m,hm1,hmn,rfl,HB,hb⟩:=hrel;by_cases hlt:m<n
   ·have t1:decide ((m:Int)<(n:Int))=true:=by simp;omega
    obtain⟨ch,hch,hc1,hc2⟩:∃ch:Nat,min (m:Int) (n:Int)=(ch:Int)∧1≤ch∧ch≤m:=⟨min m n,by omega,by omega,by omega⟩;have hsl1:=fun W=>Ylt w.heap.size n m hlt W;have hsl2:=fun W=>Yls w.heap.size n ch (by omega) (by omega) W;have HBd:Yg8 wr.drew w.heap.size n m x:=HB.out;have hcp:=fun ty=>HBd.copy (ty:=ty) (cd:=n-m) Tryz.underlying22 Ync hc2 hlt n;have hmo:=HBd.more (min ch (n-m)) (by omega)
    have hbn:Below w.heap.size w (wr.drew.setCells w.heap.size m (List.replicate (min ch (n-m)) (Value.int .u8 x))):=hb.drew.grown (Yc3 _ _ _ _) hb.size (fun k hk=>by injection hk with hk;omega);have hd:1≤min ch (n-m)∧m+min ch (n-m)≤n:=by omega
    generalize min ch (n-m)=d at hcp hmo hbn hd;generalize hwn:wr.drew.setCells w.heap.size m (List.replicate d (Value.int .u8 x))=wn at hcp hmo hbn;have HBN:=Lib.hid hmo;clear hwn hmo HBd
    go_wp2
    refine wp_region_any (by kernel_rfl) ?_;change wpAny _ _ _ _ _ _ _ (World.drew _);refine Yco 0 (some 67) (v:=?_) rfl rfl (by kernel_rfl) (by kernel_rfl) (by kernel_rfl) (fun _ _ _ h=>h) (Or.inl ⟨by rfl,?_⟩) ?_
    rotate_left
    ·(intro w;go_simp;try with_reducible rfl)
    rotate_right
    refine Yco 1 (some 68) (v:=?_) rfl rfl (by kernel_rfl) (by kernel_rfl) (by kernel_rfl) (fun _ _ _ h=>h) (Or.inl ⟨by rfl,?_⟩) ?_
    rotate_left
    ·(intro w;go_simp;try with_reducible rfl)
    rotate_right
    refine Yco 2 (some 69) (v:=?_) rfl rfl (by kernel_rfl) (by kernel_rfl) (by kernel_rfl) (fun _ _ _ h=>h) (Or.inl ⟨by rfl,?_⟩) ?_
    rotate_left
    ·(intro w;go_simp;try with_reducible rfl)
    rotate_right
    refine Yco 3 (some 70) (v:=.slice (some ⟨w.heap.size,m,none⟩) (n-m) (n-m)) rfl rfl (by kernel_rfl) (by kernel_rfl) (by kernel_rfl) (fun _ _ _ h=>h) (Or.inl ⟨by rfl,?_⟩) ?_
    ·(intro w;go_simp;try with_reducible rfl)
    refine Yco 4 (some 71) (v:=?_) rfl rfl (by kernel_rfl) (by kernel_rfl) (by kernel_rfl) (fun _ _ _ h=>h) (Or.inl ⟨by rfl,?_⟩) ?_
    rotate_left
    ·(intro w;go_simp;try with_reducible rfl)
    rotate_right
    refine Yco 5 (some 72) (v:=?_) rfl rfl (by kernel_rfl) (by kernel_rfl) (by kernel_rfl) (fun _ _ _ h=>h) (Or.inl ⟨by rfl,?_⟩) ?_
    rotate_left
    ·(intro w;go_simp;try with_reducible rfl)
    rotate_right
    refine Yco 6 (some 73) (v:=.slice (some ⟨w.heap.size,0,none⟩) ch n) rfl rfl (by kernel_rfl) (by kernel_rfl) (by kernel_rfl) (fun _ _ _ h=>h) (Or.inl ⟨by rfl,?_⟩) ?_
    ·(intro w;go_simp;try with_reducible rfl)
    refine Ygh 7 (by kernel_rfl) (by kernel_rfl) ?_
    go_wp2_with (at_builtin;refine Lib.wpList_copy_run _ rfl _ _ 22 22 rfl _ _ rfl rfl (hcp _) ?_)
    go_roundw
    case rel=>exact⟨m+d,by omega,by omega,by go_num,HBN.out,hbn⟩
    case measure=>simp[RowKit.intOf];omega
   ·obtain rfl:m=n:=by omega
    have t1:decide ((m:Int)<(m:Int))=false:=by simp
    go_wp2
    go_ret
    exact⟨_,rfl,⟨m,rfl,Nat.le_refl _,fun i hi=>⟨(HB.out i hi).2.2 hi,(HB.out i hi).2.1,hR.out⟩⟩,hb⟩
structure Ykh (w:World) (lo:Nat) (v:Nat→Value) (g n:Nat→Nat) (f:Nat→Nat→Int) (i:Nat):Prop where
 pl:∀p,p<i→Ydg w (v p) (g p) (n p) (f p)
 from_:∀p,p<i→lo≤g p
 apart:∀p q,p<i→q<i→p≠q→g p≠g q
 rest:∀p,i≤p→v p=.slice none 0 0
theorem Ykh.none (w:World)(lo:Nat)(g n:Nat→Nat)(f:Nat→Nat→Int):Ykh w lo Ycf g n f 0:=⟨fun p hp=>by omega,fun p hp=>by omega,fun p q hp=>by omega,fun _ _=>rfl⟩
section
variable {w w':World}{lo:Nat}{v:Nat→Value}{g n:Nat→Nat}{f:Nat→Nat→Int}{i:Nat}
theorem Ykh.keep (h:Ykh w lo v g n f i)(hk:∀p,p<i→w'.heap[g p]? =w.heap[g p]?):Ykh w' lo v g n f i:=⟨fun p hp=>(h.pl p hp).keep (hk p hp),h.from_,h.apart,h.rest⟩
theorem Ykh.set (h:Ykh w lo v g n f i){a:Addr}(ha:a.block<lo)(x:Value):Ykh (w.setCell a x) lo v g n f i:=h.keep fun p hp=>heap_setCell_other w a (g p) x (by have:=h.from_ p hp;omega)
theorem Ykh.next (h:Ykh w lo v g n f i)(hn:∀p,0<n p)(hb:Below w.heap.size w w')(hlo:lo≤w.heap.size){x:Value}{R:Nat}(hx:Ydg w' x R (n i) (f i))(hR:w.heap.size≤R):
  Ykh w' lo (Y0t v i x) (fun q=>if q=i then R else g q) n f (i+1):=by
 have hlt:∀p,p<i→g p<w.heap.size:=fun p hp=>(h.pl p hp).lt (hn p);refine⟨fun p hp=>?_,fun p hp=>?_,fun p q hp hq hne=>?_,fun p hp=>?_⟩
 ·by_cases e:p=i
  ·subst e;rw[Y2v];simp only[if_true];exact hx
  ·rw[Ylr _ _ e];simp only[if_neg e];exact(h.pl p (by omega)).keep (hb.block _ (hlt p (by omega)))
 ·by_cases e:p=i
  ·simp only[if_pos e];omega
  ·simp only[if_neg e];exact h.from_ p (by omega)
 ·by_cases e:p=i
  ·have e2:¬ q=i:=fun e3=>hne (e.trans e3.symm);simp only[if_pos e,if_neg e2];have:=hlt q (by omega);omega
  ·by_cases e2:q=i
   ·simp only[if_neg e,if_pos e2];have:=hlt p (by omega);omega
   ·simp only[if_neg e,if_neg e2];exact h.apart p q (by omega) (by omega) hne
 ·rw[Ylr _ _ (by omega)];exact h.rest p (by omega)
theorem Ykh.all (h:Ykh w lo v g n f 3):Ybu w lo v g n f:=⟨h.pl,h.from_,h.apart⟩
end
theorem Ybh:(Tryz.prog.info? 25).map (·.size)=some 4:=by kernel_rfl
theorem Yg1 (w:World):(zeroValue 25).run Tryz.prog w=.ok (.agg (frA 0 Ycf)) w:=by
 have h:(Tryz.prog.info? 25).map (fun i=>i.zero)=some (some (.agg (frA 0 Ycf))):=by kernel_rfl
 generalize frA 0 Ycf=Z at h ⊢;cases hq:Tryz.prog.info? 25 with
 |none=>simp[hq] at h
 |some i=>
  simp[hq] at h;simp[zeroValue,typeInfo,hq,h]
def Yyw (k:Int)(f:Nat→Nat→Int)(w:World)(e:Ending)(w':World):Prop:=
 ∃v g,e=.returned (.tuple #[.agg (frA k v),.int .i64 0])∧Ybu w' w.heap.size v g (siz k) f∧Below w.heap.size w w'
set_option maxRecDepth 1000000 in
set_option maxHeartbeats 8000000 in
theorem Yxj (k s:Int)(w:World)(hk:Yb6 k=true):Calls Tryz.prog 51 #[.int .i64 k,.int .i64 s] w (Yyw k (fun _ _=>Yax s 0 255) w):=by
 have c1:=fun w=>Yhl k w;rw[hk] at c1;have c2:=fun w=>Yie s w;have hr:0≤Yax s 0 255∧Yax s 0 255≤255:=⟨Ybl _ _ _,Ybk _ _ _ (by omega)⟩;have HN:=Lib.hid (fun p=>Yb4 hk p);generalize Yax s 0 255=y at *;obtain⟨B,wA,wB,hB,hwA,hwB,hzA,hzB,hC0,hC1,hbC⟩:=Yej w (.cells (frA 0 Ycf) 25 (0,0)) (.cells (frA k Ycf) 25 (0,0));unfold frA frL Ycf at hwA hwB;have HWA:=Lib.hid hwA;have HWB:=Lib.hid hwB
 have HB:=Lib.hid hB;have HP0:=Lib.hid (Ykh.none wB (B+2) (fun _=>0) (siz k) (fun _ _=>y));have CS:=Lib.hid (fun p hp w=>Yex k p hp w);have HM:=Lib.hid (fun p=>Ydx k p);clear hwA hwB hB hk hzA
 go_enter Tryz.func51,Tryz.ntmps51
 go_wp2_with (with_reducible refine(c1 _).mono ?_;rintro e w1 ⟨rfl,rfl⟩)
 rw[HWA.out,HB.out,HWB.out]
 go_loopw [14] (fun z wr=>∃i:Nat,i≤3∧z=.int .i64 i∧∃v g,wr.heap[B]? =some (frO 25 0 Ycf)∧wr.heap[B+1]? =some (frO 25 k v)∧Ykh wr (B+2) v g (siz k) (fun _ _=>y) i∧Below B w wr∧B+2≤wr.heap.size) (fun z _=>3-(RowKit.intOf z).toNat)
 case atStart=>exact⟨0,by omega,rfl,Ycf,fun _=>0,hC0,hC1,HP0.out,hbC,by omega⟩
 case round=>
  clear hC0 hC1 hbC hzB HP0;obtain⟨i,hi,rfl,v,g,h0,h1,hP,hb,hz⟩:=hrel;by_cases hlt:i<3
  ·have t0:decide ((i:Int)<3)=true:=by simp;omega
   have c3:=CS.out i hlt;have hn0:=HN.out i;have hnm:=HM.out i;have HPH:=Lib.hid hP;have H0:=Lib.hid h0;have H1:=Lib.hid h1;have HBB:=Lib.hid hb;clear h0 h1 hP hb;generalize hN:siz k i=N at c3 hn0 hnm;have HNN:=Lib.hid hN;clear hN
   go_wp2_with (first|(with_reducible refine(c2 _).mono ?_;rintro e w1 ⟨rfl,rfl⟩)|(with_reducible refine(c3 _).mono ?_;rintro e w1 ⟨rfl,rfl⟩))
   have hce:(wr.alloc (.cells #[.int .u8 y] 5 (0,0))).cell? ⟨wr.heap.size,0,none⟩=some (.int .u8 y):=cell_of_row _ _ 0 _ _ _ (heap_alloc_new wr _);have hba:Below wr.heap.size wr (wr.alloc (.cells #[.int .u8 y] 5 (0,0))):=(Below.refl _ wr).alloc (Nat.le_refl _) _;have hza:(wr.alloc (.cells #[.int .u8 y] 5 (0,0))).heap.size=wr.heap.size+1:=by simp
   refine(Yqm wr.heap.size 1 N y _ hce hr hn0 (by omega)).mono ?_;rintro e w3 ⟨x,rfl,hx,hbx⟩;generalize wr.alloc (.cells #[.int .u8 y] 5 (0,0))=wx at hbx hx hba hza;obtain⟨cx,hxe⟩:∃c,x=.slice (some ⟨wx.heap.size,0,none⟩) N c:=by
    obtain⟨c,h,_⟩:=hx;exact⟨c,h⟩
   subst hxe;have hb3:Below wr.heap.size wr w3:=hba.trans (hbx.mono (by omega));have h03:=(hb3.block B (by omega)).trans H0.out;have h13:=(hb3.block (B+1) (by omega)).trans H1.out;have cc:=Yce h13 hlt;have ff:=Yp3 h13 (1+i)
   have PUT:=Lib.hid (⟨Y0t v i (.slice (some ⟨wx.heap.size,0,none⟩) N cx),_,Yat h03 (by simp),Ywe h13 hlt _,(HPH.out.next HN.out hb3 hz (by rw[HNN.out];exact hx) (by omega)).set (by simp) _,(HBB.out.trans (hb3.mono (by omega))).setCell (by simp) _,by have:=hb3.size;simp[World.setCell];omega⟩:∃v g,(w3.setCell ⟨B+1,1+i,none⟩ (.slice (some ⟨wx.heap.size,0,none⟩) N cx)).heap[B]? =some (frO 25 0 Ycf)∧(w3.setCell ⟨B+1,1+i,none⟩ (.slice (some ⟨wx.heap.size,0,none⟩) N cx)).heap[B+1]? =some (frO 25 k v)∧Ykh (w3.setCell ⟨B+1,1+i,none⟩ (.slice (some ⟨wx.heap.size,0,none⟩) N cx)) (B+2) v g (siz k) (fun _ _=>y) (i+1)∧Below B w (w3.setCell ⟨B+1,1+i,none⟩ (.slice (some ⟨wx.heap.size,0,none⟩) N cx))∧B+2≤(w3.setCell ⟨B+1,1+i,none⟩ (.slice (some ⟨wx.heap.size,0,none⟩) N cx)).heap.size)
   clear h03 h13 hb3 hbx hx hba hza hce
   go_wp2
   go_roundw
   case rel=>exact⟨i+1,by omega,by go_num,PUT.out⟩
   case measure=>simp[RowKit.intOf];omega
  ·obtain rfl:i=3:=by omega
   have t0:decide ((3:Int)<3)=false:=by simp
   have hA:=hP.all;have HSV:=Ya1 Ybh k v;have HOV:=Ycx k v hA.ones;have HYV:(frA 0 Ycf).size=(frA k v).size:=rfl;have h0':wr.heap[B]? =some (.cells (frA 0 Ycf) 25 (0,0)):=h0;have h1':wr.heap[B+1]? =some (.cells (frA k v) 25 (0,0)):=h1;have HA:=Lib.hid hA;clear h0 h1 hA hP;obtain⟨Z,hZ⟩:∃Z,frA k v=Z:=⟨_,rfl⟩;rw[hZ] at HSV HOV HYV h1';have HZ:=Lib.hid hZ;clear hZ;generalize frA 0 Ycf=Y at *
   go_wp2_with (first|(with_reducible refine wpList_load_row rfl 25 _ rfl (B+1) rfl 25 Z (0,0) _ h1' Tryz.underlying25 rfl HSV ?_)|(with_reducible refine Yae rfl 25 _ _ rfl B Z Y rfl rfl 25 h0' HSV HYV HOV ?_;intro w2 hh2 hg2))
   refine bodyPost_ret (Yao rfl _ _ B 25 _ (0,0) _ rfl hh2 Tryz.underlying25 rfl HSV) rfl ?_;refine⟨v,g,by rw[HZ.out];rfl,?_,?_⟩
   ·rw[HB.out];refine(HA.out.mono (by omega)).keep fun p hp=>hg2.block _ ((HA.out.pl p hp).lt (HN.out p)) ?_;have:=HA.out.from_ p hp;intro e;injection e with e;omega
   ·rw[HB.out];exact hb.grown hg2 (by omega) (fun k hk=>by injection hk with hk;omega)
theorem Ytq (n:Nat)(w:World)(hn:n≤1073741824):∃w',(Instr.makeSlice 22 (.int .i64 (n:Int)) (.int .i64 (n:Int))).run Tryz.prog w=.ok (.slice (some ⟨w.heap.size,0,none⟩) n n) w'∧
  Ydg w' (.slice (some ⟨w.heap.size,0,none⟩) n n) w.heap.size n (fun _=>0)∧w.grownBy w' none:=by
 obtain⟨i,hi,hz,hs,hb⟩:=info_parts (show (Tryz.prog.info? 5).map (fun i=>(i.zero,i.size,i.bytes))=some (some (Value.int IntKind.u8 0),1,1) by kernel_rfl);obtain⟨w',h1,h2,h3⟩:=run_make_full (P:=Tryz.prog) w w.heap.size 22 5 i (.int .u8 0) 1 Tryz.underlying22 hi hz hs .i64 .i64 n (by rw[hb];omega) (by unfold maxLen;omega) (Nat.le_refl _);refine⟨w',h1,⟨n,rfl,Nat.le_refl _,fun j hj=>?_⟩,h3⟩
 rcases h2.2 with ⟨h4,_⟩|⟨g,cap,cur,h4,_,hh,_,_,_,ht⟩
 ·cases h4
 ·injection h4 with h4 _ h5;injection h4 with h4;injection h4 with h4;subst h4;rw[Nat.mul_one,show (Value.int IntKind.u8 0).cells=#[.int .u8 0] from rfl,toList_madeCells_one] at ht;refine⟨?_,frozen_of_row w' _ j _ _ hh,Int.le_refl 0,by show (0:Int)≤255;omega⟩;rw[cell_of_row w' _ j _ _ _ hh];have e:=congrArg (fun l=>l[j]?) ht
  simpa [List.getElem?_take,List.getElem?_replicate,hj] using e
def Yft (k:Int)(f:Nat→Nat→Int)(w:World)(e:Ending)(w':World):Prop:=
 ∃v g,e=.returned (.agg (frA k v))∧Ybu w' w.heap.size v g (siz k) f∧Below w.heap.size w w'
set_option maxRecDepth 1000000 in
set_option maxHeartbeats 8000000 in
theorem Yz4 (k s:Int)(w:World)(hk:Yb6 k=true):Calls Tryz.prog 21 #[.int .i64 k,.int .i64 s] w (Yft k (fun _ _=>Yax s 0 255) w):=by
 have c2:=fun w=>Ybm s 0 255 w;have hr:0≤Yax s 0 255∧Yax s 0 255≤255:=⟨Ybl _ _ _,Ybk _ _ _ (by omega)⟩;have hu:IntKind.u8.wrap (Yax s 0 255)=Yax s 0 255:=by rw[IntKind.wrap_u8];omega
 have HN:=Lib.hid (fun p=>Yb4 hk p);have HM:=Lib.hid (fun p=>Ydx k p);generalize Yax s 0 255=y at *;obtain⟨B,wA,wB,hB,hwA,hwB,hzA,hzB,hC0,hC1,hbC⟩:=Yej w (.cells (frA 0 Ycf) 25 (0,0)) (.cells (frA k Ycf) 25 (0,0));unfold frA frL Ycf at hwA hwB;have HWA:=Lib.hid hwA;have HWB:=Lib.hid hwB;have HB:=Lib.hid hB;have HP0:=Lib.hid (Ykh.none wB (B+2) (fun _=>0) (siz k) (fun _ _=>y))
 have CW:=Lib.hid (fun p hp w=>Yhu k p hp w);have CH:=Lib.hid (fun p hp w=>Yol k p hp w);clear hwA hwB hB hk hzA
 go_enter Tryz.func21,Tryz.ntmps21
 go_wp2
 rw[HWA.out,HB.out,HWB.out]
 go_loopw [6] (fun z wr=>∃i:Nat,i≤3∧z=.int .i64 i∧∃v g,wr.heap[B]? =some (frO 25 0 Ycf)∧wr.heap[B+1]? =some (frO 25 k v)∧Ykh wr (B+2) v g (siz k) (fun _ _=>y) i∧Below B w wr∧B+2≤wr.heap.size) (fun z _=>3-(RowKit.intOf z).toNat)
 case atStart=>exact⟨0,by omega,rfl,Ycf,fun _=>0,hC0,hC1,HP0.out,hbC,by omega⟩
 case round=>
  clear hC0 hC1 hbC hzB HP0;obtain⟨i,hi,rfl,v,g,h0,h1,hP,hb,hz⟩:=hrel;by_cases hlt:i<3
  ·have t0:decide ((i:Int)<3)=true:=by simp;omega
   have c3:=CW.out i hlt;have c4:=CH.out i hlt;have hn0:=HN.out i;have hnm:=HM.out i;have HPH:=Lib.hid hP;have H0:=Lib.hid h0;have H1:=Lib.hid h1;have HBB:=Lib.hid hb;clear h0 h1 hP hb;have hs:(wid k i:Int)*(hei k i:Int)=(siz k i:Int):=(Int.natCast_mul _ _).symm;generalize hN:siz k i=N at hn0 hnm hs;have HNN:=Lib.hid hN;clear hN;generalize wid k i=W at *;generalize hei k i=H at *
   go_wp2_with fail
   refine(c3 _).mono ?_;rintro e x1 ⟨rfl,hb1⟩
   go_wp2_with fail
   refine(c4 _).mono ?_;rintro e x2 ⟨rfl,hb2⟩;generalize wr=wo at *;obtain⟨x3,hmk,hown,hg3⟩:=Ytq N x2 (by omega);have hb3:Below wo.heap.size wo x3:=hb1.trans ((hb2.mono hb1.size).trans ((Below.refl _ x2).grown hg3 (by have:=hb1.size;have:=hb2.size;omega) (by intro k hk;cases hk)));have hR2:wo.heap.size≤x2.heap.size:=by have:=hb1.size;have:=hb2.size;omega
   have hR3:=hown.lt hn0;generalize x2.heap.size=R at hmk hown hR2 hR3;clear hb1 hb2 hg3;have HO:=Lib.hid hown;have HB3:=Lib.hid hb3
   go_wp2
   go_loopw [8] (fun z wr=>∃j:Nat,j≤N∧z=.int .i64 j∧Hid (Ydg wr (.slice (some ⟨R,0,none⟩) N N) R N (fun t=>if t<j then y else 0))∧x3.grownBy wr (some R)) (fun z _=>N-(RowKit.intOf z).toNat)
   case atStart=>exact⟨0,by omega,rfl,HO.out.congr (fun i _=>by rw[if_neg (by omega)]),⟨rfl,rfl,rfl,Nat.le_refl _,fun _ _ _=>rfl⟩⟩
   case round=>
    clear hown hmk hb3;obtain⟨j,hj,rfl,HO2,hg⟩:=hrel;have HG:=Lib.hid hg;clear hg;by_cases hlj:j<N
    ·have t1:decide ((j:Int)<(N:Int))=true:=by simp;omega
     obtain⟨ox,e0,-,e2⟩:=HO2.out;obtain⟨c0,f0,-⟩:=e2 j hlj;have PUT:=Lib.hid ((HO2.out.set j y hr hlj).congr (f':=fun t=>if t<j+1 then y else 0) (fun t _=>by
      show (if t=j then y else if t<j then y else 0)=_;by_cases e:t=j
      ·rw[if_pos e,if_pos (by omega)]
      ·rw[if_neg e];by_cases e3:t<j
       ·rw[if_pos e3,if_pos (by omega)]
       ·rw[if_neg e3,if_neg (by omega)]))
     have PG:=Lib.hid (Yal HG.out (Ya8 wr ⟨R,j,none⟩ (.int .u8 y)));clear e0 e2 hR2 hR3
     go_wp2_with (with_reducible refine(c2 _).mono ?_;rintro e w1 ⟨rfl,rfl⟩)
     go_roundw
     case rel=>exact⟨j+1,by omega,by go_num,PUT.out,PG.out⟩
     case measure=>simp[RowKit.intOf];omega
    ·obtain rfl:j=N:=by omega
     have t1:decide ((j:Int)<(j:Int))=false:=by simp
     have hbq:Below wo.heap.size wo wr:=HB3.out.grown HG.out HB3.out.size (fun k hk=>by injection hk with hk;omega);have hx:Ydg wr (.slice (some ⟨R,0,none⟩) j j) R j (fun _=>y):=HO2.out.congr (fun t ht=>by rw[if_pos ht]);have h03:=(hbq.block B (by omega)).trans H0.out;have h13:=(hbq.block (B+1) (by omega)).trans H1.out;have cc:=Yce h13 hlt;have ff:=Yp3 h13 (1+i)
     have PUT:=Lib.hid (⟨Y0t v i (.slice (some ⟨R,0,none⟩) j j),_,Yat h03 (by simp),Ywe h13 hlt _,(HPH.out.next HN.out hbq hz (by rw[HNN.out];exact hx) hR2).set (by simp) _,(HBB.out.trans (hbq.mono (by omega))).setCell (by simp) _,by have:=hbq.size;simp[World.setCell];omega⟩:∃v g,(wr.setCell ⟨B+1,1+i,none⟩ (.slice (some ⟨R,0,none⟩) j j)).heap[B]? =some (frO 25 0 Ycf)∧(wr.setCell ⟨B+1,1+i,none⟩ (.slice (some ⟨R,0,none⟩) j j)).heap[B+1]? =some (frO 25 k v)∧Ykh (wr.setCell ⟨B+1,1+i,none⟩ (.slice (some ⟨R,0,none⟩) j j)) (B+2) v g (siz k) (fun _ _=>y) (i+1)∧Below B w (wr.setCell ⟨B+1,1+i,none⟩ (.slice (some ⟨R,0,none⟩) j j))∧B+2≤(wr.setCell ⟨B+1,1+i,none⟩ (.slice (some ⟨R,0,none⟩) j j)).heap.size)
     clear h03 h13 hbq hx hR2 hR3
     go_wp2
     go_roundw
     case rel=>exact⟨i+1,by omega,by go_num,PUT.out⟩
     case measure=>simp[RowKit.intOf];omega
  ·obtain rfl:i=3:=by omega
   have t0:decide ((3:Int)<3)=false:=by simp
   have hA:=hP.all;have HSV:=Ya1 Ybh k v;have HOV:=Ycx k v hA.ones;have HYV:(frA 0 Ycf).size=(frA k v).size:=rfl;have h0':wr.heap[B]? =some (.cells (frA 0 Ycf) 25 (0,0)):=h0;have h1':wr.heap[B+1]? =some (.cells (frA k v) 25 (0,0)):=h1;have HA:=Lib.hid hA;clear h0 h1 hA hP;obtain⟨Z,hZ⟩:∃Z,frA k v=Z:=⟨_,rfl⟩;rw[hZ] at HSV HOV HYV h1';have HZ:=Lib.hid hZ;clear hZ;generalize frA 0 Ycf=Y at *
   go_wp2_with (first|(with_reducible refine wpList_load_row rfl 25 _ rfl (B+1) rfl 25 Z (0,0) _ h1' Tryz.underlying25 rfl HSV ?_)|(with_reducible refine Yae rfl 25 _ _ rfl B Z Y rfl rfl 25 h0' HSV HYV HOV ?_;intro w2 hh2 hg2))
   refine bodyPost_ret (results_cell_row rfl _ _ B 25 _ (0,0) _ rfl hh2 Tryz.underlying25 rfl HSV) rfl ?_;refine⟨v,g,by rw[HZ.out],?_,?_⟩
   ·rw[HB.out];refine(HA.out.mono (by omega)).keep fun p hp=>hg2.block _ ((HA.out.pl p hp).lt (HN.out p)) ?_;have:=HA.out.from_ p hp;intro e;injection e with e;omega
   ·rw[HB.out];exact hb.grown hg2 (by omega) (fun k hk=>by injection hk with hk;omega)
end Go.Proofs.YtnamlooifcpoaaaGreatDoor