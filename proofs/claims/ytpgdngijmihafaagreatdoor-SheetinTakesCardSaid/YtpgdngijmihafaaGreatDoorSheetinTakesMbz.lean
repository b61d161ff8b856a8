/- Texts that SheetinTakes's proof stands on, part 52 of 52. No condition of its own. -/
import Derived.Test.YtpgdngijmihafaaGreatDoorSheetinTakesMp
import Derived.Test.YtpgdngijmihafaaGreatDoorSheetinTakesMbd
import Derived.Test.YtpgdngijmihafaaGreatDoorSheetinTakesMbt
import Derived.Deep.CutRange
import Derived.Deep.DeepCutAuto
namespace Go.Proofs.YtpgdngijmihafaaGreatDoor
open Go.RowKit Go.Lib
def Qa6 (N:Nat) (w0:World) (xs ys:List Value) (v u:Value) (w:World):Prop:=∃X X':Nat,v = .pointer (some ⟨X,0,none⟩)∧u = .pointer (some ⟨X',0,none⟩)∧w.heap[X]? = some (.cells xs.toArray 44 (0,0))∧w.heap[X']? = some (.cells ys.toArray 44 (0,0))∧Below N w0 w
theorem Yl1 {w w0:World} {N X X':Nat} {T:TypeId} {Y Z:Array Value} {o:Obj} (h:w.heap[X]? = some (.cells Y T (0,0))) (h':w.heap[X']? = some o) (hne:X'≠X) (hb:Below N w0 w) (hX:N≤X) (hN:N≤w.heap.size):
  ∃w',w.setRow X Z=w'∧w'.heap[X]? = some (.cells Z T (0,0))∧w'.heap[X']? = some o∧Below N w0 w':=by
 have hg:w.grownBy (w.setRow X Z) (some X):=⟨rfl,rfl,rfl,by simp,fun k _ hk=> setRow_other _ _ _ _ (by intro e;exact hk (by rw [e]))⟩
 exact ⟨_,rfl,setRow_heap _ _ _ _ _ _ h,(setRow_other _ _ _ _ hne).trans h',hb.grown hg hN (fun k hk=> by injection hk with hk;omega)⟩
set_option maxRecDepth 100000 in
set_option maxHeartbeats 4000000 in
theorem Yvb (S S':ShP) (p b p' b':Option Addr) (ca cb ca' cb':Nat) (w:World) (hl:S.hd.supp.length≤maxLen) (hn:S.rows.length≤maxLen) (hs:Ycf w p S.hd.supp) (hs':Ycf w p' S'.hd.supp) (hr:Yh9 w b S.rows) (hr':Yh9 w b' S'.rows)
  (hc:∀c∈Yzh S,∀k,k<6→(c.ev k).length≤1048576) (hc':∀c∈Yzh S',∀k,k<6→(c.ev k).length≤1048576):
  Calls Tryz.prog 11 #[.agg (Ya8 S.hd (.slice p S.hd.supp.length ca) (.slice b S.rows.length cb) S.zeros).toArray,.agg (Ya8 S'.hd (.slice p' S'.hd.supp.length ca') (.slice b' S'.rows.length cb') S'.zeros).toArray] w fun e w'=> e = .returned (.bool (shB S S'))∧Below w.heap.size w w':=by
 have hcR:∀r∈S.rows,∀c∈r.cels,∀k,k<6→(c.ev k).length≤1048576:=fun r h c h2=> hc c (List.mem_flatMap.2 ⟨r,h,h2⟩)
 have hcR':∀r∈S'.rows,∀c∈r.cels,∀k,k<6→(c.ev k).length≤1048576:=fun r h c h2=> hc' c (List.mem_flatMap.2 ⟨r,h,h2⟩)
 have hD:=fun x (hx:Below w.heap.size w x)=> Yvf S.hd S'.hd p p' ca ca' (.slice b S.rows.length cb) (.slice b' S'.rows.length cb') S.zeros S'.zeros hl x (hs.below hx) (hs'.below hx)
 unfold maxLen at hn
 obtain ⟨zs,hZ⟩:∃zs,Ya8 S.hd (.slice p S.hd.supp.length ca) (.slice b S.rows.length cb) S.zeros=zs:=⟨_,rfl⟩
 obtain ⟨ys,hY⟩:∃ys,Ya8 S'.hd (.slice p' S'.hd.supp.length ca') (.slice b' S'.rows.length cb') S'.zeros=ys:=⟨_,rfl⟩
 have z6:zs[6]? = some (.slice b S.rows.length cb):=by rw [←hZ];rfl
 have z7:zs[7]? = some (.int .i64 S.zeros):=by rw [←hZ];rfl
 have y6:ys[6]? = some (.slice b' S'.rows.length cb'):=by rw [←hY];rfl
 have y7:ys[7]? = some (.int .i64 S'.zeros):=by rw [←hY];rfl
 have HSZ:(Tryz.prog.info? 30).map (·.size)=some zs.toArray.size:=by rw [show zs.toArray.size=8 by rw [←hZ];rfl];kernel_rfl
 have HSY:(Tryz.prog.info? 30).map (·.size)=some ys.toArray.size:=by rw [show ys.toArray.size=8 by rw [←hY];rfl];kernel_rfl
 rw [hZ,hY]
 simp only [hZ,hY] at hD
 obtain ⟨A,wA,wB,hA,hwA,hwB,hsA,hsB,hhA,hhB,hbB⟩:=Y28 w (.cells zs.toArray 30 (0,0)) (.cells ys.toArray 30 (0,0))
 have W0:∀x,Below (A+2) wB x→Below w.heap.size w x:=fun x hx=> by rw [hA];exact hbB.trans (hx.mono (by omega))
 have KK:∀(x y:World),Below (A+2) wB x→Below x.heap.size x y→Below (A+2) wB y:=fun x y hx hy=> hx.trans (hy.mono (by have:=hx.size;omega))
 have CL:Hid (∀x,Below (A+2) wB x→(x.cell? ⟨A,6,none⟩=some (.slice b S.rows.length cb)∧x.cell? ⟨A,7,none⟩=some (.int .i64 S.zeros)∧x.cell? ⟨A+1,6,none⟩=some (.slice b' S'.rows.length cb')∧x.cell? ⟨A+1,7,none⟩=some (.int .i64 S'.zeros))∧Below w.heap.size w x):=Lib.hid fun x hx=> by
  have h1:=(hx.block A (by omega)).trans hhA
  have h2:=(hx.block (A+1) (by omega)).trans hhB
  exact ⟨⟨Yaa h1 z6,Yaa h1 z7,Yaa h2 y6,Yaa h2 y7⟩,W0 x hx⟩
 have C1:=Lib.hid (fun (x:World) (hx:Below (A+2) wB x)=> ((hD x (W0 x hx)).mono fun e y h=> ⟨h.1,KK x y hx h.2⟩:Calls Tryz.prog 26 #[.agg zs.toArray,.agg ys.toArray] x fun e y=> e = .returned (.bool (Y7w S.hd S'.hd))∧Below (A+2) wB y))
 obtain ⟨R,hR⟩:∃r,shB S S'=r:=⟨_,rfl⟩
 have hsh:R=(Y7w S.hd S'.hd&&(S.zeros==S'.zeros&&(decide (S.rows.length=S'.rows.length)&&(S.rows.zip S'.rows).all fun p=> rwB p.1 p.2))):=hR.symm
 rw [hR]
 have HP:=Lib.hid hr
 have HQ:=Lib.hid hr'
 have HCL:=Lib.hid hcR
 have HCM:=Lib.hid hcR'
 generalize Y7w S.hd S'.hd=sd at *
 generalize S.zeros=z at *
 generalize S'.zeros=z' at *
 clear hc hc' hZ hY
 generalize S.rows=l at *
 generalize S'.rows=m at *
 have HKK:=Lib.hid KK
 have HWA:=Lib.hid hwA
 have HWB:=Lib.hid hwB
 have HA:=Lib.hid hA
 have HSA:=Lib.hid hsA
 have HSB:=Lib.hid hsB
 have hS0:Below (A+2) wB wB:=Below.refl _ _
 obtain ⟨⟨k6,k7,q6,q7⟩,hE0⟩:=CL.out _ hS0
 clear hwA hwB hA hsA hsB hbB W0 KK z6 z7 y6 y7 hs hs' hr hr' hcR hcR' hD hR hl
 go_enter Tryz.func11,Tryz.ntmps11
 go_wp2_with (first | (rw [HWA.out,HA.out,HWB.out];with_reducible refine wpList_load_row rfl 30 _ rfl A rfl 30 zs.toArray (0,0) _ hhA Tryz.underlying30 rfl HSZ ?_) | (with_reducible refine wpList_load_row rfl 30 _ rfl (A+1) rfl 30 ys.toArray (0,0) _ hhB Tryz.underlying30 rfl HSY ?_))
 refine (C1.out _ hS0).mono ?_
 rintro e w1 ⟨rfl,hx1⟩
 clear k6 k7 q6 q7 hE0 hhA hhB
 obtain ⟨⟨k6,k7,q6,q7⟩,hE1⟩:=CL.out _ hx1
 cases sd with
 | false=>
  have F:=Lib.hid (show R=false from hsh)
  go_wp2
  go_ret
  exact ⟨by rw [F.out];rfl,hE1⟩
 | true=>
 by_cases ez:z=z'
 case neg=>
  have t1:(z != z')=true:=by rw [bne_iff_ne];exact ez
  have F:=Lib.hid (show R=false by rw [hsh,beq_eq_false_iff_ne.2 ez];rfl)
  clear hsh ez
  go_wp2
  go_ret
  exact ⟨by rw [F.out];rfl,hE1⟩
 subst ez
 have t1:(z != z)=false:=by simp
 by_cases el:l.length=m.length
 case neg=>
  have t2:((l.length:Int) != (m.length:Int))=true:=by rw [bne_iff_ne];omega
  have F:=Lib.hid (show R=false by rw [hsh,decide_eq_false el];simp)
  clear hsh el
  go_wp2
  go_ret
  exact ⟨by rw [F.out];rfl,hE1⟩
 have t2:((l.length:Int) != (m.length:Int))=false:=by rw [el];simp
 have HR:=Lib.hid (show R=(l.zip m).all (fun p=> rwB p.1 p.2) by rw [hsh,decide_eq_true el];simp)
 have HL:=Lib.hid el
 clear hsh el
 obtain ⟨n,hln⟩:∃n,l.length=n:=⟨_,rfl⟩
 obtain ⟨n',hmn⟩:∃n,m.length=n:=⟨_,rfl⟩
 rw [hln] at hn CL k6 t2
 rw [hmn] at CL q6 t2
 have HN:=Lib.hid hln
 have HM:=Lib.hid hmn
 clear hln hmn
 go_wp2
 clear t1 t2 k6 k7 q6 q7 hE1
 go_loopw [5] (fun z wr=>∃i:Nat,i≤n∧z = .int .i64 (i:Int)∧Hid ((((l.take i).zip (m.take i)).all fun p=> rwB p.1 p.2)=true)∧Below (A+2) wB wr) (fun z _=> n-(intOf z).toNat)
 case atStart=> exact ⟨0,Nat.zero_le _,rfl,Lib.hid rfl,hx1⟩
 case round=>
  clear hx1
  obtain ⟨i,hi,rfl,ha,hb⟩:=hrel
  obtain ⟨⟨k6,-,q6,-⟩,hE⟩:=CL.out _ hb
  by_cases hlt:i<n
  ·have t0:decide ((i:Int)<(n:Int))=true:=by simp;omega
   have hil:i<l.length:=by rw [HN.out];exact hlt
   have him:i<m.length:=by rw [←HL.out];exact hil
   have him':i<n':=by rw [←HM.out];exact him
   obtain ⟨b1,o1,rfl,hb1,hcb1⟩:=Y4a HP.out (by omega)
   obtain ⟨rx,kx,hqx,hmx,hcelx,hatx⟩:=hcb1 i hil
   obtain ⟨xs,hxs⟩:∃rs,[Value.bool l[i].head,.int .i64 l[i].id,.int .i64 l[i].quant,.slice rx l[i].cels.length kx]=rs:=⟨_,rfl⟩
   have hxl:xs.length=4:=by rw [←hxs];rfl
   have hxo:xs.toArray.all (·.oneCell')=true:=by rw [←hxs];simp [Value.oneCell']
   have hx0:xs[0]? = some (.bool l[i].head):=by rw [←hxs];rfl
   have hx1:xs[1]? = some (.int .i64 l[i].id):=by rw [←hxs];rfl
   have hx2:xs[2]? = some (.int .i64 l[i].quant):=by rw [←hxs];rfl
   have hx3:xs[3]? = some (.slice rx l[i].cels.length kx):=by rw [←hxs];rfl
   have hxc:∀x,Below w.heap.size w x→x.rangeAt b1 (o1+i*4) xs:=fun x hx k v hk=> by
    obtain ⟨a0,a1,a2,a3⟩:=hatx x hx
    rw [←hxs] at hk
    match k,hk with
    | 0,hk=> injection hk with hk;subst hk;exact a0
    | 1,hk=> injection hk with hk;subst hk;exact a1
    | 2,hk=> injection hk with hk;subst hk;exact a2
    | 3,hk=> injection hk with hk;subst hk;exact a3
   have hxn:=HCL.out l[i] (List.getElem_mem hil)
   clear hcb1 hatx hxs
   obtain ⟨b2,o2,rfl,hb2,hcb2⟩:=Y4a HQ.out (by omega)
   obtain ⟨ry,ky,hqy,hmy,hcely,haty⟩:=hcb2 i him
   obtain ⟨us,hus⟩:∃rs,[Value.bool m[i].head,.int .i64 m[i].id,.int .i64 m[i].quant,.slice ry m[i].cels.length ky]=rs:=⟨_,rfl⟩
   have hyl:us.length=4:=by rw [←hus];rfl
   have hyo:us.toArray.all (·.oneCell')=true:=by rw [←hus];simp [Value.oneCell']
   have hy0:us[0]? = some (.bool m[i].head):=by rw [←hus];rfl
   have hy1:us[1]? = some (.int .i64 m[i].id):=by rw [←hus];rfl
   have hy2:us[2]? = some (.int .i64 m[i].quant):=by rw [←hus];rfl
   have hy3:us[3]? = some (.slice ry m[i].cels.length ky):=by rw [←hus];rfl
   have hyc:∀x,Below w.heap.size w x→x.rangeAt b2 (o2+i*4) us:=fun x hx k v hk=> by
    obtain ⟨a0,a1,a2,a3⟩:=haty x hx
    rw [←hus] at hk
    match k,hk with
    | 0,hk=> injection hk with hk;subst hk;exact a0
    | 1,hk=> injection hk with hk;subst hk;exact a1
    | 2,hk=> injection hk with hk;subst hk;exact a2
    | 3,hk=> injection hk with hk;subst hk;exact a3
   have hyn:=HCM.out m[i] (List.getElem_mem him)
   clear hcb2 haty hus
   have NX:=Lib.hid (fun h=> Yxu (f:=rwB) hil him ha.out h)
   have NF:=Lib.hid (fun h=> Yx0 (f:=rwB) hil him h)
   have HSX:(Tryz.prog.info? 44).map (·.size)=some xs.length:=by rw [hxl];kernel_rfl
   have HSU:(Tryz.prog.info? 44).map (·.size)=some us.length:=by rw [hyl];kernel_rfl
   obtain ⟨Y,HYS,hzv⟩:=Y4u
   generalize hga:l[i]=ra at *
   generalize hgb:m[i]=rb at *
   clear hga hgb
   go_upto_region 6 with fail
   go_cut [6,7] from 36 to 45 (fun v u wx=> Qa6 (A+2) wB xs us v u wx)
   case first=>
    obtain ⟨D,hD⟩:∃D,wr.heap.size=D:=⟨_,rfl⟩
    have HD:=Lib.hid hD
    clear hD
    have HSXA:(Tryz.prog.info? 44).map (·.size)=some xs.toArray.size:=HSX
    have HSUA:(Tryz.prog.info? 44).map (·.size)=some us.toArray.size:=HSU
    have HYX:Y.size=xs.toArray.size:=by rw [HYS];exact hxl.symm
    have HYU:Y.size=us.toArray.size:=by rw [HYS];exact hyl.symm
    refine wp_region_held_drew (S:=fun x=> Below (A+2) wB x) (by kernel_rfl) hb.drew (fun hH=> ?_)
    refine Yab 0 (some 36) (v:=?_) rfl rfl (by kernel_rfl) (by kernel_rfl) (by kernel_rfl) (fun _ _ _ h=> h) hH (Or.inl ⟨by kernel_rfl,?_⟩) ?_
    rotate_left
    ·(intro x _;go_simp;try with_reducible rfl)
    rotate_right
    try simp only [Act.put,List.setIfInBounds_toArray,List.set_cons_zero,List.set_cons_succ]
    refine Yab 1 (some 37) (v:=.slice (some ⟨b1,o1,none⟩) n cb) rfl rfl (by kernel_rfl) (by kernel_rfl) (by kernel_rfl) (fun _ _ _ h=> h) hH (Or.inl ⟨by kernel_rfl,?_⟩) ?_
    ·(intro x hx;have c0:=(CL.out x hx).1.1;go_simp)
    try simp only [Act.put,List.setIfInBounds_toArray,List.set_cons_zero,List.set_cons_succ]
    refine Yab 2 (some 38) (v:=?_) rfl rfl (by kernel_rfl) (by kernel_rfl) (by kernel_rfl) (fun _ _ _ h=> h) hH (Or.inl ⟨by kernel_rfl,?_⟩) ?_
    rotate_left
    ·(intro x _;go_simp;try with_reducible rfl)
    rotate_right
    try simp only [Act.put,List.setIfInBounds_toArray,List.set_cons_zero,List.set_cons_succ]
    refine Yab 3 (some 39) (v:=?_) rfl rfl (by kernel_rfl) (by kernel_rfl) (by kernel_rfl) (fun _ _ _ h=> h) hH (Or.inl ⟨by kernel_rfl,?_⟩) ?_
    rotate_left
    ·(intro x _;go_simp;try with_reducible rfl)
    rotate_right
    try simp only [Act.put,List.setIfInBounds_toArray,List.set_cons_zero,List.set_cons_succ]
    refine Yab 4 (some 40) (v:=.agg xs.toArray) rfl rfl (by kernel_rfl) (by kernel_rfl) (by kernel_rfl) (fun _ _ _ h=> h) hH (yieldsIf_load_mid (by kernel_rfl) 44 _ rfl b1 (o1+i*4) (by kernel_rfl) xs _ (fun x hx=> hxc x (CL.out x hx).2) Tryz.underlying44 rfl HSX) ?_
    try simp only [Act.put,List.setIfInBounds_toArray,List.set_cons_zero,List.set_cons_succ]
    refine Yab 5 (some 41) (v:=?_) rfl rfl (by kernel_rfl) (by kernel_rfl) (by kernel_rfl) (fun _ _ _ h=> h) hH (Or.inl ⟨by kernel_rfl,?_⟩) ?_
    rotate_left
    ·(intro x _;go_simp;try with_reducible rfl)
    rotate_right
    try simp only [Act.put,List.setIfInBounds_toArray,List.set_cons_zero,List.set_cons_succ]
    refine Yab 6 (some 42) (v:=.slice (some ⟨b2,o2,none⟩) n' cb') rfl rfl (by kernel_rfl) (by kernel_rfl) (by kernel_rfl) (fun _ _ _ h=> h) hH (Or.inl ⟨by kernel_rfl,?_⟩) ?_
    ·(intro x hx;have c0:=(CL.out x hx).1.2.2.1;go_simp)
    try simp only [Act.put,List.setIfInBounds_toArray,List.set_cons_zero,List.set_cons_succ]
    refine Yab 7 (some 43) (v:=?_) rfl rfl (by kernel_rfl) (by kernel_rfl) (by kernel_rfl) (fun _ _ _ h=> h) hH (Or.inl ⟨by kernel_rfl,?_⟩) ?_
    rotate_left
    ·(intro x _;go_simp;try with_reducible rfl)
    rotate_right
    try simp only [Act.put,List.setIfInBounds_toArray,List.set_cons_zero,List.set_cons_succ]
    refine Yab 8 (some 44) (v:=?_) rfl rfl (by kernel_rfl) (by kernel_rfl) (by kernel_rfl) (fun _ _ _ h=> h) hH (Or.inl ⟨by kernel_rfl,?_⟩) ?_
    rotate_left
    ·(intro x _;go_simp;try with_reducible rfl)
    rotate_right
    try simp only [Act.put,List.setIfInBounds_toArray,List.set_cons_zero,List.set_cons_succ]
    refine Yab 9 (some 45) (v:=.agg us.toArray) rfl rfl (by kernel_rfl) (by kernel_rfl) (by kernel_rfl) (fun _ _ _ h=> h) hH (yieldsIf_load_mid (by kernel_rfl) 44 _ rfl b2 (o2+i*4) (by kernel_rfl) us _ (fun x hx=> hyc x (CL.out x hx).2) Tryz.underlying44 rfl HSU) ?_
    try simp only [Act.put,List.setIfInBounds_toArray,List.set_cons_zero,List.set_cons_succ]
    refine wpAnyH_ready (rs:=[10,11]) (by kernel_rfl) (by simp) ?_
    refine AllReadyH.cons rfl (fun K hK=> ?_) (AllReadyH.cons rfl (fun K hK=> ?_) AllReadyH.nil)
    ·go_simp
     rw [HD.out]
     have hk1:Below (A+2) wB (wr.alloc (.cells Y 44 (0,0))).drew:=(hb.alloc (by have:=hb.size;have:=HSB.out;omega) _).drew
     refine hK.out _ _ hk1 (fun hH2=> ?_)
     clear hK K hH hH2
     have hH:=hk1
     try simp only [Act.put,List.setIfInBounds_toArray,List.set_cons_zero,List.set_cons_succ]
     obtain ⟨v1,hv1⟩:∃v1,(wr.alloc (.cells Y 44 (0,0))).drew=v1:=⟨_,rfl⟩
     have g1:v1.heap[D]? = some (.cells Y 44 (0,0)):=by rw [←hv1,←HD.out];exact heap_alloc_new wr _
     have s1:v1.heap.size=D+1:=by rw [←hv1,←HD.out];show (wr.alloc _).heap.size=_;simp
     rw [hv1] at hk1 hH ⊢
     clear hv1
     refine wpAnyH_ready (rs:=[11]) (by kernel_rfl) (by simp) ?_
     refine AllReadyH.cons rfl (fun K hK=> ?_) AllReadyH.nil
     go_simp
     have hk2:Below (A+2) wB (v1.alloc (.cells Y 44 (0,0))):=hk1.alloc (by have:=hb.size;have:=HSB.out;have:=HD.out;omega) _
     refine hK.out _ _ hk2 (fun hH2=> ?_)
     clear hK K hH hH2
     have hH:=hk2
     try simp only [Act.put,List.setIfInBounds_toArray,List.set_cons_zero,List.set_cons_succ]
     obtain ⟨v2,hv2⟩:∃v2,v1.alloc (.cells Y 44 (0,0))=v2:=⟨_,rfl⟩
     have g2:v2.heap[D+1]? = some (.cells Y 44 (0,0)):=by rw [←hv2,←s1];exact heap_alloc_new v1 _
     have g3:v2.heap[D]? = some (.cells Y 44 (0,0)):=by rw [←hv2];exact Yat g1
     rw [hv2] at hk2 hH ⊢
     clear hv2 hk1 g1 s1
     refine wpAnyH_ready (rs:=[12]) (by kernel_rfl) (by simp) ?_
     refine AllReadyH.cons rfl (fun K hK=> ?_) AllReadyH.nil
     refine (if_pos (by kernel_rfl)).mpr ?_
     obtain ⟨v3,hv3,e3,e3',hk3⟩:=Yl1 (Z:=xs.toArray) g3 g2 (by omega) hk2 (by have:=hb.size;have:=HSB.out;have:=HD.out;omega) (by have:=hk2.size;have:=HSB.out;omega)
     refine wp_store_row 44 _ _ rfl (D) xs.toArray rfl rfl 44 Y g3 HSXA HYX hxo ?_
     rw [hv3]
     refine hK.out _ _ hk3 (fun hH2=> ?_)
     clear hK K hH hH2 hv3 hk2 g2 g3
     have hH:=hk3
     try simp only [Act.put]
     refine wpAnyH_ready (rs:=[13]) (by kernel_rfl) (by simp) ?_
     refine AllReadyH.cons rfl (fun K hK=> ?_) AllReadyH.nil
     refine (if_pos (by kernel_rfl)).mpr ?_
     obtain ⟨v4,hv4,e4,e4',hk4⟩:=Yl1 (Z:=us.toArray) e3' e3 (by omega) hk3 (by have:=hb.size;have:=HSB.out;have:=HD.out;omega) (by have:=hk3.size;have:=HSB.out;omega)
     refine wp_store_row 44 _ _ rfl (D+1) us.toArray rfl rfl 44 Y e3' HSUA HYU hyo ?_
     rw [hv4]
     refine hK.out _ _ hk4 (fun hH2=> ?_)
     clear hK K hH hH2 hv4 hk3 e3 e3'
     have hH:=hk4
     try simp only [Act.put]
     refine wpAnyH_done (by kernel_rfl) ?_ _
     go_wp2
     go_meet
     case rel=> exact ⟨D,D+1,rfl,rfl,e4',e4,hk4⟩
    ·go_simp
     rw [HD.out]
     have hk1:Below (A+2) wB (wr.alloc (.cells Y 44 (0,0))).drew:=(hb.alloc (by have:=hb.size;have:=HSB.out;omega) _).drew
     refine hK.out _ _ hk1 (fun hH2=> ?_)
     clear hK K hH hH2
     have hH:=hk1
     try simp only [Act.put,List.setIfInBounds_toArray,List.set_cons_zero,List.set_cons_succ]
     obtain ⟨v1,hv1⟩:∃v1,(wr.alloc (.cells Y 44 (0,0))).drew=v1:=⟨_,rfl⟩
     have g1:v1.heap[D]? = some (.cells Y 44 (0,0)):=by rw [←hv1,←HD.out];exact heap_alloc_new wr _
     have s1:v1.heap.size=D+1:=by rw [←hv1,←HD.out];show (wr.alloc _).heap.size=_;simp
     rw [hv1] at hk1 hH ⊢
     clear hv1
     refine wpAnyH_ready (rs:=[10]) (by kernel_rfl) (by simp) ?_
     refine AllReadyH.cons rfl (fun K hK=> ?_) AllReadyH.nil
     go_simp
     have hk2:Below (A+2) wB (v1.alloc (.cells Y 44 (0,0))):=hk1.alloc (by have:=hb.size;have:=HSB.out;have:=HD.out;omega) _
     refine hK.out _ _ hk2 (fun hH2=> ?_)
     clear hK K hH hH2
     have hH:=hk2
     try simp only [Act.put,List.setIfInBounds_toArray,List.set_cons_zero,List.set_cons_succ]
     obtain ⟨v2,hv2⟩:∃v2,v1.alloc (.cells Y 44 (0,0))=v2:=⟨_,rfl⟩
     have g2:v2.heap[D+1]? = some (.cells Y 44 (0,0)):=by rw [←hv2,←s1];exact heap_alloc_new v1 _
     have g3:v2.heap[D]? = some (.cells Y 44 (0,0)):=by rw [←hv2];exact Yat g1
     rw [hv2] at hk2 hH ⊢
     clear hv2 hk1 g1 s1
     refine wpAnyH_ready (rs:=[12]) (by kernel_rfl) (by simp) ?_
     refine AllReadyH.cons rfl (fun K hK=> ?_) AllReadyH.nil
     refine (if_pos (by kernel_rfl)).mpr ?_
     obtain ⟨v3,hv3,e3,e3',hk3⟩:=Yl1 (Z:=xs.toArray) g2 g3 (by omega) hk2 (by have:=hb.size;have:=HSB.out;have:=HD.out;omega) (by have:=hk2.size;have:=HSB.out;omega)
     refine wp_store_row 44 _ _ rfl (D+1) xs.toArray rfl rfl 44 Y g2 HSXA HYX hxo ?_
     rw [hv3]
     refine hK.out _ _ hk3 (fun hH2=> ?_)
     clear hK K hH hH2 hv3 hk2 g2 g3
     have hH:=hk3
     try simp only [Act.put]
     refine wpAnyH_ready (rs:=[13]) (by kernel_rfl) (by simp) ?_
     refine AllReadyH.cons rfl (fun K hK=> ?_) AllReadyH.nil
     refine (if_pos (by kernel_rfl)).mpr ?_
     obtain ⟨v4,hv4,e4,e4',hk4⟩:=Yl1 (Z:=us.toArray) e3' e3 (by omega) hk3 (by have:=hb.size;have:=HSB.out;have:=HD.out;omega) (by have:=hk3.size;have:=HSB.out;omega)
     refine wp_store_row 44 _ _ rfl (D) us.toArray rfl rfl 44 Y e3' HSUA HYU hyo ?_
     rw [hv4]
     refine hK.out _ _ hk4 (fun hH2=> ?_)
     clear hK K hH hH2 hv4 hk3 e3 e3'
     have hH:=hk4
     try simp only [Act.put]
     refine wpAnyH_done (by kernel_rfl) ?_ _
     go_wp2
     go_meet
     case rel=> exact ⟨D+1,D,rfl,rfl,e4',e4,hk4⟩
   case rest=>
    obtain ⟨X,X',rfl,rfl,e1,e2,hb2⟩:=hcut
    generalize wr=wo at *
    obtain ⟨H,I,Q,lc⟩:=ra
    obtain ⟨H',I',Q',mc⟩:=rb
    dsimp only at *
    have a0:=Yaa e1 hx0
    have a1:=Yaa e1 hx1
    have a2:=Yaa e1 hx2
    have a3:=Yaa e1 hx3
    have f0:=Yaa e2 hy0
    have f1:=Yaa e2 hy1
    have f2:=Yaa e2 hy2
    have f3:=Yaa e2 hy3
    have hEc:=(CL.out _ hb2).2
    have LX:Hid (∀x,Below wc.heap.size wc x→x.cell? ⟨X,3,none⟩=some (.slice rx lc.length kx)∧x.cell? ⟨X',3,none⟩=some (.slice ry mc.length ky)∧Below (A+2) wB x∧Below w.heap.size w x):=Lib.hid fun x hx=> by
     have h1:=(hx.block X (Array.getElem?_eq_some_iff.1 e1).1).trans e1
     have h2:=(hx.block X' (Array.getElem?_eq_some_iff.1 e2).1).trans e2
     have h3:Below (A+2) wB x:=hb2.trans (hx.mono (by have:=hb2.size;have:=HSB.out;omega))
     exact ⟨Yaa h1 hx3,Yaa h2 hy3,h3,(CL.out x h3).2⟩
    have hrb:rwB ⟨H,I,Q,lc⟩ ⟨H',I',Q',mc⟩=((H==H'&&(I==I'&&Q==Q'))&&(decide (lc.length=mc.length)&&(lc.zip mc).all fun p=> Yyr p.1 p.2)):=rfl
    generalize rwB ⟨H,I,Q,lc⟩ ⟨H',I',Q',mc⟩=rr at *
    have HCX:=Lib.hid hcelx
    have HCY:=Lib.hid hcely
    have HXN:=Lib.hid hxn
    have HYN:=Lib.hid hyn
    have HMX:=Lib.hid hmx
    clear e1 e2 hx0 hx1 hx2 hx3 hy0 hy1 hy2 hy3 hcelx hcely hxn hyn hmx hmy hqx hqy hxc hyc hxo hyo hxl hyl hb hE ha HSX HSU hzv HYS
    have hHH:H'=H∨H' = !H:=by cases H <;> cases H' <;> simp
    rcases hHH with rfl | rfl
    case inr=>
     have F:=Lib.hid (NF.out (by rw [hrb];cases H <;> rfl))
     clear NX NF hrb
     cases H <;>
     (go_wp2
      go_ret
      exact ⟨by rw [HR.out,F.out];rfl,hEc⟩)
    have tH:(H' != H')=false:=by simp
    by_cases eI:I=I'
    case neg=>
     have tI:(I != I')=true:=by rw [bne_iff_ne];exact eI
     have F:=Lib.hid (NF.out (by rw [hrb,beq_eq_false_iff_ne.2 eI];simp))
     clear NX NF hrb eI tH
     cases H' <;>
     (go_wp2
      go_ret
      exact ⟨by rw [HR.out,F.out];rfl,hEc⟩)
    subst eI
    have tI:(I != I)=false:=by simp
    by_cases eQ:Q=Q'
    case neg=>
     have tQ:(Q != Q')=true:=by rw [bne_iff_ne];exact eQ
     have F:=Lib.hid (NF.out (by rw [hrb,beq_eq_false_iff_ne.2 eQ];simp))
     clear NX NF hrb eQ tH
     cases H' <;>
     (go_wp2
      go_ret
      exact ⟨by rw [HR.out,F.out];rfl,hEc⟩)
    subst eQ
    have tQ:(Q != Q)=false:=by simp
    by_cases eL:lc.length=mc.length
    case neg=>
     have tL:((lc.length:Int) != (mc.length:Int))=true:=by rw [bne_iff_ne];omega
     have F:=Lib.hid (NF.out (by rw [hrb,decide_eq_false eL];simp))
     clear NX NF hrb eL tH
     cases H' <;>
     (go_wp2
      go_ret
      exact ⟨by rw [HR.out,F.out];rfl,hEc⟩)
    have tL:((lc.length:Int) != (mc.length:Int))=false:=by rw [eL];simp
    have RR:=Lib.hid (show rr=(lc.zip mc).all (fun p=> Yyr p.1 p.2) by rw [hrb,decide_eq_true eL];simp)
    have HLL:=Lib.hid eL
    have hS1:Below wc.heap.size wc wc:=Below.refl _ _
    clear hrb eL tH
    cases H'
    all_goals
     go_wp2
     clear a0 a1 a2 a3 f0 f1 f2 f3 tI tQ tL
     go_loopw [8] (fun z wr=>∃j:Nat,j≤lc.length∧z = .int .i64 (j:Int)∧Hid ((((lc.take j).zip (mc.take j)).all fun p=> Yyr p.1 p.2)=true)∧Below wc.heap.size wc wr) (fun z _=> lc.length-(intOf z).toNat)
     case atStart=> exact ⟨0,Nat.zero_le _,rfl,Lib.hid rfl,hS1⟩
     case round=>
      obtain ⟨j,hj,rfl,ha,hb⟩:=hrel
      have hlm:lc.length≤9223372036854775807:=by have:=HMX.out;unfold maxLen at this;omega
      by_cases hjl:j<lc.length
      ·have t3:decide ((j:Int)<(lc.length:Int))=true:=by simp;omega
       have hjm:j<mc.length:=by rw [←HLL.out];exact hjl
       have t4:j<mc.length:=hjm
       obtain ⟨a3,-,-,-⟩:=LX.out _ hb
       obtain ⟨d1,g1,rfl,hd1,hcv⟩:=Ygo.each HCX.out (by omega)
       obtain ⟨d2,g2,rfl,hd2,hcw⟩:=Ygo.each HCY.out (by omega)
       obtain ⟨vs,hV,hvc⟩:=hcv j hjl
       obtain ⟨us2,hU,huc⟩:=hcw j hjm
       have hl18:=hV.shape.1
       have hu18:=hU.shape.1
       obtain ⟨p3,cap3,hvs,-,hev⟩:=hV
       obtain ⟨p4,cap4,hus,-,heu⟩:=hU
       have HSV:(Tryz.prog.info? 50).map (·.size)=some vs.length:=by rw [hl18];kernel_rfl
       have HSW:(Tryz.prog.info? 50).map (·.size)=some us2.length:=by rw [hu18];kernel_rfl
       have VS:=Lib.hid hvc
       have US:=Lib.hid huc
       have CS:=Lib.hid (fun (x:World) (hx:Below wc.heap.size wc x)=> (by
        rw [hvs,hus]
        exact (Yr2 lc[j] mc[j] p3 p4 (fun i=> (lc[j].ev i).length) (fun i=> (mc[j].ev i).length) cap3 cap4 x (fun i hi=> ⟨rfl,HXN.out _ (List.getElem_mem hjl) i hi,(hev i hi).2.below (LX.out x hx).2.2.2⟩) (fun i hi=> ⟨rfl,HYN.out _ (List.getElem_mem hjm) i hi,(heu i hi).2.below (LX.out x hx).2.2.2⟩)).mono fun e y h=> ⟨h.1,hx.trans (h.2.mono hx.size)⟩:Calls Tryz.prog 27 #[.agg vs.toArray,.agg us2.toArray] x fun e y=> e = .returned (.bool (Yyr lc[j] mc[j]))∧Below wc.heap.size wc y))
       have NX2:=Lib.hid (fun h=> Yxu (f:=Yyr) hjl hjm ha.out h)
       have NF2:=Lib.hid (fun h=> Yx0 (f:=Yyr) hjl hjm h)
       clear hcv hcw hvc huc hvs hus hev heu ha
       generalize Yyr lc[j] mc[j]=y at CS NX2 NF2
       go_wp2
       refine Yay (S:=fun x=> Below wc.heap.size wc x) 12 (by kernel_rfl) (by kernel_rfl) hb.drew ?_
       simp only [List.take_succ_cons,List.take_zero,List.drop_succ_cons,List.drop_zero]
       refine Yad (by kernel_rfl) (fun x _=> by go_simp;try with_reducible rfl) ?_;simp only [Act.put,List.setIfInBounds_toArray,List.set_cons_zero,List.set_cons_succ]
       refine Yaq 42 _ ⟨X,3,none⟩ (.slice (some ⟨d1,g1,none⟩) lc.length kx) (by kernel_rfl) rfl rfl (fun x hx=> by have c0:=(LX.out x hx).1;go_simp) ?_;simp only [Act.put,List.setIfInBounds_toArray,List.set_cons_zero,List.set_cons_succ]
       iterate 2 (refine Yad (by kernel_rfl) (fun x _=> by go_simp;try with_reducible rfl) ?_;simp only [Act.put,List.setIfInBounds_toArray,List.set_cons_zero,List.set_cons_succ])
       refine Yaq 50 _ ⟨d1,g1+j*18,none⟩ (.agg vs.toArray) (by kernel_rfl) rfl rfl (fun x hx=> Yjs x d1 (g1+j*18) 50 vs _ (VS.out x (LX.out x hx).2.2.2) Tryz.underlying50 rfl HSV) ?_;simp only [Act.put,List.setIfInBounds_toArray,List.set_cons_zero,List.set_cons_succ]
       refine Yad (by kernel_rfl) (fun x _=> by go_simp;try with_reducible rfl) ?_;simp only [Act.put,List.setIfInBounds_toArray,List.set_cons_zero,List.set_cons_succ]
       refine Yaq 42 _ ⟨X',3,none⟩ (.slice (some ⟨d2,g2,none⟩) mc.length ky) (by kernel_rfl) rfl rfl (fun x hx=> by have c0:=(LX.out x hx).2.1;go_simp) ?_;simp only [Act.put,List.setIfInBounds_toArray,List.set_cons_zero,List.set_cons_succ]
       iterate 2 (refine Yad (by kernel_rfl) (fun x _=> by go_simp;try with_reducible rfl) ?_;simp only [Act.put,List.setIfInBounds_toArray,List.set_cons_zero,List.set_cons_succ])
       refine Yaq 50 _ ⟨d2,g2+j*18,none⟩ (.agg us2.toArray) (by kernel_rfl) rfl rfl (fun x hx=> Yjs x d2 (g2+j*18) 50 us2 _ (US.out x (LX.out x hx).2.2.2) Tryz.underlying50 rfl HSW) ?_;simp only [Act.put,List.setIfInBounds_toArray,List.set_cons_zero,List.set_cons_succ]
       refine Yaz (by kernel_rfl) CS.out (fun _=> by kernel_rfl) ?_;simp only [Act.put,List.setIfInBounds_toArray,List.set_cons_zero,List.set_cons_succ]
       refine Yad (by kernel_rfl) (fun x _=> by go_simp;try with_reducible rfl) ?_;simp only [Act.put,List.setIfInBounds_toArray,List.set_cons_zero,List.set_cons_succ]
       refine Ybz fun x hx=> ?_
       cases y with
       | true=>
        have N:=Lib.hid (NX2.out rfl)
        clear NX2 NF2
        go_wp2
        go_roundw
        case rel=> exact ⟨j+1,by omega,by go_num,N,hx⟩
        case measure=> simp [intOf];omega
       | false=>
        have N:=Lib.hid (NF.out (by rw [RR.out];exact NF2.out rfl))
        have hEx:=(LX.out _ hx).2.2.2
        clear NX2 NF2
        go_wp2
        go_ret
        exact ⟨by rw [HR.out,N.out];rfl,hEx⟩
      ·obtain rfl:lc.length=j:=by omega
       have t3:decide ((lc.length:Int)<(lc.length:Int))=false:=by simp
       obtain ⟨a3,-,hbo,-⟩:=LX.out _ hb
       have N:=Lib.hid (NX.out (by
        rw [RR.out]
        have h:=ha.out
        rw [List.take_of_length_le (Nat.le_refl _),List.take_of_length_le (by have:=HLL.out;omega)] at h
        exact h))
       go_wp2
       go_roundw
       case rel=> exact ⟨i+1,by omega,by go_num,N,hbo⟩
       case measure=> simp [intOf];omega
  ·obtain rfl:n=i:=by omega
   have t0:decide ((n:Int)<(n:Int))=false:=by simp
   have N:=Lib.hid (show (l.zip m).all (fun p=> rwB p.1 p.2)=true by
    have h:=ha.out
    rw [List.take_of_length_le (by have:=HN.out;omega),List.take_of_length_le (by have:=HN.out;have:=HL.out;omega)] at h
    exact h)
   go_wp2
   go_ret
   exact ⟨by rw [HR.out,N.out];rfl,hE⟩
end Go.Proofs.YtpgdngijmihafaaGreatDoor