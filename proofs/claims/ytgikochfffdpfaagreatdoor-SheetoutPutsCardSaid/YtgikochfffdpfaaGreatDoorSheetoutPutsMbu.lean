/- Texts that SheetoutPuts's proof stands on, part 47 of 47. No condition of its own. -/
import Derived.Test.YtgikochfffdpfaaGreatDoorSheetoutPutsMb
import Derived.Test.YtgikochfffdpfaaGreatDoorSheetoutPutsMc
import Derived.Test.YtgikochfffdpfaaGreatDoorSheetoutPutsMl
import Derived.Test.YtgikochfffdpfaaGreatDoorSheetoutPutsMo
import Derived.Test.YtgikochfffdpfaaGreatDoorSheetoutPutsMq
import Derived.Test.YtgikochfffdpfaaGreatDoorSheetoutPutsMs
import Derived.Test.YtgikochfffdpfaaGreatDoorSheetoutPutsMt
import Derived.Test.YtgikochfffdpfaaGreatDoorSheetoutPutsMbd
import Derived.Test.YtgikochfffdpfaaGreatDoorSheetoutPutsMbf
import Derived.Test.YtgikochfffdpfaaGreatDoorSheetoutPutsMbo
import Derived.Test.YtgikochfffdpfaaGreatDoorSheetoutPutsMbp
import Derived.Test.YtgikochfffdpfaaGreatDoorSheetoutPutsMbq
import Derived.Test.YtgikochfffdpfaaGreatDoorSheetoutPutsMbr
import Derived.Test.YtgikochfffdpfaaGreatDoorSheetoutPutsMbs
import Derived.Test.YtgikochfffdpfaaGreatDoorSheetoutPutsMbt
import Derived.Laws.OwnMore
namespace Go.Proofs.YtgikochfffdpfaaGreatDoor
open Go.RowKit Go.Lib
section
variable {w z:World} {B b:Nat} {r:List UInt8}
theorem Yeg {g g':Nat} {cs cs':Array Value} {T T':TypeId} (h:w.heap[g]? = some (.cells cs T (0,0))) (h':w.heap[g']? = some (.cells cs' T' (0,0))) (hT:T≠T'):g≠g':=by
 rintro rfl
 rw [h] at h'
 injection h' with h'
 injection h' with _ h'
 exact hT h'
theorem Yfv.typed (hk:∀(g:Nat) (cs:Array Value),w.heap[g]? = some (Obj.cells cs 80 (0,0))→z.heap[g]? = some (Obj.cells cs 80 (0,0))):∀{k:Nat} {v:Value},Yfv w B r k v→Yfv z B r k v
 | 0,_,c=> c
 | _+1,_,⟨g,v',e,hg,hh,c⟩=> ⟨g,v',e,hg,hk g _ hh,c.typed hk⟩
theorem Ybm.typed (h:Ybm w B b r) (hk:∀(g:Nat) (cs:Array Value) (T:TypeId),(T=63∨T=80)→w.heap[g]? = some (Obj.cells cs T (0,0))→z.heap[g]? = some (Obj.cells cs T (0,0))):Ybm z B b r:=by
 obtain ⟨h1,h2,v,h3,h4⟩:=h
 exact ⟨h1,h2,v,hk _ _ _ (.inl rfl) h3,h4.typed fun g cs hh=> hk g cs _ (.inr rfl) hh⟩
theorem Yhd {base e c n j:Nat} {v:Value} {xs:List Value} (h:w.ownsRow base e c v n xs) (hj:v.ownBlock=some j):∃cur,w.heap[j]? = some (.cells cur e (0,0)):=by
 rcases h.2 with ⟨rfl,_⟩ | ⟨g,cap,cur,rfl,_,hh,_⟩
 ·cases hj
 ·injection hj with hj
  exact ⟨cur,hj▸hh⟩
end
structure Yd3 (w:World) (W S V A b B:Nat) (r:List UInt8) (zs:List Value) (k:Int) (vv:Value) (vs:List (Int×Int)):Prop where
 bw:w.heap[W]? = some (.cells [.pointer (some ⟨b,0,none⟩)].toArray 29 (0,0))
 bs:w.heap[S]? = some (.cells zs.toArray 25 (0,0))
 bv:w.heap[V]? = some (.cells [vv].toArray 73 (0,0))
 ba:w.heap[A]? = some (.cells [.int .i64 (Yex k)].toArray 3 (0,0))
 wr:Ybm w B b r
 vec:w.ownsRow 0 51 2 vv vs.length (Ypq vs)
section
variable {w z:World} {W S V A b B:Nat} {r r':List UInt8} {zs:List Value} {k:Int} {vv vv':Value} {vs:List (Int×Int)}
theorem Yd3.block {g:Nat} {cs:Array Value} {T:TypeId} {L:List (Option Nat)} (h:w.heap[g]? = some (.cells cs T (0,0))) (hg:Ya0 L w z) (hL:some g∉L):z.heap[g]? = some (.cells cs T (0,0)):=
 (hg.block g (Array.getElem?_eq_some_iff.1 h).1 hL).trans h
theorem Yd3.below (h:Yd3 w W S V A b B r zs k vv vs) (hb:Below w.heap.size w z):Yd3 z W S V A b B r zs k vv vs where
 bw:=Yd3.block h.bw (Ya0.below (L:=[]) hb) (by simp)
 bs:=Yd3.block h.bs (Ya0.below (L:=[]) hb) (by simp)
 bv:=Yd3.block h.bv (Ya0.below (L:=[]) hb) (by simp)
 ba:=Yd3.block h.ba (Ya0.below (L:=[]) hb) (by simp)
 wr:=h.wr.below hb
 vec:=Yjg h.vec hb
theorem Ybm.block {w:World} {B b:Nat} {r:List UInt8} (h:Ybm w B b r):∃cs,w.heap[b]? = some (.cells cs 63 (0,0)):=by
 obtain ⟨-,-,v,h3,-⟩:=h
 exact ⟨_,h3⟩
theorem Yd3.wrote (h:Yd3 w W S V A b B r zs k vv vs) (hg:w.grownBy z (some b)) (hw:Ybm z B b r'):Yd3 z W S V A b B r' zs k vv vs:=by
 obtain ⟨cs,hc⟩:=h.wr.block
 have key:∀{g:Nat} {cs':Array Value} {T:TypeId},T≠63→w.heap[g]? = some (.cells cs' T (0,0))→z.heap[g]? = some (.cells cs' T (0,0)):=fun hT hh=>
  (hg.block _ (Array.getElem?_eq_some_iff.1 hh).1 fun e=> by injection e with e;exact Yeg hh hc hT e).trans hh
 exact {
  bw:=key (by decide) h.bw
  bs:=key (by decide) h.bs
  bv:=key (by decide) h.bv
  ba:=key (by decide) h.ba
  wr:=hw
  vec:=Ynf h.vec (M:=[some b]) (Ya0.one hg fun j _ e=> by rw [e];exact List.mem_singleton.2 rfl) fun j hj hm=> by
   have e:=List.mem_singleton.1 hm
   injection e with e
   obtain ⟨cur,hcur⟩:=Yhd h.vec hj
   exact Yeg hcur hc (by decide) e}
theorem Yd3.more {v:Int×Int} (h:Yd3 w W S V A b B r zs k vv vs) (hg:w.grownBy z vv.ownBlock) (ho:z.ownsRow 0 51 2 vv' (vs.length+1) (Ypq vs ++ [.int .i64 v.1,.int .i64 v.2])):
  Yd3 (z.setCell ⟨V,0,none⟩ vv') W S V A b B r zs k vv' (vs ++ [v]):=by
 have key:∀{g:Nat} {cs':Array Value} {T:TypeId},T≠51→w.heap[g]? = some (.cells cs' T (0,0))→z.heap[g]? = some (.cells cs' T (0,0)):=fun hT hh=>
  (hg.block _ (Array.getElem?_eq_some_iff.1 hh).1 fun e=> by
   obtain ⟨cur,hcur⟩:=Yhd h.vec e.symm
   exact Yeg hh hcur hT rfl).trans hh
 have hV:=key (by decide) h.bv
 have hs:z.grownBy (z.setCell ⟨V,0,none⟩ vv') (some V):=Ybh z ⟨V,0,none⟩ vv'
 have key2:∀{g:Nat} {cs':Array Value} {T:TypeId},T≠73→z.heap[g]? = some (.cells cs' T (0,0))→(z.setCell ⟨V,0,none⟩ vv').heap[g]? = some (.cells cs' T (0,0)):=fun hT hh=>
  (hs.block _ (Array.getElem?_eq_some_iff.1 hh).1 fun e=> by injection e with e;exact Yeg hh hV hT e).trans hh
 exact {
  bw:=key2 (by decide) (key (by decide) h.bw)
  bs:=key2 (by decide) (key (by decide) h.bs)
  bv:=Yba (o:=0) vv' hV
  ba:=key2 (by decide) (key (by decide) h.ba)
  wr:=h.wr.typed fun g cs T hT hh=> by
   rcases hT with rfl | rfl
   ·exact @key2 _ _ 63 (by decide) (@key _ _ 63 (by decide) hh)
   ·exact @key2 _ _ 80 (by decide) (@key _ _ 80 (by decide) hh)
  vec:=by
   rw [List.length_append,Yob]
   exact Ynf ho (M:=[some V]) (Ya0.set _ (List.mem_singleton.2 rfl)) fun j hj hm=> by
    have e:=List.mem_singleton.1 hm
    injection e with e
    obtain ⟨cur,hcur⟩:=Yhd ho hj
    exact Yeg hcur hV (by decide) e}
end
section
variable {u w:World} {W S V A b B n m ca cb:Nat} {r:List UInt8} {zs:List Value} {k:Int} {vv:Value} {vs:List (Int×Int)}
set_option maxRecDepth 100000 in
set_option maxHeartbeats 1000000 in
theorem Yo8 (hd:Shd) (p q:Option Addr) (z:Int) (hw:Ybm w B b r):
  Calls Tryz.prog 56 #[.pointer (some ⟨b,0,none⟩),.agg (Ya3 hd (.slice p n ca) (.slice q m cb) z).toArray] w fun e w'=>∃W S V A,e = .returned (.func (.func 88) #[] #[.pointer (some ⟨W,0,none⟩),.pointer (some ⟨S,0,none⟩),.pointer (some ⟨V,0,none⟩),.pointer (some ⟨A,0,none⟩)])∧
   Yd3 w' W S V A b B r (Ya3 hd (.slice p n ca) (.slice q m cb) z) hd.fmt (.slice none 0 0) []∧Below w.heap.size w w'∧w.heap.size≤W∧w.heap.size≤S∧w.heap.size≤V∧w.heap.size≤A:=by
 have hmf:∀(fn:Fn) (first cap:Array Value) (w:World),(Instr.makeFunc fn first cap).run Tryz.prog w = .ok (.func fn first cap) w:=fun _ _ _ _=> rfl
 obtain ⟨zs,hZ⟩:∃zs,Ya3 hd (.slice p n ca) (.slice q m cb) z=zs:=⟨_,rfl⟩
 have z2:zs[2]? = some (.int .i64 hd.fmt):=by rw [←hZ];rfl
 rw [hZ]
 have cf:=fun x=> Yel hd.fmt x
 generalize hd.fmt=k at *
 obtain ⟨R,w1,w2,hR,hw1,hw2,hz1,hz2,hC0,hC1,hbC⟩:=Yrr w (.cells #[.pointer (some ⟨b,0,none⟩)] 29 (0,0)) (.cells zs.toArray 25 (0,0))
 have k2:=Yab (o:=2) hC1 z2
 obtain ⟨R3,w3,w4,hR3,hw3,hw4,hz3,hz4,hC2,hC3,hbD⟩:=Yrr w2 (.cells #[.int .i64 (Yex k)] 3 (0,0)) (.cells #[.slice none 0 0] 73 (0,0))
 obtain rfl:R3=R+2:=by omega
 have hbX:Below R w w4:=hbC.trans (hbD.mono (by omega))
 have hat:Yd3 w4 R (R+1) (R+3) (R+2) b B r zs k (.slice none 0 0) []:={
  bw:=(hbD.block R (by omega)).trans hC0
  bs:=(hbD.block (R+1) (by omega)).trans hC1
  bv:=hC3
  ba:=hC2
  wr:=hw.below (hR▸hbX)
  vec:=World.ownsRow_nil ..}
 have HW1:=Lib.hid hw1
 have HW2:=Lib.hid hw2
 have HW3:=Lib.hid hw3
 have HW4:=Lib.hid hw4
 have HR:=Lib.hid hR
 have HZ2:=Lib.hid hz2
 have HAT:=Lib.hid hat
 have HBX:=Lib.hid hbX
 clear hat hbX hC0 hC1 hC2 hC3 hbC hbD hw1 hw2 hw3 hw4 hR hR3 hz1 hz2 hz3 hz4 hZ
 go_enter Tryz.func56,Tryz.ntmps56
 go_wp2_with fail
 rw [HW1.out,HW2.out,HR.out]
 refine (cf _).mono ?_
 rintro e x ⟨rfl,rfl⟩
 go_wp2
 rw [HW3.out,HW4.out,HZ2.out]
 go_ret
 rw [HR.out]
 exact ⟨R,R+1,R+3,R+2,rfl,HAT.out,HBX.out,by omega,by omega,by omega,by omega⟩
set_option maxRecDepth 100000 in
set_option maxHeartbeats 4000000 in
theorem Yut {c:Cel} {cs:List Value} {inter:Bool} {first:Int} (h:Yd3 w W S V A b B r zs k vv vs) (hz3:zs[3]? = some (.bool inter)) (hu:Below u.heap.size u w) (hN:u.heap.size≤b) (hB:B≤w.heap.size) (ht:Ybn u.heap.size u)
  (hc:Ylk u c cs) (hev:∀i,i<6→(c.ev i).length≤1048576) (hm:Ya7 inter c=true) (hr:r.length≤60000000000) (hn:vs.length≤1048575) (hk:Yex k≤1000):
  Calls Tryz.prog 88 #[.agg cs.toArray,.int .i64 first,.pointer (some ⟨W,0,none⟩),.pointer (some ⟨S,0,none⟩),.pointer (some ⟨V,0,none⟩),.pointer (some ⟨A,0,none⟩)] w fun e w'=> e = .returned (.tuple #[])∧
   ∃vv',Yd3 w' W S V A b B (r++Ybx inter (Yj6 vs (Yex k) first).1 (Yj6 vs (Yex k) first).2 c) zs k vv' (vs ++ [(c.mx,c.my)])∧Ya0 [some b,some V,vv.ownBlock] w w'∧∀j,vv'.ownBlock=some j→vv.ownBlock=some j∨w.heap.size≤j:=by
 obtain ⟨vp,vcap,hvv,hVA⟩:=Yqw rfl h.vec
 subst hvv
 obtain ⟨p,cap,hcs,hwf,he⟩:=hc
 have hci:Yfu u c p fun i=> (c.ev i).length:=fun i hi=> ⟨rfl,hev i hi,(he i hi).2⟩
 obtain ⟨Z,hZ⟩:∃Z,cs.toArray=Z:=⟨_,rfl⟩
 have hsz:(Tryz.prog.info? 56).map (·.size)=some Z.size:=by rw [←hZ,hcs];exact Ye4 ..
 obtain ⟨C,hC⟩:∃C,w.heap.size=C:=⟨_,rfl⟩
 obtain ⟨w0,hw0⟩:∃w0,w.alloc (.cells Z 56 (0,0))=w0:=⟨_,rfl⟩
 have hb0:Below w.heap.size w w0:=by rw [←hw0];exact (Below.refl _ w).alloc (Nat.le_refl _) _
 have hhC:w0.heap[C]? = some (.cells Z 56 (0,0)):=by rw [←hw0,←hC];exact heap_alloc_new w _
 have hs0:w0.heap.size=C+1:=by rw [←hw0,←hC];simp
 have h0:=h.below hb0
 have hVX:=hVA.mono hb0
 have hu0:Below u.heap.size u w0:=hu.trans (hb0.mono hu.size)
 have hbC:b<C:=by rw [←hC];exact h.wr.lt
 have hVC:V<C:=by rw [←hC];exact (Array.getElem?_eq_some_iff.1 h.bv).1
 obtain ⟨⟨fx,fy⟩,hfo⟩:∃f,Yj6 vs (Yex k) first=f:=⟨_,rfl⟩
 have CO:=Lib.hid (fun (x:World) (hx:Below w0.heap.size w0 x)=> (Yrv (fun i=> vs.getD i (0,0)) vp vs.length vcap (Yex k) first x (hVX.mono hx) (by unfold maxLen;omega) (by omega)).mono fun e y (z:Yde _ x e y)=>
  (⟨by rw [z.1,show Ywm (fun i=> vs.getD i (0,0)) vs.length (Yex k) first=(fx,fy) from hfo];rfl,hx.trans (z.2.mono hx.size)⟩:e = .returned (.agg #[.int .i64 fx,.int .i64 fy])∧Below w0.heap.size w0 y))
 have key:∀x,Below w0.heap.size w0 x→∀z,x.grownBy z (some b)→Below u.heap.size u z:=fun x hx z hz=> (hu0.trans (hx.mono hu0.size)).grown hz (hu0.trans (hx.mono hu0.size)).size (fun j hj=> by injection hj with hj;omega)
 have CP:=Lib.hid (fun (x:World) (hx:Below w0.heap.size w0 x)=> (by
  have h1:=Yxz inter fx fy c p (fun i=> (c.ev i).length) cap B b r x (h0.below hx).wr (by omega) (by have:=hx.size;omega) (fun z hz=> by
   have hk:=key x hx z hz
   have h:=ht.below hk
   exact ⟨Ybn.here h.pats h.mvd h.steps h.tcoef,hci.below hk⟩) hm
  rw [←hcs,hZ] at h1
  exact h1:Calls Tryz.prog 89 #[.pointer (some ⟨b,0,none⟩),.bool inter,.agg #[.int .i64 fx,.int .i64 fy],.agg Z] x fun e w'=> e = .returned (.int .i64 0)∧Ybm w' B b (r++Ybx inter fx fy c)∧x.grownBy w' (some b)))
 have K0:=Lib.hid (fun (x:World) (hx:Below w0.heap.size w0 x)=> Yab (o:=0) (h0.below hx).bw rfl)
 have K1:=Lib.hid (fun (x:World) (hx:Below w0.heap.size w0 x)=> Yab (o:=3) (h0.below hx).bs hz3)
 have K2:=Lib.hid (fun (x:World) (hx:Below w0.heap.size w0 x)=> Yab (o:=0) (h0.below hx).bv rfl)
 have K3:=Lib.hid (fun (x:World) (hx:Below w0.heap.size w0 x)=> Yab (o:=0) (h0.below hx).ba rfl)
 have K4:=Lib.hid (fun (x:World) (hx:Below w0.heap.size w0 x)=> ((hx.block C (by omega)).trans hhC:x.heap[C]? = some (.cells Z 56 (0,0))))
 have H0:=Lib.hid h0
 have HW0:=Lib.hid hw0
 have HC:=Lib.hid hC
 have HB0:=Lib.hid hb0
 have v4:cs[4]? = some (.int .i64 c.mx):=by rw [hcs];rfl
 have v5:cs[5]? = some (.int .i64 c.my):=by rw [hcs];rfl
 have HZ:=Lib.hid hZ
 have V4:=Lib.hid v4
 have V5:=Lib.hid v5
 have hbd:=(Below.refl w0.heap.size w0).drew
 obtain ⟨CR,hCR⟩:∃CR,Ybx inter fx fy c=CR:=⟨_,rfl⟩
 rw [hfo,hCR,hZ]
 rw [hCR] at CP
 clear h hz3 hu hev hm hr hwf he hci hcs hZ hC hw0 hb0 hVA hVX hu0 hfo key h0 v4 v5 hk ht hN hB
 go_enter Tryz.func88,Tryz.ntmps88
 go_upto_region 1 with fail
 rw [HW0.out,HC.out]
 refine Yah (S:=fun x=> Below w0.heap.size w0 x) 8 (by kernel_rfl) (by kernel_rfl) hbd ?_
 simp only [List.take_succ_cons,List.take_zero,List.drop_succ_cons,List.drop_zero]
 refine Yae 29 _ ⟨W,0,none⟩ (.pointer (some ⟨b,0,none⟩)) (by kernel_rfl) rfl rfl (fun x hx=> by have c0:=K0.out x hx;go_simp) ?_;simp only [Act.put,List.setIfInBounds_toArray,List.set_cons_zero,List.set_cons_succ]
 refine Yaa (by kernel_rfl) (fun x _=> by go_simp;try with_reducible rfl) ?_;simp only [Act.put,List.setIfInBounds_toArray,List.set_cons_zero,List.set_cons_succ]
 refine Yae 4 _ ⟨S,3,none⟩ (.bool inter) (by kernel_rfl) rfl rfl (fun x hx=> by have c0:=K1.out x hx;go_simp) ?_;simp only [Act.put,List.setIfInBounds_toArray,List.set_cons_zero,List.set_cons_succ]
 refine Yae 73 _ ⟨V,0,none⟩ (.slice vp vs.length vcap) (by kernel_rfl) rfl rfl (fun x hx=> by have c0:=K2.out x hx;go_simp) ?_;simp only [Act.put,List.setIfInBounds_toArray,List.set_cons_zero,List.set_cons_succ]
 refine Yae 3 _ ⟨A,0,none⟩ (.int .i64 (Yex k)) (by kernel_rfl) rfl rfl (fun x hx=> by have c0:=K3.out x hx;go_simp) ?_;simp only [Act.put,List.setIfInBounds_toArray,List.set_cons_zero,List.set_cons_succ]
 refine Yaa (by kernel_rfl) (fun x _=> by go_simp;try with_reducible rfl) ?_;simp only [Act.put,List.setIfInBounds_toArray,List.set_cons_zero,List.set_cons_succ]
 refine Yaf (by kernel_rfl) CO.out (fun _=> by kernel_rfl) ?_;simp only [Act.put,List.setIfInBounds_toArray,List.set_cons_zero,List.set_cons_succ]
 refine Ycn 56 _ C 56 Z (0,0) _ (by kernel_rfl) rfl rfl (fun x hx=> K4.out x hx) Tryz.underlying56 rfl hsz ?_;simp only [Act.put,List.setIfInBounds_toArray,List.set_cons_zero,List.set_cons_succ]
 refine Yas fun x hx=> ?_
 go_wp2_with fail
 refine (CP.out _ hx).mono ?_
 rintro e w2 ⟨rfl,hw2,hg2⟩
 have h2:=(H0.out.below hx).wrote hg2 hw2
 have hC2:=(hg2.block C (by have:=hx.size;omega) (fun e=> by injection e with e;omega)).trans (K4.out _ hx)
 have hr2:w2.rangeAt C 4 [.int .i64 c.mx,.int .i64 c.my]:=fun j v hj=> by
  rw [←HZ.out] at hC2
  match j,hj with
  | 0,hj=> injection hj with hj;subst hj;exact Yab hC2 V4.out
  | 1,hj=> injection hj with hj;subst hj;exact Yab hC2 V5.out
 have kv:=Yab (o:=0) h2.bv rfl
 obtain ⟨ti,j0,j1,j2,j3⟩:=Yp5
 have ho2:=h2.vec
 obtain ⟨wP,hwP⟩:∃wP,w2.alloc (.cells #[.int .i64 c.mx,.int .i64 c.my] 51 (0,0))=wP:=⟨_,rfl⟩
 have hbP:Below w2.heap.size w2 wP:=by rw [←hwP];exact (Below.refl _ w2).alloc (Nat.le_refl _) _
 have hP:=h2.below hbP
 have hpo:=hP.vec
 have c0:wP.cell? ⟨w2.heap.size,0,none⟩=some (.int .i64 c.mx):=by rw [←hwP];exact Yab (cs:=[.int .i64 c.mx,.int .i64 c.my]) (heap_alloc_new w2 _) rfl
 have c1:wP.cell? ⟨w2.heap.size,1,none⟩=some (.int .i64 c.my):=by rw [←hwP];exact Yab (cs:=[.int .i64 c.mx,.int .i64 c.my]) (heap_alloc_new w2 _) rfl
 have hsz2:C+1≤w2.heap.size:=by have:=hx.size;have:=hg2.size;omega
 have HH2:=Lib.hid h2
 have HG2:=Lib.hid hg2
 have HX:=Lib.hid hx
 have HP:=Lib.hid hP
 have HBP:=Lib.hid hbP
 have HWP:=Lib.hid hwP
 clear hwP h2 hg2 hx hP hbP ho2 hC2 hw2
 go_wp2_with (first | (with_reducible refine Ykx rfl _ rfl C 4 rfl c.mx c.my hr2 ?_) | (at_builtin;rw [HWP.out];refine Yki (v:=.slice vp vs.length vcap) (y0:=c.mx) (y1:=c.my) rfl rfl Tryz.underlying73 j0 j1 rfl j2 j3 rfl hpo rfl ?c1 ?c2 ?c3 ?_;(case c1=> exact c0);(case c2=> exact c1);(case c3=> omega);intro q8 cap8 w8 ho8 hg8 hw8;have hV8:=(hg8.block V (Array.getElem?_eq_some_iff.1 HP.out.bv).1 (fun e=> by obtain ⟨cur,hcur⟩:=Yhd hpo e.symm;exact Yeg HP.out.bv hcur (by decide) rfl)).trans HP.out.bv;have kv8:=Yab (o:=0) hV8 rfl;have f8:w8.frozen? ⟨V,0,none⟩=false:=Yan hV8;clear hV8))
 go_end0
 refine ⟨rfl,_,HP.out.more (v:=(c.mx,c.my)) hg8 ho8,?_,?_⟩
 ·have g1:Ya0 [some b,some V,(Value.slice vp vs.length vcap).ownBlock] w x:=Ya0.below (HB0.out.trans (HX.out.mono HB0.out.size))
  have g2:=g1.trans (M:=[some b]) (Ya0.one HG2.out fun j _ e=> by rw [e];exact List.mem_singleton.2 rfl) fun j _ hm=> by rw [List.mem_singleton.1 hm];exact List.mem_cons_self ..
  have g3:=g2.trans (Ya0.below (L:=[]) HBP.out) (by simp)
  have g4:=g3.trans (M:=[(Value.slice vp vs.length vcap).ownBlock]) (Ya0.one hg8 fun j _ e=> by rw [e];exact List.mem_singleton.2 rfl) fun j _ hm=> by rw [List.mem_singleton.1 hm];exact List.mem_cons_of_mem _ (List.mem_cons_of_mem _ (List.mem_cons_self ..))
  exact g4.trans (M:=[some V]) (Ya0.set _ (List.mem_singleton.2 rfl)) fun j _ hm=> by rw [List.mem_singleton.1 hm];exact List.mem_cons_of_mem _ (List.mem_cons_self ..)
 ·intro j hj
  rcases hw8 j hj with h | h
  ·exact .inl h
  ·exact .inr (by have:=HBP.out.size;have:=HC.out;omega)
end
theorem Yna {i:Nat} (k:Int) (hi:i≤1000):IntKind.i64.wrap ((i:Int)*Yfm k)=(i:Int)*Yfm k:=by
 obtain ⟨B0,B1,B2,B3,B4⟩:=Ylx k
 have h1:0≤(i:Int)*Yfm k:=Int.mul_nonneg (by omega) B2
 have h2:(i:Int)*Yfm k≤1000*100:=Int.mul_le_mul (by omega) B3 B2 (by omega)
 exact Yc8 (by omega)
theorem Yu5 {inter:Bool} {N:Nat} {rs:List RowP} (h:Yb9 (Yb4 inter (N:Int)) 0 rs=true) {i:Nat} (hi:i<rs.length):
  rs[i].cels.length=N∧(∀c∈rs[i].cels,Ya7 inter c=true)∧(rs[i].head=true→i≠0∧∃a q:Nat,rs[i].id=(a:Int)∧rs[i].quant=(q:Int)∧a≤3∧1≤q∧q≤31):=by
 have h1:=Yfj.1 h i hi
 rw [Nat.zero_add] at h1
 unfold Yb4 at h1
 rw [Bool.and_eq_true,decide_eq_true_iff,Bool.and_eq_true] at h1
 obtain ⟨hc,hh,ha⟩:=h1
 refine ⟨by omega,List.all_eq_true.1 ha,fun hd=> ?_⟩
 rw [hd,if_pos rfl,decide_eq_true_iff] at hh
 exact ⟨hh.1,rs[i].id.toNat,rs[i].quant.toNat,by omega,by omega,by omega,by omega,by omega⟩
theorem Yjs {inter:Bool} {k:Int} {rs:List RowP} (i:Nat) (R:List UInt8) (vs:List (Int×Int)) (first:Int) (hi:i<rs.length):
  Yb6 inter k i R vs first (rs.drop i)=Yb6 inter k (i+1) (Ycu inter k (Ylz k i first rs[i]) (R++Ygm i R.length rs[i]) vs rs[i].cels) (vs++Ye0 rs[i].cels) (Ylz k i first rs[i]) (rs.drop (i+1)):=by
 rw [List.drop_eq_getElem_cons hi]
 exact Ypc ..
set_option maxRecDepth 100000 in
set_option maxHeartbeats 8000000 in
theorem Yuu {u w:World} {B b:Nat} {r:List UInt8} {N:Nat} (S:ShP) (p q:Option Addr) (ca cb:Nat) (hS:Ydl u q S.rows) (ht:Ybn u.heap.size u) (hu:Below u.heap.size u w) (hN:u.heap.size≤b) (hB:B≤w.heap.size) (hw:Ybm w B b r)
  (h18:S.rows.length≤18) (hNN:0<N∧N≤352) (hm:Yb9 (Yb4 S.hd.inter (N:Int)) 0 S.rows=true) (hev:∀c∈Ybs S,∀k,k<6→(c.ev k).length≤1048576) (hlen:(Yb6 S.hd.inter S.hd.fmt 0 r [] 0 S.rows).length≤60000000000):
  Calls Tryz.prog 30 #[.pointer (some ⟨b,0,none⟩),.agg (Ya3 S.hd (.slice p S.hd.supp.length ca) (.slice q S.rows.length cb) S.zeros).toArray] w fun e w'=> e = .returned (.tuple #[])∧Ybm w' B b (Yb6 S.hd.inter S.hd.fmt 0 r [] 0 S.rows)∧w.grownBy w' (some b):=by
 have cf:=fun x=> Yhs S.hd.fmt x
 have hfa:Yex S.hd.fmt≤1000:=by have:=(Ycm S.hd.fmt).1;have:=(Ylx S.hd.fmt).2.2.2.2;omega
 have wm:=fun (i:Nat) (hi:i≤1000)=> Yna S.hd.fmt hi
 have rm:=fun (i:Nat) (hi:i<S.rows.length)=> Yu5 hm hi
 have rev:=fun (i:Nat) (hi:i<S.rows.length) c (hc:c∈S.rows[i].cels)=> hev c (List.mem_flatMap.2 ⟨_,List.getElem_mem hi,hc⟩)
 have hnx:=fun (i:Nat) (R:List UInt8) (vs:List (Int×Int)) (first:Int) (hi:i<S.rows.length)=> Yjs (inter:=S.hd.inter) (k:=S.hd.fmt) i R vs first hi
 have hend:=fun (R:List UInt8) (vs:List (Int×Int)) (first:Int)=> (show Yb6 S.hd.inter S.hd.fmt S.rows.length R vs first (S.rows.drop S.rows.length)=R by rw [List.drop_length];exact Yk8 ..)
 obtain ⟨T,hT⟩:∃T,Yb6 S.hd.inter S.hd.fmt 0 r [] 0 S.rows=T:=⟨_,rfl⟩
 rw [hT] at hlen ⊢
 have hT0:Yb6 S.hd.inter S.hd.fmt 0 r [] 0 (S.rows.drop 0)=T:=hT
 have hle:∀(i:Nat) (R:List UInt8) (vs:List (Int×Int)) (first:Int) (rs:List RowP),Yb6 S.hd.inter S.hd.fmt i R vs first rs=T→R.length≤60000000000:=fun i R vs first rs h=> by
  rw [←h] at hlen
  unfold Yb6 at hlen
  rw [List.length_append] at hlen
  omega
 have pc:=fun (x:World) (R:List UInt8) (hx:Ybm x B b R)=> Yo8 (w:=x) (n:=S.hd.supp.length) (m:=S.rows.length) (ca:=ca) (cb:=cb) S.hd p q S.zeros hx
 obtain ⟨zs,hZ⟩:∃zs,Ya3 S.hd (.slice p S.hd.supp.length ca) (.slice q S.rows.length cb) S.zeros=zs:=⟨_,rfl⟩
 have z2:zs[2]? = some (.int .i64 S.hd.fmt):=by rw [←hZ];rfl
 have z3:zs[3]? = some (.bool S.hd.inter):=by rw [←hZ];rfl
 have z6:zs[6]? = some (.slice q S.rows.length cb):=by rw [←hZ];rfl
 have hzsz:(Tryz.prog.info? 25).map (·.size)=some zs.toArray.size:=by rw [show zs.toArray.size=8 by rw [←hZ];rfl];kernel_rfl
 rw [hZ] at pc ⊢
 obtain ⟨D,hD⟩:∃D,w.heap.size=D:=⟨_,rfl⟩
 obtain ⟨w1,hw1⟩:∃w1,w.alloc (.cells zs.toArray 25 (0,0))=w1:=⟨_,rfl⟩
 have hb1:Below w.heap.size w w1:=by rw [←hw1];exact (Below.refl _ w).alloc (Nat.le_refl _) _
 have hs1:w1.heap.size=D+1:=by rw [←hw1,←hD];simp
 have hhD:w1.heap[D]? = some (.cells zs.toArray 25 (0,0)):=by rw [←hw1,←hD];exact heap_alloc_new w _
 have hwr1:=hw.below hb1
 have hbD:b<D:=by rw [←hD];exact hw.lt
 obtain ⟨Yr,HYRS,hzr⟩:=Yjt
 obtain ⟨Yc,HYC,hzc⟩:=Ygz
 have huD:u.heap.size≤D:=by rw [←hD];exact hu.size
 have U:=Lib.hid (fun (x:World) (hx:Ya0 [some b] w x)=> ((hu.trans (hx.under (N:=u.heap.size) (by omega) fun k hk=> by have e:=List.mem_singleton.1 hk;injection e with e;omega)):Below u.heap.size u x))
 generalize hfm:S.hd.fmt=k at *
 generalize hin:S.hd.inter=inter at *
 obtain ⟨n,hln⟩:∃n,S.rows.length=n:=⟨_,rfl⟩
 rw [hln] at h18
 have k2:=Yab (o:=2) hhD z2
 have k6:∀x,Below w1.heap.size w1 x→x.cell? ⟨D,6,none⟩=some (.slice q n cb):=fun x hx=> by rw [←hln];exact Yab ((hx.block D (by omega)).trans hhD) z6
 have HW1:=Lib.hid hw1
 have HD:=Lib.hid hD
 have NR:=Lib.hid hln
 have HRS:=Lib.hid hS
 have HT0:=Lib.hid hT0
 have K6:=Lib.hid k6
 have HLE:=Lib.hid hle
 have NX:=Lib.hid hnx
 have HEND:=Lib.hid hend
 have RM:=Lib.hid rm
 have REV:=Lib.hid rev
 have WM:=Lib.hid wm
 have HTB:=Lib.hid ht
 have HB:=Lib.hid hB
 have Z3:=Lib.hid z3
 have HB1:=Lib.hid hb1
 have hgw1:Ya0 [some b] w w1:=Ya0.below hb1
 clear hZ hw1 hD hS hT0 hle hnx hend rm rev wm ht hB z2 z3 z6 hu hm hev hlen hT hb1 hw
 go_enter Tryz.func30,Tryz.ntmps30
 go_wp2_with (with_reducible refine wpList_load_row rfl 25 _ rfl _ rfl 25 zs.toArray (0,0) _ (heap_alloc_new w _) Tryz.underlying25 rfl hzsz ?_)
 rw [HW1.out,HD.out]
 refine (pc _ _ hwr1).mono ?_
 rintro e w2 ⟨W,Sb,V,A,rfl,hp2,hb2,l1,l2,l3,l4⟩
 have k2':=(World.cell?_of_block (a:=⟨D,2,none⟩) (hb2.block D (by omega))).trans k2
 have k6':=k6 _ hb2
 have hg2:Ya0 [some b] w w2:=hgw1.trans (Ya0.below (L:=[]) hb2) (by simp)
 have hsD:D<w2.heap.size:=by have:=hb2.size;omega
 have KD:=Lib.hid (fun (x:World) (hx:Ya0 [some b] w2 x)=> ((hx.block D hsD (fun hm=> by have e:=List.mem_singleton.1 hm;injection e with e;omega)):x.heap[D]? = w2.heap[D]?))
 have HL:Hid (D≤W∧D≤Sb∧D≤V∧D≤A):=Lib.hid (by omega)
 clear k2 k6 hhD pc hwr1 hgw1 hb2 l1 l2 l3 l4 hs1
 go_wp2_with fail
 refine (cf _).mono ?_
 rintro e x ⟨rfl,rfl⟩
 go_wp2
 go_loopw [7,24] (fun f t wr=>∃(i:Nat) (first:Int) (vv:Value) (vs:List (Int×Int)) (R:List UInt8),f = .int .i64 first∧t = .int .i64 (i:Int)∧i≤n∧Yd3 wr W Sb V A b B R zs k vv vs∧Hid (Yb6 inter k i R vs first (S.rows.drop i)=T)∧Ya0 [some b] w wr∧(∀j,vv.ownBlock=some j→D≤j)∧Hid (vs.length≤1000*i)) (fun _ t _=> n-(RowKit.intOf t).toNat)
 case atStart=> exact ⟨0,0,_,[],r,rfl,rfl,Nat.zero_le _,hp2,HT0,hg2,(fun j hj=> by cases hj),Lib.hid (Nat.zero_le _)⟩
 case round=>
  clear hp2 hg2 k2' k6'
  obtain ⟨i,first,vv,vs,R,rfl,rfl,hi,hp,hT,hg,hvv,hvl⟩:=hrel
  by_cases hlt:i<n
  ·have t1:decide ((i:Int)<(n:Int))=true:=by simp;omega
   have hil:i<S.rows.length:=by rw [NR.out];exact hlt
   obtain ⟨b1,o1,hq1,hlb1,hc1⟩:=Ygn HRS.out (by rw [NR.out];omega)
   obtain ⟨rq,cap,hq,hml,hcel,hat⟩:=hc1 i hil
   have hTn:=NX.out i R vs first hil
   rw [hT.out] at hTn
   obtain ⟨RC,RCM,RH⟩:=RM.out i hil
   have RE:=REV.out i hil
   have wmi:=WM.out i (by omega)
   obtain ⟨row,hrow⟩:∃row,S.rows[i]=row:=⟨_,rfl⟩
   rw [hrow] at hml hcel hat hTn RC RCM RH RE
   subst hq1
   obtain ⟨rs,hrs⟩:∃rs,[Value.bool row.head,.int .i64 row.id,.int .i64 row.quant,.slice rq row.cels.length cap]=rs:=⟨_,rfl⟩
   have rl:rs.length=4:=by rw [←hrs];rfl
   have ro:rs.toArray.all (·.oneCell')=true:=by rw [←hrs];simp [Value.oneCell']
   have hrg:wr.rangeAt b1 (o1+i*4) rs:=fun k v hk=> by
    obtain ⟨a0,a1,a2,a3⟩:=hat wr (U.out _ hg)
    rw [←hrs] at hk
    match k,hk with
    | 0,hk=> injection hk with hk;subst hk;exact a0
    | 1,hk=> injection hk with hk;subst hk;exact a1
    | 2,hk=> injection hk with hk;subst hk;exact a2
    | 3,hk=> injection hk with hk;subst hk;exact a3
   have HSR:(Tryz.prog.info? 59).map (·.size)=some rs.toArray.size:=by rw [show rs.toArray.size=4 from rl];kernel_rfl
   have HYR:Yr.size=rs.toArray.size:=by rw [HYRS];exact rl.symm
   obtain ⟨K,hK⟩:∃K,wr.heap.size=K:=⟨_,rfl⟩
   obtain ⟨wB,hwB⟩:∃wB,wr.alloc (.cells rs.toArray 59 (0,0))=wB:=⟨_,rfl⟩
   have hbB:Below wr.heap.size wr wB:=by rw [←hwB];exact (Below.refl _ wr).alloc (Nat.le_refl _) _
   have hhK:wB.heap[K]? = some (.cells rs.toArray 59 (0,0)):=by rw [←hwB,←hK];exact heap_alloc_new wr _
   have hsK:wB.heap.size=K+1:=by rw [←hwB,←hK];simp
   have KR:=Lib.hid (fun (x:World) (hx:wB.grownBy x (some b))=> (by
    have h:=(hx.block K (by omega) (fun e=> by injection e with e;have:=hp.wr.lt;omega)).trans hhK
    rw [←hrs] at h
    exact ⟨Yab (o:=0) h rfl,Yab (o:=1) h rfl,Yab (o:=2) h rfl,Yab (o:=3) h rfl⟩:x.cell? ⟨K,0,none⟩=some (.bool row.head)∧x.cell? ⟨K,1,none⟩=some (.int .i64 row.id)∧x.cell? ⟨K,2,none⟩=some (.int .i64 row.quant)∧x.cell? ⟨K,3,none⟩=some (.slice rq row.cels.length cap)))
   have hpB:=hp.below hbB
   have hgB:Ya0 [some b] w wB:=hg.trans (Ya0.below (L:=[]) hbB) (by simp)
   have HWB:=Lib.hid hwB
   have HKK:=Lib.hid hK
   have HCEL:=Lib.hid hcel
   have HTN:=Lib.hid hTn
   have HRC:=Lib.hid RC
   have HRCM:=Lib.hid RCM
   have HRE:=Lib.hid RE
   have HRL:=Lib.hid (HLE.out i R vs first _ hT.out)
   have hDK:D≤K:=by rw [←hK,←HD.out];exact hg.size
   have hbrefl:wB.grownBy wB (some b):=Yaq (Below.refl _ _) _
   obtain ⟨q0,q1,q2,q3⟩:=KR.out _ hbrefl
   clear hwB hK hrs hhK hcel hat hc1 hTn RC RCM RE hrow hT hp hg
   go_upto_if 30 with (first | (with_reducible refine Yf8 rfl _ rfl b1 (o1+i*4) rfl rs hrg rl ?_) | (with_reducible refine Ybg rfl 59 _ _ rfl rs.toArray Yr 59 rfl rfl HSR HYR ro ?_;rw [HWB.out,HKK.out]))
   go_cut [7] (fun f wx=>∃R',f = .int .i64 (Ylz k i first row)∧Yd3 wx W Sb V A b B R' zs k vv vs∧Hid (R'=R++Ygm i R.length row)∧wB.grownBy wx (some b))
   case first=>
    cases hd:row.head with
    | false=>
     try rw [hd]
     go_wp2
     go_meet
     case rel=> exact ⟨R,by unfold Ylz;rw [hd];rfl,hpB,Lib.hid (by unfold Ygm;rw [hd];exact (List.append_nil R).symm),hbrefl⟩
    | true=>
     obtain ⟨hi0,ia,iq,ha,hqq,ha3,hq1,hq31⟩:=RH hd
     have hpu:=fun (x:World) (hx:Ybm x B b R) (hz:B≤x.heap.size)=> Yx6 x B b R i ia iq (by omega) hx (by have:=HRL.out;omega) hz
     have hBx:B≤wB.heap.size:=by have:=hgB.size;have:=HB.out;omega
     rw [ha] at q1
     rw [hqq] at q2
     have HD2:=Lib.hid hd
     have HA2:=Lib.hid ha
     have HQ2:=Lib.hid hqq
     try rw [hd]
     clear hd ha hqq hi0 RH
     go_wp2_with fail
     refine (hpu _ hpB.wr hBx).mono ?_
     rintro e w5 ⟨rfl,hw5,hg5⟩
     have hp5:=hpB.wrote hg5 hw5
     go_wp2
     go_meet
     case rel=> exact ⟨_,by unfold Ylz;rw [HD2.out];rfl,hp5,Lib.hid (by rw [Yq1];unfold Ygm;rw [HD2.out,if_pos rfl,HA2.out,HQ2.out,Int.toNat_natCast,Int.toNat_natCast]),hg5⟩
   case rest=>
    obtain ⟨R',rfl,hp5,hR',hg5⟩:=hcut
    obtain ⟨wk,rfl⟩:∃x,x=wc:=⟨_,rfl⟩
    obtain ⟨-,-,-,q3⟩:=KR.out _ hg5
    obtain ⟨f,hf⟩:∃f,Ylz k i first row=f:=⟨_,rfl⟩
    have hTN:=HTN.out
    rw [←hR'.out,hf] at hTN
    rw [hf]
    have hgk:Ya0 [some b] w wk:=hgB.trans (M:=[some b]) (Ya0.one hg5 fun j _ e=> by rw [e];exact List.mem_singleton.2 rfl) fun j _ h=> h
    rw [HRC.out] at q3
    have hml2:row.cels.length=N:=HRC.out
    obtain ⟨T2,hT2⟩:∃T2,Ycu inter k f R' vs row.cels=T2:=⟨_,rfl⟩
    rw [hT2] at hTN
    have hT20:Hid (Ycu inter k f R' vs (row.cels.drop 0)=T2):=Lib.hid hT2
    have HT2:=Lib.hid hTN
    have HLT:Hid (T2.length≤60000000000):=Lib.hid (HLE.out _ _ _ _ _ hTN.symm)
    clear hpB hgB hbrefl hT2 hTN hR' hf q0 q1 q2 RH wmi hg5
    go_wp2
    go_loopw [44] (fun t wr=>∃(j:Nat) (vv2:Value) (vz:List (Int×Int)) (R2:List UInt8),t = .int .i64 (j:Int)∧j≤N∧Yd3 wr W Sb V A b B R2 zs k vv2 vz∧Hid (Ycu inter k f R2 vz (row.cels.drop j)=T2)∧Ya0 [some b] w wr∧(∀j,vv2.ownBlock=some j→D≤j)∧Hid (vz=vs++Ye0 (row.cels.take j))) (fun t _=> N-(RowKit.intOf t).toNat)
    case atStart=> exact ⟨0,vv,vs,R',rfl,Nat.zero_le _,hp5,hT20,hgk,hvv,Lib.hid (by simp [Ye0])⟩
    case round=>
     clear hp5 hT20 hgk hvv q3
     obtain ⟨j,vv2,vz,R2,rfl,hj,hp,hT3,hg,hvv,hvz⟩:=hrel
     by_cases hjm:j<N
     ·have t2:decide ((j:Int)<(N:Int))=true:=by simp;omega
      have hjl:j<row.cels.length:=by rw [HRC.out];exact hjm
      obtain ⟨b2,o2,hq2,hlb2,hcv⟩:=Ybt.each HCEL.out (by omega)
      obtain ⟨cs,hV,hvc⟩:=hcv j hjl
      have hl18:=hV.shape.1
      have hone:=Yha hV
      have hrg:wr.rangeAt b2 (o2+j*18) cs:=fun k v hk=> hvc wr (U.out _ hg) k v hk
      obtain ⟨c,hcj⟩:∃c,row.cels[j]=c:=⟨_,rfl⟩
      have hmem:c∈row.cels:=hcj▸List.getElem_mem hjl
      have hT4:Ycu inter k f R2 vz (c::row.cels.drop (j+1))=T2:=by rw [←hcj,←List.drop_eq_getElem_cons hjl];exact hT3.out
      rw [Yiu] at hT4
      have hvz2:vz ++ [(c.mx,c.my)]=vs++Ye0 (row.cels.take (j+1)):=by
       rw [hvz.out,List.take_succ_eq_append_getElem hjl,hcj]
       unfold Ye0
       rw [List.map_append,List.append_assoc];rfl
      rw [hcj] at hV
      have hvzl:vz.length≤1048575:=by
       have h1:=hvl.out
       rw [hvz.out]
       unfold Ye0
       rw [List.length_append,List.length_map,List.length_take]
       omega
      have hR2l:R2.length≤60000000000:=by
       have h1:=HLT.out
       have h2:=congrArg List.length hT3.out
       unfold Ycu at h2
       rw [List.length_append] at h2
       omega
      obtain ⟨C,hC⟩:∃C,wr.heap.size=C:=⟨_,rfl⟩
      obtain ⟨wC,hwC⟩:∃wC,wr.alloc (.cells cs.toArray 56 (0,0))=wC:=⟨_,rfl⟩
      have hhC:wC.heap[C]? = some (.cells cs.toArray 56 (0,0)):=by rw [←hwC,←hC];exact heap_alloc_new wr _
      have hbC:Below wr.heap.size wr wC:=by rw [←hwC];exact (Below.refl _ wr).alloc (Nat.le_refl _) _
      have hpC:=hp.below hbC
      have hgC:Ya0 [some b] w wC:=hg.trans (Ya0.below (L:=[]) hbC) (by simp)
      have p1:=Yut (first:=f) hpC Z3.out (U.out _ hgC) (by omega) (by have:=hgC.size;have:=HB.out;omega) HTB.out hV (HRE.out c hmem) (HRCM.out c hmem) hR2l hvzl hfa
      have HSV:(Tryz.prog.info? 56).map (·.size)=some cs.toArray.size:=by rw [show cs.toArray.size=18 from hl18];kernel_rfl
      have HYV:Yc.size=cs.toArray.size:=by rw [HYC];exact hl18.symm
      have HWC:=Lib.hid hwC
      have HCC:=Lib.hid hC
      have HT4:=Lib.hid hT4
      have HVZ2:=Lib.hid hvz2
      have hDC:D≤wC.heap.size:=by have:=hgC.size;have:=HD.out;omega
      have hpl:=hpC
      have HGC:=Lib.hid hgC
      subst hq2
      clear hwC hC hV hvc hcv hT3 hT4 hvz hvz2 hp hg hbC hgC hcj hmem hvzl hR2l
      go_wp2_with (first | (with_reducible refine Ydv rfl _ rfl b2 (o2+j*18) rfl cs hrg hl18 ?_) | (with_reducible refine Ybg rfl 56 _ _ rfl cs.toArray Yc 56 rfl rfl HSV HYV hone ?_;rw [HWC.out,HCC.out]) | (with_reducible refine wpList_load_row rfl 56 _ rfl C rfl 56 cs.toArray (0,0) _ hhC Tryz.underlying56 rfl HSV ?_))
      refine p1.mono ?_
      rintro e w6 ⟨rfl,vv6,hp6,hg6,hv6⟩
      go_wp2
      go_roundw
      case rel=>
       refine ⟨j+1,vv6,_,_,by go_num,by omega,hp6,HT4,HGC.out.trans hg6 fun t ht hm=> ?_,fun t ht=> ?_,HVZ2⟩
       ·have h:=HD.out
        have hl:=HL.out
        rcases List.mem_cons.1 hm with e | hm
        ·rw [e];exact List.mem_singleton.2 rfl
        ·rcases List.mem_cons.1 hm with e | hm
         ·injection e with e;omega
         ·have e:=List.mem_singleton.1 hm
          have:=hvv t e.symm;omega
       ·rcases hv6 t ht with h | h
        ·exact hvv t h
        ·omega
      case measure=> simp [RowKit.intOf];omega
     ·obtain rfl:N=j:=by omega
      have t2:decide ((N:Int)<(N:Int))=false:=by simp
      have hd0:row.cels.drop N = []:=by rw [←HRC.out,List.drop_length]
      have htk:row.cels.take N=row.cels:=by rw [←HRC.out,List.take_length]
      have hR3:R2=T2:=by
       have h1:=hT3.out
       rw [hd0,Ykq] at h1
       exact h1
      have hvz3:vz=vs++Ye0 row.cels:=by rw [hvz.out,htk]
      have hT5:Hid (Yb6 inter k (i+1) R2 vz f (S.rows.drop (i+1))=T):=Lib.hid (by rw [hR3,hvz3];exact HT2.out.symm)
      have hvl2:Hid (vz.length≤1000*(i+1)):=Lib.hid (by
       have h1:=hvl.out
       rw [hvz3]
       unfold Ye0
       rw [List.length_append,List.length_map,HRC.out]
       omega)
      clear hd0 htk hR3 hvz3 hvz hT3
      go_wp2
      go_roundw
      case rel=> exact ⟨i+1,f,vv2,vz,R2,rfl,by go_num,by omega,hp,hT5,hg,hvv,hvl2⟩
      case measure=> simp [RowKit.intOf];omega
  ·obtain rfl:n=i:=by omega
   have t1:decide ((n:Int)<(n:Int))=false:=by simp
   have hR:R=T:=by
    have h1:=hT.out
    rw [←NR.out,HEND.out] at h1
    exact h1
   subst hR
   go_wp2
   go_end0
   exact ⟨rfl,hp.wr,hg.lone fun j _ hm=> by have e:=List.mem_singleton.1 hm;injection e⟩
def Yqx (u:World) (S:ShP) (vs:List Value):Prop:=ShV u S vs∧S.rows.length≤4611686018427387904∧∀c∈Ybs S,∀k,k<6→(c.ev k).length≤1048576
theorem Yqx.sizes {u:World} {S:ShP} {vs:List Value} (h:Yqx u S vs):(Tryz.prog.info? 25).map (·.size)=some vs.toArray.size∧vs.toArray.size=8∧vs.toArray.all (·.oneCell')=true:=by
 obtain ⟨p,q,ca,cb,rfl,-⟩:=h.1
 exact ⟨by rw [show (Ya3 S.hd (.slice p S.hd.supp.length ca) (.slice q S.rows.length cb) S.zeros).toArray.size=8 from rfl];kernel_rfl,rfl,Ynw ..⟩
section
variable {u w:World} {B b:Nat} {r:List UInt8} {S:ShP} {vs:List Value}
theorem Yh7 (hS:Yqx u S vs) (ht:Ybn u.heap.size u) (hu:Below u.heap.size u w):Calls Tryz.prog 19 #[.agg vs.toArray] w fun e w'=> e = .returned (.int .i64 (Ybv S))∧Below w.heap.size w w':=by
 obtain ⟨⟨p,q,ca,cb,rfl,hsl,hrl,hsu,hrw⟩,hn,hev⟩:=hS
 refine Yny S p q ca cb w hsl hn (hsu.below hu) (hrw.below hu) hev fun c p n k x hx hc=> ?_
 have h:=ht.below (hu.trans (hx.mono hu.size))
 exact Yiw S.hd.inter c p n k x hc h.tcoef h.steps
set_option maxHeartbeats 1000000 in
theorem Yvg (A:Array Value) (w:World):Calls Tryz.prog 11 #[.pointer none,.agg A] w fun e w'=> e = .returned (.int .i64 1)∧Below w.heap.size w w':=by
 go_enter Tryz.func11,Tryz.ntmps11
 go_wp2
 go_ret
 exact ⟨rfl,(Below.refl _ w).alloc (Nat.le_refl _) _⟩
set_option maxRecDepth 100000 in
set_option maxHeartbeats 1000000 in
theorem Ynx (hS:Yqx u S vs) (ht:Ybn u.heap.size u) (hu:Below u.heap.size u w) (h0:Ybv S≠0):Calls Tryz.prog 11 #[.pointer (some ⟨b,0,none⟩),.agg vs.toArray] w fun e w'=> e = .returned (.int .i64 (Ybv S))∧Below w.heap.size w w':=by
 have hsz:=hS.sizes.1
 have hb1:=(Below.refl _ w).alloc (Nat.le_refl _) (.cells vs.toArray 25 (0,0))
 have ch:=Yh7 hS ht (hu.trans (hb1.mono hu.size))
 generalize vs.toArray=A at *
 have t0:(Ybv S != 0)=true:=by rw [bne_iff_ne];exact h0
 generalize Ybv S=f at *
 have HB1:=Lib.hid hb1
 clear h0 hS hb1 hu ht
 go_enter Tryz.func11,Tryz.ntmps11
 go_wp2_with (with_reducible refine wpList_load_row rfl 25 _ rfl _ rfl 25 A (0,0) _ (heap_alloc_new w _) Tryz.underlying25 rfl hsz ?_)
 refine ch.mono ?_
 rintro e w2 ⟨rfl,hb2⟩
 go_wp2
 go_ret
 exact ⟨rfl,HB1.out.trans (hb2.mono HB1.out.size)⟩
set_option maxRecDepth 100000 in
set_option maxHeartbeats 4000000 in
theorem Yqo (hS:Yqx u S vs) (ht:Ybn u.heap.size u) (hu:Below u.heap.size u w) (hN:u.heap.size≤b) (hB:B≤w.heap.size) (hw:Ybm w B b r) (hr:r.length≤30000000000) (h0:Ybv S=0):
  Calls Tryz.prog 11 #[.pointer (some ⟨b,0,none⟩),.agg vs.toArray] w fun e w'=> e = .returned (.int .i64 0)∧Ybm w' B b (Yje r S)∧w.grownBy w' (some b):=by
 have hsz:=hS.sizes.1
 obtain ⟨hm,hz,⟨hR,h18⟩,N,hNk,hNN,hrows⟩:=Yil h0
 have hRm:=Yjf h0 r
 have hLm:=Yhc h0 r
 have hHm:(Yo5 r S).length≤r.length+400:=by
  have:=(Ycy.1 hm).2.2.1
  rw [Yen,List.length_append,Ya9,Yer]
  unfold gap
  omega
 have hst:=Yfo r S
 have cch:=fun (x:World) (hx:Below u.heap.size u x)=> Yh7 hS ht hx
 obtain ⟨⟨p,q,ca,cb,hvs,hsl,hrl,hsu,hrw⟩,hn,hev⟩:=hS
 have csp:=fun (x:World) (hx:Below u.heap.size u x) (hwx:Ybm x B b r) (hBx:B≤x.heap.size)=> Yvj x B b r S.hd p ca (.slice q S.rows.length cb) S.zeros (fun y hy=> hsu.below (hx.grown hy hx.size (fun j hj=> by injection hj with hj;omega))) hm hwx (by omega) hBx
 have cpr:=fun (x:World) (hx:Below u.heap.size u x) (hwx:Ybm x B b (Yo5 r S)) (hBx:B≤x.heap.size)=> Yuu (N:=N) S p q ca cb hrw ht hx hN hBx hwx h18 hNN hrows hev (by rw [Yhw];omega)
 rw [←hvs] at csp cpr
 rw [h0] at cch
 have z7:vs[7]? = some (.int .i64 S.zeros):=by rw [hvs];rfl
 obtain ⟨z,hzz⟩:∃z:Nat,S.zeros=(z:Int):=⟨S.zeros.toNat,by omega⟩
 rw [hzz] at z7 hz
 rw [hzz,Int.toNat_natCast] at hst
 have cfi:=fun (x:World) (hwx:Ybm x B b (Yne r S)) (hBx:B≤x.heap.size)=> Ymy x B b (Yne r S) hwx (by omega) hBx
 have hRT:Yb6 S.hd.inter S.hd.fmt 0 (Yo5 r S) [] 0 S.rows=Yne r S:=Yhw r S
 rw [hRT] at cpr
 have hOH:Ydy r 0++Ycf S.hd=Yo5 r S:=rfl
 rw [hOH] at csp
 obtain ⟨R2,hR2⟩:∃R2,Yne r S++List.replicate (gap (Yne r S).length) 48=R2:=⟨_,rfl⟩
 rw [hR2] at cfi hst
 have hR2l:R2.length≤32000000000:=by rw [←hR2,List.length_append,List.length_replicate];unfold gap;omega
 have cze:=fun (x:World) (j:Nat) (hj:j≤262144) (hwx:Ybm x B b (R2++List.replicate (8*j) 48)) (hBx:B≤x.heap.size)=> Yb1 x B b _ 0 8 hwx (by decide) (by decide) (by rw [List.length_append,List.length_replicate];omega) hBx
 have h8:∀j:Nat,R2++List.replicate (8*j) 48++Yak (0:Int).toNat (8:Int).toNat=R2++List.replicate (8*(j+1)) 48:=fun j=> by
  rw [show Yak (0:Int).toNat (8:Int).toNat=List.replicate 8 48 from Ynq 8,List.append_assoc,List.replicate_append_replicate];rfl
 generalize Yne r S=R1 at *
 generalize Yo5 r S=R0 at *
 generalize Yje r S=RL at *
 obtain ⟨D,hD⟩:∃D,w.heap.size=D:=⟨_,rfl⟩
 obtain ⟨A,hA⟩:∃A,vs.toArray=A:=⟨_,rfl⟩
 obtain ⟨w1,hw1⟩:∃w1,w.alloc (.cells A 25 (0,0))=w1:=⟨_,rfl⟩
 have hb1:Below w.heap.size w w1:=by rw [←hw1];exact (Below.refl _ w).alloc (Nat.le_refl _) _
 have hs1:w1.heap.size=D+1:=by rw [←hw1,←hD];simp
 have hhD:w1.heap[D]? = some (.cells A 25 (0,0)):=by rw [←hw1,←hD];exact heap_alloc_new w _
 have hwr1:=hw.below hb1
 have hbD:b<D:=by rw [←hD];exact hw.lt
 rw [hA] at hsz csp cpr cch ⊢
 have U:=Lib.hid (fun (x:World) (hx:w.grownBy x (some b))=> (⟨hu.grown hx hu.size (fun j hj=> by injection hj with hj;omega),Nat.le_trans hB hx.size⟩:Below u.heap.size u x∧B≤x.heap.size))
 have KD:=Lib.hid (fun (x:World) (hx:w1.grownBy x (some b))=> ((hx.block D (by omega) (fun e=> by injection e with e;omega)).trans hhD:x.heap[D]? = some (.cells A 25 (0,0))))
 have K7:=Lib.hid (fun (x:World) (hx:w1.grownBy x (some b))=> (by
  have h:=(hx.block D (by omega) (fun e=> by injection e with e;omega)).trans hhD
  rw [←hA] at h
  exact Yab (o:=7) h z7:x.cell? ⟨D,7,none⟩=some (.int .i64 (z:Int))))
 have W1:=Lib.hid (Yaq hb1 (some b))
 have HW1:=Lib.hid hw1
 have HD:=Lib.hid hD
 have HST:=Lib.hid hst
 have H8:=Lib.hid h8
 have hz2:z≤262144:=by omega
 have hk1:=KD.out _ (Yaq (Below.refl _ _) _)
 have g11:w1.grownBy w1 (some b):=Yaq (Below.refl _ _) _
 have cc1:=cch w1 (U.out _ W1.out).1
 clear hvs hsl hrl hsu hrw hn hev z7 hst h8 hw1 hD hb1 hs1 hhD hw hu hR hNk hNN hrows h0 hRm hLm hHm hm hz hzz hRT hOH hR2 hR2l hA cch hr hB ht
 go_enter Tryz.func11,Tryz.ntmps11
 go_wp2_with (with_reducible refine wpList_load_row rfl 25 _ rfl _ rfl 25 A (0,0) _ (heap_alloc_new w _) Tryz.underlying25 rfl hsz ?_)
 rw [HW1.out,HD.out]
 refine cc1.mono ?_
 rintro e w2 ⟨rfl,hb2⟩
 have hwr2:=hwr1.below hb2
 have g12:=Yai g11 (Yaq hb2 (some b))
 have hk2:=KD.out _ g12
 obtain ⟨hu2,hB2⟩:=U.out _ (Yai W1.out g12)
 have c2:=csp w2 hu2 hwr2 hB2
 clear hwr1 hk1 hb2 hwr2 csp hu2 hB2 g11
 go_wp2_with (with_reducible refine wpList_load_row rfl 25 _ rfl D rfl 25 A (0,0) _ hk2 Tryz.underlying25 rfl hsz ?_)
 refine c2.mono ?_
 rintro e w3 ⟨rfl,hwr3,hg3⟩
 have g13:=Yai g12 hg3
 have hk3:=KD.out _ g13
 obtain ⟨hu3,hB3⟩:=U.out _ (Yai W1.out g13)
 have c3:=cpr w3 hu3 hwr3 hB3
 clear hk2 c2 hg3 g12 hu3 hB3 cpr hwr3
 go_wp2_with (with_reducible refine wpList_load_row rfl 25 _ rfl D rfl 25 A (0,0) _ hk3 Tryz.underlying25 rfl hsz ?_)
 refine c3.mono ?_
 rintro e w4 ⟨rfl,hwr4,hg4⟩
 have g14:=Yai g13 hg4
 obtain ⟨hu4,hB4⟩:=U.out _ (Yai W1.out g14)
 have c4:=cfi w4 hwr4 hB4
 clear hk3 c3 hg4 g13 hu4 hB4 cfi hwr4
 go_wp2_with fail
 refine c4.mono ?_
 rintro e w5 ⟨rfl,hwr5,hg5⟩
 have g15:=Yai g14 hg5
 have k7:=K7.out _ g15
 have gw5:=Yai W1.out g15
 clear c4 hg5 g14 g15
 have hwr5':Ybm w5 B b (R2++List.replicate (8*0) 48):=by rw [Nat.mul_zero];exact (List.append_nil R2).symm▸hwr5
 clear hwr5
 go_wp2
 go_loopw [23] (fun t wr=>∃j:Nat,t = .int .i64 (j:Int)∧j≤z∧Ybm wr B b (R2++List.replicate (8*j) 48)∧w.grownBy wr (some b)) (fun t _=> z-(RowKit.intOf t).toNat)
 case atStart=> exact ⟨0,rfl,Nat.zero_le _,hwr5',gw5⟩
 case round=>
  clear hwr5' gw5 k7
  obtain ⟨j,rfl,hj,hwr,hg⟩:=hrel
  by_cases hlt:j<z
  ·have t1:decide ((j:Int)<(z:Int))=true:=by simp;omega
   have c5:=cze wr j (by omega) hwr (U.out _ hg).2
   rw [H8.out] at c5
   clear hwr
   go_wp2_with fail
   refine c5.mono ?_
   rintro e w6 ⟨rfl,hwr6,hg6⟩
   have hg7:=Yai hg hg6
   clear c5 hg hg6
   go_wp2
   go_roundw
   case rel=> exact ⟨j+1,by go_num,by omega,hwr6,hg7⟩
   case measure=> simp [RowKit.intOf];omega
  ·obtain rfl:z=j:=by omega
   have t1:decide ((z:Int)<(z:Int))=false:=by simp
   rw [←HST.out] at hwr
   go_wp2
   go_ret
   exact ⟨rfl,hwr,hg⟩
set_option maxRecDepth 100000 in
set_option maxHeartbeats 1000000 in
theorem Ynv (hS:Yqx u S vs) (ht:Ybn u.heap.size u) (hu:Below u.heap.size u w) (h0:Ybv S=0):Calls Tryz.prog 12 #[.agg vs.toArray] w fun e w'=> e = .returned (.tuple #[.int .i64 ((Yje [] S).length:Int),.int .i64 0])∧Below w.heap.size w w':=by
 have hsz:=hS.sizes.1
 obtain ⟨D,hD⟩:∃D,w.heap.size=D:=⟨_,rfl⟩
 obtain ⟨w1,hw1⟩:∃w1,w.alloc (.cells vs.toArray 25 (0,0))=w1:=⟨_,rfl⟩
 obtain ⟨w2,hw2⟩:∃w2,w1.alloc Ye9=w2:=⟨_,rfl⟩
 have hb1:Below w.heap.size w w1:=by rw [←hw1];exact (Below.refl _ w).alloc (Nat.le_refl _) _
 have hs1:w1.heap.size=D+1:=by rw [←hw1,←hD];simp
 have hhD:w1.heap[D]? = some (.cells vs.toArray 25 (0,0)):=by rw [←hw1,←hD];exact heap_alloc_new w _
 have hb2:Below w1.heap.size w1 w2:=by rw [←hw2];exact (Below.refl _ w1).alloc (Nat.le_refl _) _
 have hs2:w2.heap.size=D+2:=by rw [←hw2];simp;omega
 have hhD2:=(hb2.block D (by omega)).trans hhD
 have hwr2:Ybm w2 (D+2) (D+1) []:=by rw [←hw2];exact Ybm.fresh hs1 (Nat.lt_succ_self _)
 have hb12:Below D w w2:=by rw [←hD];exact hb1.trans (hb2.mono hb1.size)
 have hu2:Below u.heap.size u w2:=hu.trans (hb12.mono (by rw [←hD];exact hu.size))
 have hN2:u.heap.size≤D+1:=by have:=hu.size;omega
 have cp:=fun (x:World) (hx:x=w2)=> (by subst hx;exact Yqo (r:=[]) hS ht hu2 hN2 (by omega) hwr2 (by simp) h0:Calls Tryz.prog 11 #[.pointer (some ⟨D+1,0,none⟩),.agg vs.toArray] x fun e w'=> e = .returned (.int .i64 0)∧Ybm w' (D+2) (D+1) (Yje [] S)∧x.grownBy w' (some (D+1)))
 generalize vs.toArray=A at *
 generalize Yje [] S=RL at *
 have HW1:=Lib.hid hw1
 have HW2:=Lib.hid hw2
 have HD:=Lib.hid hD
 have HB12:=Lib.hid hb12
 have HS1:=Lib.hid hs1
 clear hS ht hu h0 hw1 hw2 hb1 hs1 hhD hb2 hwr2 hu2 hN2 hD hb12
 go_enter Tryz.func12,Tryz.ntmps12
 go_wp2_with fail
 rw [HW1.out,HD.out]
 refine (Yg8 _).mono ?_
 rintro e x ⟨rfl,rfl⟩
 rw [HW2.out,HS1.out]
 go_wp2_with (with_reducible refine wpList_load_row rfl 25 _ rfl D rfl 25 A (0,0) _ hhD2 Tryz.underlying25 rfl hsz ?_)
 refine (cp _ rfl).mono ?_
 rintro e w3 ⟨rfl,hwr3,hg3⟩
 have hl:=Yij w3 _ _ _ hwr3
 have hbE:Below D w w3:=HB12.out.grown hg3 (by omega) (fun j hj=> by injection hj with hj;omega)
 clear cp hwr3 hg3
 go_wp2_with fail
 refine hl.mono ?_
 rintro e x ⟨rfl,rfl⟩
 go_wp2
 go_ret2
 exact ⟨rfl,by rw [HD.out];exact hbE⟩
set_option maxRecDepth 100000 in
set_option maxHeartbeats 1000000 in
theorem Yk9 (hS:Yqx u S vs) (ht:Ybn u.heap.size u) (hu:Below u.heap.size u w) (h0:Ybv S≠0):Calls Tryz.prog 12 #[.agg vs.toArray] w fun e w'=> e = .returned (.tuple #[.int .i64 0,.int .i64 (Ybv S)])∧Below w.heap.size w w':=by
 have hsz:=hS.sizes.1
 obtain ⟨D,hD⟩:∃D,w.heap.size=D:=⟨_,rfl⟩
 obtain ⟨w1,hw1⟩:∃w1,w.alloc (.cells vs.toArray 25 (0,0))=w1:=⟨_,rfl⟩
 obtain ⟨w2,hw2⟩:∃w2,w1.alloc Ye9=w2:=⟨_,rfl⟩
 have hb1:Below w.heap.size w w1:=by rw [←hw1];exact (Below.refl _ w).alloc (Nat.le_refl _) _
 have hs1:w1.heap.size=D+1:=by rw [←hw1,←hD];simp
 have hhD:w1.heap[D]? = some (.cells vs.toArray 25 (0,0)):=by rw [←hw1,←hD];exact heap_alloc_new w _
 have hb2:Below w1.heap.size w1 w2:=by rw [←hw2];exact (Below.refl _ w1).alloc (Nat.le_refl _) _
 have hs2:w2.heap.size=D+2:=by rw [←hw2];simp;omega
 have hhD2:=(hb2.block D (by omega)).trans hhD
 have hwr2:Ybm w2 (D+2) (D+1) []:=by rw [←hw2];exact Ybm.fresh hs1 (Nat.lt_succ_self _)
 have hb12:Below D w w2:=by rw [←hD];exact hb1.trans (hb2.mono hb1.size)
 have hu2:Below u.heap.size u w2:=hu.trans (hb12.mono (by rw [←hD];exact hu.size))
 have hN2:u.heap.size≤D+1:=by have:=hu.size;omega
 have cp:=fun (x:World) (hx:x=w2)=> (by subst hx;exact (Ynx (b:=D+1) hS ht hu2 h0).mono fun e y h=> ⟨h.1,hwr2.below h.2,Yaq h.2 _⟩:Calls Tryz.prog 11 #[.pointer (some ⟨D+1,0,none⟩),.agg vs.toArray] x fun e w'=> e = .returned (.int .i64 (Ybv S))∧Ybm w' (D+2) (D+1) []∧x.grownBy w' (some (D+1)))
 generalize vs.toArray=A at *
 have HW1:=Lib.hid hw1
 have HW2:=Lib.hid hw2
 have HD:=Lib.hid hD
 have HB12:=Lib.hid hb12
 have HS1:=Lib.hid hs1
 clear hS ht hu h0 hw1 hw2 hb1 hs1 hhD hb2 hwr2 hu2 hN2 hD hb12
 go_enter Tryz.func12,Tryz.ntmps12
 go_wp2_with fail
 rw [HW1.out,HD.out]
 refine (Yg8 _).mono ?_
 rintro e x ⟨rfl,rfl⟩
 rw [HW2.out,HS1.out]
 go_wp2_with (with_reducible refine wpList_load_row rfl 25 _ rfl D rfl 25 A (0,0) _ hhD2 Tryz.underlying25 rfl hsz ?_)
 refine (cp _ rfl).mono ?_
 rintro e w3 ⟨rfl,hwr3,hg3⟩
 have hl:=Yij w3 _ _ _ hwr3
 have hbE:Below D w w3:=HB12.out.grown hg3 (by omega) (fun j hj=> by injection hj with hj;omega)
 clear cp hwr3 hg3
 go_wp2_with fail
 refine hl.mono ?_
 rintro e x ⟨rfl,rfl⟩
 go_wp2
 go_ret2
 exact ⟨rfl,by rw [HD.out];exact hbE⟩
end
def Yx4:Cel:={Yyw with kind:=3,dc:=fun _=> 9}
def exSB:Cel:={Yyw with mx:=-1}
def Yy6:ShP:=⟨⟨0,0,0,false,0,[]⟩,[],0⟩
def exS1:ShP:=⟨⟨0,0,6,false,5,[]⟩,[⟨false,0,0,[Yx4,Yx4]⟩,⟨false,0,0,[Yx4,Yx4]⟩],0⟩
def exS2:ShP:=⟨⟨0,0,6,true,5,[]⟩,[⟨false,0,0,[exSB,Yx4]⟩,⟨false,0,0,[Yx4,Yx4]⟩],0⟩
theorem Ytx:Ybv Yy6=12∧Ybv exS1=0∧Ybv exS2=8:=by decide +kernel
theorem Yo2 (w:World) (c:Cel) (hm:(Lit.int .i64 c.mx).wf=true∧(Lit.int .i64 c.my).wf=true) (h:∀i,i<6→c.ev i = []):Ylk w c (Ycs c Yrx):=
 ⟨fun _=> none,fun _=> 0,Yq6 fun i hi=> by rw [h i hi];rfl,hm,fun i hi=> by rw [h i hi];exact ⟨Nat.zero_le _,.inl rfl⟩⟩
theorem Yw9 {w:World} {b:Nat} {c d:Cel} (hc:(Lit.int .i64 c.mx).wf=true∧(Lit.int .i64 c.my).wf=true) (hd:(Lit.int .i64 d.mx).wf=true∧(Lit.int .i64 d.my).wf=true) (ec:∀i,i<6→c.ev i = []) (ed:∀i,i<6→d.ev i = [])
  (h:w.heap[b]? = some (.cells (Ycs c Yrx++Ycs d Yrx).toArray 56 (0,0))):Ygr w (some ⟨b,0,none⟩) [c,d]:=by
 refine .inr ⟨b,0,rfl,(Array.getElem?_eq_some_iff.1 h).1,fun i hi=> ?_⟩
 match i,hi with
 | 0,_=>
  refine ⟨Ycs c Yrx,Yo2 w c hc ec,fun j v hj=> ?_⟩
  have hl:j<18:=(List.getElem?_eq_some_iff.1 hj).1
  rw [Nat.zero_mul,Nat.zero_add]
  exact Yab h (by rw [List.getElem?_append_left hl];exact hj)
 | 1,_=>
  refine ⟨Ycs d Yrx,Yo2 w d hd ed,fun j v hj=> ?_⟩
  exact Yab h (by rw [List.getElem?_append_right (by show 18≤0+1*18+j;omega),show 0+1*18+j-(Ycs c Yrx).length=j by show 0+1*18+j-18=j;omega];exact hj)
theorem Yxa {w:World} {b b1 b2:Nat} {l m:List Cel} (h:w.heap[b]? = some (.cells #[.bool false,.int .i64 0,.int .i64 0,.slice (some ⟨b1,0,none⟩) 2 2,.bool false,.int .i64 0,.int .i64 0,.slice (some ⟨b2,0,none⟩) 2 2] 59 (0,0)))
  (hl:l.length=2) (hm:m.length=2) (h1:Ygr w (some ⟨b1,0,none⟩) l) (h2:Ygr w (some ⟨b2,0,none⟩) m):Ydl w (some ⟨b,0,none⟩) [⟨false,0,0,l⟩,⟨false,0,0,m⟩]:=by
 have h':w.heap[b]? = some (.cells [.bool false,.int .i64 0,.int .i64 0,.slice (some ⟨b1,0,none⟩) 2 2,.bool false,.int .i64 0,.int .i64 0,.slice (some ⟨b2,0,none⟩) 2 2].toArray 59 (0,0)):=h
 refine .inr ⟨b,0,rfl,(Array.getElem?_eq_some_iff.1 h).1,fun i hi=> ?_⟩
 match i,hi with
 | 0,_=>
  refine ⟨[.bool false,.int .i64 0,.int .i64 0,.slice (some ⟨b1,0,none⟩) 2 2],⟨some ⟨b1,0,none⟩,2,(by show _ = [Value.bool false,.int .i64 0,.int .i64 0,.slice _ l.length 2];rw [hl]),(fun h=> by cases h),(by show l.length≤_;rw [hl];decide),h1⟩,fun j v hj=> ?_⟩
  match j,hj with
  | 0,hj | 1,hj | 2,hj | 3,hj=> injection hj with hj;subst hj;exact Yab h' rfl
 | 1,_=>
  refine ⟨[.bool false,.int .i64 0,.int .i64 0,.slice (some ⟨b2,0,none⟩) 2 2],⟨some ⟨b2,0,none⟩,2,(by show _ = [Value.bool false,.int .i64 0,.int .i64 0,.slice _ m.length 2];rw [hm]),(fun h=> by cases h),(by show m.length≤_;rw [hm];decide),h2⟩,fun j v hj=> ?_⟩
  match j,hj with
  | 0,hj | 1,hj | 2,hj | 3,hj=> injection hj with hj;subst hj;exact Yab h' rfl
theorem Yj2 {P:Program} {ops:Array Oper} {rest:List Oper} {op:Oper} {a:Act} {w:World} {Q:Exit→Act→World→Prop} (hgd:op.guard=none) (ty:TypeId) (x y:Operand) (ho:op.op = .store ty x y)
  (Z old:Array Value) (T:TypeId) (N:Nat) (hN:w.heap.size=N) (hx:a.eval x = .pointer (some ⟨N,0,none⟩)) (hy:a.eval y = .agg Z) (hi:(P.info? ty).map (·.size)=some Z.size) (hs:old.size=Z.size) (h1:Z.all (·.oneCell')=true)
  (h:wpList P ops Q rest (a.put op.dst undef) (w.alloc (.cells Z T (0,0)))):wpList P ops Q (op::rest) a (w.alloc (.cells old T (0,0))):=by
 subst hN
 exact Ybg hgd ty x y ho Z old T hx hy hi hs h1 h
theorem Yg5 (w:World) (o:Obj):∃w',w.alloc o=w'∧w'.heap.size=w.heap.size+1∧w'.heap[w.heap.size]? = some o∧Below w.heap.size w w':=
 ⟨_,rfl,by simp,heap_alloc_new w _,(Below.refl _ w).alloc (Nat.le_refl _) _⟩
def exK:Cel:={Yyw with skip:=true}
def Yx3:ShP:=⟨⟨0,0,6,true,5,[]⟩,[⟨false,0,0,[exK,exK]⟩,⟨false,0,0,[exK,exK]⟩],0⟩
theorem Yxj:Ybv Yx3=0∧(Yje [] Yx3).length=56:=by decide +kernel
set_option maxRecDepth 100000 in
set_option maxHeartbeats 2000000 in
theorem Yyb (w:World) (ht:Ybn w.heap.size w):Calls Tryz.prog 8 #[] w fun e w'=> e = .returned (.bool true)∧Below w.heap.size w w':=by
 obtain ⟨N,hN⟩:∃N,w.heap.size=N:=⟨_,rfl⟩
 obtain ⟨Y,HYS,hzv⟩:=Ygz
 obtain ⟨Yr,HYRS,hzr⟩:=Yjt
 obtain ⟨A,hA⟩:∃A,(Ycs exK Yrx).toArray=A:=⟨_,rfl⟩
 obtain ⟨w0,hw0,hs0,hh0,hb0⟩:=Yg5 w (.cells A 56 (0,0))
 obtain ⟨w1,hw1,hs1,hh1,hb1⟩:=Yg5 w0 (.cells (Ycs exK Yrx++Ycs exK Yrx).toArray 56 (0,0))
 obtain ⟨w2,hw2,hs2,hh2,hb2⟩:=Yg5 w1 (.cells #[.bool false,.int .i64 0,.int .i64 0,.slice (some ⟨N+1,0,none⟩) 2 2] 59 (0,0))
 obtain ⟨w3,hw3,hs3,hh3,hb3⟩:=Yg5 w2 (.cells #[.bool false,.int .i64 0,.int .i64 0,.slice (some ⟨N+1,0,none⟩) 2 2,.bool false,.int .i64 0,.int .i64 0,.slice (some ⟨N+1,0,none⟩) 2 2] 59 (0,0))
 rw [hN] at hs0 hh0 hb0
 rw [hs0] at hs1 hh1 hb1
 rw [hs1] at hs2 hh2 hb2
 rw [hs2] at hs3 hh3 hb3
 have hs1:w1.heap.size=N+2:=hs1
 have hs2:w2.heap.size=N+3:=hs2
 have hs3:w3.heap.size=N+4:=hs3
 have b23:Below (N+3) w2 w3:=hb3
 have b13:Below (N+2) w1 w3:=(hb2.trans (hb3.mono (by omega))).mono (by omega)
 have b03:Below N w0 w3:=(hb1.trans (b13.mono (by omega))).mono (by omega)
 have bw3:Below N w w3:=hb0.trans b03
 have hmA:(Lit.int .i64 exK.mx).wf=true∧(Lit.int .i64 exK.my).wf=true:=by decide
 have hC1:Ygr w3 (some ⟨N+1,0,none⟩) [exK,exK]:=Yw9 hmA hmA (fun _ _=> rfl) (fun _ _=> rfl) ((b13.block (N+1) (by omega)).trans hh1)
 have hR:Ydl w3 (some ⟨N+3,0,none⟩) Yx3.rows:=Yxa hh3 rfl rfl hC1 hC1
 have hev:∀c∈Ybs Yx3,∀k,k<6→(c.ev k).length≤1048576:=fun c hc k _=> by
  have:c=exK:=by simpa [Ybs,Yx3] using hc
  subst this;exact Nat.zero_le _
 obtain ⟨Z1,hZ1⟩:∃Z:Array Value,#[.int .i64 0,.int .i64 0,.int .i64 6,.bool true,.int .i64 5,.slice none 0 0,.slice (some ⟨N+3,0,none⟩) 2 2,.int .i64 0]=Z:=⟨_,rfl⟩
 have hSI:Yqx w3 Yx3 (Ya3 Yx3.hd (.slice none 0 0) (.slice (some ⟨N+3,0,none⟩) 2 2) 0):=⟨⟨none,some ⟨N+3,0,none⟩,0,2,rfl,Nat.zero_le _,(by decide),Ydd.nil _ _,hR⟩,(by decide),hev⟩
 have ht3:Ybn w3.heap.size w3:=(by
  have h:=ht.below (hN.symm▸bw3)
  exact Ybn.here h.pats h.mvd h.steps h.tcoef)
 have C1:=Lib.hid ((by
  have h:=Ynv hSI ht3 (Below.refl _ _) Yxj.1
  rw [Yxj.2] at h
  rw [←hZ1,←hs3]
  exact h:Calls Tryz.prog 12 #[.agg Z1] w3 fun e y=> e = .returned (.tuple #[.int .i64 56,.int .i64 0])∧Below (N+4) w3 y))
 have C0:=Lib.hid (fun x (hx:Below (N+4) w3 x)=> (by
  have hS0:Yqx x Yy6 (Ya3 Yy6.hd (.slice none 0 0) (.slice none 0 0) 0):=⟨⟨none,none,0,0,rfl,Nat.zero_le _,Nat.zero_le _,Ydd.nil _ _,.inl rfl⟩,Nat.zero_le _,fun c hc=> by cases hc⟩
  have htx:Ybn x.heap.size x:=(by
   have h:=ht3.below (hs3.symm▸hx)
   exact Ybn.here h.pats h.mvd h.steps h.tcoef)
  have h:=Yk9 hS0 htx (Below.refl _ _) (by rw [Ytx.1];decide)
  rw [Ytx.1] at h
  exact h.mono fun e y h=> ⟨h.1,hx.trans (h.2.mono (by have:=hx.size;omega))⟩:Calls Tryz.prog 12 #[.agg #[.int .i64 0,.int .i64 0,.int .i64 0,.bool false,.int .i64 0,.slice none 0 0,.slice none 0 0,.int .i64 0]] x fun e y=> e = .returned (.tuple #[.int .i64 0,.int .i64 12])∧Below (N+4) w3 y))
 have HSA:(Tryz.prog.info? 56).map (·.size)=some A.size:=by rw [←hA];exact Ye4 _ _
 have HYA:Y.size=A.size:=by rw [HYS,←hA];rfl
 have HOA:A.all (·.oneCell')=true:=by rw [←hA];exact Yha (Yo2 w exK hmA fun _ _=> rfl)
 have HSQ:(Tryz.prog.info? 59).map (·.size)=some (#[.bool false,.int .i64 0,.int .i64 0,.slice (some ⟨N+1,0,none⟩) 2 2]:Array Value).size:=by kernel_rfl
 have HYQ:Yr.size=(#[.bool false,.int .i64 0,.int .i64 0,.slice (some ⟨N+1,0,none⟩) 2 2]:Array Value).size:=by rw [HYRS];rfl
 have HOQ:(#[.bool false,.int .i64 0,.int .i64 0,.slice (some ⟨N+1,0,none⟩) 2 2]:Array Value).all (·.oneCell')=true:=by simp [Value.oneCell']
 have HBW:=Lib.hid bw3
 have HA:=Lib.hid hA
 have HN:=Lib.hid hN
 have HZ1:=Lib.hid hZ1
 have HW0:=Lib.hid hw0
 have HW1:=Lib.hid hw1
 have HW2:=Lib.hid hw2
 have HW3:=Lib.hid hw3
 have S1:=Lib.hid hs1
 have S2:=Lib.hid hs2
 clear hA hN hZ1 hw0 hw1 hw2 hw3 hh1 hh3 hb0 hb1 hb2 hb3 b23 b13 b03 bw3 hmA hev hC1 hR hSI ht3 ht hs3
 go_enter Tryz.func8,Tryz.ntmps8
 go_wp2_with (first
  | (with_reducible refine wpList_buildTo rfl 56 _ rfl (some 7) rfl (Ycs exK Yrx).toArray (by kernel_rfl) ?_;rw [HA.out])
  | (with_reducible refine Ybg rfl 56 _ _ rfl A Y 56 rfl rfl HSA HYA HOA ?_;rw [HW0.out,HN.out])
  | (with_reducible refine wpList_load_row rfl 56 _ rfl N rfl 56 A (0,0) _ hh0 Tryz.underlying56 rfl HSA ?_)
  | (with_reducible refine Yj0 rfl _ _ rfl exK exK Yrx Yrx (N+1) hs0 10 rfl ?d1 ?d2 ?_;(case d1=> (rw [HA.out];kernel_rfl));(case d2=> (rw [HA.out];kernel_rfl));rw [HW1.out])
  | (with_reducible refine wpList_buildTo rfl 59 _ rfl (some 11) rfl #[.bool false,.int .i64 0,.int .i64 0,.slice (some ⟨N+1,0,none⟩) 2 2] (by kernel_rfl) ?_)
  | (with_reducible refine Yj2 rfl 59 _ _ rfl #[.bool false,.int .i64 0,.int .i64 0,.slice (some ⟨N+1,0,none⟩) 2 2] Yr 59 (N+2) S1.out rfl rfl HSQ HYQ HOQ ?_;rw [HW2.out])
  | (with_reducible refine wpList_load_row rfl 59 _ rfl (N+2) rfl 59 #[.bool false,.int .i64 0,.int .i64 0,.slice (some ⟨N+1,0,none⟩) 2 2] (0,0) _ hh2 Tryz.underlying59 rfl HSQ ?_)
  | (with_reducible refine wpList_buildTo rfl 25 _ rfl (some 16) rfl #[.int .i64 0,.int .i64 0,.int .i64 6,.bool true,.int .i64 5,.slice none 0 0,.slice (some ⟨N+3,0,none⟩) 2 2,.int .i64 0] (by kernel_rfl) ?_;rw [HZ1.out]))
 rw [HW3.out]
 refine C1.out.mono ?_
 rintro e x1 ⟨rfl,hx1⟩
 go_wp2_with (with_reducible refine wpList_buildTo rfl 25 _ rfl (some 21) rfl #[.int .i64 0,.int .i64 0,.int .i64 0,.bool false,.int .i64 0,.slice none 0 0,.slice none 0 0,.int .i64 0] (by kernel_rfl) ?_)
 refine (C0.out _ hx1).mono ?_
 rintro e x2 ⟨rfl,hx2⟩
 go_wp2
 go_ret
 exact ⟨rfl,by rw [HN.out];exact HBW.out.trans (hx2.mono (by omega))⟩
def Yyr (S:ShP) (w:World) (e:Ending) (w':World):Prop:=(∃y,e = .returned (.bool y)∧(y=true→Yio S∧S.zeros≤1000))∧Below w.heap.size w w'
set_option maxRecDepth 100000 in
set_option maxHeartbeats 1000000 in
theorem Yrs {u w:World} {S:ShP} {vs:List Value} (hS:ShV u S vs) (hu:Below u.heap.size u w):Calls Tryz.prog 6 #[.agg vs.toArray] w (Yyr S w):=by
 obtain ⟨p,b,ca,cb,hvs,hl,hn,-,hr⟩:=hS
 have z7:vs[7]? = some (.int .i64 S.zeros):=by rw [hvs];rfl
 have hsz:(Tryz.prog.info? 25).map (·.size)=some vs.toArray.size:=by rw [hvs,show (Ya3 S.hd (.slice p S.hd.supp.length ca) (.slice b S.rows.length cb) S.zeros).toArray.size=8 from rfl];kernel_rfl
 have hb1:=(Below.refl _ w).alloc (Nat.le_refl _) (.cells vs.toArray 25 (0,0))
 have cl:=Yt6 S p b ca cb (w.alloc (.cells vs.toArray 25 (0,0))) hl hn (hr.below (hu.trans (hb1.mono hu.size)))
 rw [←hvs] at cl
 obtain ⟨D,hD⟩:∃D,w.heap.size=D:=⟨_,rfl⟩
 obtain ⟨w1,hw1⟩:∃w1,w.alloc (.cells vs.toArray 25 (0,0))=w1:=⟨_,rfl⟩
 have hhD:w1.heap[D]? = some (.cells vs.toArray 25 (0,0)):=by rw [←hw1,←hD];exact heap_alloc_new w _
 have hs1:w1.heap.size=D+1:=by rw [←hw1,←hD];simp
 rw [hw1] at cl hb1
 obtain ⟨z,hz⟩:∃z,S.zeros=z:=⟨_,rfl⟩
 rw [hz] at z7
 have HZ:=Lib.hid hz
 have HW1:=Lib.hid hw1
 have HD:=Lib.hid hD
 have HB1:=Lib.hid hb1
 clear hvs hl hn hr hu hz hw1 hD hb1
 go_enter Tryz.func6,Tryz.ntmps6
 go_wp2_with (with_reducible refine wpList_load_row rfl 25 _ rfl _ rfl 25 vs.toArray (0,0) _ (heap_alloc_new w _) Tryz.underlying25 rfl hsz ?_)
 rw [HW1.out,HD.out]
 refine cl.mono ?_
 rintro e w2 ⟨⟨y,rfl,hy⟩,hb2⟩
 have k7:=Yab (o:=7) ((hb2.block D (by omega)).trans hhD) z7
 have hE:Below w.heap.size w w2:=HB1.out.trans (hb2.mono HB1.out.size)
 cases y with
 | false=>
  clear k7 hb2
  go_wp2
  go_ret
  exact ⟨⟨_,rfl,fun h=> by cases h⟩,hE⟩
 | true=>
  have HY:=Lib.hid (hy rfl)
  clear hy
  by_cases hz:z≤1000
  ·have t1:decide (z≤1000)=true:=decide_eq_true hz
   clear hz
   go_wp2
   go_ret
   exact ⟨⟨_,rfl,fun _=> ⟨HY.out,by rw [HZ.out];exact of_decide_eq_true t1⟩⟩,hE⟩
  ·have t1:decide (z≤1000)=false:=decide_eq_false hz
   clear hz
   go_wp2
   go_ret
   exact ⟨⟨_,rfl,fun h=> by cases h⟩,hE⟩
theorem Yio.lies {u:World} {S:ShP} {vs:List Value} (h:Yio S) (hS:ShV u S vs):Yqx u S vs:=⟨hS,by have:=h.rows;omega,fun c hc k hk=> by have:=h.mem c hc k hk;omega⟩
theorem Ym5 (n:Nat) (w:World) (hn:n≤1073741824):∃w',(Instr.makeSlice 78 (.int .i64 (n:Int)) (.int .i64 (n:Int))).run Tryz.prog w = .ok (.slice (some ⟨w.heap.size,0,none⟩) n n) w'∧
  w'.ownsRow w.heap.size 5 1 (.slice (some ⟨w.heap.size,0,none⟩) n n) n (List.replicate n (.int .u8 0))∧w.grownBy w' none:=by
 obtain ⟨i,hi,hz,hs,hb⟩:=info_parts (show (Tryz.prog.info? 5).map (fun i=> (i.zero,i.size,i.bytes))=some (some (Value.int IntKind.u8 0),1,1) by kernel_rfl)
 obtain ⟨w',h1,h2,h3⟩:=run_make_full (P:=Tryz.prog) w w.heap.size 78 5 i (.int .u8 0) 1 Tryz.underlying78 hi hz hs .i64 .i64 n (by rw [hb];omega) (by unfold maxLen;omega) (Nat.le_refl _)
 rw [Nat.mul_one,show (Value.int IntKind.u8 0).cells = #[.int .u8 0] from rfl,toList_madeCells_one] at h2
 exact ⟨w',h1,h2,h3⟩
theorem Ypg (j m:Nat) (hj:j<m):(List.replicate j (Value.int .u8 48)++List.replicate (m-j) (Value.int .u8 0)).set j (Value.int .u8 48)=List.replicate (j+1) (Value.int .u8 48)++List.replicate (m-(j+1)) (Value.int .u8 0):=by
 rw [List.set_append_right _ _ (by simp),List.length_replicate,Nat.sub_self,show m-j=(m-(j+1))+1 by omega,List.replicate_succ,List.set_cons_zero,List.replicate_succ',List.append_assoc];rfl
theorem Ylr (n:Nat):Ya1 (List.replicate n 48)=List.replicate n (Value.int .u8 48):=by
 unfold Ya1
 rw [List.map_replicate];rfl
set_option maxRecDepth 100000 in
set_option maxHeartbeats 1000000 in
theorem Yla {u w:World} {S:ShP} {vs0:List Value} (a:Nat) (hS:Yqx u S vs0) (hu:Below u.heap.size u w) (h0:Ybv S=0) (ha:a≤1000000):
  Calls Tryz.prog 15 #[.int .i64 (a:Int),.agg vs0.toArray] w fun e w'=> e = .returned (.string (Ybr (Ye5 a++Ybo (a+gap a) S)))∧Below w.heap.size w w':=by
 have hsz:=hS.sizes.1
 obtain ⟨r,hra⟩:∃r:List UInt8,r.length=a:=⟨List.replicate a 48,List.length_replicate⟩
 obtain ⟨hm,hz,⟨hR,h18⟩,N,hNk,hNN,hrows⟩:=Yil h0
 have hRm:=Yjf h0 r
 have hLm:=Yhc h0 r
 have hst:=Yfo r S
 have hOL:Yje r S=r++(Ye5 a++Ybo (a+gap a) S):=by unfold Yje;rw [hra]
 obtain ⟨⟨p,q,ca,cb,hvs,hsl,hrl,hsu,hrw⟩,hn62,hev⟩:=hS
 have cha:=fun (x:World) (hx:Below u.heap.size u x)=> Ysk S.hd a p ca (.slice q S.rows.length cb) S.zeros (by omega) hm x (hsu.below hx)
 rw [←hvs] at cha
 have hOH:r++Yi2 a S.hd=Yo5 r S:=by unfold Yo5;rw [Ymo,hra]
 have hHl:(Yi2 a S.hd).length≤200:=by
  have:=(Ycy.1 hm).2.2.1
  rw [Ym3]
  unfold gap
  omega
 have hT0:Yb6 S.hd.inter S.hd.fmt 0 (r++Yi2 a S.hd) [] 0 (S.rows.drop 0)=Yne r S:=by rw [hOH];exact Yhw r S
 have rm:=fun (i:Nat) (hi:i<S.rows.length)=> Yu5 hrows hi
 have rev:=fun (i:Nat) (hi:i<S.rows.length) c (hc:c∈S.rows[i].cels)=> hev c (List.mem_flatMap.2 ⟨_,List.getElem_mem hi,hc⟩)
 have hnx:=fun (i:Nat) (R:List UInt8) (vs:List (Int×Int)) (first:Int) (hi:i<S.rows.length)=> Yjs (inter:=S.hd.inter) (k:=S.hd.fmt) i R vs first hi
 have hend:=fun (R:List UInt8) (vs:List (Int×Int)) (first:Int)=> (show Yb6 S.hd.inter S.hd.fmt S.rows.length R vs first (S.rows.drop S.rows.length)=R by rw [List.drop_length];exact Yk8 ..)
 have z2:vs0[2]? = some (.int .i64 S.hd.fmt):=by rw [hvs];rfl
 have z3:vs0[3]? = some (.bool S.hd.inter):=by rw [hvs];rfl
 have z6:vs0[6]? = some (.slice q S.rows.length cb):=by rw [hvs];rfl
 have z7:vs0[7]? = some (.int .i64 S.zeros):=by rw [hvs];rfl
 obtain ⟨z,hzz⟩:∃z:Nat,S.zeros=(z:Int):=⟨S.zeros.toNat,by omega⟩
 rw [hzz] at z7 hz
 rw [hzz,Int.toNat_natCast] at hst
 have cac:=fun (x:World)=> Ygb S.hd.fmt x
 rw [(Ycm S.hd.fmt).1] at cac
 have csi:=fun (x:World)=> Ydj S.hd.fmt x
 have ix3:=fun w=> (Yhr (Yf4 S.hd.fmt) (Ygi S.hd.fmt) (Yf3 S.hd.fmt) (Yfm S.hd.fmt) w).1
 unfold Ys2 at csi
 have hfa:Yex S.hd.fmt≤1000:=by have:=(Ycm S.hd.fmt).1;have:=(Ylx S.hd.fmt).2.2.2.2;omega
 have wm:=fun (i:Nat) (hi:i≤1000)=> Yna S.hd.fmt hi
 have hle:∀(i:Nat) (R:List UInt8) (vs:List (Int×Int)) (first:Int) (rs:List RowP),Yb6 S.hd.inter S.hd.fmt i R vs first rs=Yne r S→R.length≤200000000:=fun i R vs first rs h=> by
  rw [←h] at hRm
  unfold Yb6 at hRm
  rw [List.length_append] at hRm
  omega
 generalize Yi2 a S.hd=H0 at *
 obtain ⟨T,hT⟩:∃T,Yne r S=T:=⟨_,rfl⟩
 rw [hT] at hst hRm hT0 hle
 obtain ⟨D,hD⟩:∃D,w.heap.size=D:=⟨_,rfl⟩
 obtain ⟨w1,hw1⟩:∃w1,w.alloc (.cells vs0.toArray 25 (0,0))=w1:=⟨_,rfl⟩
 have hb1:Below w.heap.size w w1:=by rw [←hw1];exact (Below.refl _ w).alloc (Nat.le_refl _) _
 have hs1:w1.heap.size=D+1:=by rw [←hw1,←hD];simp
 have hhD:w1.heap[D]? = some (.cells vs0.toArray 25 (0,0)):=by rw [←hw1,←hD];exact heap_alloc_new w _
 have huD:u.heap.size≤D:=by rw [←hD];exact hu.size
 have hu1:Below u.heap.size u w1:=hu.trans (hb1.mono hu.size)
 have U:=Lib.hid (fun (x:World) (hx:Below (D+1) w1 x)=> (hu1.trans (hx.mono (by omega)):Below u.heap.size u x))
 have W:=Lib.hid (fun (x:World) (hx:Below (D+1) w1 x)=> (hb1.trans (hx.mono (by omega)):Below w.heap.size w x))
 have hk:∀x,Below (D+1) w1 x→x.heap[D]? = some (.cells vs0.toArray 25 (0,0)):=fun x hx=> (hx.block D (by omega)).trans hhD
 generalize hfm:S.hd.fmt=k at *
 generalize hin:S.hd.inter=inter at *
 obtain ⟨n,hln⟩:∃n,S.rows.length=n:=⟨_,rfl⟩
 have K2:=Lib.hid (fun (x:World) (hx:Below (D+1) w1 x)=> Yab (o:=2) (hk x hx) z2)
 have K3:=Lib.hid (fun (x:World) (hx:Below (D+1) w1 x)=> Yab (o:=3) (hk x hx) z3)
 have K6:=Lib.hid (fun (x:World) (hx:Below (D+1) w1 x)=> (by rw [←hln];exact Yab (o:=6) (hk x hx) z6:x.cell? ⟨D,6,none⟩=some (.slice q n cb)))
 have K7:=Lib.hid (fun (x:World) (hx:Below (D+1) w1 x)=> Yab (o:=7) (hk x hx) z7)
 have KK:=fun (x y:World) (hx:Below (D+1) w1 x) (hy:Below x.heap.size x y)=> (hx.trans (hy.mono (by have:=hx.size;omega)):Below (D+1) w1 y)
 have CAC:=Lib.hid (fun (x:World) (hx:Below (D+1) w1 x)=> ((cac x).mono fun e y h=> ⟨h.1,KK x y hx h.2⟩:Calls Tryz.prog 43 #[.int .i64 k] x fun e y=> e = .returned (.int .i64 (Yex k))∧Below (D+1) w1 y))
 have HKK:=Lib.hid KK
 have cacx:=Lib.hid cac
 have HS1:=Lib.hid hs1
 rw [hln] at h18
 have HW1:=Lib.hid hw1
 have HD:=Lib.hid hD
 have NR:=Lib.hid hln
 have HRS:=Lib.hid hrw
 have HT0:=Lib.hid hT0
 have HLE:=Lib.hid hle
 have NX:=Lib.hid hnx
 have HEND:=Lib.hid hend
 have RM:=Lib.hid rm
 have REV:=Lib.hid rev
 have WM:=Lib.hid wm
 have HST:=Lib.hid hst
 have HOL:=Lib.hid hOL
 have HLM:=Lib.hid hLm
 have HRM:=Lib.hid hRm
 have HRA:=Lib.hid hra
 have hbx:Below (D+1) w1 w1:=Below.refl _ _
 have c1:=cha w1 (U.out _ hbx)
 have hz2:z≤262144:=by omega
 have cof:=fun (f:Nat→Int×Int) (vp:Option Addr) (n' cap':Nat) (first:Int) (x:World) (hv:Yea x vp n' f) (hn':n'≤1048576)=> Yrw f vp n' cap' (Yex k) first x hv (by unfold maxLen;omega) (by omega)
 clear hw1 hD hrw hT0 hle hnx hend rm rev wm hst hOL hLm hRm hra hu hu1 hb1 hs1 hm hz hR hNk hrows h0 hvs hsl hrl hsu hn62 hev cha z2 z3 z6 z7 hzz cac hk hOH hT KK hhD huD hln
 go_enter Tryz.func15,Tryz.ntmps15
 go_wp2_with (with_reducible refine wpList_load_row rfl 25 _ rfl _ rfl 25 vs0.toArray (0,0) _ (heap_alloc_new w _) Tryz.underlying25 rfl hsz ?_)
 rw [HW1.out]
 refine c1.mono ?_
 rintro e w2 ⟨rfl,hb2⟩
 have hbx2:=HKK.out _ _ hbx hb2
 clear c1 hbx hb2
 have hX0:Hid (Ybj H0=Ybr H0):=Lib.hid rfl
 rw [hX0.out,HD.out]
 go_wp2
 go_loopw [5,6,7,8] (fun o v f t wr=>∃(i:Nat) (first:Int) (vs:List (Int×Int)) (X:List UInt8),o = .string (Ybr X)∧f = .int .i64 first∧t = .int .i64 (i:Int)∧i≤n∧wr.ownsRow (D+1) 51 2 v vs.length (Ypq vs)∧Hid (Yb6 inter k i (r++X) vs first (S.rows.drop i)=T)∧Below (D+1) w1 wr∧Hid (vs.length≤1000*i)) (fun _ _ _ t _=> n-(RowKit.intOf t).toNat)
 case atStart=> exact ⟨0,0,[],H0,rfl,rfl,rfl,Nat.zero_le _,World.ownsRow_nil ..,HT0,hbx2,Lib.hid (Nat.zero_le _)⟩
 case round=>
  clear hbx2 HT0
  obtain ⟨i,first,vs,X,rfl,rfl,rfl,hi,hv,hT,hb,hvl⟩:=hrel
  have k6:=K6.out _ hb
  by_cases hlt:i<n
  ·have t1:decide ((i:Int)<(n:Int))=true:=by simp;omega
   have hil:i<S.rows.length:=by rw [NR.out];exact hlt
   obtain ⟨b1,o1,hq1,hlb1,hc1⟩:=Ygn HRS.out (by rw [NR.out];omega)
   obtain ⟨rq,cap,hq,hml,hcel,hat⟩:=hc1 i hil
   have hTn:=NX.out i (r++X) vs first hil
   rw [hT.out] at hTn
   obtain ⟨RC,RCM,RH⟩:=RM.out i hil
   have RE:=REV.out i hil
   have wmi:=WM.out i (by omega)
   obtain ⟨row,hrow⟩:∃row,S.rows[i]=row:=⟨_,rfl⟩
   rw [hrow] at hml hcel hat hTn RC RCM RH RE
   subst hq1
   have HAT:=Lib.hid (fun (x:World) (hx:Below (D+1) w1 x)=> hat x (U.out x hx))
   have HCEL:=Lib.hid hcel
   have HTN:=Lib.hid hTn
   have HRC:=Lib.hid RC
   have HRCM:=Lib.hid RCM
   have HRE:=Lib.hid RE
   have hXl:X.length≤200000000:=by have h:=HLE.out _ _ _ _ _ hT.out;rw [List.length_append] at h;omega
   have HXL:=Lib.hid hXl
   obtain ⟨q0,q1,q2,q3⟩:=HAT.out _ hb
   have HBW:=Lib.hid hb
   have HVW:=Lib.hid hv
   clear hcel hat hc1 hTn RC RCM RE hrow hT hb
   go_upto_if 28 with fail
   go_cut [5,7] (fun o f wx=>∃X',o = .string (Ybr X')∧f = .int .i64 (Ylz k i first row)∧Hid (r++X'=(r++X)++Ygm i (r++X).length row)∧Below wr.heap.size wr wx)
   case first=>
    cases hd:row.head with
    | false=>
     try rw [hd]
     go_wp2
     go_meet
     case rel=> exact ⟨X,rfl,by unfold Ylz;rw [hd];rfl,Lib.hid (by unfold Ygm;rw [hd];exact (List.append_nil _).symm),Below.refl _ _⟩
    | true=>
     obtain ⟨hi0,ia,iq,hia,hqq,ha3,hq1,hq31⟩:=RH hd
     have hpg:=fun (x:World)=> Ytz (a+X.length) i ia iq (by omega) (by omega) x
     have KW:=fun (x y:World) (hx:Below wr.heap.size wr x) (hy:Below x.heap.size x y)=> (hx.trans (hy.mono hx.size):Below wr.heap.size wr y)
     have HPG:=Lib.hid (fun (x:World) (hx:Below wr.heap.size wr x)=> ((hpg x).mono fun e y h=> ⟨h.1,KW x y hx h.2⟩:Calls Tryz.prog 40 #[.int .i64 ((a+X.length:Nat):Int),.int .i64 (i:Int),.int .i64 (ia:Int),.int .i64 (iq:Int)] x fun e y=> e = .returned (.string (Ybj (Ycc (a+X.length) i ia iq)))∧Below wr.heap.size wr y))
     have hwx:∀x,Below wr.heap.size wr x→Below (D+1) w1 x:=fun x hx=> HKK.out _ _ HBW.out hx
     have L6:=Lib.hid (fun (x:World) (hx:Below wr.heap.size wr x)=> K6.out x (hwx x hx))
     have L2:=Lib.hid (fun (x:World) (hx:Below wr.heap.size wr x)=> K2.out x (hwx x hx))
     have R1:=Lib.hid (fun (x:World) (hx:Below wr.heap.size wr x)=> (by rw [←hia];exact (HAT.out x (hwx x hx)).2.1:x.cell? ⟨b1,o1+i*4+1,none⟩=some (.int .i64 (ia:Int))))
     have R2:=Lib.hid (fun (x:World) (hx:Below wr.heap.size wr x)=> (by rw [←hqq];exact (HAT.out x (hwx x hx)).2.2.1:x.cell? ⟨b1,o1+i*4+2,none⟩=some (.int .i64 (iq:Int))))
     have hs1:(Ybr X).size≤200000000:=by rw [Ya8];exact hXl
     have hs2:(Ybj (Ycc (a+X.length) i ia iq)).size≤100:=by
      rw [Ybl,Yf5]
      unfold gap
      omega
     have hsx:(Ybr X).size=X.length:=Ya8 X
     have wS:IntKind.i64.wrap ((a:Int)+(X.length:Int))=((a+X.length:Nat):Int):=by rw [Yc8 (by omega)];omega
     have WS:=Lib.hid wS
     have HEQ:Hid (Ybr X++Ybj (Ycc (a+X.length) i ia iq)=Ybr (X++Ycc (a+X.length) i ia iq)):=Lib.hid (by rw [Ybw];rfl)
     have HNX:Hid (r++(X++Ycc (a+X.length) i ia iq)=(r++X)++Ygm i (r++X).length row):=Lib.hid (by unfold Ygm;rw [hd,if_pos rfl,hia,hqq,Int.toNat_natCast,Int.toNat_natCast,List.length_append,HRA.out,List.append_assoc])
     have HFS:Hid (Ylz k i first row=(i:Int)*Yfm k):=Lib.hid (by unfold Ylz;rw [hd];rfl)
     have hbd:=(Below.refl wr.heap.size wr).drew
     have SX:=Lib.hid hsx
     generalize Ybj (Ycc (a+X.length) i ia iq)=sh at *
     obtain ⟨sx,hsx2⟩:∃sx,Ybr X=sx:=⟨_,rfl⟩
     rw [hsx2] at SX HEQ hs1 ⊢
     clear hd hia hqq hi0 RH hpg KW wS hsx hsx2 hwx q1 q2 q3 k6 hXl
     go_wp2
     refine Yah (S:=fun x=> Below wr.heap.size wr x) 20 (by kernel_rfl) (by kernel_rfl) hbd ?_
     simp only [List.take_succ_cons,List.take_zero,List.drop_succ_cons,List.drop_zero]
     iterate 4 (refine Yaa (by kernel_rfl) (fun x _=> by go_simp;try with_reducible rfl) ?_;simp only [Act.put,List.setIfInBounds_toArray,List.set_cons_zero,List.set_cons_succ])
     refine Yaa (v:=.int .i64 ((a+X.length:Nat):Int)) (by kernel_rfl) (fun x hx=> by go_simp;rw [SX.out,WS.out];omega) ?_;simp only [Act.put,List.setIfInBounds_toArray,List.set_cons_zero,List.set_cons_succ]
     iterate 2 (refine Yaa (by kernel_rfl) (fun x _=> by go_simp;try with_reducible rfl) ?_;simp only [Act.put,List.setIfInBounds_toArray,List.set_cons_zero,List.set_cons_succ])
     refine Yae 23 _ ⟨D,6,none⟩ (.slice (some ⟨b1,o1,none⟩) n cb) (by kernel_rfl) rfl rfl (fun x hx=> by have c0:=L6.out x hx;go_simp) ?_;simp only [Act.put,List.setIfInBounds_toArray,List.set_cons_zero,List.set_cons_succ]
     iterate 3 (refine Yaa (by kernel_rfl) (fun x _=> by go_simp;try with_reducible rfl) ?_;simp only [Act.put,List.setIfInBounds_toArray,List.set_cons_zero,List.set_cons_succ])
     refine Yae 3 _ ⟨b1,o1+i*4+1,none⟩ (.int .i64 (ia:Int)) (by kernel_rfl) rfl rfl (fun x hx=> by have c0:=R1.out x hx;go_simp) ?_;simp only [Act.put,List.setIfInBounds_toArray,List.set_cons_zero,List.set_cons_succ]
     refine Yaa (by kernel_rfl) (fun x _=> by go_simp;try with_reducible rfl) ?_;simp only [Act.put,List.setIfInBounds_toArray,List.set_cons_zero,List.set_cons_succ]
     refine Yae 23 _ ⟨D,6,none⟩ (.slice (some ⟨b1,o1,none⟩) n cb) (by kernel_rfl) rfl rfl (fun x hx=> by have c0:=L6.out x hx;go_simp) ?_;simp only [Act.put,List.setIfInBounds_toArray,List.set_cons_zero,List.set_cons_succ]
     iterate 3 (refine Yaa (by kernel_rfl) (fun x _=> by go_simp;try with_reducible rfl) ?_;simp only [Act.put,List.setIfInBounds_toArray,List.set_cons_zero,List.set_cons_succ])
     refine Yae 3 _ ⟨b1,o1+i*4+2,none⟩ (.int .i64 (iq:Int)) (by kernel_rfl) rfl rfl (fun x hx=> by have c0:=R2.out x hx;go_simp) ?_;simp only [Act.put,List.setIfInBounds_toArray,List.set_cons_zero,List.set_cons_succ]
     refine Yaf (by kernel_rfl) HPG.out (fun _=> by kernel_rfl) ?_;simp only [Act.put,List.setIfInBounds_toArray,List.set_cons_zero,List.set_cons_succ]
     refine Yaa (v:=.string (sx++sh)) (by kernel_rfl) (fun x _=> by go_simp;first | omega | trivial) ?_;simp only [Act.put,List.setIfInBounds_toArray,List.set_cons_zero,List.set_cons_succ]
     refine Yas fun x hx=> ?_
     have hwx:=HKK.out _ _ HBW.out hx
     have k2:=K2.out _ hwx
     have hsi:=csi x
     clear HPG L6 L2 R1 R2
     go_wp2_with fail
     refine hsi.mono ?_
     rintro e x2 ⟨rfl,hx2⟩
     have hxE:=hx.trans (hx2.mono hx.size)
     rw [HEQ.out]
     clear hx hx2 hsi k2 hwx
     go_wp2
     go_meet
     case rel=> exact ⟨_,rfl,by rw [HFS.out],HNX,hxE⟩
   case rest=>
    obtain ⟨X',rfl,rfl,hX',hbx⟩:=hcut
    obtain ⟨wk,rfl⟩:∃x,x=wc:=⟨_,rfl⟩
    obtain ⟨f,hf⟩:∃f,Ylz k i first row=f:=⟨_,rfl⟩
    have hTN:=HTN.out
    rw [←hX'.out,hf] at hTN
    rw [hf]
    have hbk:=HKK.out _ _ HBW.out hbx
    have hvk:wk.ownsRow (D+1) 51 2 u6 vs.length (Ypq vs):=Yjg HVW.out hbx
    have k6':=K6.out _ hbk
    obtain ⟨-,-,-,q3⟩:=HAT.out _ hbk
    rw [HRC.out] at q3
    obtain ⟨T2,hT2⟩:∃T2,Ycu inter k f (r++X') vs row.cels=T2:=⟨_,rfl⟩
    rw [hT2] at hTN
    have hT20:Hid (Ycu inter k f (r++X') vs (row.cels.drop 0)=T2):=Lib.hid hT2
    have HT2:=Lib.hid hTN
    have HLT:Hid (T2.length≤200000000):=Lib.hid (HLE.out _ _ _ _ _ hTN.symm)
    clear hT2 hTN hX' hf q0 q1 q2 RH wmi hbx k6 hv
    go_wp2
    go_loopw [5,6,10] (fun o v t wr=>∃(j:Nat) (vz:List (Int×Int)) (X2:List UInt8),o = .string (Ybr X2)∧t = .int .i64 (j:Int)∧j≤N∧wr.ownsRow (D+1) 51 2 v vz.length (Ypq vz)∧Hid (Ycu inter k f (r++X2) vz (row.cels.drop j)=T2)∧Below (D+1) w1 wr∧Hid (vz=vs++Ye0 (row.cels.take j))) (fun _ _ t _=> N-(RowKit.intOf t).toNat)
    case atStart=> exact ⟨0,vs,X',rfl,rfl,Nat.zero_le _,hvk,hT20,hbk,Lib.hid (by simp [Ye0])⟩
    case round=>
     clear hvk hT20 hbk q3 k6'
     obtain ⟨j,vz,X2,rfl,rfl,hj,hv,hT3,hb,hvz⟩:=hrel
     by_cases hjm:j<N
     ·have t2:decide ((j:Int)<(N:Int))=true:=by simp;omega
      have hjl:j<row.cels.length:=by rw [HRC.out];exact hjm
      obtain ⟨b2,o2,hq2,hlb2,hcv⟩:=Ybt.each HCEL.out (by omega)
      obtain ⟨cs,hV,hvc⟩:=hcv j hjl
      obtain ⟨c,hcj⟩:∃c,row.cels[j]=c:=⟨_,rfl⟩
      have hmem:c∈row.cels:=hcj▸List.getElem_mem hjl
      have hT4:Ycu inter k f (r++X2) vz (c::row.cels.drop (j+1))=T2:=by rw [←hcj,←List.drop_eq_getElem_cons hjl];exact hT3.out
      rw [Yiu] at hT4
      have hvz2:vz ++ [(c.mx,c.my)]=vs++Ye0 (row.cels.take (j+1)):=by
       rw [hvz.out,List.take_succ_eq_append_getElem hjl,hcj]
       unfold Ye0
       rw [List.map_append,List.append_assoc];rfl
      rw [hcj] at hV
      have hvzl:vz.length≤1048575:=by
       have h1:=hvl.out
       rw [hvz.out]
       unfold Ye0
       rw [List.length_append,List.length_map,List.length_take]
       omega
      have hXl:X2.length≤200000000:=by
       have h1:=HLT.out
       have h2:=congrArg List.length hT3.out
       unfold Ycu at h2
       rw [List.length_append,List.length_append] at h2
       omega
      obtain ⟨hcl,hsi18,hrng⟩:cs.length=18∧(Tryz.prog.info? 56).map (·.size)=some cs.length∧True:=⟨hV.shape.1,by rw [hV.shape.1];kernel_rfl,trivial⟩
      obtain ⟨pp,cp,hcs,hwf,he⟩:=hV
      have hci:∀x,Below (D+1) w1 x→Yfu x c pp fun i=> (c.ev i).length:=fun x hx i hi=> ⟨rfl,HRE.out c hmem i hi,(he i hi).2.below (U.out x hx)⟩
      have hmay:=HRCM.out c hmem
      obtain ⟨vp,vcap,hvv,hVA⟩:=Yqw rfl hv
      subst hvv
      obtain ⟨⟨fx,fy⟩,hfo⟩:∃g,Yj6 vz (Yex k) f=g:=⟨_,rfl⟩
      rw [hfo] at hT4
      have KW:=fun (x y:World) (hx:Below wr.heap.size wr x) (hy:Below x.heap.size x y)=> (hx.trans (hy.mono hx.size):Below wr.heap.size wr y)
      have hwx:∀x,Below wr.heap.size wr x→Below (D+1) w1 x:=fun x hx=> HKK.out _ _ hb hx
      have CO:=Lib.hid (fun (x:World) (hx:Below wr.heap.size wr x)=> (cof (fun i=> vz.getD i (0,0)) vp vz.length vcap f x (hVA.mono hx) (by omega)).mono fun e y (zz:Yde _ x e y)=>
       (⟨by rw [zz.1,show Ywm (fun i=> vz.getD i (0,0)) vz.length (Yex k) f=(fx,fy) from hfo];rfl,KW x y hx zz.2⟩:e = .returned (.agg #[.int .i64 fx,.int .i64 fy])∧Below wr.heap.size wr y))
      have CW:=Lib.hid (fun (x:World) (hx:Below wr.heap.size wr x)=> ((cacx.out x).mono fun e y h=> ⟨h.1,KW x y hx h.2⟩:Calls Tryz.prog 43 #[.int .i64 k] x fun e y=> e = .returned (.int .i64 (Yex k))∧Below wr.heap.size wr y))
      have CR:=Lib.hid (fun (x:World) (hx:Below wr.heap.size wr x)=> (by
       rw [hcs]
       exact (Ytl inter fx fy c pp (fun i=> (c.ev i).length) cp x (hci x (hwx x hx)) hmay).mono fun e y h=> ⟨h.1,KW x y hx h.2⟩:Calls Tryz.prog 41 #[.bool inter,.agg #[.int .i64 fx,.int .i64 fy],.agg cs.toArray] x fun e y=> e = .returned (.string (Ybr (Ybx inter fx fy c)))∧Below wr.heap.size wr y))
      have L2:=Lib.hid (fun (x:World) (hx:Below wr.heap.size wr x)=> K2.out x (hwx x hx))
      have L3:=Lib.hid (fun (x:World) (hx:Below wr.heap.size wr x)=> K3.out x (hwx x hx))
      have LC:=Lib.hid (fun (x:World) (hx:Below wr.heap.size wr x)=> ((fun j' v hj'=> hvc x (U.out x (hwx x hx)) j' v hj'):x.rangeAt b2 (o2+j*18) cs))
      have v4:cs[4]? = some (.int .i64 c.mx):=by rw [hcs];rfl
      have v5:cs[5]? = some (.int .i64 c.my):=by rw [hcs];rfl
      have hr2:∀x,Below wr.heap.size wr x→x.rangeAt b2 (o2+j*18+4) [.int .i64 c.mx,.int .i64 c.my]:=fun x hx t v ht=> by
       match t,ht with
       | 0,ht=> injection ht with ht;subst ht;exact LC.out x hx 4 _ v4
       | 1,ht=> injection ht with ht;subst ht;exact LC.out x hx 5 _ v5
      have HR2:=Lib.hid hr2
      have hs1:(Ybr X2).size≤200000000:=by rw [Ya8];exact hXl
      have hs2:(Ybr (Ybx inter fx fy c)).size≤20000:=by rw [Ya8];exact Yl5 hmay fx fy
      have HEQ:Hid (Ybr X2++Ybr (Ybx inter fx fy c)=Ybr (X2++Ybx inter fx fy c)):=Lib.hid (by rw [Ybw];rfl)
      have HT4:Hid (Ycu inter k f (r++(X2++Ybx inter fx fy c)) (vz ++ [(c.mx,c.my)]) (row.cels.drop (j+1))=T2):=Lib.hid (by rw [←List.append_assoc];exact hT4)
      have HVZ2:=Lib.hid hvz2
      have hbd:=(Below.refl wr.heap.size wr).drew
      have HBB:=Lib.hid hb
      have HVV:=Lib.hid hv
      have hVl:=hv.lt
      generalize Ybr (Ybx inter fx fy c)=sr at *
      obtain ⟨sx,hsx2⟩:∃sx,Ybr X2=sx:=⟨_,rfl⟩
      rw [hsx2] at HEQ hs1 ⊢
      subst hq2
      clear hcj hmem hT3 hT4 hvz hvz2 hXl hcs hwf he hci hmay hVA hfo KW hwx v4 v5 hr2 hsx2 hvc hcv hb hrng
      go_wp2
      refine Yah (S:=fun x=> Below wr.heap.size wr x) 15 (by kernel_rfl) (by kernel_rfl) hbd ?_
      simp only [List.take_succ_cons,List.take_zero,List.drop_succ_cons,List.drop_zero]
      iterate 2 (refine Yaa (by kernel_rfl) (fun x _=> by go_simp;try with_reducible rfl) ?_;simp only [Act.put,List.setIfInBounds_toArray,List.set_cons_zero,List.set_cons_succ])
      refine Yae 4 _ ⟨D,3,none⟩ (.bool inter) (by kernel_rfl) rfl rfl (fun x hx=> by have c0:=L3.out x hx;go_simp) ?_;simp only [Act.put,List.setIfInBounds_toArray,List.set_cons_zero,List.set_cons_succ]
      iterate 2 (refine Yaa (by kernel_rfl) (fun x _=> by go_simp;try with_reducible rfl) ?_;simp only [Act.put,List.setIfInBounds_toArray,List.set_cons_zero,List.set_cons_succ])
      refine Yae 3 _ ⟨D,2,none⟩ (.int .i64 k) (by kernel_rfl) rfl rfl (fun x hx=> by have c0:=L2.out x hx;go_simp) ?_;simp only [Act.put,List.setIfInBounds_toArray,List.set_cons_zero,List.set_cons_succ]
      refine Yaf (by kernel_rfl) CW.out (fun _=> by kernel_rfl) ?_;simp only [Act.put,List.setIfInBounds_toArray,List.set_cons_zero,List.set_cons_succ]
      refine Yaa (by kernel_rfl) (fun x _=> by go_simp;try with_reducible rfl) ?_;simp only [Act.put,List.setIfInBounds_toArray,List.set_cons_zero,List.set_cons_succ]
      refine Yaf (by kernel_rfl) CO.out (fun _=> by kernel_rfl) ?_;simp only [Act.put,List.setIfInBounds_toArray,List.set_cons_zero,List.set_cons_succ]
      iterate 3 (refine Yaa (by kernel_rfl) (fun x _=> by go_simp;try with_reducible rfl) ?_;simp only [Act.put,List.setIfInBounds_toArray,List.set_cons_zero,List.set_cons_succ])
      refine Yv7 56 _ b2 (o2+j*18) cs _ (by kernel_rfl) rfl rfl (fun x hx=> LC.out x hx) Tryz.underlying56 rfl hsi18 ?_;simp only [Act.put,List.setIfInBounds_toArray,List.set_cons_zero,List.set_cons_succ]
      refine Yaf (by kernel_rfl) CR.out (fun _=> by kernel_rfl) ?_;simp only [Act.put,List.setIfInBounds_toArray,List.set_cons_zero,List.set_cons_succ]
      refine Yaa (v:=.string (sx++sr)) (by kernel_rfl) (fun x _=> by go_simp;first | omega | trivial) ?_;simp only [Act.put,List.setIfInBounds_toArray,List.set_cons_zero,List.set_cons_succ]
      refine Yas fun x hx=> ?_
      rw [HEQ.out]
      have hr2x:=HR2.out _ hx
      have hvx:x.ownsRow (D+1) 51 2 (.slice vp vz.length vcap) vz.length (Ypq vz):=Yjg HVV.out hx
      have hxE:Below (D+1) w1 x:=HKK.out _ _ HBB.out hx
      have hsD:D+1≤x.heap.size:=by have:=hxE.size;have:=HBB.out.size;have:=HS1.out;omega
      obtain ⟨ti,j0,j1,j2,j3⟩:=Yp5
      clear CO CW CR L2 L3 LC HR2 hbd hsi18
      go_wp2_with (first | (with_reducible refine Ykx rfl _ rfl b2 (o2+j*18+4) rfl c.mx c.my hr2x ?_) | (at_builtin;refine Ymf (y0:=c.mx) (y1:=c.my) rfl rfl Tryz.underlying73 j0 j1 rfl j2 j3 rfl (hvx.alloc _) rfl ?c1 ?c2 ?c3 ?c4 ?_;(case c1=> go_cell);(case c2=> go_cell);(case c3=> omega);(case c4=> (simp;omega));intro v2 w2 ho2 hg2))
      go_roundw
      case rel=>
       have hbA:Below x.heap.size x (x.alloc (.cells #[.int .i64 c.mx,.int .i64 c.my] 51 (0,0))):=(Below.refl _ x).alloc (Nat.le_refl _) _
       refine ⟨j+1,vz ++ [(c.mx,c.my)],_,rfl,by go_num,by omega,by rw [List.length_append,Yob];exact ho2,HT4,(hxE.trans (hbA.mono hsD)).grown hg2 (by simp;omega) (fun t ht=> by have:=(hvx.lt t ht).1;omega),HVZ2⟩
      case measure=> simp [RowKit.intOf];omega
     ·obtain rfl:N=j:=by omega
      have t2:decide ((N:Int)<(N:Int))=false:=by simp
      have hd0:row.cels.drop N = []:=by rw [←HRC.out,List.drop_length]
      have htk:row.cels.take N=row.cels:=by rw [←HRC.out,List.take_length]
      have hR3:r++X2=T2:=by
       have h1:=hT3.out
       rw [hd0,Ykq] at h1
       exact h1
      have hvz3:vz=vs++Ye0 row.cels:=by rw [hvz.out,htk]
      have hT5:Hid (Yb6 inter k (i+1) (r++X2) vz f (S.rows.drop (i+1))=T):=Lib.hid (by rw [hR3,hvz3];exact HT2.out.symm)
      have hvl2:Hid (vz.length≤1000*(i+1)):=Lib.hid (by
       have h1:=hvl.out
       rw [hvz3]
       unfold Ye0
       rw [List.length_append,List.length_map,HRC.out]
       omega)
      clear hd0 htk hR3 hvz3 hvz hT3
      go_wp2
      go_roundw
      case rel=> exact ⟨i+1,f,vz,X2,rfl,rfl,by go_num,by omega,hv,hT5,hb,hvl2⟩
      case measure=> simp [RowKit.intOf];omega
  ·obtain rfl:n=i:=by omega
   have t1:decide ((n:Int)<(n:Int))=false:=by simp
   have hXT:r++X=T:=by
    have h1:=hT.out
    rw [←NR.out,HEND.out] at h1
    exact h1
   have k7:=K7.out _ hb
   have hXl:X.length≤200000000:=by have h:=HLE.out _ _ _ _ _ hT.out;rw [List.length_append] at h;omega
   obtain ⟨L,hL⟩:∃L,X.length=L:=⟨_,rfl⟩
   have hTL:T.length=a+L:=by rw [←hXT,List.length_append,HRA.out,hL]
   obtain ⟨G,hG⟩:∃G,gap (a+L)=G:=⟨_,rfl⟩
   have hGv:G=(8-(a+L)%8)%8:=hG.symm
   have hfin:Yje r S=r++((X++List.replicate G 48)++List.replicate (8*z) 48):=by
    rw [HST.out,hTL,hG,←hXT]
    simp only [List.append_assoc]
   have hres:Ye5 a++Ybo (a+gap a) S=(X++List.replicate G 48)++List.replicate (8*z) 48:=List.append_cancel_left (HOL.out.symm.trans hfin)
   have HRES:=Lib.hid hres
   have HX:=Lib.hid hL
   rw [hL] at hXl
   clear hXT hT hv hTL hG hfin hres hL hvl
   go_wp2
   clear k6
   go_loopw [5] (fun o wz=>∃m:Nat,m≤G∧o = .string (Ybr (X++List.replicate m 48))∧wz=wr) (fun o _=> G+L-(match o with | .string s=> s.size | _=> 0))
   case atStart=> exact ⟨0,Nat.zero_le _,by rw [List.replicate_zero,List.append_nil],rfl⟩
   case round=>
    obtain ⟨m,hmG,rfl,rfl⟩:=hrel
    have hsy:(Ybr (X++List.replicate m 48)).size=L+m:=by rw [Ya8,List.length_append,List.length_replicate,HX.out]
    have hmore:Ybr (X++List.replicate m 48)++⟨#[48]⟩=Ybr (X++List.replicate (m+1) 48):=Ygj X m
    have hsn:(Ybr (X++List.replicate (m+1) 48)).size=L+(m+1):=by rw [Ya8,List.length_append,List.length_replicate,HX.out]
    have HSN:=Lib.hid hsn
    obtain ⟨c,hc⟩:∃c,a+(L+m)=c:=⟨_,rfl⟩
    have hcm:(c:Int).tmod 8=((c%8:Nat):Int):=by rw [Int.tmod_eq_emod_of_nonneg (by omega)];rfl
    have hm0:c%8=0↔m=G:=by omega
    have hws:IntKind.i64.wrap ((a:Int)+((L+m:Nat):Int))=(c:Int):=by rw [Yc8 (by omega)];omega
    have HWS:=Lib.hid hws
    by_cases hlm:m<G
    ·have dm:(((c%8:Nat):Int) != 0)=true:=by rw [bne_iff_ne];omega
     have HM:=Lib.hid hmore
     have hb8:(Ybr (X++List.replicate m 48)).size≤200001000:=by omega
     have HSY:=Lib.hid hsy
     obtain ⟨sy,hsy2⟩:∃sy,Ybr (X++List.replicate m 48)=sy:=⟨_,rfl⟩
     rw [hsy2] at HM HSY hb8 ⊢
     obtain ⟨n8,hn8⟩:∃n8,sy.size=n8:=⟨_,rfl⟩
     have hws2:IntKind.i64.wrap ((a:Int)+(sy.size:Int))=(c:Int):=by rw [HSY.out];exact HWS.out
     generalize c%8=m8 at hcm dm
     clear hsy hmore hsn hc hm0 hws hsy2 hn8
     go_wp2
     rw [HM.out]
     go_roundw
     case rel=> exact ⟨m+1,by omega,rfl,by trivial⟩
     case measure=>
      have h1:=HSN.out
      have h2:=HSY.out
      simp only [h1,h2]
      omega
    ·obtain rfl:m=G:=by omega
     have dm:(((c%8:Nat):Int) != 0)=false:=by rw [bne_eq_false_iff_eq];omega
     have HSY:=Lib.hid hsy
     obtain ⟨sy,hsy2⟩:∃sy,Ybr (X++List.replicate m 48)=sy:=⟨_,rfl⟩
     have HS2:=Lib.hid hsy2
     rw [hsy2] at HSY ⊢
     have hws2:IntKind.i64.wrap ((a:Int)+(sy.size:Int))=(c:Int):=by rw [HSY.out];exact HWS.out
     have hsb:sy.size≤200001000:=by have:=HSY.out;omega
     generalize c%8=m8 at hcm dm
     obtain ⟨Z8,hZ8⟩:∃Z8,8*z=Z8:=⟨_,rfl⟩
     have hwz:IntKind.i64.wrap (8*(z:Int))=(Z8:Int):=by rw [Yc8 (by omega)];omega
     have hZb:Z8≤2097152:=by omega
     obtain ⟨x3,hmk,hown,hg3⟩:=Ym5 Z8 wr (by omega)
     have hb3:Below (D+1) w1 x3:=HKK.out _ _ hb ((Below.refl _ wr).grown hg3 (Nat.le_refl _) (by intro k hk;cases hk))
     have hDE:D+1≤wr.heap.size:=by have:=hb.size;have:=HS1.out;omega
     generalize hEE:wr.heap.size=E at hmk hown hDE
     have HO:=Lib.hid hown
     have HB3:=Lib.hid hb3
     have HZ8:=Lib.hid hZ8
     clear hsy hmore hsn hc hm0 hws hsy2 hg3 hb3 hown hZ8 hEE
     go_wp2
     go_loopw [12] (fun t wz=>∃j:Nat,j≤Z8∧t = .int .i64 (j:Int)∧wz.ownsRow E 5 1 (.slice (some ⟨E,0,none⟩) Z8 Z8) Z8 (List.replicate j (.int .u8 48)++List.replicate (Z8-j) (.int .u8 0))∧x3.grownBy wz (some E)) (fun t _=> Z8-(RowKit.intOf t).toNat)
     case atStart=> exact ⟨0,Nat.zero_le _,rfl,by rw [List.replicate_zero,List.nil_append,Nat.sub_zero];exact HO.out,Yaq (Below.refl _ _) _⟩
     case round=>
      clear hmk HO
      obtain ⟨j,hj,rfl,ho,hg⟩:=hrel
      by_cases hlj:j<Z8
      ·have t2:decide ((j:Int)<(Z8:Int))=true:=by simp;omega
       have c0:=World.ownsRow.cellAt ho j (by omega)
       have f0:=World.ownsRow.frozenAt ho j
       have hst:=World.ownsRow.stored ho j (.int .u8 48)
       rw [Ypg j Z8 hlj] at hst
       have HST2:=Lib.hid hst
       have c1:∃v,wr.cell? ⟨E,j,none⟩=some v:=by
        rw [c0]
        exact ⟨_,List.getElem?_eq_getElem (by simp;omega)⟩
       obtain ⟨vj,c1⟩:=c1
       have HG:=Lib.hid hg
       clear c0 hst ho hg
       go_wp2
       go_roundw
       case rel=> exact ⟨j+1,by omega,by go_num,HST2.out.1,Yai HG.out HST2.out.2⟩
       case measure=> simp [RowKit.intOf];omega
      ·obtain rfl:j=Z8:=by omega
       have t2:decide ((j:Int)<(j:Int))=false:=by simp
       have hb4:Yay wr E 5 (.slice (some ⟨E,0,none⟩) j j) (List.replicate j 48):=by
        unfold Yay
        rw [Ylr,List.length_replicate]
        rw [Nat.sub_self,List.replicate_zero,List.append_nil] at ho
        exact ho
       have htx:=Yay.text Tryz.underlying78 Tryz.underlying5 Tryz.underlying9 hb4
       have hbE:Below (D+1) w1 wr:=HB3.out.grown hg (by have:=HB3.out.size;have:=HS1.out;omega) (fun k hk=> by injection hk with hk;omega)
       obtain ⟨nz,hnz⟩:∃nz:ByteArray,⟨(List.replicate j 48).toArray⟩=nz:=⟨_,rfl⟩
       rw [hnz] at htx
       have hnb:nz.size≤3000000:=by rw [←hnz,Yds,List.length_replicate];have:=HZ8.out;omega
       have FIN:Hid (sy++nz=Ybr (Ye5 a++Ybo (a+gap a) S)):=Lib.hid (by
        rw [HRES.out,←HS2.out,←hnz,Ybw,HZ8.out])
       clear ho hb4 hnz
       go_wp2
       go_ret
       exact ⟨by rw [FIN.out];rfl,W.out _ hbE⟩
set_option maxRecDepth 100000 in
set_option maxHeartbeats 1000000 in
theorem Ywr (s:ByteArray) (hs:s.size≤1073741824) (hr:Yat s.data.toList=true) (w:World):
  Calls Tryz.prog 17 #[.string s] w fun e w'=> e = .returned (.string ⟨(Ykb s.data.toList).toArray⟩)∧Below w.heap.size w w':=by
 obtain ⟨i0,hi,hz0,hz1,hz2⟩:=info_parts Yoy
 obtain ⟨B,hB⟩:∃B,w.heap.size=B:=⟨_,rfl⟩
 have hB':B≤w.heap.size:=by omega
 rw [hB]
 clear hB
 obtain ⟨l,rfl⟩:=Yya s
 have hl:l.length≤1073741824:=by rw [Yds] at hs;exact hs
 have hr:Yat l=true:=hr
 have R:=Lib.hid hr
 clear hr hs
 go_enter Tryz.func17,Tryz.ntmps17
 go_wp2
 go_loop [0] (fun t=>∃k:Nat,k≤(8-l.length%8)%8∧t = .string ⟨(l++List.replicate k 48).toArray⟩) (fun t=> l.length+8-Yxo t)
 case atStart=> exact ⟨0,Nat.zero_le _,by simp⟩
 case round=>
  obtain ⟨k,hk,rfl⟩:=hrel
  by_cases hlt:k<(8-l.length%8)%8
  ·go_wp2
   go_round
   case rel=> exact ⟨k+1,by omega,by rw [Ygj]⟩
   case measure=> simp only [Yxo,Ygj,Yds,List.length_append,List.length_replicate];omega
  ·obtain rfl:k=(8-l.length%8)%8:=by omega
   obtain ⟨p,hp⟩:∃p,Yws l=p:=⟨_,rfl⟩
   have hpr:Yat p=true:=by rw [←hp];exact Ywt l R.out
   have hpl:p.length=l.length+(8-l.length%8)%8:=by rw [←hp];exact Yji l
   have hfin:Ykb l=Yjh p (p.length / 8):=by unfold Ykb;rw [hp]
   have F:=Lib.hid hfin
   have PR:=Lib.hid hpr
   have hp8:p.length%8=0:=by omega
   have hpm:p.length≤1073741831:=by omega
   have ht:(((p.length:Nat):Int)%8 != 0)=false:=by rw [bne_eq_false_iff_eq];omega
   rw [show l++List.replicate ((8-l.length%8)%8) 48=p from hp]
   clear hfin hpr hp hlt hk hpl hl R
   go_wp2
   go_loopw [3,4] (fun v i wr=>∃j:Nat,8*j≤p.length∧i = .int .i64 ((8*j:Nat):Int)∧Yay wr B 5 v (Yjh p j)∧Below B w wr) (fun _ i _=> p.length-(RowKit.intOf i).toNat)
   case atStart=> exact ⟨0,Nat.zero_le _,rfl,Yay.nil _ _ _,Below.refl _ _⟩
   case round=>
    obtain ⟨j,hj,rfl,hown,hb⟩:=hrel
    by_cases hlt:8*j<p.length
    ·have s1:=Yun p j (by omega)
     have s2:Yat ((⟨p.toArray⟩:ByteArray).extract (8*j) (8*j+8)).data.toList=true:=by rw [Ynj];exact Ykv _ _ (Ykw _ _ PR.out)
     have hpl:=Yni p j
     have L:=Lib.hid hpl
     have S1:=Lib.hid s1
     have S2:=Lib.hid s2
     have hsz:=hb.size
     clear s1 s2 hpl
     go_wp2_with fail
     refine (Ynd _ S1.out S2.out _).mono ?_
     rintro e w' ⟨y,rfl,rfl,hy,Y⟩
     have E:=Lib.hid (Ytd y hy)
     go_wp2_with (at_builtin;refine Yf9 (b:=UInt8.ofNat y) rfl rfl Tryz.underlying78 hi hz0 hz1 hz2 rfl (hown.alloc _) rfl ?c1 ?c2 ?c3 ?_;(case c1=> (rw [E.out];go_cell));(case c2=> (rw [L.out];omega));(case c3=> (simp;omega));intro v1 w1 hown1 hgrow)
     have hn:Yjh p (j+1)=Yjh p j ++ [UInt8.ofNat y]:=by rw [Yjh,←Y.out,Ynj]
     go_roundw
     case rel=> exact ⟨j+1,by omega,by go_num,by rw [hn];exact hown1,(hb.alloc (by omega) _).grown hgrow (by simp;omega) (Yqf hown)⟩
     case measure=> simp [RowKit.intOf];omega
    ·obtain rfl:j=p.length / 8:=by omega
     have ht:=Yay.text Tryz.underlying78 Tryz.underlying5 Tryz.underlying9 hown
     go_wp2
     go_ret
     exact ⟨Ywx F.out.symm,hb⟩
set_option maxRecDepth 100000 in
set_option maxHeartbeats 1000000 in
theorem Ypk {u w:World} {S:ShP} {vs:List Value} (hS:Yqx u S vs) (hu:Below u.heap.size u w) (h0:Ybv S=0):
  Calls Tryz.prog 18 #[.agg vs.toArray] w fun e w'=> e = .returned (.int .i64 ((Yje [] S).length:Int))∧Below w.heap.size w w':=by
 have hsz:=hS.sizes.1
 have hb1:=(Below.refl _ w).alloc (Nat.le_refl _) (.cells vs.toArray 25 (0,0))
 have c:Calls Tryz.prog 15 #[.int .i64 0,.agg vs.toArray] (w.alloc (.cells vs.toArray 25 (0,0))) fun e w'=> e = .returned (.string (Ybr (Ye5 0++Ybo (0+gap 0) S)))∧Below (w.alloc (.cells vs.toArray 25 (0,0))).heap.size (w.alloc (.cells vs.toArray 25 (0,0))) w':=
  Yla 0 hS (hu.trans (hb1.mono hu.size)) h0 (by omega)
 have hl:(Ybr (Ye5 0++Ybo (0+gap 0) S)).size=(Yje [] S).length:=Ya8 _
 generalize Ybr (Ye5 0++Ybo (0+gap 0) S)=X at *
 generalize (Yje [] S).length=n at *
 have HB1:=Lib.hid hb1
 have HL:=Lib.hid hl
 clear hb1 hl hu hS h0
 go_enter Tryz.func18,Tryz.ntmps18
 go_wp2_with (with_reducible refine wpList_load_row rfl 25 _ rfl _ rfl 25 vs.toArray (0,0) _ (heap_alloc_new w _) Tryz.underlying25 rfl hsz ?_)
 refine c.mono ?_
 rintro e w2 ⟨rfl,hb2⟩
 go_wp2
 go_ret
 exact ⟨by rw [HL.out];rfl,HB1.out.trans (hb2.mono HB1.out.size)⟩
theorem Ysf {u w:World} {S:ShP} {vs:List Value} (hS:Yqx u S vs) (hm:(Ybs S).length≤1048576) (hu:Below u.heap.size u w):Calls Tryz.prog 13 #[.agg vs.toArray] w fun e w'=> e = .returned (.int .i64 (Ybv S))∧Below w.heap.size w w':=by
 obtain ⟨⟨p,q,ca,cb,rfl,hl,hn,hs,hr⟩,-,hev⟩:=hS
 exact Ypf S p q ca cb w hl hn (hs.below hu) (hr.below hu) hm hev
set_option maxRecDepth 100000 in
set_option maxHeartbeats 1000000 in
theorem Yhx (S:ShP) (vs:List Value) (s:ByteArray) (w:World) (hS:ShV w S vs) (hss:s.size≤maxLen) (hz:s.size≤140737488355328) (ht:Ybn w.heap.size w):
  Calls Tryz.prog 3 #[.agg vs.toArray,.string s] w fun e w'=> e = .returned (.bool true)∧Below w.heap.size w w':=by
 have hsz:(Tryz.prog.info? 25).map (·.size)=some vs.toArray.size:=by
  obtain ⟨p,q,ca,cb,rfl,-⟩:=hS
  rw [show (Ya3 S.hd (.slice p S.hd.supp.length ca) (.slice q S.rows.length cb) S.zeros).toArray.size=8 from rfl]
  kernel_rfl
 obtain ⟨A,hA⟩:∃A,w.heap.size=A:=⟨_,rfl⟩
 obtain ⟨wA,hwA⟩:∃wA,w.alloc (.cells vs.toArray 25 (0,0))=wA:=⟨_,rfl⟩
 have hbw:Below w.heap.size w wA:=by rw [←hwA];exact (Below.refl _ w).alloc (Nat.le_refl _) _
 have hC0:wA.heap[A]? = some (.cells vs.toArray 25 (0,0)):=by rw [←hwA,←hA];exact heap_alloc_new w _
 have hsA:wA.heap.size=A+1:=by rw [←hwA,←hA];simp
 have K:=fun (x y:World) (hx:Below (A+1) wA x) (hy:Below x.heap.size x y)=> (hx.trans (hy.mono (by have:=hx.size;omega)):Below (A+1) wA y)
 have W0:=Lib.hid (fun (x:World) (hx:Below (A+1) wA x)=> (hbw.trans (hx.mono (by omega)):Below w.heap.size w x))
 have HTH:=Lib.hid (fun (x:World) (hx:Below (A+1) wA x)=> (by
  have h:=ht.below (W0.out x hx)
  exact Ybn.here h.pats h.mvd h.steps h.tcoef:Ybn x.heap.size x))
 have LA:=Lib.hid (fun (x:World) (hx:Below (A+1) wA x)=> ((hx.block A (by omega)).trans hC0:x.heap[A]? = some (.cells vs.toArray 25 (0,0))))
 have CL:=Lib.hid (fun (x:World) (hx:Below (A+1) wA x)=> ((Yrs hS (W0.out x hx)).mono fun e y h=> ⟨h.1,K x y hx h.2⟩:Calls Tryz.prog 6 #[.agg vs.toArray] x fun e y=> (∃y,e = .returned (.bool y)∧(y=true→Yio S∧S.zeros≤1000))∧Below (A+1) wA y))
 have CLV:=Lib.hid (fun (x:World) (hx:Below (A+1) wA x)=> ((Yyb x (HTH.out x hx)).mono fun e y z=> ⟨z.1,K x y hx z.2⟩:Calls Tryz.prog 8 #[] x fun e y=> e = .returned (.bool true)∧Below (A+1) wA y))
 have cpl:=fun (x:World)=> Yr3 s hss x
 have HS:=Lib.hid hS
 have HT:=Lib.hid ht
 have HA:=Lib.hid hA
 have HWA:=Lib.hid hwA
 have HK:=Lib.hid K
 have hb0:Below (A+1) wA wA:=Below.refl _ _
 clear hS ht hA hwA hsA hC0 hbw K hss
 go_enter Tryz.func3,Tryz.ntmps3
 go_wp2_with (with_reducible refine wpList_load_row rfl 25 _ rfl _ rfl 25 vs.toArray (0,0) _ (heap_alloc_new w _) Tryz.underlying25 rfl hsz ?_)
 rw [HWA.out]
 refine (CL.out _ hb0).mono ?_
 rintro e w1 ⟨⟨y1,rfl,h1⟩,hb1⟩
 rw [HA.out]
 clear CL
 cases y1 with
 | false=>
  go_wp2_with fail
  refine (CLV.out _ hb1).mono ?_
  rintro e w2 ⟨rfl,hb2⟩
  go_wp2
  go_ret
  exact ⟨rfl,W0.out _ hb2⟩
 | true=>
  obtain ⟨hP,hZ⟩:=h1 rfl
  clear h1
  by_cases h100:100<s.size
  ·have t1:decide (100<(s.size:Int))=true:=by simp;omega
   clear h100
   go_wp2_with fail
   refine (CLV.out _ hb1).mono ?_
   rintro e w3 ⟨rfl,hb3⟩
   go_wp2
   go_ret
   exact ⟨rfl,W0.out _ hb3⟩
  have t1:decide (100<(s.size:Int))=false:=by simp;omega
  have hs100:s.size≤100:=by omega
  clear h100
  cases hrw:Yat s.data.toList with
  | false=>
   rw [hrw] at cpl
   clear hrw
   go_wp2_with fail
   refine (cpl _).mono ?_
   rintro e x ⟨rfl,rfl⟩
   go_wp2_with fail
   refine (CLV.out _ hb1).mono ?_
   rintro e w3 ⟨rfl,hb3⟩
   go_wp2
   go_ret
   exact ⟨rfl,W0.out _ hb3⟩
  | true=>
   rw [hrw] at cpl
   have HSI:=Lib.hid (hP.lies HS.out)
   have hall:(Ybs S).length≤1048576:=by have:=hP.all;omega
   have CR:=Lib.hid (fun (x:World) (hx:Below (A+1) wA x)=> Ysf HSI.out hall (W0.out x hx))
   have CN:=Lib.hid (fun (x:World)=> Yvg vs.toArray x)
   obtain ⟨D,hD⟩:∃D,w1.heap.size=D:=⟨_,rfl⟩
   obtain ⟨w5,hw5⟩:∃w5,w1.alloc Ye9=w5:=⟨_,rfl⟩
   have hwr5:Ybm w5 (D+1) D []:=by rw [←hw5];exact Ybm.fresh hD (Nat.lt_succ_self _)
   have hbl5:Below w1.heap.size w1 w5:=by rw [←hw5];exact (Below.refl _ w1).alloc (Nat.le_refl _) _
   have hs5:w5.heap.size=D+1:=by rw [←hw5];simp;omega
   have hAD:A+1≤D:=by rw [←hD];have:=hb1.size;have:=(LA.out _ hb0);have h2:=(Array.getElem?_eq_some_iff.1 this).1;omega
   have hND:w.heap.size≤D:=by have:=HA.out;omega
   have hb5:=HK.out _ _ hb1 hbl5
   have hsl:s.data.toList.length=s.size:=rfl
   have cad:=Yig w5 (D+1) D [] s hwr5 hrw (by simp;omega) (by omega)
   rw [List.nil_append] at cad
   obtain ⟨r0,hr0e⟩:∃r0,s.data.toList=r0:=⟨_,rfl⟩
   rw [hr0e] at cad hrw hsl
   have HD:=Lib.hid hD
   have HW5:=Lib.hid hw5
   have HRW:=Lib.hid hrw
   have HR0:=Lib.hid hr0e
   have HSL:=Lib.hid hsl
   clear hD hw5 hbl5 hwr5 hall hP hZ hrw hr0e
   go_wp2_with fail
   refine (cpl _).mono ?_
   rintro e x ⟨rfl,rfl⟩
   clear cpl
   go_wp2_with fail
   refine (Yg8 _).mono ?_
   rintro e x ⟨rfl,rfl⟩
   rw [HW5.out,HD.out]
   go_wp2_with fail
   refine cad.mono ?_
   rintro e w6 ⟨rfl,hwr6,hg6⟩
   have hb6:Below (A+1) wA w6:=hb5.grown hg6 (by have:=hb5.size;have:=hs5;omega) (fun k hk=> by injection hk with hk;omega)
   have hz6:D+1≤w6.heap.size:=by have:=hg6.size;omega
   have hlA:=LA.out _ hb6
   clear cad hg6 hb5 hs5 hb1
   by_cases e1:Ybv S=0
   case neg=>
    have tn:(Ybv S != 0)=true:=by rw [bne_iff_ne];exact e1
    have hr0s:(r0.length:Int)=(s.size:Int):=by omega
    have cp:=fun (x:World) (hx:Below (A+1) wA x)=> Ynx (b:=D) HSI.out HT.out (W0.out x hx) e1
    have CB:=Lib.hid (fun (x:World) (hx:Below (A+1) wA x)=> Yk9 HSI.out HT.out (W0.out x hx) e1)
    generalize Ybv S=f1 at *
    have te:(f1 != f1)=false:=by simp
    clear e1
    go_wp2_with (with_reducible refine wpList_load_row rfl 25 _ rfl A rfl 25 vs.toArray (0,0) _ hlA Tryz.underlying25 rfl hsz ?_)
    refine (cp _ hb6).mono ?_
    rintro e w7 ⟨rfl,hb67⟩
    have hwr7:=hwr6.below hb67
    have hb7:=HK.out _ _ hb6 hb67
    have hlA:=LA.out _ hb7
    clear cp hwr6 hb67 hb6 hz6
    go_wp2_with (with_reducible refine wpList_load_row rfl 25 _ rfl A rfl 25 vs.toArray (0,0) _ hlA Tryz.underlying25 rfl hsz ?_)
    refine (CB.out _ hb7).mono ?_
    rintro e w8 ⟨rfl,hb78⟩
    have hwr8:=hwr7.below hb78
    have hb8:=HK.out _ _ hb7 hb78
    have hlA:=LA.out _ hb8
    clear hwr7 hb78 hb7 CB
    go_wp2_with (with_reducible refine wpList_load_row rfl 25 _ rfl A rfl 25 vs.toArray (0,0) _ hlA Tryz.underlying25 rfl hsz ?_)
    refine (CN.out _).mono ?_
    rintro e w9 ⟨rfl,hb89⟩
    have hwr9:=hwr8.below hb89
    have hb9:=HK.out _ _ hb8 hb89
    have hlA:=LA.out _ hb9
    clear hwr8 hb89 hb8 CN
    go_wp2_with (with_reducible refine Yav (by kernel_rfl) 25 _ rfl A rfl 25 vs.toArray (0,0) _ hlA Tryz.underlying25 rfl hsz ?_)
    refine (CR.out _ hb9).mono ?_
    rintro e w10 ⟨rfl,hb90⟩
    have hwr10:=hwr9.below hb90
    have hb10:=HK.out _ _ hb9 hb90
    clear hwr9 hb90 hb9 CR hlA
    go_wp2_with fail
    refine (Yij _ _ _ _ hwr10).mono ?_
    rintro e x ⟨rfl,rfl⟩
    rw [hr0s]
    clear hwr10
    go_wp2_with fail
    refine (CLV.out _ hb10).mono ?_
    rintro e w11 ⟨rfl,hb11⟩
    go_wp2
    go_ret
    exact ⟨rfl,W0.out _ hb11⟩
   have E1:=Lib.hid e1
   rw [e1] at CR
   have cp:=fun (x:World) (hx:Below (A+1) wA x) (hz:D+1≤x.heap.size) (hwx:Ybm x (D+1) D r0)=> Yqo HSI.out HT.out (W0.out x hx) hND hz hwx (by omega) e1
   have CB:=Lib.hid (fun (x:World) (hx:Below (A+1) wA x)=> Ynv HSI.out HT.out (W0.out x hx) e1)
   have CW:=Lib.hid (fun (x:World) (hx:Below (A+1) wA x)=> Yla s.size HSI.out (W0.out x hx) e1 (by omega))
   have CX:=Lib.hid (fun (x:World) (hx:Below (A+1) wA x)=> Ypk HSI.out (W0.out x hx) e1)
   have hm:=Yhc e1 r0
   have h8:=Yr0 [] S
   have hn0:=Yhc e1 []
   rw [List.length_nil] at hn0
   have hrow:=Ywq HRW.out S
   have hYl:(Ybr (Ye5 s.size++Ybo (s.size+gap s.size) S)).size≤134217828:=by
    have h:=congrArg List.length (show Yje r0 S=r0++(Ye5 r0.length++Ybo (r0.length+gap r0.length) S) from rfl)
    rw [HSL.out,List.length_append] at h
    rw [Ya8]
    omega
   have hEQ:s++Ybr (Ye5 s.size++Ybo (s.size+gap s.size) S)=Ybr (Yje r0 S):=by
    have key:∀Z:List UInt8,s++Ybr Z=Ybr (r0++Z):=fun Z=> by
     have h:s=Ybr r0:=by rw [←HR0.out];rfl
     rw [h,Ybw];rfl
    rw [show Yje r0 S=r0++(Ye5 r0.length++Ybo (r0.length+gap r0.length) S) from rfl,HSL.out]
    exact key _
   obtain ⟨Y,hY⟩:∃Y,Ybr (Ye5 s.size++Ybo (s.size+gap s.size) S)=Y:=⟨_,rfl⟩
   rw [hY] at CW hYl hEQ
   obtain ⟨RL,hRL⟩:∃RL,Yje r0 S=RL:=⟨_,rfl⟩
   rw [hRL] at cp hm hrow hEQ
   obtain ⟨n0,hnn⟩:∃n0,(Yje [] S).length=n0:=⟨_,rfl⟩
   rw [hnn] at CB CX h8 hn0
   obtain ⟨X,hX⟩:∃X,Ybr RL=X:=⟨_,rfl⟩
   rw [hX] at hEQ
   have hXs:X.size=RL.length:=by rw [←hX];exact Ya8 _
   have hXl:X.data.toList=RL:=by rw [←hX];rfl
   have cpk:=fun (x:World)=> Ywr X (by omega) (by rw [hXl];exact hrow) x
   rw [hXl] at cpk
   have ctx:=fun (x:World) (hx:Ybm x (D+1) D RL)=> Yvm x _ _ _ hx (by omega)
   obtain ⟨P,hP⟩:∃P:ByteArray,⟨(Ykb RL).toArray⟩=P:=⟨_,rfl⟩
   rw [hP] at cpk ctx
   have m8:(n0:Int).tmod 8=0:=by rw [Int.tmod_eq_emod_of_nonneg (by omega)];omega
   have eL:((RL.length:Int)==(X.size:Int))=true:=by rw [beq_iff_eq];omega
   have EQ:=Lib.hid hEQ
   have HXS:=Lib.hid hXs
   clear hY hRL hnn hX hP hXl hrow hm h8 hEQ e1 hXs hn0
   have c1:=cp _ hb6 hz6 hwr6
   clear cp hwr6
   go_wp2_with (with_reducible refine wpList_load_row rfl 25 _ rfl A rfl 25 vs.toArray (0,0) _ hlA Tryz.underlying25 rfl hsz ?_)
   refine c1.mono ?_
   rintro e w7 ⟨rfl,hwr7,hg7⟩
   have hb7:Below (A+1) wA w7:=hb6.grown hg7 (by have:=hb6.size;omega) (fun k hk=> by injection hk with hk;omega)
   have hlA:=LA.out _ hb7
   clear c1 hb6 hg7 hz6
   go_wp2_with (with_reducible refine wpList_load_row rfl 25 _ rfl A rfl 25 vs.toArray (0,0) _ hlA Tryz.underlying25 rfl hsz ?_)
   refine (CB.out _ hb7).mono ?_
   rintro e w8 ⟨rfl,hb78⟩
   have hwr8:=hwr7.below hb78
   have hb8:=HK.out _ _ hb7 hb78
   have hlA:=LA.out _ hb8
   clear hwr7 hb78 hb7 CB
   go_wp2_with (with_reducible refine wpList_load_row rfl 25 _ rfl A rfl 25 vs.toArray (0,0) _ hlA Tryz.underlying25 rfl hsz ?_)
   refine (CN.out _).mono ?_
   rintro e w9 ⟨rfl,hb89⟩
   have hwr9:=hwr8.below hb89
   have hb9:=HK.out _ _ hb8 hb89
   have hlA:=LA.out _ hb9
   clear hwr8 hb89 hb8 CN
   go_wp2_with (with_reducible refine Yav (by kernel_rfl) 25 _ rfl A rfl 25 vs.toArray (0,0) _ hlA Tryz.underlying25 rfl hsz ?_)
   refine (CR.out _ hb9).mono ?_
   rintro e w10 ⟨rfl,hb90⟩
   have hwr10:=hwr9.below hb90
   have hb10:=HK.out _ _ hb9 hb90
   have hlA:=LA.out _ hb10
   clear hwr9 hb90 hb9 CR
   go_wp2_with (with_reducible refine wpList_load_row rfl 25 _ rfl A rfl 25 vs.toArray (0,0) _ hlA Tryz.underlying25 rfl hsz ?_)
   refine (CW.out _ hb10).mono ?_
   rintro e w11 ⟨rfl,hb101⟩
   have hwr11:=hwr10.below hb101
   have hb11:=HK.out _ _ hb10 hb101
   have hlA:=LA.out _ hb11
   clear hwr10 hb101 hb10 CW
   go_wp2_with fail
   rw [EQ.out]
   refine (Yij _ _ _ _ hwr11).mono ?_
   rintro e x ⟨rfl,rfl⟩
   go_wp2_with fail
   refine (ctx _ hwr11).mono ?_
   rintro e w12 ⟨rfl,hb112⟩
   have hb12:=HK.out _ _ hb11 hb112
   clear hwr11 hb112 hb11 ctx
   go_wp2_with fail
   refine (cpk _).mono ?_
   rintro e w13 ⟨rfl,hb123⟩
   have hb13:=HK.out _ _ hb12 hb123
   have hlA:=LA.out _ hb13
   clear hb123 hb12 cpk
   go_wp2_with (with_reducible refine Yav (by kernel_rfl) 25 _ rfl A rfl 25 vs.toArray (0,0) _ hlA Tryz.underlying25 rfl hsz ?_)
   refine (CX.out _ hb13).mono ?_
   rintro e w14 ⟨rfl,hb134⟩
   have hb14:=HK.out _ _ hb13 hb134
   clear hb134 hb13 CX hlA
   go_wp2_with fail
   refine (CLV.out _ hb14).mono ?_
   rintro e w15 ⟨rfl,hb15⟩
   go_wp2
   go_ret
   exact ⟨rfl,W0.out _ hb15⟩
end Go.Proofs.YtgikochfffdpfaaGreatDoor