/- Texts that SheetoutBack's proof stands on, part 37 of 52. No condition of its own. -/
import Derived.Test.YtgikochfffdpfaaGreatDoorSheetoutBackMj
import Derived.Test.YtgikochfffdpfaaGreatDoorSheetoutBackMm
import Derived.Test.YtgikochfffdpfaaGreatDoorSheetoutBackMn
import Derived.Test.YtgikochfffdpfaaGreatDoorSheetoutBackMp
import Derived.Test.YtgikochfffdpfaaGreatDoorSheetoutBackMy
import Derived.Test.YtgikochfffdpfaaGreatDoorSheetoutBackMz
import Derived.Test.YtgikochfffdpfaaGreatDoorSheetoutBackMba
import Derived.Test.YtgikochfffdpfaaGreatDoorSheetoutBackMbf
import Derived.Test.YtgikochfffdpfaaGreatDoorSheetoutBackMbg
import Derived.Test.YtgikochfffdpfaaGreatDoorSheetoutBackMbh
import Derived.Test.YtgikochfffdpfaaGreatDoorSheetoutBackMbi
import Derived.Test.YtgikochfffdpfaaGreatDoorSheetoutBackMbj
namespace Go.Proofs.YtgikochfffdpfaaGreatDoor
open Go.RowKit
theorem Yma {inter:Bool} {k first:Int}:∀(cs:List Cel) (vs:List (Int×Int)),cs.all (Ybo inter)=true→(Yec inter k first vs cs).length≤20000*cs.length
 | [],_,_=> Nat.le_refl _
 | c::cs,vs,h=> by
  rw [List.all_cons,Bool.and_eq_true] at h
  rw [Yec,List.length_append,List.length_cons]
  have h1:=Y7x h.1 (Yd5 vs (Ydt k) first).1 (Yd5 vs (Ydt k) first).2
  have h2:=Yma (k:=k) (first:=first) cs (vs ++ [(c.mx,c.my)]) h.2
  omega
theorem Y3t (i p:Nat) (r:RowP):(Yjl i p r).length≤36:=by
 unfold Yjl
 cases r.head with
 | true=>
  rw [if_pos rfl,Yp1]
  unfold gap
  omega
 | false=> exact Nat.zero_le _
theorem Ymi {inter:Bool} {k:Int} {N M:Nat} (hM:36+20000*N≤M):∀(rs:List RowP) (i p:Nat) (vs:List (Int×Int)) (first:Int),Ydb (Yer inter (N:Int)) i rs=true→(Yc3 inter k i p vs first rs).length≤M*rs.length
 | [],_,_,_,_,_=> Nat.zero_le _
 | r::rs,i,p,vs,first,h=> by
  rw [Ydb,Bool.and_eq_true] at h
  have hr:=h.1
  unfold Yer at hr
  rw [Bool.and_eq_true,decide_eq_true_iff,Bool.and_eq_true] at hr
  obtain ⟨hc,-,ha⟩:=hr
  rw [Yc3]
  have h1:=Y3t i p r
  have h2:=Yma (k:=k) (first:=Yvf k i first r) r.cels vs ha
  have h3:=Ymi (k:=k) hM rs (i+1) (p+(Yjl i p r).length+(Yec inter k (Yvf k i first r) vs r.cels).length) (vs++Yd0 r.cels) (Yvf k i first r) h.2
  rw [List.length_append,List.length_append,List.length_cons,Nat.mul_succ]
  have hN:r.cels.length=N:=by omega
  rw [hN] at h2
  omega
theorem Ykt {S:ShP} (h:Ycp S=0):Yd9 S.hd=true∧(0≤S.zeros∧S.zeros≤262144)∧((S.rows.length:Int)=Yiw S.hd.fmt∧S.rows.length≤18)∧∃N:Nat,Yg2 S.hd.fmt=(N:Int)∧(0<N∧N≤352)∧Ydb (Yer S.hd.inter (N:Int)) 0 S.rows=true:=by
 obtain ⟨h1,-⟩:=Yrh h
 unfold Yfm at h1
 simp only [Bool.and_eq_true,decide_eq_true_iff] at h1
 obtain ⟨hm,hz,hn,hr⟩:=h1
 have hfm:=(Yds.1 hm).2.1
 have hk:0<Yg2 S.hd.fmt∧Yg2 S.hd.fmt≤352∧Yiw S.hd.fmt≤18:=by
  have h6:S.hd.fmt=1∨S.hd.fmt=2∨S.hd.fmt=3∨S.hd.fmt=4∨S.hd.fmt=5∨S.hd.fmt=6:=by omega
  rcases h6 with h6 | h6 | h6 | h6 | h6 | h6 <;> rw [h6] <;> decide +kernel
 refine ⟨hm,hz,⟨hn,by omega⟩,(Yg2 S.hd.fmt).toNat,by omega,by omega,?_⟩
 rw [Int.toNat_of_nonneg (by omega)]
 exact hr
theorem Yv5 {S:ShP} (h:Ycp S=0) (r:List UInt8):(Y0t r S).length≤r.length+130000000:=by
 obtain ⟨hm,-,⟨-,h18⟩,N,-,hN,hr⟩:=Ykt h
 have h8:=(Yds.1 hm).2.2.1
 have h1:=Ymi (k:=S.hd.fmt) (N:=N) (M:=7040036) (by omega) S.rows 0 (Y3j r S).length [] 0 hr
 have h2:7040036*S.rows.length≤7040036*18:=Nat.mul_le_mul_left _ h18
 unfold Y0t Yh8
 generalize Yc3 S.hd.inter S.hd.fmt 0 (Y3j r S).length [] 0 S.rows=RR at *
 rw [List.length_append,Ygz,List.length_append,Ydg,Ykv]
 unfold gap
 omega
theorem Yot {S:ShP} (h:Ycp S=0) (r:List UInt8):(Yge r S).length≤r.length+134217728:=by
 obtain ⟨-,hz,-,-⟩:=Ykt h
 have h1:=Yv5 h r
 rw [Ylp]
 simp only [List.length_append,List.length_replicate]
 unfold gap
 omega
theorem Ynv {inter:Bool} {k first:Int}:∀(cs:List Cel) (vs:List (Int×Int)),Yaw (Yec inter k first vs cs)=true
 | [],_=> rfl
 | c::cs,vs=> by rw [Yec,Yaq,Y2b,Ynv cs];rfl
theorem Yo7 {inter:Bool} {k:Int}:∀(rs:List RowP) (i p:Nat) (vs:List (Int×Int)) (first:Int),Yaw (Yc3 inter k i p vs first rs)=true
 | [],_,_,_,_=> rfl
 | r::rs,i,p,vs,first=> by
  rw [Yc3,Yaq,Yaq,Ynv,Yo7 rs]
  unfold Yjl
  cases r.head with
  | true=> rw [if_pos rfl,Yyj];rfl
  | false=> rfl
theorem Yxc (p:Nat) (S:ShP):Yaw (Yb1 p S)=true:=by
 unfold Yb1 Yh8 Ykc
 rw [Yaq,Yaq,Yaq,Yaq,Yoj,Y38,Yo7,Yc6,Yc6];rfl
theorem Y0s {r:List UInt8} (hr:Yaw r=true) (S:ShP):Yaw (Yge r S)=true:=by
 unfold Yge Ykc
 rw [Yaq,Yaq,hr,Yc6,Yxc];rfl
end Go.Proofs.YtgikochfffdpfaaGreatDoor
namespace Go.Proofs.YtgikochfffdpfaaGreatDoor
open Go.RowKit Go.Lib
section
variable {w z:World} {B b:Nat} {r:List UInt8}
theorem Ygn {g g':Nat} {cs cs':Array Value} {T T':TypeId} (h:w.heap[g]? = some (.cells cs T (0,0))) (h':w.heap[g']? = some (.cells cs' T' (0,0))) (hT:T≠T'):g≠g':=by
 rintro rfl
 rw [h] at h'
 injection h' with h'
 injection h' with _ h'
 exact hT h'
theorem Yiv.typed (hk:∀(g:Nat) (cs:Array Value),w.heap[g]? = some (Obj.cells cs 80 (0,0))→z.heap[g]? = some (Obj.cells cs 80 (0,0))):∀{k:Nat} {v:Value},Yiv w B r k v→Yiv z B r k v
 | 0,_,c=> c
 | _+1,_,⟨g,v',e,hg,hh,c⟩=> ⟨g,v',e,hg,hk g _ hh,c.typed hk⟩
theorem Yb9.typed (h:Yb9 w B b r) (hk:∀(g:Nat) (cs:Array Value) (T:TypeId),(T=63∨T=80)→w.heap[g]? = some (Obj.cells cs T (0,0))→z.heap[g]? = some (Obj.cells cs T (0,0))):Yb9 z B b r:=by
 obtain ⟨h1,h2,v,h3,h4⟩:=h
 exact ⟨h1,h2,v,hk _ _ _ (.inl rfl) h3,h4.typed fun g cs hh=> hk g cs _ (.inr rfl) hh⟩
theorem Ykp {base e c n j:Nat} {v:Value} {xs:List Value} (h:w.ownsRow base e c v n xs) (hj:v.ownBlock=some j):∃cur,w.heap[j]? = some (.cells cur e (0,0)):=by
 rcases h.2 with ⟨rfl,_⟩ | ⟨g,cap,cur,rfl,_,hh,_⟩
 ·cases hj
 ·injection hj with hj
  exact ⟨cur,hj▸hh⟩
end
structure Yfz (w:World) (W S V A b B:Nat) (r:List UInt8) (zs:List Value) (k:Int) (vv:Value) (vs:List (Int×Int)):Prop where
 bw:w.heap[W]? = some (.cells [.pointer (some ⟨b,0,none⟩)].toArray 29 (0,0))
 bs:w.heap[S]? = some (.cells zs.toArray 25 (0,0))
 bv:w.heap[V]? = some (.cells [vv].toArray 73 (0,0))
 ba:w.heap[A]? = some (.cells [.int .i64 (Ydt k)].toArray 3 (0,0))
 wr:Yb9 w B b r
 vec:w.ownsRow 0 51 2 vv vs.length (Y4v vs)
section
variable {w z:World} {W S V A b B:Nat} {r r':List UInt8} {zs:List Value} {k:Int} {vv vv':Value} {vs:List (Int×Int)}
theorem Yfz.block {g:Nat} {cs:Array Value} {T:TypeId} {L:List (Option Nat)} (h:w.heap[g]? = some (.cells cs T (0,0))) (hg:Yaf L w z) (hL:some g∉L):z.heap[g]? = some (.cells cs T (0,0)):=
 (hg.block g (Array.getElem?_eq_some_iff.1 h).1 hL).trans h
theorem Yfz.below (h:Yfz w W S V A b B r zs k vv vs) (hb:Below w.heap.size w z):Yfz z W S V A b B r zs k vv vs where
 bw:=Yfz.block h.bw (Yaf.below (L:=[]) hb) (by simp)
 bs:=Yfz.block h.bs (Yaf.below (L:=[]) hb) (by simp)
 bv:=Yfz.block h.bv (Yaf.below (L:=[]) hb) (by simp)
 ba:=Yfz.block h.ba (Yaf.below (L:=[]) hb) (by simp)
 wr:=h.wr.below hb
 vec:=Y8a h.vec hb
theorem Yb9.block {w:World} {B b:Nat} {r:List UInt8} (h:Yb9 w B b r):∃cs,w.heap[b]? = some (.cells cs 63 (0,0)):=by
 obtain ⟨-,-,v,h3,-⟩:=h
 exact ⟨_,h3⟩
theorem Yfz.wrote (h:Yfz w W S V A b B r zs k vv vs) (hg:w.grownBy z (some b)) (hw:Yb9 z B b r'):Yfz z W S V A b B r' zs k vv vs:=by
 obtain ⟨cs,hc⟩:=h.wr.block
 have key:∀{g:Nat} {cs':Array Value} {T:TypeId},T≠63→w.heap[g]? = some (.cells cs' T (0,0))→z.heap[g]? = some (.cells cs' T (0,0)):=fun hT hh=>
  (hg.block _ (Array.getElem?_eq_some_iff.1 hh).1 fun e=> by injection e with e;exact Ygn hh hc hT e).trans hh
 exact {
  bw:=key (by decide) h.bw
  bs:=key (by decide) h.bs
  bv:=key (by decide) h.bv
  ba:=key (by decide) h.ba
  wr:=hw
  vec:=Yeo h.vec (M:=[some b]) (Yaf.one hg fun j _ e=> by rw [e];exact List.mem_singleton.2 rfl) fun j hj hm=> by
   have e:=List.mem_singleton.1 hm
   injection e with e
   obtain ⟨cur,hcur⟩:=Ykp h.vec hj
   exact Ygn hcur hc (by decide) e}
theorem Yfz.more {v:Int×Int} (h:Yfz w W S V A b B r zs k vv vs) (hg:w.grownBy z vv.ownBlock) (ho:z.ownsRow 0 51 2 vv' (vs.length+1) (Y4v vs ++ [.int .i64 v.1,.int .i64 v.2])):
  Yfz (z.setCell ⟨V,0,none⟩ vv') W S V A b B r zs k vv' (vs ++ [v]):=by
 have key:∀{g:Nat} {cs':Array Value} {T:TypeId},T≠51→w.heap[g]? = some (.cells cs' T (0,0))→z.heap[g]? = some (.cells cs' T (0,0)):=fun hT hh=>
  (hg.block _ (Array.getElem?_eq_some_iff.1 hh).1 fun e=> by
   obtain ⟨cur,hcur⟩:=Ykp h.vec e.symm
   exact Ygn hh hcur hT rfl).trans hh
 have hV:=key (by decide) h.bv
 have hs:z.grownBy (z.setCell ⟨V,0,none⟩ vv') (some V):=Yam z ⟨V,0,none⟩ vv'
 have key2:∀{g:Nat} {cs':Array Value} {T:TypeId},T≠73→z.heap[g]? = some (.cells cs' T (0,0))→(z.setCell ⟨V,0,none⟩ vv').heap[g]? = some (.cells cs' T (0,0)):=fun hT hh=>
  (hs.block _ (Array.getElem?_eq_some_iff.1 hh).1 fun e=> by injection e with e;exact Ygn hh hV hT e).trans hh
 exact {
  bw:=key2 (by decide) (key (by decide) h.bw)
  bs:=key2 (by decide) (key (by decide) h.bs)
  bv:=Yat (o:=0) vv' hV
  ba:=key2 (by decide) (key (by decide) h.ba)
  wr:=h.wr.typed fun g cs T hT hh=> by
   rcases hT with rfl | rfl
   ·exact @key2 _ _ 63 (by decide) (@key _ _ 63 (by decide) hh)
   ·exact @key2 _ _ 80 (by decide) (@key _ _ 80 (by decide) hh)
  vec:=by
   rw [List.length_append,Yxa]
   exact Yeo ho (M:=[some V]) (Yaf.set _ (List.mem_singleton.2 rfl)) fun j hj hm=> by
    have e:=List.mem_singleton.1 hm
    injection e with e
    obtain ⟨cur,hcur⟩:=Ykp ho hj
    exact Ygn hcur hV (by decide) e}
end
section
variable {u w:World} {W S V A b B n m ca cb:Nat} {r:List UInt8} {zs:List Value} {k:Int} {vv:Value} {vs:List (Int×Int)}
set_option maxRecDepth 100000 in
set_option maxHeartbeats 1000000 in
theorem Yy0 (hd:Shd) (p q:Option Addr) (z:Int) (hw:Yb9 w B b r):
  Calls Tryz.prog 56 #[.pointer (some ⟨b,0,none⟩),.agg (Yay hd (.slice p n ca) (.slice q m cb) z).toArray] w fun e w'=>∃W S V A,e = .returned (.func (.func 88) #[] #[.pointer (some ⟨W,0,none⟩),.pointer (some ⟨S,0,none⟩),.pointer (some ⟨V,0,none⟩),.pointer (some ⟨A,0,none⟩)])∧
   Yfz w' W S V A b B r (Yay hd (.slice p n ca) (.slice q m cb) z) hd.fmt (.slice none 0 0) []∧Below w.heap.size w w'∧w.heap.size≤W∧w.heap.size≤S∧w.heap.size≤V∧w.heap.size≤A:=by
 have hmf:∀(fn:Fn) (first cap:Array Value) (w:World),(Instr.makeFunc fn first cap).run Tryz.prog w = .ok (.func fn first cap) w:=fun _ _ _ _=> rfl
 obtain ⟨zs,hZ⟩:∃zs,Yay hd (.slice p n ca) (.slice q m cb) z=zs:=⟨_,rfl⟩
 have z2:zs[2]? = some (.int .i64 hd.fmt):=by rw [←hZ];rfl
 rw [hZ]
 have cf:=fun x=> Yfh hd.fmt x
 generalize hd.fmt=k at *
 obtain ⟨R,w1,w2,hR,hw1,hw2,hz1,hz2,hC0,hC1,hbC⟩:=Yvp w (.cells #[.pointer (some ⟨b,0,none⟩)] 29 (0,0)) (.cells zs.toArray 25 (0,0))
 have k2:=Yaa (o:=2) hC1 z2
 obtain ⟨R3,w3,w4,hR3,hw3,hw4,hz3,hz4,hC2,hC3,hbD⟩:=Yvp w2 (.cells #[.int .i64 (Ydt k)] 3 (0,0)) (.cells #[.slice none 0 0] 73 (0,0))
 obtain rfl:R3=R+2:=by omega
 have hbX:Below R w w4:=hbC.trans (hbD.mono (by omega))
 have hat:Yfz w4 R (R+1) (R+3) (R+2) b B r zs k (.slice none 0 0) []:={
  bw:=(hbD.block R (by omega)).trans hC0
  bs:=(hbD.block (R+1) (by omega)).trans hC1
  bv:=hC3
  ba:=hC2
  wr:=hw.below (hR▸hbX)
  vec:=World.ownsRow_nil ..}
 have HW1:=Lib.hid hw1
 have HW2:=Lib.hid hw2
 have HW3:=Lib.hid hw3
 have HW4:=Lib.hid hw4
 have HR:=Lib.hid hR
 have HZ2:=Lib.hid hz2
 have HAT:=Lib.hid hat
 have HBX:=Lib.hid hbX
 clear hat hbX hC0 hC1 hC2 hC3 hbC hbD hw1 hw2 hw3 hw4 hR hR3 hz1 hz2 hz3 hz4 hZ
 go_enter Tryz.func56,Tryz.ntmps56
 go_wp2_with fail
 rw [HW1.out,HW2.out,HR.out]
 refine (cf _).mono ?_
 rintro e x ⟨rfl,rfl⟩
 go_wp2
 rw [HW3.out,HW4.out,HZ2.out]
 go_ret
 rw [HR.out]
 exact ⟨R,R+1,R+3,R+2,rfl,HAT.out,HBX.out,by omega,by omega,by omega,by omega⟩
set_option maxRecDepth 100000 in
set_option maxHeartbeats 4000000 in
theorem Y8s {c:Cel} {cs:List Value} {inter:Bool} {first:Int} (h:Yfz w W S V A b B r zs k vv vs) (hz3:zs[3]? = some (.bool inter)) (hu:Below u.heap.size u w) (hN:u.heap.size≤b) (hB:B≤w.heap.size) (ht:Ybf u.heap.size u)
  (hc:Yxk u c cs) (hev:∀i,i<6→(c.ev i).length≤1048576) (hm:Ybo inter c=true) (hr:r.length≤60000000000) (hn:vs.length≤1048575) (hk:Ydt k≤1000):
  Calls Tryz.prog 88 #[.agg cs.toArray,.int .i64 first,.pointer (some ⟨W,0,none⟩),.pointer (some ⟨S,0,none⟩),.pointer (some ⟨V,0,none⟩),.pointer (some ⟨A,0,none⟩)] w fun e w'=> e = .returned (.tuple #[])∧
   ∃vv',Yfz w' W S V A b B (r++Yc1 inter (Yd5 vs (Ydt k) first).1 (Yd5 vs (Ydt k) first).2 c) zs k vv' (vs ++ [(c.mx,c.my)])∧Yaf [some b,some V,vv.ownBlock] w w'∧∀j,vv'.ownBlock=some j→vv.ownBlock=some j∨w.heap.size≤j:=by
 obtain ⟨vp,vcap,hvv,hVA⟩:=Y1p rfl h.vec
 subst hvv
 obtain ⟨p,cap,hcs,hwf,he⟩:=hc
 have hci:Yjr u c p fun i=> (c.ev i).length:=fun i hi=> ⟨rfl,hev i hi,(he i hi).2⟩
 obtain ⟨Z,hZ⟩:∃Z,cs.toArray=Z:=⟨_,rfl⟩
 have hsz:(Tryz.prog.info? 56).map (·.size)=some Z.size:=by rw [←hZ,hcs];exact Yhr ..
 obtain ⟨C,hC⟩:∃C,w.heap.size=C:=⟨_,rfl⟩
 obtain ⟨w0,hw0⟩:∃w0,w.alloc (.cells Z 56 (0,0))=w0:=⟨_,rfl⟩
 have hb0:Below w.heap.size w w0:=by rw [←hw0];exact (Below.refl _ w).alloc (Nat.le_refl _) _
 have hhC:w0.heap[C]? = some (.cells Z 56 (0,0)):=by rw [←hw0,←hC];exact heap_alloc_new w _
 have hs0:w0.heap.size=C+1:=by rw [←hw0,←hC];simp
 have h0:=h.below hb0
 have hVX:=hVA.mono hb0
 have hu0:Below u.heap.size u w0:=hu.trans (hb0.mono hu.size)
 have hbC:b<C:=by rw [←hC];exact h.wr.lt
 have hVC:V<C:=by rw [←hC];exact (Array.getElem?_eq_some_iff.1 h.bv).1
 obtain ⟨⟨fx,fy⟩,hfo⟩:∃f,Yd5 vs (Ydt k) first=f:=⟨_,rfl⟩
 have CO:=Lib.hid (fun (x:World) (hx:Below w0.heap.size w0 x)=> (Yqx (fun i=> vs.getD i (0,0)) vp vs.length vcap (Ydt k) first x (hVX.mono hx) (by unfold maxLen;omega) (by omega)).mono fun e y (z:Yr6 _ x e y)=>
  (⟨by rw [z.1,show Qg4 (fun i=> vs.getD i (0,0)) vs.length (Ydt k) first=(fx,fy) from hfo];rfl,hx.trans (z.2.mono hx.size)⟩:e = .returned (.agg #[.int .i64 fx,.int .i64 fy])∧Below w0.heap.size w0 y))
 have key:∀x,Below w0.heap.size w0 x→∀z,x.grownBy z (some b)→Below u.heap.size u z:=fun x hx z hz=> (hu0.trans (hx.mono hu0.size)).grown hz (hu0.trans (hx.mono hu0.size)).size (fun j hj=> by injection hj with hj;omega)
 have CP:=Lib.hid (fun (x:World) (hx:Below w0.heap.size w0 x)=> (by
  have h1:=Qfn inter fx fy c p (fun i=> (c.ev i).length) cap B b r x (h0.below hx).wr (by omega) (by have:=hx.size;omega) (fun z hz=> by
   have hk:=key x hx z hz
   have h:=ht.below hk
   exact ⟨Ybf.here h.pats h.mvd h.steps h.tcoef,hci.below hk⟩) hm
  rw [←hcs,hZ] at h1
  exact h1:Calls Tryz.prog 89 #[.pointer (some ⟨b,0,none⟩),.bool inter,.agg #[.int .i64 fx,.int .i64 fy],.agg Z] x fun e w'=> e = .returned (.int .i64 0)∧Yb9 w' B b (r++Yc1 inter fx fy c)∧x.grownBy w' (some b)))
 have K0:=Lib.hid (fun (x:World) (hx:Below w0.heap.size w0 x)=> Yaa (o:=0) (h0.below hx).bw rfl)
 have K1:=Lib.hid (fun (x:World) (hx:Below w0.heap.size w0 x)=> Yaa (o:=3) (h0.below hx).bs hz3)
 have K2:=Lib.hid (fun (x:World) (hx:Below w0.heap.size w0 x)=> Yaa (o:=0) (h0.below hx).bv rfl)
 have K3:=Lib.hid (fun (x:World) (hx:Below w0.heap.size w0 x)=> Yaa (o:=0) (h0.below hx).ba rfl)
 have K4:=Lib.hid (fun (x:World) (hx:Below w0.heap.size w0 x)=> ((hx.block C (by omega)).trans hhC:x.heap[C]? = some (.cells Z 56 (0,0))))
 have H0:=Lib.hid h0
 have HW0:=Lib.hid hw0
 have HC:=Lib.hid hC
 have HB0:=Lib.hid hb0
 have v4:cs[4]? = some (.int .i64 c.mx):=by rw [hcs];rfl
 have v5:cs[5]? = some (.int .i64 c.my):=by rw [hcs];rfl
 have HZ:=Lib.hid hZ
 have V4:=Lib.hid v4
 have V5:=Lib.hid v5
 have hbd:=(Below.refl w0.heap.size w0).drew
 obtain ⟨CR,hCR⟩:∃CR,Yc1 inter fx fy c=CR:=⟨_,rfl⟩
 rw [hfo,hCR,hZ]
 rw [hCR] at CP
 clear h hz3 hu hev hm hr hwf he hci hcs hZ hC hw0 hb0 hVA hVX hu0 hfo key h0 v4 v5 hk ht hN hB
 go_enter Tryz.func88,Tryz.ntmps88
 go_upto_region 1 with fail
 rw [HW0.out,HC.out]
 refine Yaz (S:=fun x=> Below w0.heap.size w0 x) 8 (by kernel_rfl) (by kernel_rfl) hbd ?_
 simp only [List.take_succ_cons,List.take_zero,List.drop_succ_cons,List.drop_zero]
 refine Ya2 29 _ ⟨W,0,none⟩ (.pointer (some ⟨b,0,none⟩)) (by kernel_rfl) rfl rfl (fun x hx=> by have c0:=K0.out x hx;go_simp) ?_;simp only [Act.put,List.setIfInBounds_toArray,List.set_cons_zero,List.set_cons_succ]
 refine Yae (by kernel_rfl) (fun x _=> by go_simp;try with_reducible rfl) ?_;simp only [Act.put,List.setIfInBounds_toArray,List.set_cons_zero,List.set_cons_succ]
 refine Ya2 4 _ ⟨S,3,none⟩ (.bool inter) (by kernel_rfl) rfl rfl (fun x hx=> by have c0:=K1.out x hx;go_simp) ?_;simp only [Act.put,List.setIfInBounds_toArray,List.set_cons_zero,List.set_cons_succ]
 refine Ya2 73 _ ⟨V,0,none⟩ (.slice vp vs.length vcap) (by kernel_rfl) rfl rfl (fun x hx=> by have c0:=K2.out x hx;go_simp) ?_;simp only [Act.put,List.setIfInBounds_toArray,List.set_cons_zero,List.set_cons_succ]
 refine Ya2 3 _ ⟨A,0,none⟩ (.int .i64 (Ydt k)) (by kernel_rfl) rfl rfl (fun x hx=> by have c0:=K3.out x hx;go_simp) ?_;simp only [Act.put,List.setIfInBounds_toArray,List.set_cons_zero,List.set_cons_succ]
 refine Yae (by kernel_rfl) (fun x _=> by go_simp;try with_reducible rfl) ?_;simp only [Act.put,List.setIfInBounds_toArray,List.set_cons_zero,List.set_cons_succ]
 refine Ya8 (by kernel_rfl) CO.out (fun _=> by kernel_rfl) ?_;simp only [Act.put,List.setIfInBounds_toArray,List.set_cons_zero,List.set_cons_succ]
 refine Yfd 56 _ C 56 Z (0,0) _ (by kernel_rfl) rfl rfl (fun x hx=> K4.out x hx) Tryz.underlying56 rfl hsz ?_;simp only [Act.put,List.setIfInBounds_toArray,List.set_cons_zero,List.set_cons_succ]
 refine Ycf fun x hx=> ?_
 go_wp2_with fail
 refine (CP.out _ hx).mono ?_
 rintro e w2 ⟨rfl,hw2,hg2⟩
 have h2:=(H0.out.below hx).wrote hg2 hw2
 have hC2:=(hg2.block C (by have:=hx.size;omega) (fun e=> by injection e with e;omega)).trans (K4.out _ hx)
 have hr2:w2.rangeAt C 4 [.int .i64 c.mx,.int .i64 c.my]:=fun j v hj=> by
  rw [←HZ.out] at hC2
  match j,hj with
  | 0,hj=> injection hj with hj;subst hj;exact Yaa hC2 V4.out
  | 1,hj=> injection hj with hj;subst hj;exact Yaa hC2 V5.out
 have kv:=Yaa (o:=0) h2.bv rfl
 obtain ⟨ti,j0,j1,j2,j3⟩:=Y0g
 have ho2:=h2.vec
 obtain ⟨wP,hwP⟩:∃wP,w2.alloc (.cells #[.int .i64 c.mx,.int .i64 c.my] 51 (0,0))=wP:=⟨_,rfl⟩
 have hbP:Below w2.heap.size w2 wP:=by rw [←hwP];exact (Below.refl _ w2).alloc (Nat.le_refl _) _
 have hP:=h2.below hbP
 have hpo:=hP.vec
 have c0:wP.cell? ⟨w2.heap.size,0,none⟩=some (.int .i64 c.mx):=by rw [←hwP];exact Yaa (cs:=[.int .i64 c.mx,.int .i64 c.my]) (heap_alloc_new w2 _) rfl
 have c1:wP.cell? ⟨w2.heap.size,1,none⟩=some (.int .i64 c.my):=by rw [←hwP];exact Yaa (cs:=[.int .i64 c.mx,.int .i64 c.my]) (heap_alloc_new w2 _) rfl
 have hsz2:C+1≤w2.heap.size:=by have:=hx.size;have:=hg2.size;omega
 have HH2:=Lib.hid h2
 have HG2:=Lib.hid hg2
 have HX:=Lib.hid hx
 have HP:=Lib.hid hP
 have HBP:=Lib.hid hbP
 have HWP:=Lib.hid hwP
 clear hwP h2 hg2 hx hP hbP ho2 hC2 hw2
 go_wp2_with (first | (with_reducible refine Y27 rfl _ rfl C 4 rfl c.mx c.my hr2 ?_) | (at_builtin;rw [HWP.out];refine Yqe (v:=.slice vp vs.length vcap) (y0:=c.mx) (y1:=c.my) rfl rfl Tryz.underlying73 j0 j1 rfl j2 j3 rfl hpo rfl ?c1 ?c2 ?c3 ?_;(case c1=> exact c0);(case c2=> exact c1);(case c3=> omega);intro q8 cap8 w8 ho8 hg8 hw8;have hV8:=(hg8.block V (Array.getElem?_eq_some_iff.1 HP.out.bv).1 (fun e=> by obtain ⟨cur,hcur⟩:=Ykp hpo e.symm;exact Ygn HP.out.bv hcur (by decide) rfl)).trans HP.out.bv;have kv8:=Yaa (o:=0) hV8 rfl;have f8:w8.frozen? ⟨V,0,none⟩=false:=Yag hV8;clear hV8))
 go_end0
 refine ⟨rfl,_,HP.out.more (v:=(c.mx,c.my)) hg8 ho8,?_,?_⟩
 ·have g1:Yaf [some b,some V,(Value.slice vp vs.length vcap).ownBlock] w x:=Yaf.below (HB0.out.trans (HX.out.mono HB0.out.size))
  have g2:=g1.trans (M:=[some b]) (Yaf.one HG2.out fun j _ e=> by rw [e];exact List.mem_singleton.2 rfl) fun j _ hm=> by rw [List.mem_singleton.1 hm];exact List.mem_cons_self ..
  have g3:=g2.trans (Yaf.below (L:=[]) HBP.out) (by simp)
  have g4:=g3.trans (M:=[(Value.slice vp vs.length vcap).ownBlock]) (Yaf.one hg8 fun j _ e=> by rw [e];exact List.mem_singleton.2 rfl) fun j _ hm=> by rw [List.mem_singleton.1 hm];exact List.mem_cons_of_mem _ (List.mem_cons_of_mem _ (List.mem_cons_self ..))
  exact g4.trans (M:=[some V]) (Yaf.set _ (List.mem_singleton.2 rfl)) fun j _ hm=> by rw [List.mem_singleton.1 hm];exact List.mem_cons_of_mem _ (List.mem_cons_self ..)
 ·intro j hj
  rcases hw8 j hj with h | h
  ·exact .inl h
  ·exact .inr (by have:=HBP.out.size;have:=HC.out;omega)
end
theorem Y7y {i:Nat} (k:Int) (hi:i≤1000):IntKind.i64.wrap ((i:Int)*Yjo k)=(i:Int)*Yjo k:=by
 obtain ⟨B0,B1,B2,B3,B4⟩:=Ykd k
 have h1:0≤(i:Int)*Yjo k:=Int.mul_nonneg (by omega) B2
 have h2:(i:Int)*Yjo k≤1000*100:=Int.mul_le_mul (by omega) B3 B2 (by omega)
 exact Yhg (by omega)
theorem Qgi {inter:Bool} {N:Nat} {rs:List RowP} (h:Ydb (Yer inter (N:Int)) 0 rs=true) {i:Nat} (hi:i<rs.length):
  rs[i].cels.length=N∧(∀c∈rs[i].cels,Ybo inter c=true)∧(rs[i].head=true→i≠0∧∃a q:Nat,rs[i].id=(a:Int)∧rs[i].quant=(q:Int)∧a≤3∧1≤q∧q≤31):=by
 have h1:=Yig.1 h i hi
 rw [Nat.zero_add] at h1
 unfold Yer at h1
 rw [Bool.and_eq_true,decide_eq_true_iff,Bool.and_eq_true] at h1
 obtain ⟨hc,hh,ha⟩:=h1
 refine ⟨by omega,List.all_eq_true.1 ha,fun hd=> ?_⟩
 rw [hd,if_pos rfl,decide_eq_true_iff] at hh
 exact ⟨hh.1,rs[i].id.toNat,rs[i].quant.toNat,by omega,by omega,by omega,by omega,by omega⟩
theorem Yy2 {inter:Bool} {k:Int} {rs:List RowP} (i:Nat) (R:List UInt8) (vs:List (Int×Int)) (first:Int) (hi:i<rs.length):
  Yet inter k i R vs first (rs.drop i)=Yet inter k (i+1) (Yhb inter k (Yvf k i first rs[i]) (R++Yjl i R.length rs[i]) vs rs[i].cels) (vs++Yd0 rs[i].cels) (Yvf k i first rs[i]) (rs.drop (i+1)):=by
 rw [List.drop_eq_getElem_cons hi]
 exact Yy3 ..
set_option maxRecDepth 100000 in
set_option maxHeartbeats 8000000 in
theorem Y8t {u w:World} {B b:Nat} {r:List UInt8} {N:Nat} (S:ShP) (p q:Option Addr) (ca cb:Nat) (hS:Yem u q S.rows) (ht:Ybf u.heap.size u) (hu:Below u.heap.size u w) (hN:u.heap.size≤b) (hB:B≤w.heap.size) (hw:Yb9 w B b r)
  (h18:S.rows.length≤18) (hNN:0<N∧N≤352) (hm:Ydb (Yer S.hd.inter (N:Int)) 0 S.rows=true) (hev:∀c∈Yd3 S,∀k,k<6→(c.ev k).length≤1048576) (hlen:(Yet S.hd.inter S.hd.fmt 0 r [] 0 S.rows).length≤60000000000):
  Calls Tryz.prog 30 #[.pointer (some ⟨b,0,none⟩),.agg (Yay S.hd (.slice p S.hd.supp.length ca) (.slice q S.rows.length cb) S.zeros).toArray] w fun e w'=> e = .returned (.tuple #[])∧Yb9 w' B b (Yet S.hd.inter S.hd.fmt 0 r [] 0 S.rows)∧w.grownBy w' (some b):=by
 have cf:=fun x=> Yim S.hd.fmt x
 have hfa:Ydt S.hd.fmt≤1000:=by have:=(Yi7 S.hd.fmt).1;have:=(Ykd S.hd.fmt).2.2.2.2;omega
 have wm:=fun (i:Nat) (hi:i≤1000)=> Y7y S.hd.fmt hi
 have rm:=fun (i:Nat) (hi:i<S.rows.length)=> Qgi hm hi
 have rev:=fun (i:Nat) (hi:i<S.rows.length) c (hc:c∈S.rows[i].cels)=> hev c (List.mem_flatMap.2 ⟨_,List.getElem_mem hi,hc⟩)
 have hnx:=fun (i:Nat) (R:List UInt8) (vs:List (Int×Int)) (first:Int) (hi:i<S.rows.length)=> Yy2 (inter:=S.hd.inter) (k:=S.hd.fmt) i R vs first hi
 have hend:=fun (R:List UInt8) (vs:List (Int×Int)) (first:Int)=> (show Yet S.hd.inter S.hd.fmt S.rows.length R vs first (S.rows.drop S.rows.length)=R by rw [List.drop_length];exact Y3w ..)
 obtain ⟨T,hT⟩:∃T,Yet S.hd.inter S.hd.fmt 0 r [] 0 S.rows=T:=⟨_,rfl⟩
 rw [hT] at hlen ⊢
 have hT0:Yet S.hd.inter S.hd.fmt 0 r [] 0 (S.rows.drop 0)=T:=hT
 have hle:∀(i:Nat) (R:List UInt8) (vs:List (Int×Int)) (first:Int) (rs:List RowP),Yet S.hd.inter S.hd.fmt i R vs first rs=T→R.length≤60000000000:=fun i R vs first rs h=> by
  rw [←h] at hlen
  unfold Yet at hlen
  rw [List.length_append] at hlen
  omega
 have pc:=fun (x:World) (R:List UInt8) (hx:Yb9 x B b R)=> Yy0 (w:=x) (n:=S.hd.supp.length) (m:=S.rows.length) (ca:=ca) (cb:=cb) S.hd p q S.zeros hx
 obtain ⟨zs,hZ⟩:∃zs,Yay S.hd (.slice p S.hd.supp.length ca) (.slice q S.rows.length cb) S.zeros=zs:=⟨_,rfl⟩
 have z2:zs[2]? = some (.int .i64 S.hd.fmt):=by rw [←hZ];rfl
 have z3:zs[3]? = some (.bool S.hd.inter):=by rw [←hZ];rfl
 have z6:zs[6]? = some (.slice q S.rows.length cb):=by rw [←hZ];rfl
 have hzsz:(Tryz.prog.info? 25).map (·.size)=some zs.toArray.size:=by rw [show zs.toArray.size=8 by rw [←hZ];rfl];kernel_rfl
 rw [hZ] at pc ⊢
 obtain ⟨D,hD⟩:∃D,w.heap.size=D:=⟨_,rfl⟩
 obtain ⟨w1,hw1⟩:∃w1,w.alloc (.cells zs.toArray 25 (0,0))=w1:=⟨_,rfl⟩
 have hb1:Below w.heap.size w w1:=by rw [←hw1];exact (Below.refl _ w).alloc (Nat.le_refl _) _
 have hs1:w1.heap.size=D+1:=by rw [←hw1,←hD];simp
 have hhD:w1.heap[D]? = some (.cells zs.toArray 25 (0,0)):=by rw [←hw1,←hD];exact heap_alloc_new w _
 have hwr1:=hw.below hb1
 have hbD:b<D:=by rw [←hD];exact hw.lt
 obtain ⟨Yr,HYRS,hzr⟩:=Ykr
 obtain ⟨Yc,HYC,hzc⟩:=Yfe
 have huD:u.heap.size≤D:=by rw [←hD];exact hu.size
 have U:=Lib.hid (fun (x:World) (hx:Yaf [some b] w x)=> ((hu.trans (hx.under (N:=u.heap.size) (by omega) fun k hk=> by have e:=List.mem_singleton.1 hk;injection e with e;omega)):Below u.heap.size u x))
 generalize hfm:S.hd.fmt=k at *
 generalize hin:S.hd.inter=inter at *
 obtain ⟨n,hln⟩:∃n,S.rows.length=n:=⟨_,rfl⟩
 rw [hln] at h18
 have k2:=Yaa (o:=2) hhD z2
 have k6:∀x,Below w1.heap.size w1 x→x.cell? ⟨D,6,none⟩=some (.slice q n cb):=fun x hx=> by rw [←hln];exact Yaa ((hx.block D (by omega)).trans hhD) z6
 have HW1:=Lib.hid hw1
 have HD:=Lib.hid hD
 have NR:=Lib.hid hln
 have HRS:=Lib.hid hS
 have HT0:=Lib.hid hT0
 have K6:=Lib.hid k6
 have HLE:=Lib.hid hle
 have NX:=Lib.hid hnx
 have HEND:=Lib.hid hend
 have RM:=Lib.hid rm
 have REV:=Lib.hid rev
 have WM:=Lib.hid wm
 have HTB:=Lib.hid ht
 have HB:=Lib.hid hB
 have Z3:=Lib.hid z3
 have HB1:=Lib.hid hb1
 have hgw1:Yaf [some b] w w1:=Yaf.below hb1
 clear hZ hw1 hD hS hT0 hle hnx hend rm rev wm ht hB z2 z3 z6 hu hm hev hlen hT hb1 hw
 go_enter Tryz.func30,Tryz.ntmps30
 go_wp2_with (with_reducible refine wpList_load_row rfl 25 _ rfl _ rfl 25 zs.toArray (0,0) _ (heap_alloc_new w _) Tryz.underlying25 rfl hzsz ?_)
 rw [HW1.out,HD.out]
 refine (pc _ _ hwr1).mono ?_
 rintro e w2 ⟨W,Sb,V,A,rfl,hp2,hb2,l1,l2,l3,l4⟩
 have k2':=(World.cell?_of_block (a:=⟨D,2,none⟩) (hb2.block D (by omega))).trans k2
 have k6':=k6 _ hb2
 have hg2:Yaf [some b] w w2:=hgw1.trans (Yaf.below (L:=[]) hb2) (by simp)
 have hsD:D<w2.heap.size:=by have:=hb2.size;omega
 have KD:=Lib.hid (fun (x:World) (hx:Yaf [some b] w2 x)=> ((hx.block D hsD (fun hm=> by have e:=List.mem_singleton.1 hm;injection e with e;omega)):x.heap[D]? = w2.heap[D]?))
 have HL:Hid (D≤W∧D≤Sb∧D≤V∧D≤A):=Lib.hid (by omega)
 clear k2 k6 hhD pc hwr1 hgw1 hb2 l1 l2 l3 l4 hs1
 go_wp2_with fail
 refine (cf _).mono ?_
 rintro e x ⟨rfl,rfl⟩
 go_wp2
 go_loopw [7,24] (fun f t wr=>∃(i:Nat) (first:Int) (vv:Value) (vs:List (Int×Int)) (R:List UInt8),f = .int .i64 first∧t = .int .i64 (i:Int)∧i≤n∧Yfz wr W Sb V A b B R zs k vv vs∧Hid (Yet inter k i R vs first (S.rows.drop i)=T)∧Yaf [some b] w wr∧(∀j,vv.ownBlock=some j→D≤j)∧Hid (vs.length≤1000*i)) (fun _ t _=> n-(RowKit.intOf t).toNat)
 case atStart=> exact ⟨0,0,_,[],r,rfl,rfl,Nat.zero_le _,hp2,HT0,hg2,(fun j hj=> by cases hj),Lib.hid (Nat.zero_le _)⟩
 case round=>
  clear hp2 hg2 k2' k6'
  obtain ⟨i,first,vv,vs,R,rfl,rfl,hi,hp,hT,hg,hvv,hvl⟩:=hrel
  by_cases hlt:i<n
  ·have t1:decide ((i:Int)<(n:Int))=true:=by simp;omega
   have hil:i<S.rows.length:=by rw [NR.out];exact hlt
   obtain ⟨b1,o1,hq1,hlb1,hc1⟩:=Ylw HRS.out (by rw [NR.out];omega)
   obtain ⟨rq,cap,hq,hml,hcel,hat⟩:=hc1 i hil
   have hTn:=NX.out i R vs first hil
   rw [hT.out] at hTn
   obtain ⟨RC,RCM,RH⟩:=RM.out i hil
   have RE:=REV.out i hil
   have wmi:=WM.out i (by omega)
   obtain ⟨row,hrow⟩:∃row,S.rows[i]=row:=⟨_,rfl⟩
   rw [hrow] at hml hcel hat hTn RC RCM RH RE
   subst hq1
   obtain ⟨rs,hrs⟩:∃rs,[Value.bool row.head,.int .i64 row.id,.int .i64 row.quant,.slice rq row.cels.length cap]=rs:=⟨_,rfl⟩
   have rl:rs.length=4:=by rw [←hrs];rfl
   have ro:rs.toArray.all (·.oneCell')=true:=by rw [←hrs];simp [Value.oneCell']
   have hrg:wr.rangeAt b1 (o1+i*4) rs:=fun k v hk=> by
    obtain ⟨a0,a1,a2,a3⟩:=hat wr (U.out _ hg)
    rw [←hrs] at hk
    match k,hk with
    | 0,hk=> injection hk with hk;subst hk;exact a0
    | 1,hk=> injection hk with hk;subst hk;exact a1
    | 2,hk=> injection hk with hk;subst hk;exact a2
    | 3,hk=> injection hk with hk;subst hk;exact a3
   have HSR:(Tryz.prog.info? 59).map (·.size)=some rs.toArray.size:=by rw [show rs.toArray.size=4 from rl];kernel_rfl
   have HYR:Yr.size=rs.toArray.size:=by rw [HYRS];exact rl.symm
   obtain ⟨K,hK⟩:∃K,wr.heap.size=K:=⟨_,rfl⟩
   obtain ⟨wB,hwB⟩:∃wB,wr.alloc (.cells rs.toArray 59 (0,0))=wB:=⟨_,rfl⟩
   have hbB:Below wr.heap.size wr wB:=by rw [←hwB];exact (Below.refl _ wr).alloc (Nat.le_refl _) _
   have hhK:wB.heap[K]? = some (.cells rs.toArray 59 (0,0)):=by rw [←hwB,←hK];exact heap_alloc_new wr _
   have hsK:wB.heap.size=K+1:=by rw [←hwB,←hK];simp
   have KR:=Lib.hid (fun (x:World) (hx:wB.grownBy x (some b))=> (by
    have h:=(hx.block K (by omega) (fun e=> by injection e with e;have:=hp.wr.lt;omega)).trans hhK
    rw [←hrs] at h
    exact ⟨Yaa (o:=0) h rfl,Yaa (o:=1) h rfl,Yaa (o:=2) h rfl,Yaa (o:=3) h rfl⟩:x.cell? ⟨K,0,none⟩=some (.bool row.head)∧x.cell? ⟨K,1,none⟩=some (.int .i64 row.id)∧x.cell? ⟨K,2,none⟩=some (.int .i64 row.quant)∧x.cell? ⟨K,3,none⟩=some (.slice rq row.cels.length cap)))
   have hpB:=hp.below hbB
   have hgB:Yaf [some b] w wB:=hg.trans (Yaf.below (L:=[]) hbB) (by simp)
   have HWB:=Lib.hid hwB
   have HKK:=Lib.hid hK
   have HCEL:=Lib.hid hcel
   have HTN:=Lib.hid hTn
   have HRC:=Lib.hid RC
   have HRCM:=Lib.hid RCM
   have HRE:=Lib.hid RE
   have HRL:=Lib.hid (HLE.out i R vs first _ hT.out)
   have hDK:D≤K:=by rw [←hK,←HD.out];exact hg.size
   have hbrefl:wB.grownBy wB (some b):=Yai (Below.refl _ _) _
   obtain ⟨q0,q1,q2,q3⟩:=KR.out _ hbrefl
   clear hwB hK hrs hhK hcel hat hc1 hTn RC RCM RE hrow hT hp hg
   go_upto_if 30 with (first | (with_reducible refine Yek rfl _ rfl b1 (o1+i*4) rfl rs hrg rl ?_) | (with_reducible refine Yaj rfl 59 _ _ rfl rs.toArray Yr 59 rfl rfl HSR HYR ro ?_;rw [HWB.out,HKK.out]))
   go_cut [7] (fun f wx=>∃R',f = .int .i64 (Yvf k i first row)∧Yfz wx W Sb V A b B R' zs k vv vs∧Hid (R'=R++Yjl i R.length row)∧wB.grownBy wx (some b))
   case first=>
    cases hd:row.head with
    | false=>
     try rw [hd]
     go_wp2
     go_meet
     case rel=> exact ⟨R,by unfold Yvf;rw [hd];rfl,hpB,Lib.hid (by unfold Yjl;rw [hd];exact (List.append_nil R).symm),hbrefl⟩
    | true=>
     obtain ⟨hi0,ia,iq,ha,hqq,ha3,hq1,hq31⟩:=RH hd
     have hpu:=fun (x:World) (hx:Yb9 x B b R) (hz:B≤x.heap.size)=> Qfy x B b R i ia iq (by omega) hx (by have:=HRL.out;omega) hz
     have hBx:B≤wB.heap.size:=by have:=hgB.size;have:=HB.out;omega
     rw [ha] at q1
     rw [hqq] at q2
     have HD2:=Lib.hid hd
     have HA2:=Lib.hid ha
     have HQ2:=Lib.hid hqq
     try rw [hd]
     clear hd ha hqq hi0 RH
     go_wp2_with fail
     refine (hpu _ hpB.wr hBx).mono ?_
     rintro e w5 ⟨rfl,hw5,hg5⟩
     have hp5:=hpB.wrote hg5 hw5
     go_wp2
     go_meet
     case rel=> exact ⟨_,by unfold Yvf;rw [HD2.out];rfl,hp5,Lib.hid (by rw [Y12];unfold Yjl;rw [HD2.out,if_pos rfl,HA2.out,HQ2.out,Int.toNat_natCast,Int.toNat_natCast]),hg5⟩
   case rest=>
    obtain ⟨R',rfl,hp5,hR',hg5⟩:=hcut
    obtain ⟨wk,rfl⟩:∃x,x=wc:=⟨_,rfl⟩
    obtain ⟨-,-,-,q3⟩:=KR.out _ hg5
    obtain ⟨f,hf⟩:∃f,Yvf k i first row=f:=⟨_,rfl⟩
    have hTN:=HTN.out
    rw [←hR'.out,hf] at hTN
    rw [hf]
    have hgk:Yaf [some b] w wk:=hgB.trans (M:=[some b]) (Yaf.one hg5 fun j _ e=> by rw [e];exact List.mem_singleton.2 rfl) fun j _ h=> h
    rw [HRC.out] at q3
    have hml2:row.cels.length=N:=HRC.out
    obtain ⟨T2,hT2⟩:∃T2,Yhb inter k f R' vs row.cels=T2:=⟨_,rfl⟩
    rw [hT2] at hTN
    have hT20:Hid (Yhb inter k f R' vs (row.cels.drop 0)=T2):=Lib.hid hT2
    have HT2:=Lib.hid hTN
    have HLT:Hid (T2.length≤60000000000):=Lib.hid (HLE.out _ _ _ _ _ hTN.symm)
    clear hpB hgB hbrefl hT2 hTN hR' hf q0 q1 q2 RH wmi hg5
    go_wp2
    go_loopw [44] (fun t wr=>∃(j:Nat) (vv2:Value) (vz:List (Int×Int)) (R2:List UInt8),t = .int .i64 (j:Int)∧j≤N∧Yfz wr W Sb V A b B R2 zs k vv2 vz∧Hid (Yhb inter k f R2 vz (row.cels.drop j)=T2)∧Yaf [some b] w wr∧(∀j,vv2.ownBlock=some j→D≤j)∧Hid (vz=vs++Yd0 (row.cels.take j))) (fun t _=> N-(RowKit.intOf t).toNat)
    case atStart=> exact ⟨0,vv,vs,R',rfl,Nat.zero_le _,hp5,hT20,hgk,hvv,Lib.hid (by simp [Yd0])⟩
    case round=>
     clear hp5 hT20 hgk hvv q3
     obtain ⟨j,vv2,vz,R2,rfl,hj,hp,hT3,hg,hvv,hvz⟩:=hrel
     by_cases hjm:j<N
     ·have t2:decide ((j:Int)<(N:Int))=true:=by simp;omega
      have hjl:j<row.cels.length:=by rw [HRC.out];exact hjm
      obtain ⟨b2,o2,hq2,hlb2,hcv⟩:=Yel.each HCEL.out (by omega)
      obtain ⟨cs,hV,hvc⟩:=hcv j hjl
      have hl18:=hV.shape.1
      have hone:=Ygd hV
      have hrg:wr.rangeAt b2 (o2+j*18) cs:=fun k v hk=> hvc wr (U.out _ hg) k v hk
      obtain ⟨c,hcj⟩:∃c,row.cels[j]=c:=⟨_,rfl⟩
      have hmem:c∈row.cels:=hcj▸List.getElem_mem hjl
      have hT4:Yhb inter k f R2 vz (c::row.cels.drop (j+1))=T2:=by rw [←hcj,←List.drop_eq_getElem_cons hjl];exact hT3.out
      rw [Yxx] at hT4
      have hvz2:vz ++ [(c.mx,c.my)]=vs++Yd0 (row.cels.take (j+1)):=by
       rw [hvz.out,List.take_succ_eq_append_getElem hjl,hcj]
       unfold Yd0
       rw [List.map_append,List.append_assoc];rfl
      rw [hcj] at hV
      have hvzl:vz.length≤1048575:=by
       have h1:=hvl.out
       rw [hvz.out]
       unfold Yd0
       rw [List.length_append,List.length_map,List.length_take]
       omega
      have hR2l:R2.length≤60000000000:=by
       have h1:=HLT.out
       have h2:=congrArg List.length hT3.out
       unfold Yhb at h2
       rw [List.length_append] at h2
       omega
      obtain ⟨C,hC⟩:∃C,wr.heap.size=C:=⟨_,rfl⟩
      obtain ⟨wC,hwC⟩:∃wC,wr.alloc (.cells cs.toArray 56 (0,0))=wC:=⟨_,rfl⟩
      have hhC:wC.heap[C]? = some (.cells cs.toArray 56 (0,0)):=by rw [←hwC,←hC];exact heap_alloc_new wr _
      have hbC:Below wr.heap.size wr wC:=by rw [←hwC];exact (Below.refl _ wr).alloc (Nat.le_refl _) _
      have hpC:=hp.below hbC
      have hgC:Yaf [some b] w wC:=hg.trans (Yaf.below (L:=[]) hbC) (by simp)
      have p1:=Y8s (first:=f) hpC Z3.out (U.out _ hgC) (by omega) (by have:=hgC.size;have:=HB.out;omega) HTB.out hV (HRE.out c hmem) (HRCM.out c hmem) hR2l hvzl hfa
      have HSV:(Tryz.prog.info? 56).map (·.size)=some cs.toArray.size:=by rw [show cs.toArray.size=18 from hl18];kernel_rfl
      have HYV:Yc.size=cs.toArray.size:=by rw [HYC];exact hl18.symm
      have HWC:=Lib.hid hwC
      have HCC:=Lib.hid hC
      have HT4:=Lib.hid hT4
      have HVZ2:=Lib.hid hvz2
      have hDC:D≤wC.heap.size:=by have:=hgC.size;have:=HD.out;omega
      have hpl:=hpC
      have HGC:=Lib.hid hgC
      subst hq2
      clear hwC hC hV hvc hcv hT3 hT4 hvz hvz2 hp hg hbC hgC hcj hmem hvzl hR2l
      go_wp2_with (first | (with_reducible refine Yc5 rfl _ rfl b2 (o2+j*18) rfl cs hrg hl18 ?_) | (with_reducible refine Yaj rfl 56 _ _ rfl cs.toArray Yc 56 rfl rfl HSV HYV hone ?_;rw [HWC.out,HCC.out]) | (with_reducible refine wpList_load_row rfl 56 _ rfl C rfl 56 cs.toArray (0,0) _ hhC Tryz.underlying56 rfl HSV ?_))
      refine p1.mono ?_
      rintro e w6 ⟨rfl,vv6,hp6,hg6,hv6⟩
      go_wp2
      go_roundw
      case rel=>
       refine ⟨j+1,vv6,_,_,by go_num,by omega,hp6,HT4,HGC.out.trans hg6 fun t ht hm=> ?_,fun t ht=> ?_,HVZ2⟩
       ·have h:=HD.out
        have hl:=HL.out
        rcases List.mem_cons.1 hm with e | hm
        ·rw [e];exact List.mem_singleton.2 rfl
        ·rcases List.mem_cons.1 hm with e | hm
         ·injection e with e;omega
         ·have e:=List.mem_singleton.1 hm
          have:=hvv t e.symm;omega
       ·rcases hv6 t ht with h | h
        ·exact hvv t h
        ·omega
      case measure=> simp [RowKit.intOf];omega
     ·obtain rfl:N=j:=by omega
      have t2:decide ((N:Int)<(N:Int))=false:=by simp
      have hd0:row.cels.drop N = []:=by rw [←HRC.out,List.drop_length]
      have htk:row.cels.take N=row.cels:=by rw [←HRC.out,List.take_length]
      have hR3:R2=T2:=by
       have h1:=hT3.out
       rw [hd0,Y2h] at h1
       exact h1
      have hvz3:vz=vs++Yd0 row.cels:=by rw [hvz.out,htk]
      have hT5:Hid (Yet inter k (i+1) R2 vz f (S.rows.drop (i+1))=T):=Lib.hid (by rw [hR3,hvz3];exact HT2.out.symm)
      have hvl2:Hid (vz.length≤1000*(i+1)):=Lib.hid (by
       have h1:=hvl.out
       rw [hvz3]
       unfold Yd0
       rw [List.length_append,List.length_map,HRC.out]
       omega)
      clear hd0 htk hR3 hvz3 hvz hT3
      go_wp2
      go_roundw
      case rel=> exact ⟨i+1,f,vv2,vz,R2,rfl,by go_num,by omega,hp,hT5,hg,hvv,hvl2⟩
      case measure=> simp [RowKit.intOf];omega
  ·obtain rfl:n=i:=by omega
   have t1:decide ((n:Int)<(n:Int))=false:=by simp
   have hR:R=T:=by
    have h1:=hT.out
    rw [←NR.out,HEND.out] at h1
    exact h1
   subst hR
   go_wp2
   go_end0
   exact ⟨rfl,hp.wr,hg.lone fun j _ hm=> by have e:=List.mem_singleton.1 hm;injection e⟩
def Yzq (u:World) (S:ShP) (vs:List Value):Prop:=ShV u S vs∧S.rows.length≤4611686018427387904∧∀c∈Yd3 S,∀k,k<6→(c.ev k).length≤1048576
theorem Yzq.sizes {u:World} {S:ShP} {vs:List Value} (h:Yzq u S vs):(Tryz.prog.info? 25).map (·.size)=some vs.toArray.size∧vs.toArray.size=8∧vs.toArray.all (·.oneCell')=true:=by
 obtain ⟨p,q,ca,cb,rfl,-⟩:=h.1
 exact ⟨by rw [show (Yay S.hd (.slice p S.hd.supp.length ca) (.slice q S.rows.length cb) S.zeros).toArray.size=8 from rfl];kernel_rfl,rfl,Yh9 ..⟩
section
variable {u w:World} {B b:Nat} {r:List UInt8} {S:ShP} {vs:List Value}
theorem Yfw (hS:Yzq u S vs) (ht:Ybf u.heap.size u) (hu:Below u.heap.size u w):Calls Tryz.prog 19 #[.agg vs.toArray] w fun e w'=> e = .returned (.int .i64 (Ycp S))∧Below w.heap.size w w':=by
 obtain ⟨⟨p,q,ca,cb,rfl,hsl,hrl,hsu,hrw⟩,hn,hev⟩:=hS
 refine Ywp S p q ca cb w hsl hn (hsu.below hu) (hrw.below hu) hev fun c p n k x hx hc=> ?_
 have h:=ht.below (hu.trans (hx.mono hu.size))
 exact Ynz S.hd.inter c p n k x hc h.tcoef h.steps
set_option maxRecDepth 100000 in
set_option maxHeartbeats 1000000 in
theorem Y9m (hS:Yzq u S vs) (ht:Ybf u.heap.size u) (hu:Below u.heap.size u w) (h0:Ycp S≠0):Calls Tryz.prog 11 #[.pointer (some ⟨b,0,none⟩),.agg vs.toArray] w fun e w'=> e = .returned (.int .i64 (Ycp S))∧Below w.heap.size w w':=by
 have hsz:=hS.sizes.1
 have hb1:=(Below.refl _ w).alloc (Nat.le_refl _) (.cells vs.toArray 25 (0,0))
 have ch:=Yfw hS ht (hu.trans (hb1.mono hu.size))
 generalize vs.toArray=A at *
 have t0:(Ycp S != 0)=true:=by rw [bne_iff_ne];exact h0
 generalize Ycp S=f at *
 have HB1:=Lib.hid hb1
 clear h0 hS hb1 hu ht
 go_enter Tryz.func11,Tryz.ntmps11
 go_wp2_with (with_reducible refine wpList_load_row rfl 25 _ rfl _ rfl 25 A (0,0) _ (heap_alloc_new w _) Tryz.underlying25 rfl hsz ?_)
 refine ch.mono ?_
 rintro e w2 ⟨rfl,hb2⟩
 go_wp2
 go_ret
 exact ⟨rfl,HB1.out.trans (hb2.mono HB1.out.size)⟩
set_option maxRecDepth 100000 in
set_option maxHeartbeats 4000000 in
theorem Ytm (hS:Yzq u S vs) (ht:Ybf u.heap.size u) (hu:Below u.heap.size u w) (hN:u.heap.size≤b) (hB:B≤w.heap.size) (hw:Yb9 w B b r) (hr:r.length≤30000000000) (h0:Ycp S=0):
  Calls Tryz.prog 11 #[.pointer (some ⟨b,0,none⟩),.agg vs.toArray] w fun e w'=> e = .returned (.int .i64 0)∧Yb9 w' B b (Yge r S)∧w.grownBy w' (some b):=by
 have hsz:=hS.sizes.1
 obtain ⟨hm,hz,⟨hR,h18⟩,N,hNk,hNN,hrows⟩:=Ykt h0
 have hRm:=Yv5 h0 r
 have hLm:=Yot h0 r
 have hHm:(Y3j r S).length≤r.length+400:=by
  have:=(Yds.1 hm).2.2.1
  rw [Ygz,List.length_append,Ydg,Ykv]
  unfold gap
  omega
 have hst:=Ylp r S
 have cch:=fun (x:World) (hx:Below u.heap.size u x)=> Yfw hS ht hx
 obtain ⟨⟨p,q,ca,cb,hvs,hsl,hrl,hsu,hrw⟩,hn,hev⟩:=hS
 have csp:=fun (x:World) (hx:Below u.heap.size u x) (hwx:Yb9 x B b r) (hBx:B≤x.heap.size)=> Y9p x B b r S.hd p ca (.slice q S.rows.length cb) S.zeros (fun y hy=> hsu.below (hx.grown hy hx.size (fun j hj=> by injection hj with hj;omega))) hm hwx (by omega) hBx
 have cpr:=fun (x:World) (hx:Below u.heap.size u x) (hwx:Yb9 x B b (Y3j r S)) (hBx:B≤x.heap.size)=> Y8t (N:=N) S p q ca cb hrw ht hx hN hBx hwx h18 hNN hrows hev (by rw [Yre];omega)
 rw [←hvs] at csp cpr
 rw [h0] at cch
 have z7:vs[7]? = some (.int .i64 S.zeros):=by rw [hvs];rfl
 obtain ⟨z,hzz⟩:∃z:Nat,S.zeros=(z:Int):=⟨S.zeros.toNat,by omega⟩
 rw [hzz] at z7 hz
 rw [hzz,Int.toNat_natCast] at hst
 have cfi:=fun (x:World) (hwx:Yb9 x B b (Y0t r S)) (hBx:B≤x.heap.size)=> Yva x B b (Y0t r S) hwx (by omega) hBx
 have hRT:Yet S.hd.inter S.hd.fmt 0 (Y3j r S) [] 0 S.rows=Y0t r S:=Yre r S
 rw [hRT] at cpr
 have hOH:Yg7 r 0++Ydk S.hd=Y3j r S:=rfl
 rw [hOH] at csp
 obtain ⟨R2,hR2⟩:∃R2,Y0t r S++List.replicate (gap (Y0t r S).length) 48=R2:=⟨_,rfl⟩
 rw [hR2] at cfi hst
 have hR2l:R2.length≤32000000000:=by rw [←hR2,List.length_append,List.length_replicate];unfold gap;omega
 have cze:=fun (x:World) (j:Nat) (hj:j≤262144) (hwx:Yb9 x B b (R2++List.replicate (8*j) 48)) (hBx:B≤x.heap.size)=> Ycx x B b _ 0 8 hwx (by decide) (by decide) (by rw [List.length_append,List.length_replicate];omega) hBx
 have h8:∀j:Nat,R2++List.replicate (8*j) 48++Yau (0:Int).toNat (8:Int).toNat=R2++List.replicate (8*(j+1)) 48:=fun j=> by
  rw [show Yau (0:Int).toNat (8:Int).toNat=List.replicate 8 48 from Yes 8,List.append_assoc,List.replicate_append_replicate];rfl
 generalize Y0t r S=R1 at *
 generalize Y3j r S=R0 at *
 generalize Yge r S=RL at *
 obtain ⟨D,hD⟩:∃D,w.heap.size=D:=⟨_,rfl⟩
 obtain ⟨A,hA⟩:∃A,vs.toArray=A:=⟨_,rfl⟩
 obtain ⟨w1,hw1⟩:∃w1,w.alloc (.cells A 25 (0,0))=w1:=⟨_,rfl⟩
 have hb1:Below w.heap.size w w1:=by rw [←hw1];exact (Below.refl _ w).alloc (Nat.le_refl _) _
 have hs1:w1.heap.size=D+1:=by rw [←hw1,←hD];simp
 have hhD:w1.heap[D]? = some (.cells A 25 (0,0)):=by rw [←hw1,←hD];exact heap_alloc_new w _
 have hwr1:=hw.below hb1
 have hbD:b<D:=by rw [←hD];exact hw.lt
 rw [hA] at hsz csp cpr cch ⊢
 have U:=Lib.hid (fun (x:World) (hx:w.grownBy x (some b))=> (⟨hu.grown hx hu.size (fun j hj=> by injection hj with hj;omega),Nat.le_trans hB hx.size⟩:Below u.heap.size u x∧B≤x.heap.size))
 have KD:=Lib.hid (fun (x:World) (hx:w1.grownBy x (some b))=> ((hx.block D (by omega) (fun e=> by injection e with e;omega)).trans hhD:x.heap[D]? = some (.cells A 25 (0,0))))
 have K7:=Lib.hid (fun (x:World) (hx:w1.grownBy x (some b))=> (by
  have h:=(hx.block D (by omega) (fun e=> by injection e with e;omega)).trans hhD
  rw [←hA] at h
  exact Yaa (o:=7) h z7:x.cell? ⟨D,7,none⟩=some (.int .i64 (z:Int))))
 have W1:=Lib.hid (Yai hb1 (some b))
 have HW1:=Lib.hid hw1
 have HD:=Lib.hid hD
 have HST:=Lib.hid hst
 have H8:=Lib.hid h8
 have hz2:z≤262144:=by omega
 have hk1:=KD.out _ (Yai (Below.refl _ _) _)
 have g11:w1.grownBy w1 (some b):=Yai (Below.refl _ _) _
 have cc1:=cch w1 (U.out _ W1.out).1
 clear hvs hsl hrl hsu hrw hn hev z7 hst h8 hw1 hD hb1 hs1 hhD hw hu hR hNk hNN hrows h0 hRm hLm hHm hm hz hzz hRT hOH hR2 hR2l hA cch hr hB ht
 go_enter Tryz.func11,Tryz.ntmps11
 go_wp2_with (with_reducible refine wpList_load_row rfl 25 _ rfl _ rfl 25 A (0,0) _ (heap_alloc_new w _) Tryz.underlying25 rfl hsz ?_)
 rw [HW1.out,HD.out]
 refine cc1.mono ?_
 rintro e w2 ⟨rfl,hb2⟩
 have hwr2:=hwr1.below hb2
 have g12:=Yad g11 (Yai hb2 (some b))
 have hk2:=KD.out _ g12
 obtain ⟨hu2,hB2⟩:=U.out _ (Yad W1.out g12)
 have c2:=csp w2 hu2 hwr2 hB2
 clear hwr1 hk1 hb2 hwr2 csp hu2 hB2 g11
 go_wp2_with (with_reducible refine wpList_load_row rfl 25 _ rfl D rfl 25 A (0,0) _ hk2 Tryz.underlying25 rfl hsz ?_)
 refine c2.mono ?_
 rintro e w3 ⟨rfl,hwr3,hg3⟩
 have g13:=Yad g12 hg3
 have hk3:=KD.out _ g13
 obtain ⟨hu3,hB3⟩:=U.out _ (Yad W1.out g13)
 have c3:=cpr w3 hu3 hwr3 hB3
 clear hk2 c2 hg3 g12 hu3 hB3 cpr hwr3
 go_wp2_with (with_reducible refine wpList_load_row rfl 25 _ rfl D rfl 25 A (0,0) _ hk3 Tryz.underlying25 rfl hsz ?_)
 refine c3.mono ?_
 rintro e w4 ⟨rfl,hwr4,hg4⟩
 have g14:=Yad g13 hg4
 obtain ⟨hu4,hB4⟩:=U.out _ (Yad W1.out g14)
 have c4:=cfi w4 hwr4 hB4
 clear hk3 c3 hg4 g13 hu4 hB4 cfi hwr4
 go_wp2_with fail
 refine c4.mono ?_
 rintro e w5 ⟨rfl,hwr5,hg5⟩
 have g15:=Yad g14 hg5
 have k7:=K7.out _ g15
 have gw5:=Yad W1.out g15
 clear c4 hg5 g14 g15
 have hwr5':Yb9 w5 B b (R2++List.replicate (8*0) 48):=by rw [Nat.mul_zero];exact (List.append_nil R2).symm▸hwr5
 clear hwr5
 go_wp2
 go_loopw [23] (fun t wr=>∃j:Nat,t = .int .i64 (j:Int)∧j≤z∧Yb9 wr B b (R2++List.replicate (8*j) 48)∧w.grownBy wr (some b)) (fun t _=> z-(RowKit.intOf t).toNat)
 case atStart=> exact ⟨0,rfl,Nat.zero_le _,hwr5',gw5⟩
 case round=>
  clear hwr5' gw5 k7
  obtain ⟨j,rfl,hj,hwr,hg⟩:=hrel
  by_cases hlt:j<z
  ·have t1:decide ((j:Int)<(z:Int))=true:=by simp;omega
   have c5:=cze wr j (by omega) hwr (U.out _ hg).2
   rw [H8.out] at c5
   clear hwr
   go_wp2_with fail
   refine c5.mono ?_
   rintro e w6 ⟨rfl,hwr6,hg6⟩
   have hg7:=Yad hg hg6
   clear c5 hg hg6
   go_wp2
   go_roundw
   case rel=> exact ⟨j+1,by go_num,by omega,hwr6,hg7⟩
   case measure=> simp [RowKit.intOf];omega
  ·obtain rfl:z=j:=by omega
   have t1:decide ((z:Int)<(z:Int))=false:=by simp
   rw [←HST.out] at hwr
   go_wp2
   go_ret
   exact ⟨rfl,hwr,hg⟩
set_option maxRecDepth 100000 in
set_option maxHeartbeats 1000000 in
theorem Y9g (hS:Yzq u S vs) (ht:Ybf u.heap.size u) (hu:Below u.heap.size u w) (h0:Ycp S=0):Calls Tryz.prog 12 #[.agg vs.toArray] w fun e w'=> e = .returned (.tuple #[.int .i64 ((Yge [] S).length:Int),.int .i64 0])∧Below w.heap.size w w':=by
 have hsz:=hS.sizes.1
 obtain ⟨D,hD⟩:∃D,w.heap.size=D:=⟨_,rfl⟩
 obtain ⟨w1,hw1⟩:∃w1,w.alloc (.cells vs.toArray 25 (0,0))=w1:=⟨_,rfl⟩
 obtain ⟨w2,hw2⟩:∃w2,w1.alloc Yh2=w2:=⟨_,rfl⟩
 have hb1:Below w.heap.size w w1:=by rw [←hw1];exact (Below.refl _ w).alloc (Nat.le_refl _) _
 have hs1:w1.heap.size=D+1:=by rw [←hw1,←hD];simp
 have hhD:w1.heap[D]? = some (.cells vs.toArray 25 (0,0)):=by rw [←hw1,←hD];exact heap_alloc_new w _
 have hb2:Below w1.heap.size w1 w2:=by rw [←hw2];exact (Below.refl _ w1).alloc (Nat.le_refl _) _
 have hs2:w2.heap.size=D+2:=by rw [←hw2];simp;omega
 have hhD2:=(hb2.block D (by omega)).trans hhD
 have hwr2:Yb9 w2 (D+2) (D+1) []:=by rw [←hw2];exact Yb9.fresh hs1 (Nat.lt_succ_self _)
 have hb12:Below D w w2:=by rw [←hD];exact hb1.trans (hb2.mono hb1.size)
 have hu2:Below u.heap.size u w2:=hu.trans (hb12.mono (by rw [←hD];exact hu.size))
 have hN2:u.heap.size≤D+1:=by have:=hu.size;omega
 have cp:=fun (x:World) (hx:x=w2)=> (by subst hx;exact Ytm (r:=[]) hS ht hu2 hN2 (by omega) hwr2 (by simp) h0:Calls Tryz.prog 11 #[.pointer (some ⟨D+1,0,none⟩),.agg vs.toArray] x fun e w'=> e = .returned (.int .i64 0)∧Yb9 w' (D+2) (D+1) (Yge [] S)∧x.grownBy w' (some (D+1)))
 generalize vs.toArray=A at *
 generalize Yge [] S=RL at *
 have HW1:=Lib.hid hw1
 have HW2:=Lib.hid hw2
 have HD:=Lib.hid hD
 have HB12:=Lib.hid hb12
 have HS1:=Lib.hid hs1
 clear hS ht hu h0 hw1 hw2 hb1 hs1 hhD hb2 hwr2 hu2 hN2 hD hb12
 go_enter Tryz.func12,Tryz.ntmps12
 go_wp2_with fail
 rw [HW1.out,HD.out]
 refine (Yko _).mono ?_
 rintro e x ⟨rfl,rfl⟩
 rw [HW2.out,HS1.out]
 go_wp2_with (with_reducible refine wpList_load_row rfl 25 _ rfl D rfl 25 A (0,0) _ hhD2 Tryz.underlying25 rfl hsz ?_)
 refine (cp _ rfl).mono ?_
 rintro e w3 ⟨rfl,hwr3,hg3⟩
 have hl:=Ys1 w3 _ _ _ hwr3
 have hbE:Below D w w3:=HB12.out.grown hg3 (by omega) (fun j hj=> by injection hj with hj;omega)
 clear cp hwr3 hg3
 go_wp2_with fail
 refine hl.mono ?_
 rintro e x ⟨rfl,rfl⟩
 go_wp2
 go_ret2
 exact ⟨rfl,by rw [HD.out];exact hbE⟩
set_option maxRecDepth 100000 in
set_option maxHeartbeats 1000000 in
theorem Y36 (hS:Yzq u S vs) (ht:Ybf u.heap.size u) (hu:Below u.heap.size u w) (h0:Ycp S≠0):Calls Tryz.prog 12 #[.agg vs.toArray] w fun e w'=> e = .returned (.tuple #[.int .i64 0,.int .i64 (Ycp S)])∧Below w.heap.size w w':=by
 have hsz:=hS.sizes.1
 obtain ⟨D,hD⟩:∃D,w.heap.size=D:=⟨_,rfl⟩
 obtain ⟨w1,hw1⟩:∃w1,w.alloc (.cells vs.toArray 25 (0,0))=w1:=⟨_,rfl⟩
 obtain ⟨w2,hw2⟩:∃w2,w1.alloc Yh2=w2:=⟨_,rfl⟩
 have hb1:Below w.heap.size w w1:=by rw [←hw1];exact (Below.refl _ w).alloc (Nat.le_refl _) _
 have hs1:w1.heap.size=D+1:=by rw [←hw1,←hD];simp
 have hhD:w1.heap[D]? = some (.cells vs.toArray 25 (0,0)):=by rw [←hw1,←hD];exact heap_alloc_new w _
 have hb2:Below w1.heap.size w1 w2:=by rw [←hw2];exact (Below.refl _ w1).alloc (Nat.le_refl _) _
 have hs2:w2.heap.size=D+2:=by rw [←hw2];simp;omega
 have hhD2:=(hb2.block D (by omega)).trans hhD
 have hwr2:Yb9 w2 (D+2) (D+1) []:=by rw [←hw2];exact Yb9.fresh hs1 (Nat.lt_succ_self _)
 have hb12:Below D w w2:=by rw [←hD];exact hb1.trans (hb2.mono hb1.size)
 have hu2:Below u.heap.size u w2:=hu.trans (hb12.mono (by rw [←hD];exact hu.size))
 have hN2:u.heap.size≤D+1:=by have:=hu.size;omega
 have cp:=fun (x:World) (hx:x=w2)=> (by subst hx;exact (Y9m (b:=D+1) hS ht hu2 h0).mono fun e y h=> ⟨h.1,hwr2.below h.2,Yai h.2 _⟩:Calls Tryz.prog 11 #[.pointer (some ⟨D+1,0,none⟩),.agg vs.toArray] x fun e w'=> e = .returned (.int .i64 (Ycp S))∧Yb9 w' (D+2) (D+1) []∧x.grownBy w' (some (D+1)))
 generalize vs.toArray=A at *
 have HW1:=Lib.hid hw1
 have HW2:=Lib.hid hw2
 have HD:=Lib.hid hD
 have HB12:=Lib.hid hb12
 have HS1:=Lib.hid hs1
 clear hS ht hu h0 hw1 hw2 hb1 hs1 hhD hb2 hwr2 hu2 hN2 hD hb12
 go_enter Tryz.func12,Tryz.ntmps12
 go_wp2_with fail
 rw [HW1.out,HD.out]
 refine (Yko _).mono ?_
 rintro e x ⟨rfl,rfl⟩
 rw [HW2.out,HS1.out]
 go_wp2_with (with_reducible refine wpList_load_row rfl 25 _ rfl D rfl 25 A (0,0) _ hhD2 Tryz.underlying25 rfl hsz ?_)
 refine (cp _ rfl).mono ?_
 rintro e w3 ⟨rfl,hwr3,hg3⟩
 have hl:=Ys1 w3 _ _ _ hwr3
 have hbE:Below D w w3:=HB12.out.grown hg3 (by omega) (fun j hj=> by injection hj with hj;omega)
 clear cp hwr3 hg3
 go_wp2_with fail
 refine hl.mono ?_
 rintro e x ⟨rfl,rfl⟩
 go_wp2
 go_ret2
 exact ⟨rfl,by rw [HD.out];exact hbE⟩
end
def Qfu:Cel:={Yii with kind:=3,dc:=fun _=> 9}
def exSB:Cel:={Yii with mx:=-1}
def Qhz:ShP:=⟨⟨0,0,0,false,0,[]⟩,[],0⟩
def exS1:ShP:=⟨⟨0,0,6,false,5,[]⟩,[⟨false,0,0,[Qfu,Qfu]⟩,⟨false,0,0,[Qfu,Qfu]⟩],0⟩
def exS2:ShP:=⟨⟨0,0,6,true,5,[]⟩,[⟨false,0,0,[exSB,Qfu]⟩,⟨false,0,0,[Qfu,Qfu]⟩],0⟩
theorem Y62:Ycp Qhz=12∧Ycp exS1=0∧Ycp exS2=8:=by decide +kernel
theorem Yyw (w:World) (c:Cel) (hm:(Lit.int .i64 c.mx).wf=true∧(Lit.int .i64 c.my).wf=true) (h:∀i,i<6→c.ev i = []):Yxk w c (Yba c nilS):=
 ⟨fun _=> none,fun _=> 0,Y19 fun i hi=> by rw [h i hi];rfl,hm,fun i hi=> by rw [h i hi];exact ⟨Nat.zero_le _,.inl rfl⟩⟩
theorem Qdx {w:World} {b:Nat} {c d:Cel} (hc:(Lit.int .i64 c.mx).wf=true∧(Lit.int .i64 c.my).wf=true) (hd:(Lit.int .i64 d.mx).wf=true∧(Lit.int .i64 d.my).wf=true) (ec:∀i,i<6→c.ev i = []) (ed:∀i,i<6→d.ev i = [])
  (h:w.heap[b]? = some (.cells (Yba c nilS++Yba d nilS).toArray 56 (0,0))):Yf7 w (some ⟨b,0,none⟩) [c,d]:=by
 refine .inr ⟨b,0,rfl,(Array.getElem?_eq_some_iff.1 h).1,fun i hi=> ?_⟩
 match i,hi with
 | 0,_=>
  refine ⟨Yba c nilS,Yyw w c hc ec,fun j v hj=> ?_⟩
  have hl:j<18:=(List.getElem?_eq_some_iff.1 hj).1
  rw [Nat.zero_mul,Nat.zero_add]
  exact Yaa h (by rw [List.getElem?_append_left hl];exact hj)
 | 1,_=>
  refine ⟨Yba d nilS,Yyw w d hd ed,fun j v hj=> ?_⟩
  exact Yaa h (by rw [List.getElem?_append_right (by show 18≤0+1*18+j;omega),show 0+1*18+j-(Yba c nilS).length=j by show 0+1*18+j-18=j;omega];exact hj)
theorem Qdy {w:World} {b b1 b2:Nat} {l m:List Cel} (h:w.heap[b]? = some (.cells #[.bool false,.int .i64 0,.int .i64 0,.slice (some ⟨b1,0,none⟩) 2 2,.bool false,.int .i64 0,.int .i64 0,.slice (some ⟨b2,0,none⟩) 2 2] 59 (0,0)))
  (hl:l.length=2) (hm:m.length=2) (h1:Yf7 w (some ⟨b1,0,none⟩) l) (h2:Yf7 w (some ⟨b2,0,none⟩) m):Yem w (some ⟨b,0,none⟩) [⟨false,0,0,l⟩,⟨false,0,0,m⟩]:=by
 have h':w.heap[b]? = some (.cells [.bool false,.int .i64 0,.int .i64 0,.slice (some ⟨b1,0,none⟩) 2 2,.bool false,.int .i64 0,.int .i64 0,.slice (some ⟨b2,0,none⟩) 2 2].toArray 59 (0,0)):=h
 refine .inr ⟨b,0,rfl,(Array.getElem?_eq_some_iff.1 h).1,fun i hi=> ?_⟩
 match i,hi with
 | 0,_=>
  refine ⟨[.bool false,.int .i64 0,.int .i64 0,.slice (some ⟨b1,0,none⟩) 2 2],⟨some ⟨b1,0,none⟩,2,(by show _ = [Value.bool false,.int .i64 0,.int .i64 0,.slice _ l.length 2];rw [hl]),(fun h=> by cases h),(by show l.length≤_;rw [hl];decide),h1⟩,fun j v hj=> ?_⟩
  match j,hj with
  | 0,hj | 1,hj | 2,hj | 3,hj=> injection hj with hj;subst hj;exact Yaa h' rfl
 | 1,_=>
  refine ⟨[.bool false,.int .i64 0,.int .i64 0,.slice (some ⟨b2,0,none⟩) 2 2],⟨some ⟨b2,0,none⟩,2,(by show _ = [Value.bool false,.int .i64 0,.int .i64 0,.slice _ m.length 2];rw [hm]),(fun h=> by cases h),(by show m.length≤_;rw [hm];decide),h2⟩,fun j v hj=> ?_⟩
  match j,hj with
  | 0,hj | 1,hj | 2,hj | 3,hj=> injection hj with hj;subst hj;exact Yaa h' rfl
theorem Ypm {P:Program} {ops:Array Oper} {rest:List Oper} {op:Oper} {a:Act} {w:World} {Q:Exit→Act→World→Prop} (hgd:op.guard=none) (ty:TypeId) (x y:Operand) (ho:op.op = .store ty x y)
  (Z old:Array Value) (T:TypeId) (N:Nat) (hN:w.heap.size=N) (hx:a.eval x = .pointer (some ⟨N,0,none⟩)) (hy:a.eval y = .agg Z) (hi:(P.info? ty).map (·.size)=some Z.size) (hs:old.size=Z.size) (h1:Z.all (·.oneCell')=true)
  (h:wpList P ops Q rest (a.put op.dst undef) (w.alloc (.cells Z T (0,0)))):wpList P ops Q (op::rest) a (w.alloc (.cells old T (0,0))):=by
 subst hN
 exact Yaj hgd ty x y ho Z old T hx hy hi hs h1 h
theorem Ykk (w:World) (o:Obj):∃w',w.alloc o=w'∧w'.heap.size=w.heap.size+1∧w'.heap[w.heap.size]? = some o∧Below w.heap.size w w':=
 ⟨_,rfl,by simp,heap_alloc_new w _,(Below.refl _ w).alloc (Nat.le_refl _) _⟩
def exK:Cel:={Yii with skip:=true}
def Qft:ShP:=⟨⟨0,0,6,true,5,[]⟩,[⟨false,0,0,[exK,exK]⟩,⟨false,0,0,[exK,exK]⟩],0⟩
theorem Qep:Ycp Qft=0∧(Yge [] Qft).length=56:=by decide +kernel
set_option maxRecDepth 100000 in
set_option maxHeartbeats 2000000 in
theorem Qf6 (w:World) (ht:Ybf w.heap.size w):Calls Tryz.prog 8 #[] w fun e w'=> e = .returned (.bool true)∧Below w.heap.size w w':=by
 obtain ⟨N,hN⟩:∃N,w.heap.size=N:=⟨_,rfl⟩
 obtain ⟨Y,HYS,hzv⟩:=Yfe
 obtain ⟨Yr,HYRS,hzr⟩:=Ykr
 obtain ⟨A,hA⟩:∃A,(Yba exK nilS).toArray=A:=⟨_,rfl⟩
 obtain ⟨w0,hw0,hs0,hh0,hb0⟩:=Ykk w (.cells A 56 (0,0))
 obtain ⟨w1,hw1,hs1,hh1,hb1⟩:=Ykk w0 (.cells (Yba exK nilS++Yba exK nilS).toArray 56 (0,0))
 obtain ⟨w2,hw2,hs2,hh2,hb2⟩:=Ykk w1 (.cells #[.bool false,.int .i64 0,.int .i64 0,.slice (some ⟨N+1,0,none⟩) 2 2] 59 (0,0))
 obtain ⟨w3,hw3,hs3,hh3,hb3⟩:=Ykk w2 (.cells #[.bool false,.int .i64 0,.int .i64 0,.slice (some ⟨N+1,0,none⟩) 2 2,.bool false,.int .i64 0,.int .i64 0,.slice (some ⟨N+1,0,none⟩) 2 2] 59 (0,0))
 rw [hN] at hs0 hh0 hb0
 rw [hs0] at hs1 hh1 hb1
 rw [hs1] at hs2 hh2 hb2
 rw [hs2] at hs3 hh3 hb3
 have hs1:w1.heap.size=N+2:=hs1
 have hs2:w2.heap.size=N+3:=hs2
 have hs3:w3.heap.size=N+4:=hs3
 have b23:Below (N+3) w2 w3:=hb3
 have b13:Below (N+2) w1 w3:=(hb2.trans (hb3.mono (by omega))).mono (by omega)
 have b03:Below N w0 w3:=(hb1.trans (b13.mono (by omega))).mono (by omega)
 have bw3:Below N w w3:=hb0.trans b03
 have hmA:(Lit.int .i64 exK.mx).wf=true∧(Lit.int .i64 exK.my).wf=true:=by decide
 have hC1:Yf7 w3 (some ⟨N+1,0,none⟩) [exK,exK]:=Qdx hmA hmA (fun _ _=> rfl) (fun _ _=> rfl) ((b13.block (N+1) (by omega)).trans hh1)
 have hR:Yem w3 (some ⟨N+3,0,none⟩) Qft.rows:=Qdy hh3 rfl rfl hC1 hC1
 have hev:∀c∈Yd3 Qft,∀k,k<6→(c.ev k).length≤1048576:=fun c hc k _=> by
  have:c=exK:=by simpa [Yd3,Qft] using hc
  subst this;exact Nat.zero_le _
 obtain ⟨Z1,hZ1⟩:∃Z:Array Value,#[.int .i64 0,.int .i64 0,.int .i64 6,.bool true,.int .i64 5,.slice none 0 0,.slice (some ⟨N+3,0,none⟩) 2 2,.int .i64 0]=Z:=⟨_,rfl⟩
 have hSI:Yzq w3 Qft (Yay Qft.hd (.slice none 0 0) (.slice (some ⟨N+3,0,none⟩) 2 2) 0):=⟨⟨none,some ⟨N+3,0,none⟩,0,2,rfl,Nat.zero_le _,(by decide),Ycl.nil _ _,hR⟩,(by decide),hev⟩
 have ht3:Ybf w3.heap.size w3:=(by
  have h:=ht.below (hN.symm▸bw3)
  exact Ybf.here h.pats h.mvd h.steps h.tcoef)
 have C1:=Lib.hid ((by
  have h:=Y9g hSI ht3 (Below.refl _ _) Qep.1
  rw [Qep.2] at h
  rw [←hZ1,←hs3]
  exact h:Calls Tryz.prog 12 #[.agg Z1] w3 fun e y=> e = .returned (.tuple #[.int .i64 56,.int .i64 0])∧Below (N+4) w3 y))
 have C0:=Lib.hid (fun x (hx:Below (N+4) w3 x)=> (by
  have hS0:Yzq x Qhz (Yay Qhz.hd (.slice none 0 0) (.slice none 0 0) 0):=⟨⟨none,none,0,0,rfl,Nat.zero_le _,Nat.zero_le _,Ycl.nil _ _,.inl rfl⟩,Nat.zero_le _,fun c hc=> by cases hc⟩
  have htx:Ybf x.heap.size x:=(by
   have h:=ht3.below (hs3.symm▸hx)
   exact Ybf.here h.pats h.mvd h.steps h.tcoef)
  have h:=Y36 hS0 htx (Below.refl _ _) (by rw [Y62.1];decide)
  rw [Y62.1] at h
  exact h.mono fun e y h=> ⟨h.1,hx.trans (h.2.mono (by have:=hx.size;omega))⟩:Calls Tryz.prog 12 #[.agg #[.int .i64 0,.int .i64 0,.int .i64 0,.bool false,.int .i64 0,.slice none 0 0,.slice none 0 0,.int .i64 0]] x fun e y=> e = .returned (.tuple #[.int .i64 0,.int .i64 12])∧Below (N+4) w3 y))
 have HSA:(Tryz.prog.info? 56).map (·.size)=some A.size:=by rw [←hA];exact Yhr _ _
 have HYA:Y.size=A.size:=by rw [HYS,←hA];rfl
 have HOA:A.all (·.oneCell')=true:=by rw [←hA];exact Ygd (Yyw w exK hmA fun _ _=> rfl)
 have HSQ:(Tryz.prog.info? 59).map (·.size)=some (#[.bool false,.int .i64 0,.int .i64 0,.slice (some ⟨N+1,0,none⟩) 2 2]:Array Value).size:=by kernel_rfl
 have HYQ:Yr.size=(#[.bool false,.int .i64 0,.int .i64 0,.slice (some ⟨N+1,0,none⟩) 2 2]:Array Value).size:=by rw [HYRS];rfl
 have HOQ:(#[.bool false,.int .i64 0,.int .i64 0,.slice (some ⟨N+1,0,none⟩) 2 2]:Array Value).all (·.oneCell')=true:=by simp [Value.oneCell']
 have HBW:=Lib.hid bw3
 have HA:=Lib.hid hA
 have HN:=Lib.hid hN
 have HZ1:=Lib.hid hZ1
 have HW0:=Lib.hid hw0
 have HW1:=Lib.hid hw1
 have HW2:=Lib.hid hw2
 have HW3:=Lib.hid hw3
 have S1:=Lib.hid hs1
 have S2:=Lib.hid hs2
 clear hA hN hZ1 hw0 hw1 hw2 hw3 hh1 hh3 hb0 hb1 hb2 hb3 b23 b13 b03 bw3 hmA hev hC1 hR hSI ht3 ht hs3
 go_enter Tryz.func8,Tryz.ntmps8
 go_wp2_with (first
  | (with_reducible refine wpList_buildTo rfl 56 _ rfl (some 7) rfl (Yba exK nilS).toArray (by kernel_rfl) ?_;rw [HA.out])
  | (with_reducible refine Yaj rfl 56 _ _ rfl A Y 56 rfl rfl HSA HYA HOA ?_;rw [HW0.out,HN.out])
  | (with_reducible refine wpList_load_row rfl 56 _ rfl N rfl 56 A (0,0) _ hh0 Tryz.underlying56 rfl HSA ?_)
  | (with_reducible refine Ypk rfl _ _ rfl exK exK nilS nilS (N+1) hs0 10 rfl ?d1 ?d2 ?_;(case d1=> (rw [HA.out];kernel_rfl));(case d2=> (rw [HA.out];kernel_rfl));rw [HW1.out])
  | (with_reducible refine wpList_buildTo rfl 59 _ rfl (some 11) rfl #[.bool false,.int .i64 0,.int .i64 0,.slice (some ⟨N+1,0,none⟩) 2 2] (by kernel_rfl) ?_)
  | (with_reducible refine Ypm rfl 59 _ _ rfl #[.bool false,.int .i64 0,.int .i64 0,.slice (some ⟨N+1,0,none⟩) 2 2] Yr 59 (N+2) S1.out rfl rfl HSQ HYQ HOQ ?_;rw [HW2.out])
  | (with_reducible refine wpList_load_row rfl 59 _ rfl (N+2) rfl 59 #[.bool false,.int .i64 0,.int .i64 0,.slice (some ⟨N+1,0,none⟩) 2 2] (0,0) _ hh2 Tryz.underlying59 rfl HSQ ?_)
  | (with_reducible refine wpList_buildTo rfl 25 _ rfl (some 16) rfl #[.int .i64 0,.int .i64 0,.int .i64 6,.bool true,.int .i64 5,.slice none 0 0,.slice (some ⟨N+3,0,none⟩) 2 2,.int .i64 0] (by kernel_rfl) ?_;rw [HZ1.out]))
 rw [HW3.out]
 refine C1.out.mono ?_
 rintro e x1 ⟨rfl,hx1⟩
 go_wp2_with (with_reducible refine wpList_buildTo rfl 25 _ rfl (some 21) rfl #[.int .i64 0,.int .i64 0,.int .i64 0,.bool false,.int .i64 0,.slice none 0 0,.slice none 0 0,.int .i64 0] (by kernel_rfl) ?_)
 refine (C0.out _ hx1).mono ?_
 rintro e x2 ⟨rfl,hx2⟩
 go_wp2
 go_ret
 exact ⟨rfl,by rw [HN.out];exact HBW.out.trans (hx2.mono (by omega))⟩
def Qg6 (S:ShP) (w:World) (e:Ending) (w':World):Prop:=(∃y,e = .returned (.bool y)∧(y=true→Yl5 S∧S.zeros≤1000))∧Below w.heap.size w w'
set_option maxRecDepth 100000 in
set_option maxHeartbeats 1000000 in
theorem Yqu {u w:World} {S:ShP} {vs:List Value} (hS:ShV u S vs) (hu:Below u.heap.size u w):Calls Tryz.prog 6 #[.agg vs.toArray] w (Qg6 S w):=by
 obtain ⟨p,b,ca,cb,hvs,hl,hn,-,hr⟩:=hS
 have z7:vs[7]? = some (.int .i64 S.zeros):=by rw [hvs];rfl
 have hsz:(Tryz.prog.info? 25).map (·.size)=some vs.toArray.size:=by rw [hvs,show (Yay S.hd (.slice p S.hd.supp.length ca) (.slice b S.rows.length cb) S.zeros).toArray.size=8 from rfl];kernel_rfl
 have hb1:=(Below.refl _ w).alloc (Nat.le_refl _) (.cells vs.toArray 25 (0,0))
 have cl:=Y7p S p b ca cb (w.alloc (.cells vs.toArray 25 (0,0))) hl hn (hr.below (hu.trans (hb1.mono hu.size)))
 rw [←hvs] at cl
 obtain ⟨D,hD⟩:∃D,w.heap.size=D:=⟨_,rfl⟩
 obtain ⟨w1,hw1⟩:∃w1,w.alloc (.cells vs.toArray 25 (0,0))=w1:=⟨_,rfl⟩
 have hhD:w1.heap[D]? = some (.cells vs.toArray 25 (0,0)):=by rw [←hw1,←hD];exact heap_alloc_new w _
 have hs1:w1.heap.size=D+1:=by rw [←hw1,←hD];simp
 rw [hw1] at cl hb1
 obtain ⟨z,hz⟩:∃z,S.zeros=z:=⟨_,rfl⟩
 rw [hz] at z7
 have HZ:=Lib.hid hz
 have HW1:=Lib.hid hw1
 have HD:=Lib.hid hD
 have HB1:=Lib.hid hb1
 clear hvs hl hn hr hu hz hw1 hD hb1
 go_enter Tryz.func6,Tryz.ntmps6
 go_wp2_with (with_reducible refine wpList_load_row rfl 25 _ rfl _ rfl 25 vs.toArray (0,0) _ (heap_alloc_new w _) Tryz.underlying25 rfl hsz ?_)
 rw [HW1.out,HD.out]
 refine cl.mono ?_
 rintro e w2 ⟨⟨y,rfl,hy⟩,hb2⟩
 have k7:=Yaa (o:=7) ((hb2.block D (by omega)).trans hhD) z7
 have hE:Below w.heap.size w w2:=HB1.out.trans (hb2.mono HB1.out.size)
 cases y with
 | false=>
  clear k7 hb2
  go_wp2
  go_ret
  exact ⟨⟨_,rfl,fun h=> by cases h⟩,hE⟩
 | true=>
  have HY:=Lib.hid (hy rfl)
  clear hy
  by_cases hz:z≤1000
  ·have t1:decide (z≤1000)=true:=decide_eq_true hz
   clear hz
   go_wp2
   go_ret
   exact ⟨⟨_,rfl,fun _=> ⟨HY.out,by rw [HZ.out];exact of_decide_eq_true t1⟩⟩,hE⟩
  ·have t1:decide (z≤1000)=false:=decide_eq_false hz
   clear hz
   go_wp2
   go_ret
   exact ⟨⟨_,rfl,fun h=> by cases h⟩,hE⟩
theorem Yl5.lies {u:World} {S:ShP} {vs:List Value} (h:Yl5 S) (hS:ShV u S vs):Yzq u S vs:=⟨hS,by have:=h.rows;omega,fun c hc k hk=> by have:=h.mem c hc k hk;omega⟩
end Go.Proofs.YtgikochfffdpfaaGreatDoor