/- Texts that SheetinTakes's proof stands on, part 30 of 52. No condition of its own. -/
import Derived.Test.YtpgdngijmihafaaGreatDoorSheetinTakesMi
import Derived.Test.YtpgdngijmihafaaGreatDoorSheetinTakesMj
import Derived.Test.YtpgdngijmihafaaGreatDoorSheetinTakesMn
import Derived.Test.YtpgdngijmihafaaGreatDoorSheetinTakesMp
import Derived.Test.YtpgdngijmihafaaGreatDoorSheetinTakesMs
import Derived.Test.YtpgdngijmihafaaGreatDoorSheetinTakesMy
import Derived.Test.YtpgdngijmihafaaGreatDoorSheetinTakesMz
import Derived.Test.YtpgdngijmihafaaGreatDoorSheetinTakesMba
import Derived.Test.YtpgdngijmihafaaGreatDoorSheetinTakesMbb
import Derived.Test.YtpgdngijmihafaaGreatDoorSheetinTakesMbc
import Derived.RegionTactic
import Derived.Deep.RegionWith
namespace Go.Proofs.YtpgdngijmihafaaGreatDoor
open Go.RowKit Go.Lib
theorem Y5x:(Tryz.prog.info? 50).map (fun i=> (i.zero.map (·.cells.size),i.size,i.bytes))=some (some 18,18,240):=by kernel_rfl
theorem Ywy:∃i z,Tryz.prog.info? 50=some i∧i.zero=some z∧z.cells.size=18∧i.size=18∧i.bytes=240:=by
 have h:=Y5x
 generalize Tryz.prog.info? 50=x at h
 match x,h with
 | some i,h=>
  rw [Option.map_some] at h
  injection h with h
  injection h with h1 h2
  injection h2 with h2 h3
  cases hz:i.zero with
  | none=> rw [hz] at h1;cases h1
  | some z=>
   rw [hz] at h1
   injection h1 with h1
   exact ⟨i,z,rfl,hz,h1,h2,h3⟩
theorem Ygo.each {α:Type} {c:Nat} {V:World→α→List Value→Prop} {w:World} {q:Option Addr} {l:List α} (h:Ygo c V w q l) (h0:0<l.length):
  ∃b o,q=some ⟨b,o,none⟩∧b<w.heap.size∧∀i,(h:i<l.length)→∃vs,V w l[i] vs∧∀x,Below w.heap.size w x→∀(j:Nat) v,vs[j]? = some v→x.cell? ⟨b,o+i*c+j,none⟩=some v:=by
 rcases h with rfl | ⟨b,o,rfl,hl,h⟩
 ·cases h0
 ·refine ⟨b,o,rfl,hl,fun i hi=> ?_⟩
  obtain ⟨vs,h1,h2⟩:=h i hi
  exact ⟨vs,h1,fun x hx j v hj=> (World.cell?_of_block (a:=⟨b,o+i*c+j,none⟩) (hx.block b hl)).trans (h2 j v hj)⟩
theorem Y4a {w:World} {q:Option Addr} {l:List RowP} (h:Yh9 w q l) (h0:0<l.length):
  ∃b o,q=some ⟨b,o,none⟩∧b<w.heap.size∧∀i,(hi:i<l.length)→∃(r:Option Addr) (cap:Nat),(r=none→cap=0)∧l[i].cels.length≤maxLen∧Ys6 w r l[i].cels∧
   ∀x,Below w.heap.size w x→x.cell? ⟨b,o+i*4,none⟩=some (.bool l[i].head)∧x.cell? ⟨b,o+i*4+1,none⟩=some (.int .i64 l[i].id)∧x.cell? ⟨b,o+i*4+2,none⟩=some (.int .i64 l[i].quant)∧x.cell? ⟨b,o+i*4+3,none⟩=some (.slice r l[i].cels.length cap):=by
 rcases h with rfl | ⟨b,o,rfl,hl,h⟩
 ·cases h0
 ·refine ⟨b,o,rfl,hl,fun i hi=> ?_⟩
  obtain ⟨vs,⟨r,cap,rfl,hq,hn,hc⟩,h2⟩:=h i hi
  have at_:∀x,Below w.heap.size w x→∀(j:Nat) v,[Value.bool l[i].head,.int .i64 l[i].id,.int .i64 l[i].quant,.slice r l[i].cels.length cap][j]? = some v→x.cell? ⟨b,o+i*4+j,none⟩=some v:=
   fun x hx j v hj=> (World.cell?_of_block (a:=⟨b,o+i*4+j,none⟩) (hx.block b hl)).trans (h2 j v hj)
  exact ⟨r,cap,hq,hn,hc,fun x hx=> ⟨at_ x hx 0 _ rfl,at_ x hx 1 _ rfl,at_ x hx 2 _ rfl,at_ x hx 3 _ rfl⟩⟩
theorem Yjs {P:Program} (w:World) (b o:Nat) (ty:TypeId) (cs:List Value) (d:TypeDesc) (h:∀(j:Nat) v,cs[j]? = some v→w.cell? ⟨b,o+j,none⟩=some v)
  (hu:P.underlying ty=some d) (hd:(match d with | .struct _ | .array _ _=> true | _=> false)=true) (hi:(P.info? ty).map (·.size)=some cs.length):
  (loadVar ty ⟨b,o,none⟩).run P w = .ok (.agg cs.toArray) w:=by
 have hl:(loadCells ⟨b,o,none⟩ cs.length).run P w = .ok cs.toArray w:=run_loadCells_list (P:=P) w ⟨b,o,none⟩ cs (fun j v hv=> by rw [Addr.add_mid];exact h j v hv)
 cases hq:P.info? ty with
 | none=> simp [hq] at hi
 | some i=>
  have hs:i.size=cs.length:=by simpa [hq] using hi
  have hagg:(isAgg ty).run P w = .ok true w:=by
   unfold isAgg
   rw [Sem.run_bind,run_underlying hu w]
   cases d <;> simp_all
  simp [loadVar,Sem.run_bind,hagg,sizeOf,typeInfo,hq,hs,hl]
theorem Ymo (k:Int):-10000≤Ylo k∧Ylo k≤10000:=by
 unfold Ylo
 rcases Yc8 k with rfl | rfl | rfl | rfl | rfl | rfl | ⟨h,hv⟩
 case _ | _ | _ | _ | _ | _=> decide +kernel
 unfold Yf6
 rw [hv]
 simp
theorem Y8z (k:Int):Ylo k=(acr k:Int)*Yf6 k:=by unfold Ylo;rw [(Yd2 k).1]
theorem Y1l {l m:List Int} (hl:l.length=m.length) (h:∀i,i<l.length→l.getD i 0=m.getD i 0):l=m:=by
 refine List.ext_getElem hl fun i h1 h2=> ?_
 have:=h i h1
 rw [show l.getD i 0=l[i] by simp [List.getD,h1],show m.getD i 0=m[i] by simp [List.getD,h2]] at this
 exact this
set_option maxRecDepth 100000 in
set_option maxHeartbeats 4000000 in
theorem Yvf (h h':Shd) (p p':Option Addr) (cap cap':Nat) (rw_ rw':Value) (z z':Int) (hl:h.supp.length≤maxLen) (w:World) (hs:Ycf w p h.supp) (hs':Ycf w p' h'.supp):
  Calls Tryz.prog 26 #[.agg (Ya8 h (.slice p h.supp.length cap) rw_ z).toArray,.agg (Ya8 h' (.slice p' h'.supp.length cap') rw' z').toArray] w fun e w'=> e = .returned (.bool (Y7w h h'))∧Below w.heap.size w w':=by
 unfold maxLen at hl
 obtain ⟨ref,flags,fmt,inter,quant,supp⟩:=h
 obtain ⟨ref',flags',fmt',inter',quant',supp'⟩:=h'
 unfold Ya8
 dsimp only at *
 obtain ⟨d1,h1⟩:∃d,(ref != ref')=d:=⟨_,rfl⟩
 obtain ⟨d2,h2⟩:∃d,(flags != flags')=d:=⟨_,rfl⟩
 obtain ⟨d3,h3⟩:∃d,(fmt != fmt')=d:=⟨_,rfl⟩
 obtain ⟨d4,h4⟩:∃d,(inter != inter')=d:=⟨_,rfl⟩
 obtain ⟨d5,h5⟩:∃d,(quant != quant')=d:=⟨_,rfl⟩
 obtain ⟨d6,h6⟩:∃d,((supp.length:Int) != (supp'.length:Int))=d:=⟨_,rfl⟩
 obtain ⟨DS,hDS⟩:∃d,decide (supp=supp')=d:=⟨_,rfl⟩
 have hd:Y7w ⟨ref,flags,fmt,inter,quant,supp⟩ ⟨ref',flags',fmt',inter',quant',supp'⟩=(!d1&&(!d2&&(!d3&&(!d4&&(!d5&&DS))))):=by
  rw [←h1,←h2,←h3,←h4,←h5,←hDS]
  simp [Y7w,bne]
 have h6':d6=true→DS=false:=fun e=> by
  rw [←hDS,decide_eq_false_iff_not]
  rintro rfl
  rw [e] at h6
  simp at h6
 have hlen:d6=false→supp.length=supp'.length:=fun e=> by
  rw [e,bne_eq_false_iff_eq] at h6
  exact Int.ofNat.inj h6
 have hyes:supp.length=supp'.length→(∀i,i<supp.length→supp.getD i 0=supp'.getD i 0)→DS=true:=fun e k=> by rw [←hDS,decide_eq_true_iff];exact Y1l e k
 have hno:∀i,supp.getD i 0≠supp'.getD i 0→DS=false:=fun i k=> by
  rw [←hDS,decide_eq_false_iff_not]
  rintro rfl
  exact k rfl
 rw [hd]
 obtain ⟨R,hR⟩:∃r,(!d1&&(!d2&&(!d3&&(!d4&&(!d5&&DS)))))=r:=⟨_,rfl⟩
 rw [hR]
 clear hDS hd
 obtain ⟨A,hA⟩:∃A,w.heap.size=A:=⟨_,rfl⟩
 obtain ⟨wA,hwA⟩:∃wA,(w.alloc (.cells #[.int .i64 ref,.int .i64 flags,.int .i64 fmt,.bool inter,.int .i64 quant,.slice p supp.length cap,rw_,.int .i64 z] 30 (0,0))).alloc (.cells #[.int .i64 ref',.int .i64 flags',.int .i64 fmt',.bool inter',.int .i64 quant',.slice p' supp'.length cap',rw',.int .i64 z'] 30 (0,0))=wA:=⟨_,rfl⟩
 have hb0:Below w.heap.size w wA:=by rw [←hwA];exact ((Below.refl _ w).alloc (Nat.le_refl _) _).alloc (by simp) _
 have k5:wA.cell? ⟨A,5,none⟩=some (.slice p supp.length cap):=Yaa (cs:=[.int .i64 ref,.int .i64 flags,.int .i64 fmt,.bool inter,.int .i64 quant,.slice p supp.length cap,rw_,.int .i64 z]) (by rw [←hwA,←hA];exact Yat (heap_alloc_new w _)) rfl
 have k6:wA.cell? ⟨A+1,5,none⟩=some (.slice p' supp'.length cap'):=Yaa (cs:=[.int .i64 ref',.int .i64 flags',.int .i64 fmt',.bool inter',.int .i64 quant',.slice p' supp'.length cap',rw',.int .i64 z']) (by
  rw [←hwA,←hA]
  have:=heap_alloc_new (w.alloc (.cells #[.int .i64 ref,.int .i64 flags,.int .i64 fmt,.bool inter,.int .i64 quant,.slice p supp.length cap,rw_,.int .i64 z] 30 (0,0))) (.cells #[.int .i64 ref',.int .i64 flags',.int .i64 fmt',.bool inter',.int .i64 quant',.slice p' supp'.length cap',rw',.int .i64 z'] 30 (0,0))
  simpa using this) rfl
 have hil:=hs.below hb0
 have hil':=hs'.below hb0
 have HWA:=Lib.hid hwA
 have HA:=Lib.hid hA
 have HRR:=Lib.hid hR
 have HBO:=Lib.hid hb0
 have H6:=Lib.hid h6'
 have HLEN:=Lib.hid hlen
 have HY:=Lib.hid hyes
 have HNO:=Lib.hid hno
 clear hR h6' hlen hyes hno
 have hB:d1=true∨(d1=false∧d2=true)∨(d1=false∧d2=false∧d3=true)∨(d1=false∧d2=false∧d3=false∧d4=true)∨(d1=false∧d2=false∧d3=false∧d4=false∧d5=true)∨(d1=false∧d2=false∧d3=false∧d4=false∧d5=false∧d6=true)∨(d1=false∧d2=false∧d3=false∧d4=false∧d5=false∧d6=false):=by
  clear h1 h2 h3 h4 h5 h6 H6 HLEN HRR
  cases d1 <;> cases d2 <;> cases d3 <;> cases d4 <;> cases d5 <;> cases d6 <;> simp
 clear hwA hs hs' hA
 rcases hB with rfl | ⟨rfl,rfl⟩ | ⟨rfl,rfl,rfl⟩ | ⟨rfl,rfl,rfl,rfl⟩ | ⟨rfl,rfl,rfl,rfl,rfl⟩ | ⟨rfl,rfl,rfl,rfl,rfl,rfl⟩ | ⟨rfl,rfl,rfl,rfl,rfl,rfl⟩
 case _ | _ | _=>
  have F:=Lib.hid (show R=false by first | exact HRR.out.symm | (rw [←HRR.out,H6.out rfl];rfl))
  clear HRR H6 HLEN HY HNO k5 k6 hil hil' hb0
  go_enter Tryz.func26,Tryz.ntmps26
  go_wp2
  go_ret
  rw [HWA.out]
  exact ⟨by rw [F.out];rfl,HBO.out⟩
 case _=>
  obtain rfl:inter = !inter':=by cases inter <;> cases inter' <;> simp_all
  have F:=Lib.hid (show R=false by first | exact HRR.out.symm | (rw [←HRR.out,H6.out rfl];rfl))
  clear HRR H6 HLEN HY HNO k5 k6 hil hil' hb0
  go_enter Tryz.func26,Tryz.ntmps26
  go_wp2
  go_ret
  rw [HWA.out]
  exact ⟨by rw [F.out];rfl,HBO.out⟩
 case _ | _=>
  obtain rfl:inter=inter':=by simpa using h4
  have F:=Lib.hid (show R=false by first | exact HRR.out.symm | (rw [←HRR.out,H6.out rfl];rfl))
  clear HRR H6 HLEN HY HNO k5 k6 hil hil' hb0
  go_enter Tryz.func26,Tryz.ntmps26
  go_wp2
  go_ret
  rw [HWA.out]
  exact ⟨by rw [F.out];rfl,HBO.out⟩
 obtain rfl:inter=inter':=by simpa using h4
 have F:=Lib.hid (show R=DS from HRR.out.symm)
 have hln:=HLEN.out rfl
 have HLN:=Lib.hid hln
 clear H6 HRR HLEN hln
 go_enter Tryz.func26,Tryz.ntmps26
 go_wp2
 rw [HWA.out,HA.out]
 have KK:Hid (∀x,Below wA.heap.size wA x→(x.cell? ⟨A,5,none⟩=some (.slice p supp.length cap)∧x.cell? ⟨A+1,5,none⟩=some (.slice p' supp'.length cap'))∧Ycf x p supp∧Ycf x p' supp'∧Below w.heap.size w x):=Lib.hid fun x hx=>
  ⟨⟨(World.cell?_of_block (a:=⟨A,5,none⟩) (hx.block A (World.block_lt_of_cell? wA ⟨A,5,none⟩ k5))).trans k5,(World.cell?_of_block (a:=⟨A+1,5,none⟩) (hx.block (A+1) (World.block_lt_of_cell? wA ⟨A+1,5,none⟩ k6))).trans k6⟩,hil.below hx,hil'.below hx,hb0.trans (hx.mono hb0.size)⟩
 clear k5 k6 hil hil' hb0 h1 h2 h3 h4 h5 h6
 go_loopw [5] (fun i wr=>∃j:Nat,j≤supp.length∧i = .int .i64 j∧Below wA.heap.size wA wr∧Hid (∀i,i<j→supp.getD i 0=supp'.getD i 0)) (fun i _=> supp.length-(RowKit.intOf i).toNat)
 case atStart=> exact ⟨0,Nat.zero_le _,rfl,Below.refl _ _,Lib.hid fun i h=> absurd h (Nat.not_lt_zero i)⟩
 case round=>
  obtain ⟨j,hj,rfl,hbr,ha⟩:=hrel
  obtain ⟨⟨k5,k6⟩,hil,hil',hb0⟩:=KK.out _ hbr
  clear KK
  by_cases hlt:j<supp.length
  ·have t1:decide ((j:Int)<(supp.length:Int))=true:=by simp;omega
   have hlt':j<supp'.length:=by rw [←HLN.out];exact hlt
   obtain ⟨b1,o1,rfl,hb1,hc1⟩:=hil.hold (by omega)
   obtain ⟨b2,o2,rfl,hb2,hc2⟩:=hil'.hold (by omega)
   have k0:=hc1 _ (Below.refl _ _) j hlt
   have k1:=hc2 _ (Below.refl _ _) j hlt'
   have NO:=Lib.hid (HNO.out j)
   have YE:=Lib.hid (fun (e:supp.getD j 0=supp'.getD j 0) i (hi:i<j+1)=> (by
    by_cases h:i<j
    ·exact ha.out i h
    ·obtain rfl:i=j:=by omega
     exact e:supp.getD i 0=supp'.getD i 0))
   clear hc1 hc2 hil hil' ha HNO HY
   obtain ⟨x,hx⟩:∃x,supp.getD j 0=x:=⟨_,rfl⟩
   obtain ⟨y,hy⟩:∃y,supp'.getD j 0=y:=⟨_,rfl⟩
   rw [hx] at k0 NO
   rw [hy] at k1 NO
   simp only [hx,hy] at YE
   have YE2:=YE
   clear YE
   clear hx hy
   by_cases e:x=y
   ·subst e
    have N:=Lib.hid (YE2.out rfl)
    have gx:(x != x)=false:=by simp
    clear YE2 NO
    go_wp2
    go_region
    go_wp2
    go_roundw
    case rel=> exact ⟨j+1,by omega,by go_num,hbr.drew,N⟩
    case measure=> simp [RowKit.intOf];omega
   ·have N:=Lib.hid (NO.out e)
    have gx:(x != y)=true:=by rw [bne_iff_ne];exact e
    have hbd:=hb0.drew
    clear YE2 NO e
    go_wp2
    go_region
    go_wp2
    go_ret
    exact ⟨by rw [F.out,N.out];rfl,hbd⟩
  ·obtain rfl:supp.length=j:=by omega
   have t1:decide ((supp.length:Int)<(supp.length:Int))=false:=by simp
   have N:=Lib.hid (HY.out HLN.out ha.out)
   clear hil hil' ha HY HNO
   go_wp2
   go_ret
   exact ⟨by rw [F.out,N.out];rfl,hb0⟩
end Go.Proofs.YtpgdngijmihafaaGreatDoor