/- What is read at any bit of any text may be; with what is wrong the reader stays; and the chapter's example comes out. Conditions: none but the law's own (texts of up to 2,000 bytes), and the card's: what the listed variables hold when the call begins. -/
import Derived.Test.YtpgdngijmihafaaGreatDoorSheetinMayMc
import Derived.Test.YtpgdngijmihafaaGreatDoorSheetinMayMe
import Derived.Test.YtpgdngijmihafaaGreatDoorSheetinMayMh
import Derived.Test.YtpgdngijmihafaaGreatDoorSheetinMayMt
import Derived.Test.YtpgdngijmihafaaGreatDoorSheetinMayMv
import Derived.Test.YtpgdngijmihafaaGreatDoorSheetinMayMw
import Derived.Test.YtpgdngijmihafaaGreatDoorSheetinMayMy
import Derived.Test.YtpgdngijmihafaaGreatDoorSheetinMayMbh
import Derived.Test.YtpgdngijmihafaaGreatDoorSheetinMayMbn
import Derived.Test.YtpgdngijmihafaaGreatDoorSheetinMayMbo
import Derived.Test.YtpgdngijmihafaaGreatDoorSheetinMayMbt
import Derived.Test.YtpgdngijmihafaaGreatDoorSheetinMayMbu
import Derived.Test.YtpgdngijmihafaaGreatDoorSheetinMayMbv
import Derived.Test.YtpgdngijmihafaaGreatDoorSheetinMayMbw
import Derived.Test.YtpgdngijmihafaaGreatDoorSheetinMayMbz
import Derived.Test.YtpgdngijmihafaaGreatDoorCards
import Derived.Test.YtpgdngijmihafaaGreatDoorTie
import Derived.Lay
import Derived.Test.YtpgdngijmihafaaGreatDoorRows
import Derived.WalkMore
import Derived.IntWalk
import Derived.BigQuiet
import Derived.Deep.QuietTactic
import Derived.Deep.Slices
import Derived.Deep.MidRow
namespace Go.Proofs.YtpgdngijmihafaaGreatDoor
open Go.RowKit Go.Lib Go.ChangeShapes Go.WideShapes Go.ChangeAt
set_option maxRecDepth 100000 in
set_option maxHeartbeats 4000000 in
theorem sheetinMay_walk (s:ByteArray) (a:Int) (w:World) (_hss:s.size≤maxLen) (hz:s.size≤140737488355328) (_wf:(Lit.int .i64 a).wf=true) (ht:Yca w.heap.size w):
  Calls Tryz.prog 4 #[.string s,.int .i64 a] w fun e w'=> e = .returned (.bool true)∧Below w.heap.size w w':=by
 obtain ⟨Y,HYS,hzv⟩:=Yi3
 obtain ⟨B,hB⟩:∃B,w.heap.size=B:=⟨_,rfl⟩
 rw [hB] at ht ⊢
 obtain ⟨w1,hw1⟩:∃w1,w.alloc (Ylm s 0)=w1:=⟨_,rfl⟩
 have hr1:Ya5 w1 B s 0:=by rw [←hw1];exact Ya5.fresh hB hz
 have hb1:Below B w w1:=by rw [←hw1];exact (Below.refl B w).alloc (by omega) _
 have HT:=Lib.hid (fun (x:World) (hx:Below B w x)=> (ht.below hx:Yca B x))
 have CLV:=Lib.hid (fun (x:World) (hx:Below B w x)=> ((Y9b x (by
  have h:=ht.below hx
  exact Yca.here h.pats h.mvd h.steps h.tcoef)).mono fun e y z=> ⟨z.1,hx.trans (z.2.mono (by have:=hx.size;omega))⟩:Calls Tryz.prog 7 #[] x fun e y=> e = .returned (.bool true)∧Below B w y))
 have HW1:=Lib.hid hw1
 have HB:=Lib.hid hB
 have hlt:=hr1.lt
 have hBw:B≤w.heap.size:=by omega
 clear hw1 hB ht
 by_cases h2000:2000<s.size
 ·have t0:decide (2000<(s.size:Int))=true:=by simp;omega
  clear h2000
  go_enter Tryz.func4,Tryz.ntmps4
  go_wp2_with fail
  refine (Yc3 _ _).mono ?_
  rintro e u ⟨rfl,rfl⟩
  rw [HW1.out,HB.out]
  go_wp2_with fail
  refine (CLV.out _ hb1).mono ?_
  rintro e w2 ⟨rfl,hb2⟩
  go_wp2
  go_ret
  exact ⟨rfl,hb2⟩
 have t0:decide (2000<(s.size:Int))=false:=by simp;omega
 by_cases hin:a<0∨8*(s.size:Int)<a
 ·have cs:=Ypb w1 B s 0 a hr1 hin
  clear h2000 hin
  go_enter Tryz.func4,Tryz.ntmps4
  go_wp2_with fail
  refine (Yc3 _ _).mono ?_
  rintro e u ⟨rfl,rfl⟩
  rw [HW1.out,HB.out]
  go_wp2_with fail
  refine cs.mono ?_
  rintro e u ⟨rfl,rfl⟩
  go_wp2_with fail
  refine (CLV.out _ hb1).mono ?_
  rintro e w2 ⟨rfl,hb2⟩
  go_wp2
  go_ret
  exact ⟨rfl,hb2⟩
 obtain ⟨p,rfl⟩:=Int.eq_ofNat_of_zero_le (by omega:0≤a)
 have hp:p≤8*s.size:=by omega
 have cs:=Ybh w1 B s 0 (p:Int) hr1 (by omega) (by omega)
 rw [Int.toNat_natCast] at cs
 have ct:=fun (x:World) (hb:Below B w x) (hr:Ya5 x B s p)=> Ywg hr (HT.out x hb) (Nat.le_refl B) (by omega)
 have few:=Y96 Y8v (l:=s.data.toList) (p:=p)
 have hbad:=Y3r (ct:=ctk) (l:=s.data.toList) (p:=p)
 have honce:=fun S q h=> Ywx (p:=p) (q:=q) (S:=S) (Ysr s.data.toList) h
 have hzer:=fun S q h=> Y3s (p:=p) (q:=q) (S:=S) (Ysr s.data.toList) h
 unfold Yj0 at ct
 obtain ⟨⟨S,q,f⟩,hk⟩:∃r,wtk ctk s.data.toList p=r:=⟨_,rfl⟩
 rw [hk] at ct few hbad
 dsimp only at ct few hbad
 have few2:∀c∈Yg3 S,∀k,k<6→(c.ev k).length≤1048576:=fun c h k _=> by have:=few c h k;omega
 have FEW:=Lib.hid few2
 have HGO:Hid (f=0→Yjw S=0∧q%8=0∧p<q):=Lib.hid fun hf=> by
  rw [hf] at hk
  obtain ⟨h1,h2,h3,h4,h5,h6⟩:=honce S q hk
  have h7:=hzer S q hk
  have h8:s.data.toList.length=s.size:=rfl
  exact ⟨h4 (by omega),h2,h3⟩
 have HNO:Hid (f≠0→S.rows.length=0∧q=p):=Lib.hid fun hf=> by
  have h:=hbad hf
  injection h with h1 h2
  injection h2 with h2 _
  exact ⟨by rw [h1];rfl,h2⟩
 clear hk few few2 hbad honce hzer h2000 hin hr1
 go_enter Tryz.func4,Tryz.ntmps4
 go_wp2_with fail
 refine (Yc3 _ _).mono ?_
 rintro e u ⟨rfl,rfl⟩
 rw [HW1.out,HB.out]
 go_wp2_with fail
 refine cs.mono ?_
 rintro e w2 ⟨rfl,hr2,hg2⟩
 have hb2:Below B w w2:=hb1.grown hg2 (by omega) (fun k hk=> by injection hk with hk;omega)
 go_wp2_with fail
 refine (ct w2 hb2 hr2).mono ?_
 rintro e w3 ⟨vs,rfl,hS3,hr3,hg3⟩
 have hz2:=hg2.size
 have hb3:Below B w w3:=hb2.grown hg3 (by omega) (fun k hk=> by injection hk with hk;omega)
 clear ct cs hr2 hg2 hg3
 obtain ⟨p1,b1,ca1,cb1,hv1,hl1,hn1,hs1,hw1⟩:=hS3
 obtain ⟨D,hD⟩:∃D,w3.heap.size=D:=⟨_,rfl⟩
 obtain ⟨Z,hZ⟩:∃Z,vs.toArray=Z:=⟨_,rfl⟩
 rw [hZ]
 obtain ⟨w4,hw4⟩:∃w4,w3.alloc (.cells Z 30 (0,0))=w4:=⟨_,rfl⟩
 have HSZ:(Tryz.prog.info? 30).map (·.size)=some Z.size:=by rw [←hZ,hv1];kernel_rfl
 have HYZ:Y.size=Z.size:=by rw [HYS,←hZ,hv1];rfl
 have HOZ:Z.all (·.oneCell')=true:=by rw [←hZ,hv1];exact Ygb ..
 have hbl4:Below w3.heap.size w3 w4:=by rw [←hw4];exact (Below.refl _ w3).alloc (Nat.le_refl _) _
 have hD4:w4.heap[D]? = some (.cells Z 30 (0,0)):=by rw [←hw4,←hD];exact heap_alloc_new w3 _
 have k6:w4.cell? ⟨D,6,none⟩=some (.slice b1 S.rows.length cb1):=Yaa (cs:=vs) (by rw [hZ];exact hD4) (by rw [hv1];rfl)
 have hz3:=hb3.size
 have hBD:B≤D:=by rw [←hD];omega
 have hb4:Below B w w4:=hb3.trans (hbl4.mono (by omega))
 have hr4:=hr3.below hbl4
 have hs4i:=hs1.below hbl4
 have hw4r:=Ygq.below hw1 hbl4
 have ht4:=HT.out w4 hb4
 have HZ:Hid ((Yaz S.hd (.slice p1 S.hd.supp.length ca1) (.slice b1 S.rows.length cb1) S.zeros).toArray=Z):=Lib.hid (by rw [←hZ,hv1])
 have HDD:=Lib.hid hD
 have HWW:=Lib.hid hw4
 have hz4:=hb4.size
 clear hD hw4 hZ hv1 hs1 hw1 hr3 hbl4 hb3 hb2 HT
 by_cases hf:f=0
 ·obtain ⟨g1,g2,g3⟩:=HGO.out hf
  have tf:(f != 0)=false:=by rw [hf];rfl
  have hrn:S.rows.length≤4611686018427387904:=by
   have h:=(Yyq g1).1
   unfold Yea at h
   simp only [Bool.and_eq_true,decide_eq_true_eq] at h
   have:=h.2.2.1
   have:=(Yj8 S.hd.fmt).2.1
   omega
  have cC:=Ysd S p1 b1 ca1 cb1 w4 hl1 hrn hs4i hw4r FEW.out (fun c p n k y hy hc=> Ytr S.hd.inter c p n k y hc (ht4.below (hy.mono (by omega))).tcoef (ht4.below (hy.mono (by omega))).steps)
  rw [HZ.out,g1] at cC
  have t8:((q:Int)%8==0)=true:=by simp;omega
  have tg:decide ((q:Int) > (p:Int))=true:=by simp;omega
  have tg2:decide (p<q)=true:=by simp;omega
  clear hf g1 g2 g3 HGO HNO hs4i hw4r ht4 k6
  go_wp2_with (first | (with_reducible refine Yan rfl 30 _ _ rfl Z Y 30 rfl rfl HSZ HYZ HOZ ?_;rw [HWW.out,HDD.out]) | (with_reducible refine wpList_load_row rfl 30 _ rfl D rfl 30 Z (0,0) _ hD4 Tryz.underlying30 rfl HSZ ?_))
  refine cC.mono ?_
  rintro e w5 ⟨rfl,hb45⟩
  have hr5:=hr4.below hb45
  have hb5:Below B w w5:=hb4.trans (hb45.mono (by omega))
  clear cC
  go_wp2_with fail
  refine (Ybm _ _ _ _ hr5).mono ?_
  rintro e u ⟨rfl,rfl⟩
  go_wp2_with fail
  refine (Ybm _ _ _ _ hr5).mono ?_
  rintro e u ⟨rfl,rfl⟩
  go_wp2_with fail
  refine (CLV.out _ hb5).mono ?_
  rintro e wL ⟨rfl,hbL⟩
  go_wp2
  go_ret
  exact ⟨rfl,hbL⟩
 ·have tf:(f != 0)=true:=by rw [bne_iff_ne];exact hf
  obtain ⟨g1,g2⟩:=HNO.out hf
  rw [g1] at k6
  subst g2
  have tq:((q:Int)==(q:Int))=true:=by simp
  clear hf HGO HNO hs4i hw4r ht4 HZ hn1
  go_wp2_with (with_reducible refine Yan rfl 30 _ _ rfl Z Y 30 rfl rfl HSZ HYZ HOZ ?_;rw [HWW.out,HDD.out])
  refine (Ybm _ _ _ _ hr4).mono ?_
  rintro e u ⟨rfl,rfl⟩
  go_wp2_with fail
  refine (CLV.out _ hb4).mono ?_
  rintro e wL ⟨rfl,hbL⟩
  go_wp2
  go_ret
  exact ⟨rfl,hbL⟩
theorem sheetinMay_own:ownKnob Tryz.prog.godebug=none:=by kernel_rfl
theorem sheetinMay_laid:laidOutB Tryz.prog=true:=by kernel_rfl
theorem sheetinMay_reads:Tryz.f4.params.toList.all (fun t=> Tryz.prog.readableRec t&&decide (t<Tryz.prog.types.size))=true:=by kernel_rfl
set_option maxRecDepth 100000 in
theorem sheetinMay_lifted (os:Os) (started:os.Started) (H:Type) (enc:TypeId×Value→H):
  ReturnsInHanded {} Tryz.checked os 4 .any (fun w args=> (Rows.sheetinMaySpec.pre enc Tryz.prog Tryz.f4 Rows.sheetinMayRow.domain false w args∧laidMetH Tryz.prog Rows.sheetinMayRow.laid w)∧sizedMet enc Tryz.prog Tryz.f4 (OpenSpec.ofChange Rows.sheetinMaySpec) false w args)
   (Rows.sheetinMaySpec.post enc Tryz.prog Tryz.f4 false true false false):=by
 refine returnsInHanded_of_change_and (C:=Tryz.checked) (X:=fun w _=> laidMetH Tryz.prog Rows.sheetinMayRow.laid w) (fun _ _ _ hh h=> h.of_heap hh) sheetinMay_own started (by kernel_rfl) Tryz.func4
  (ChangeSpec.witness_shaped (enc:=enc) (C:=Tryz.checked) (os:=os) (X:=fun w _=> laidMetH Tryz.prog Rows.sheetinMayRow.laid w) false (World.laidAll Tryz.prog os Rows.sheetinMayRow.laid) #[.string ⟨#[]⟩,.int .i64 0] 8 (World.laidAll_os _ _ _)
   (World.shaped_of_ZipB (by kernel_rfl) (by kernel_rfl)) (by kernel_rfl) (by kernel_rfl) (by kernel_rfl)
   (by rw [MakeChecks.laidMetH_plain _ _ _ (by kernel_rfl)];exact laidMet_laidAll _ (by kernel_rfl) (by kernel_rfl))) ?_
 intro W base args ds gs before hval0 hW _ hsz0 hL _
 have hval:∀(j:Nat) t v,Tryz.f4.params[j]? = some t→args[j]? = some v→Value.okWide Tryz.prog W .any base t v:=hval0
 have hW':=hW
 obtain ⟨p,q,hA0,hV,rfl,hfz,hnd⟩:=hW
 have hA:DataW.TrodAll enc Tryz.prog W 0 (fun _=> true) true Tryz.f4.params.toList args.toList ds p:=hA0
 rw [Tryz.params4] at hA hval
 obtain ⟨v0,vs0,d0,ds0,p0,q0,hargs,rfl,rfl,h0,r0⟩:=trodAll_cons hA
 obtain ⟨v1,vs1,d1,ds1,p1,q1,rfl,rfl,rfl,h1,r1⟩:=trodAll_cons r0
 obtain ⟨rfl,rfl,rfl⟩:=trodAll_nil r1
 obtain rfl:args = #[v0,v1]:=by cases args;simp_all
 obtain ⟨rfl,rfl⟩:=trodVars_none hV
 obtain ⟨a0,rfl,rfl,rfl,w0⟩:=Go.ChangeMaps.open_string Tryz.underlying9 (hval 0 9 v0 rfl rfl) h0
 have z0:a0.size≤140737488355328:=Nat.le_trans (sized_string hsz0 (j:=0) rfl rfl) (Nat.le_of_lt reachBytes_lt)
 obtain ⟨a1,rfl,rfl,rfl,w1⟩:=open_int Tryz.underlying3 (hval 1 3 v1 rfl rfl) h1
 clear hA0 hval0
 refine (sheetinMay_walk a0 a1 W w0 z0 w1 (Y4u hL ⟨by simp [Rows.sheetinMayRow],by kernel_rfl⟩)).mono fun e W' ⟨he,hb⟩=> ?_
 subst he
 exact ⟨_,rfl,Y87 sheetinMay_laid sheetinMay_reads rfl Tryz.underlying4 rfl hW' rfl hb⟩
theorem sheetinMay_over:Rows.sheetinMayRow.holds Tryz.pinned (OpenSpec.ofChange Rows.sheetinMaySpec):=
 OpenClaim.holds_of_wide 4 Tryz.f4 rfl rfl rfl rfl rfl rfl rfl ⟨rfl,rfl,rfl,rfl,rfl⟩ rfl rfl rfl rfl rfl (by kernel_rfl) Tryz.func4 (by kernel_rfl)
  (of_decide_eq_true (by kernel_rfl)) (by unfold Func.isWrapper;first | (rw [if_pos (by decide +kernel)];kernel_rfl) | (rw [if_neg (by decide +kernel)];exact ⟨rfl,rfl⟩))
  (fun os started H enc _=> sheetinMay_lifted os started H enc)
theorem sheetinMay_holds:Rows.SheetinMayCardSaid:=
 Claim7.holds_tied_plain_at .later [] [.data,.data,.data,.data,.data,.data,.data,.data,.data,.data,.data,.pinned] true Rows.sheetinMayCard.stood.harness false sheetinMay_over (fun _ h=> by cases h) (by kernel_rfl) (fun _ h=> by cases h) sheetinMay_row_tie rfl ⟨rfl,rfl⟩ (by kernel_rfl) rfl
  (fun f fn hf hfn=> by
   obtain rfl : f = 4 := Option.some.inj ((show Tryz.prog.funcNamed "overspill/overspilllaw26.SheetinMay" = some 4 by kernel_rfl).symm.trans hf) |>.symm
   obtain rfl:fn=Tryz.f4:=(Option.some.inj (Tryz.func4.symm.trans hfn)).symm
   exact ⟨by kernel_rfl,fun j t ht=> by
    rw [Tryz.params4] at ht
    have hm:t∈[9,3]:=by simpa using Array.mem_of_getElem? ht
    have hall:([9,3].all fun u=> !Tryz.prog.wantsStandIn u)=true:=by kernel_rfl
    exact (show Tryz.prog.wantsStandIn t=false by simpa using List.all_eq_true.1 hall t hm)⟩)
  (by kernel_rfl)
#print axioms sheetinMay_holds
end Go.Proofs.YtpgdngijmihafaaGreatDoor
