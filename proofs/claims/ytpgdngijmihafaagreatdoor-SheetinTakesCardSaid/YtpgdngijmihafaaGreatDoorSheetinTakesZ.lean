/- Which sheet is read at any bit of any text, or what is wrong, and where the reader stands then, is what the document's own answers say; and the chapter's example comes out. Conditions: none but the law's own (texts of up to 2,000 bytes), and the card's: what the listed variables hold when the call begins. -/
import Derived.Test.YtpgdngijmihafaaGreatDoorSheetinTakesMe
import Derived.Test.YtpgdngijmihafaaGreatDoorSheetinTakesMh
import Derived.Test.YtpgdngijmihafaaGreatDoorSheetinTakesMs
import Derived.Test.YtpgdngijmihafaaGreatDoorSheetinTakesMv
import Derived.Test.YtpgdngijmihafaaGreatDoorSheetinTakesMy
import Derived.Test.YtpgdngijmihafaaGreatDoorSheetinTakesMbo
import Derived.Test.YtpgdngijmihafaaGreatDoorSheetinTakesMbp
import Derived.Test.YtpgdngijmihafaaGreatDoorSheetinTakesMbv
import Derived.Test.YtpgdngijmihafaaGreatDoorSheetinTakesMbx
import Derived.Test.YtpgdngijmihafaaGreatDoorSheetinTakesMby
import Derived.Test.YtpgdngijmihafaaGreatDoorSheetinTakesMbz
import Derived.Test.YtpgdngijmihafaaGreatDoorCards
import Derived.Test.YtpgdngijmihafaaGreatDoorTie
import Derived.Lay
import Derived.Test.YtpgdngijmihafaaGreatDoorRows
import Derived.Deep.Slices
import Derived.Deep.MidRow
namespace Go.Proofs.YtpgdngijmihafaaGreatDoor
open Go.RowKit Go.Lib Go.ChangeShapes Go.WideShapes Go.ChangeAt
set_option maxRecDepth 100000 in
set_option maxHeartbeats 4000000 in
theorem sheetinTakes_walk (s:ByteArray) (a:Int) (w:World) (_hss:s.size≤maxLen) (hz:s.size≤140737488355328) (_wf:(Lit.int .i64 a).wf=true) (ht:Ycr w.heap.size w):
  Calls Tryz.prog 3 #[.string s,.int .i64 a] w fun e w'=> e = .returned (.bool true)∧Below w.heap.size w w':=by
 obtain ⟨Y,HYS,hzv⟩:=Ykv
 obtain ⟨B,hB⟩:∃B,w.heap.size=B:=⟨_,rfl⟩
 rw [hB] at ht ⊢
 obtain ⟨w1,hw1⟩:∃w1,w.alloc (Yms s 0)=w1:=⟨_,rfl⟩
 have hr1:Ybb w1 B s 0:=by rw [←hw1];exact Ybb.fresh hB hz
 have hb1:Below B w w1:=by rw [←hw1];exact (Below.refl B w).alloc (by omega) _
 have HT:=Lib.hid (fun (x:World) (hx:Below B w x)=> (ht.below hx:Ycr B x))
 have CLV:=Lib.hid (fun (x:World) (hx:Below B w x)=> ((Y9r x (by
  have h:=ht.below hx
  exact Ycr.here h.pats h.mvd h.steps h.tcoef)).mono fun e y z=> ⟨z.1,hx.trans (z.2.mono (by have:=hx.size;omega))⟩:Calls Tryz.prog 7 #[] x fun e y=> e = .returned (.bool true)∧Below B w y))
 have HW1:=Lib.hid hw1
 have HB:=Lib.hid hB
 have hlt:=hr1.lt
 have hBw:B≤w.heap.size:=by omega
 clear hw1 hB ht
 by_cases h2000:2000<s.size
 ·have t0:decide (2000<(s.size:Int))=true:=by simp;omega
  clear h2000
  go_enter Tryz.func3,Tryz.ntmps3
  go_wp2_with fail
  refine (Ydo _ _).mono ?_
  rintro e u ⟨rfl,rfl⟩
  rw [HW1.out,HB.out]
  go_wp2_with fail
  refine (CLV.out _ hb1).mono ?_
  rintro e w2 ⟨rfl,hb2⟩
  go_wp2
  go_ret
  exact ⟨rfl,hb2⟩
 have t0:decide (2000<(s.size:Int))=false:=by simp;omega
 by_cases hin:a<0∨8*(s.size:Int)<a
 ·have cs:=Ypv w1 B s 0 a hr1 hin
  clear h2000 hin
  go_enter Tryz.func3,Tryz.ntmps3
  go_wp2_with fail
  refine (Ydo _ _).mono ?_
  rintro e u ⟨rfl,rfl⟩
  rw [HW1.out,HB.out]
  go_wp2_with fail
  refine cs.mono ?_
  rintro e u ⟨rfl,rfl⟩
  go_wp2_with fail
  refine (CLV.out _ hb1).mono ?_
  rintro e w2 ⟨rfl,hb2⟩
  go_wp2
  go_ret
  exact ⟨rfl,hb2⟩
 obtain ⟨p,rfl⟩:=Int.eq_ofNat_of_zero_le (by omega:0≤a)
 have hp:p≤8*s.size:=by omega
 have cs:=Ybk w1 B s 0 (p:Int) hr1 (by omega) (by omega)
 rw [Int.toNat_natCast] at cs
 have ct:=fun (x:World) (hb:Below B w x) (hr:Ybb x B s p)=> Yyk hr (HT.out x hb) (Nat.le_refl B) (by omega)
 have few:=Y8x Y9g (l:=s.data.toList) (p:=p)
 have hbad:=Y43 (ct:=ctk) (l:=s.data.toList) (p:=p)
 have honce:=fun S q h=> Yyn (p:=p) (q:=q) (S:=S) (Ytr s.data.toList) h
 have hzer:=fun S q h=> Y4o (p:=p) (q:=q) (S:=S) (Ytr s.data.toList) h
 have cp:=fun (x:World)=> Yve ctk s (Y4c s (by omega)) p hp (by omega) x
 have cw:=fun (x:World)=> Y3g s (by omega) x
 unfold Ylp at ct
 unfold Y8w at cp
 obtain ⟨⟨S,q,f⟩,hk⟩:∃r,wtk ctk s.data.toList p=r:=⟨_,rfl⟩
 rw [hk] at ct cp few
 dsimp only at ct cp few
 have few2:∀c∈Yzh S,∀k,k<6→(c.ev k).length≤1048576:=fun c h k _=> by have:=few c h k;omega
 have FEW:=Lib.hid few2
 clear hk few few2 hbad honce hzer HT h2000 hin hp hr1
 generalize (ByteArray.mk (Yac s.data.toList).toArray)=SB at *
 have hb0:=hb1
 go_enter Tryz.func3,Tryz.ntmps3
 go_wp2_with fail
 refine (Ydo _ _).mono ?_
 rintro e u ⟨rfl,rfl⟩
 rw [HW1.out,HB.out]
 go_wp2_with fail
 refine cs.mono ?_
 rintro e w2 ⟨rfl,hr2,hg2⟩
 have hb2:Below B w w2:=hb1.grown hg2 (by omega) (fun k hk=> by injection hk with hk;omega)
 go_wp2_with fail
 refine (ct w2 hb2 hr2).mono ?_
 rintro e w3 ⟨vs,rfl,hS3,hr3,hg3⟩
 have hz2:=hg2.size
 have hb3:Below B w w3:=hb2.grown hg3 (by omega) (fun k hk=> by injection hk with hk;omega)
 clear ct cs hr2 hg2 hg3
 obtain ⟨p1,b1,ca1,cb1,hv1,hl1,hn1,hs1,hw1⟩:=hS3
 obtain ⟨D,hD⟩:∃D,w3.heap.size=D:=⟨_,rfl⟩
 obtain ⟨Z,hZ⟩:∃Z,vs.toArray=Z:=⟨_,rfl⟩
 rw [hZ]
 obtain ⟨w4,hw4⟩:∃w4,w3.alloc (.cells Z 30 (0,0))=w4:=⟨_,rfl⟩
 have HSZ:(Tryz.prog.info? 30).map (·.size)=some Z.size:=by rw [←hZ,hv1];kernel_rfl
 have HYZ:Y.size=Z.size:=by rw [HYS,←hZ,hv1];rfl
 have HOZ:Z.all (·.oneCell')=true:=by rw [←hZ,hv1];exact Ydv ..
 have hbl4:Below w3.heap.size w3 w4:=by rw [←hw4];exact (Below.refl _ w3).alloc (Nat.le_refl _) _
 have hD4:w4.heap[D]? = some (.cells Z 30 (0,0)):=by rw [←hw4,←hD];exact heap_alloc_new w3 _
 have hs4:w4.heap.size=D+1:=by rw [←hw4,←hD];simp
 have hz3:=hb3.size
 have hBD:B≤D:=by rw [←hD];omega
 have hb4:Below B w w4:=hb3.trans (hbl4.mono (by omega))
 have hr4:=hr3.below hbl4
 have hs4i:=hs1.below hbl4
 have hw4r:=Yh9.below hw1 hbl4
 have HZ:Hid ((Ya8 S.hd (.slice p1 S.hd.supp.length ca1) (.slice b1 S.rows.length cb1) S.zeros).toArray=Z):=Lib.hid (by rw [←hZ,hv1])
 have HDD:=Lib.hid hD
 have HWW:=Lib.hid hw4
 clear hD hw4 hZ hv1 hs1 hw1 hr3 hbl4 hb3 hb2
 go_wp2_with (with_reducible refine Yaj rfl 30 _ _ rfl Z Y 30 rfl rfl HSZ HYZ HOZ ?_;rw [HWW.out,HDD.out])
 refine (cw w4).mono ?_
 rintro e w5 ⟨rfl,hb45⟩
 go_wp2_with fail
 refine (cp w5).mono ?_
 rintro e w6 ⟨vs2,rfl,hS6,hb56⟩
 have hb46:Below w4.heap.size w4 w6:=hb45.trans (hb56.mono hb45.size)
 obtain ⟨p2,b2,ca2,cb2,hv2,-,-,hs2,hw2⟩:=hS6
 have hD6:=(hb46.block D (by omega)).trans hD4
 have hr6:=hr4.below hb46
 have hs6:=hs4i.below hb46
 have hw6:=hw4r.below hb46
 have hb6:Below B w w6:=hb4.trans (hb46.mono (by omega))
 have hz6:=hb46.size
 clear cw cp hb45 hb56 hb46 HWW HDD hs4i hw4r hr4 hD4
 obtain ⟨E,hE⟩:∃E,w6.heap.size=E:=⟨_,rfl⟩
 obtain ⟨Z2,hZ2⟩:∃Z,vs2.toArray=Z:=⟨_,rfl⟩
 rw [hZ2]
 obtain ⟨w7,hw7⟩:∃w7,w6.alloc (.cells Z2 30 (0,0))=w7:=⟨_,rfl⟩
 have HSZ2:(Tryz.prog.info? 30).map (·.size)=some Z2.size:=by rw [←hZ2,hv2];kernel_rfl
 have HYZ2:Y.size=Z2.size:=by rw [HYS,←hZ2,hv2];rfl
 have HOZ2:Z2.all (·.oneCell')=true:=by rw [←hZ2,hv2];exact Ydv ..
 have hbl7:Below w6.heap.size w6 w7:=by rw [←hw7];exact (Below.refl _ w6).alloc (Nat.le_refl _) _
 have hE7:w7.heap[E]? = some (.cells Z2 30 (0,0)):=by rw [←hw7,←hE];exact heap_alloc_new w6 _
 have hs7:w7.heap.size=E+1:=by rw [←hw7,←hE];simp
 have hb7:Below B w w7:=hb6.trans (hbl7.mono (by omega))
 have hr7:=hr6.below hbl7
 have hD7:=(hbl7.block D (by omega)).trans hD6
 have ha7:=hs6.below hbl7
 have hb7r:=hw6.below hbl7
 have hc7:=hs2.below hbl7
 have hd7:=Yh9.below hw2 hbl7
 have HZ2:Hid ((Ya8 S.hd (.slice p2 S.hd.supp.length ca2) (.slice b2 S.rows.length cb2) S.zeros).toArray=Z2):=Lib.hid (by rw [←hZ2,hv2])
 have hDE:D+1≤E:=by rw [←hE];omega
 have HE:=Lib.hid hE
 have HW7:=Lib.hid hw7
 clear hE hw7 hZ2 hv2 hs2 hw2 hs6 hw6 hr6 hD6 hbl7 hb6
 go_wp2_with (with_reducible refine Yaj rfl 30 _ _ rfl Z2 Y 30 rfl rfl HSZ2 HYZ2 HOZ2 ?_;rw [HW7.out,HE.out])
 refine (Y8y w7).mono ?_
 rintro e w8 ⟨rfl,hb78⟩
 obtain ⟨Z3,hZ3⟩:∃Z,zeroS.toArray=Z:=⟨_,rfl⟩
 rw [hZ3]
 have HSZ3:(Tryz.prog.info? 30).map (·.size)=some Z3.size:=by rw [←hZ3];kernel_rfl
 have HYZ3:Y.size=Z3.size:=by rw [HYS,←hZ3];rfl
 have HOZ3:Z3.all (·.oneCell')=true:=by rw [←hZ3];exact Ydv ..
 obtain ⟨F,hF⟩:∃F,w8.heap.size=F:=⟨_,rfl⟩
 obtain ⟨w9,hw9⟩:∃w9,w8.alloc (.cells Z3 30 (0,0))=w9:=⟨_,rfl⟩
 have hb89:Below w8.heap.size w8 w9:=by rw [←hw9];exact (Below.refl _ w8).alloc (Nat.le_refl _) _
 have hb79:Below w7.heap.size w7 w9:=hb78.trans (hb89.mono hb78.size)
 have hE9:=(hb79.block E (by omega)).trans hE7
 have hD9:=(hb79.block D (by omega)).trans hD7
 have hr9:=hr7.below hb79
 have hb9:Below B w w9:=hb7.trans (hb79.mono (by omega))
 have cS:=(Yvb S S p1 b1 p2 b2 ca1 cb1 ca2 cb2 w9 hl1 hn1 (ha7.below hb79) (hc7.below hb79) (hb7r.below hb79) (hd7.below hb79) FEW.out FEW.out)
 rw [HZ.out,HZ2.out,Y5w] at cS
 have HF:=Lib.hid hF
 have HW9:=Lib.hid hw9
 have hz9:=hb79.size
 clear hF hw9 hZ3 ha7 hb7r hc7 hd7 hb78 hb89 hb79 hE7 hD7 hr7 hb7 HW7 HE
 have tf:(f==f)=true:=by simp
 have tq:((q:Int)==(q:Int))=true:=by simp
 go_wp2_with (first | (with_reducible refine Yaj rfl 30 _ _ rfl Z3 Y 30 rfl rfl HSZ3 HYZ3 HOZ3 ?_;rw [HW9.out,HF.out]) | (with_reducible refine wpList_load_row rfl 30 _ rfl D rfl 30 Z (0,0) _ hD9 Tryz.underlying30 rfl HSZ ?_) | (with_reducible refine wpList_load_row rfl 30 _ rfl E rfl 30 Z2 (0,0) _ hE9 Tryz.underlying30 rfl HSZ2 ?_))
 refine cS.mono ?_
 rintro e wS ⟨rfl,hbS⟩
 have hrS:=hr9.below hbS
 have hbs:Below B w wS:=hb9.trans (hbS.mono (by omega))
 clear hbS hD9 hE9 hr9 cS
 go_wp2_with fail
 refine (Ybs _ _ _ _ hrS).mono ?_
 rintro e u ⟨rfl,rfl⟩
 go_wp2_with fail
 refine (CLV.out _ hbs).mono ?_
 rintro e wL ⟨rfl,hbL⟩
 go_wp2
 go_ret
 exact ⟨rfl,hbL⟩
theorem sheetinTakes_own:ownKnob Tryz.prog.godebug=none:=by kernel_rfl
theorem sheetinTakes_laid:laidOutB Tryz.prog=true:=by kernel_rfl
theorem sheetinTakes_reads:Tryz.f3.params.toList.all (fun t=> Tryz.prog.readableRec t&&decide (t<Tryz.prog.types.size))=true:=by kernel_rfl
set_option maxRecDepth 100000 in
theorem sheetinTakes_lifted (os:Os) (started:os.Started) (H:Type) (enc:TypeId×Value→H):
  ReturnsInHanded {} Tryz.checked os 3 .any (fun w args=> (Rows.sheetinTakesSpec.pre enc Tryz.prog Tryz.f3 Rows.sheetinTakesRow.domain false w args∧laidMetH Tryz.prog Rows.sheetinTakesRow.laid w)∧sizedMet enc Tryz.prog Tryz.f3 (OpenSpec.ofChange Rows.sheetinTakesSpec) false w args)
   (Rows.sheetinTakesSpec.post enc Tryz.prog Tryz.f3 false true false false):=by
 refine returnsInHanded_of_change_and (C:=Tryz.checked) (X:=fun w _=> laidMetH Tryz.prog Rows.sheetinTakesRow.laid w) (fun _ _ _ hh h=> h.of_heap hh) sheetinTakes_own started (by kernel_rfl) Tryz.func3
  (ChangeSpec.witness_shaped (enc:=enc) (C:=Tryz.checked) (os:=os) (X:=fun w _=> laidMetH Tryz.prog Rows.sheetinTakesRow.laid w) false (World.laidAll Tryz.prog os Rows.sheetinTakesRow.laid) #[.string ⟨#[]⟩,.int .i64 0] 8 (World.laidAll_os _ _ _)
   (World.shaped_of_ZipB (by kernel_rfl) (by kernel_rfl)) (by kernel_rfl) (by kernel_rfl) (by kernel_rfl)
   (by rw [MakeChecks.laidMetH_plain _ _ _ (by kernel_rfl)];exact laidMet_laidAll _ (by kernel_rfl) (by kernel_rfl))) ?_
 intro W base args ds gs before hval0 hW _ hsz0 hL _
 have hval:∀(j:Nat) t v,Tryz.f3.params[j]? = some t→args[j]? = some v→Value.okWide Tryz.prog W .any base t v:=hval0
 have hW':=hW
 obtain ⟨p,q,hA0,hV,rfl,hfz,hnd⟩:=hW
 have hA:DataW.TrodAll enc Tryz.prog W 0 (fun _=> true) true Tryz.f3.params.toList args.toList ds p:=hA0
 rw [Tryz.params3] at hA hval
 obtain ⟨v0,vs0,d0,ds0,p0,q0,hargs,rfl,rfl,h0,r0⟩:=trodAll_cons hA
 obtain ⟨v1,vs1,d1,ds1,p1,q1,rfl,rfl,rfl,h1,r1⟩:=trodAll_cons r0
 obtain ⟨rfl,rfl,rfl⟩:=trodAll_nil r1
 obtain rfl:args = #[v0,v1]:=by cases args;simp_all
 obtain ⟨rfl,rfl⟩:=trodVars_none hV
 obtain ⟨a0,rfl,rfl,rfl,w0⟩:=Go.ChangeMaps.open_string Tryz.underlying9 (hval 0 9 v0 rfl rfl) h0
 have z0:a0.size≤140737488355328:=Nat.le_trans (sized_string hsz0 (j:=0) rfl rfl) (Nat.le_of_lt reachBytes_lt)
 obtain ⟨a1,rfl,rfl,rfl,w1⟩:=open_int Tryz.underlying3 (hval 1 3 v1 rfl rfl) h1
 clear hA0 hval0
 refine (sheetinTakes_walk a0 a1 W w0 z0 w1 (Y55 hL ⟨by simp [Rows.sheetinTakesRow],by kernel_rfl⟩)).mono fun e W' ⟨he,hb⟩=> ?_
 subst he
 exact ⟨_,rfl,Y99 sheetinTakes_laid sheetinTakes_reads rfl Tryz.underlying4 rfl hW' rfl hb⟩
theorem sheetinTakes_over:Rows.sheetinTakesRow.holds Tryz.pinned (OpenSpec.ofChange Rows.sheetinTakesSpec):=
 OpenClaim.holds_of_wide 3 Tryz.f3 rfl rfl rfl rfl rfl rfl rfl ⟨rfl,rfl,rfl,rfl,rfl⟩ rfl rfl rfl rfl rfl (by kernel_rfl) Tryz.func3 (by kernel_rfl)
  (of_decide_eq_true (by kernel_rfl)) (by unfold Func.isWrapper;first | (rw [if_pos (by decide +kernel)];kernel_rfl) | (rw [if_neg (by decide +kernel)];exact ⟨rfl,rfl⟩))
  (fun os started H enc _=> sheetinTakes_lifted os started H enc)
theorem sheetinTakes_holds:Rows.SheetinTakesCardSaid:=
 Claim7.holds_tied_plain_at .later [] [.data,.data,.data,.data,.data,.data,.data,.data,.data,.data,.data,.pinned] true Rows.sheetinTakesCard.stood.harness false sheetinTakes_over (fun _ h=> by cases h) (by kernel_rfl) (fun _ h=> by cases h) sheetinTakes_row_tie rfl ⟨rfl,rfl⟩ (by kernel_rfl) rfl
  (fun f fn hf hfn=> by
   obtain rfl : f = 3 := Option.some.inj ((show Tryz.prog.funcNamed "overspill/overspilllaw26.SheetinTakes" = some 3 by kernel_rfl).symm.trans hf) |>.symm
   obtain rfl:fn=Tryz.f3:=(Option.some.inj (Tryz.func3.symm.trans hfn)).symm
   exact ⟨by kernel_rfl,fun j t ht=> by
    rw [Tryz.params3] at ht
    have hm:t∈[9,3]:=by simpa using Array.mem_of_getElem? ht
    have hall:([9,3].all fun u=> !Tryz.prog.wantsStandIn u)=true:=by kernel_rfl
    exact (show Tryz.prog.wantsStandIn t=false by simpa using List.all_eq_true.1 hall t hm)⟩)
  (by kernel_rfl)
#print axioms sheetinTakes_holds
end Go.Proofs.YtpgdngijmihafaaGreatDoor
