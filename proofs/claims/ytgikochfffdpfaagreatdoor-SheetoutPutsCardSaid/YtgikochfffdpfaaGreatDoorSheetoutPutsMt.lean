/- Texts that SheetoutPuts's proof stands on, part 20 of 47. No condition of its own. -/
import Derived.Test.YtgikochfffdpfaaGreatDoorSheetoutPutsMj
import Derived.Test.YtgikochfffdpfaaGreatDoorSheetoutPutsMk
import Derived.Test.YtgikochfffdpfaaGreatDoorSheetoutPutsMp
import Derived.Test.YtgikochfffdpfaaGreatDoorSheetoutPutsMs
import Derived.RegionTactic
import Derived.Deep.RegionWith
import Derived.Deep.CutRange
import Derived.Deep.DeepCutAuto
namespace Go.Proofs.YtgikochfffdpfaaGreatDoor
open Go.RowKit Go.Lib
def Yi2 (a:Nat) (h:Shd):List UInt8:=List.replicate (gap a) 48++Ybb 0++Ycf h
theorem Ym3 (a:Nat) (h:Shd):(Yi2 a h).length=gap a+50+9*h.supp.length:=by
 unfold Yi2
 rw [List.length_append,List.length_append,List.length_replicate,Ya9,Yer];omega
theorem Ymo (r:List UInt8) (h:Shd):Ydy r 0++Ycf h=r++Yi2 r.length h:=by
 unfold Ydy Yi2
 simp only [List.append_assoc]
set_option maxRecDepth 100000 in
set_option maxHeartbeats 4000000 in
theorem Ysk (h:Shd) (a:Nat) (p:Option Addr) (cap:Nat) (rw_:Value) (z:Int) (ha:a≤1099511627776) (hm:Yb7 h=true) (w:World) (hs:Ydd w p h.supp):
  Calls Tryz.prog 39 #[.int .i64 (a:Int),.agg (Ya3 h (.slice p h.supp.length cap) rw_ z).toArray] w fun e w'=> e = .returned (.string (Ybj (Yi2 a h)))∧Below w.heap.size w w':=by
 obtain ⟨⟨r1,r2,f1,f2,q1,q2⟩,⟨m1,m2⟩,hl8,hby⟩:=Ycy.1 hm
 have hrow:Ycf h=Yhl h++(Ycq h.supp++Yak 0 1):=by rw [Yjz];rfl
 unfold Yhl at hrow
 have hhs:Yi2 a h=List.replicate (gap a) 48++Ybb 0++Ycf h:=rfl
 rw [hrow] at hhs
 obtain ⟨FR,hFR⟩:∃R,Yi2 a h=R:=⟨_,rfl⟩
 rw [hFR] at hhs ⊢
 obtain ⟨ref,flags,fmt,inter,quant,supp⟩:=h
 unfold Ya3
 dsimp only at *
 have c0:=fun w=> Ym9 0 (by decide) w
 have c1:=fun w=> Ycp ref 8 (by omega) (by omega) (by decide) (by decide) w
 have c2:=fun w=> Ycp flags 3 (by omega) (by omega) (by decide) (by decide) w
 have c3:=fun w=> Ycp fmt 3 (by omega) (by omega) (by decide) (by decide) w
 have c4:=fun w=> Ycp quant 5 (by omega) (by omega) (by decide) (by decide) w
 have c8:∀j,j<supp.length→∀w,Calls Tryz.prog 64 #[.int .i64 (supp.getD j 0),.int .i64 8] w fun e w'=> e = .returned (.string (Ybj (Yak (supp.getD j 0).toNat 8)))∧w=w':=fun j hj w=> by
  have hb:=hby (supp.getD j 0) (by rw [show supp.getD j 0=supp[j] by simp [List.getD,hj]];exact List.getElem_mem hj)
  exact Ycp (supp.getD j 0) 8 (by omega) (by omega) (by decide) (by decide) w
 simp only [show (8:Int).toNat=8 from rfl,show (3:Int).toNat=3 from rfl,show (5:Int).toNat=5 from rfl] at c1 c2 c3 c4
 rw [show (⟨(Yak ref.toNat 8).toArray⟩:ByteArray)=Ybj (Yak ref.toNat 8) from rfl] at c1
 rw [show (⟨(Yak flags.toNat 3).toArray⟩:ByteArray)=Ybj (Yak flags.toNat 3) from rfl] at c2
 rw [show (⟨(Yak fmt.toNat 3).toArray⟩:ByteArray)=Ybj (Yak fmt.toNat 3) from rfl] at c3
 rw [show (⟨(Yak quant.toNat 5).toArray⟩:ByteArray)=Ybj (Yak quant.toNat 5) from rfl] at c4
 obtain ⟨PF,hPF⟩:∃R,List.replicate (gap a) 48++Ybb 0++(Yak ref.toNat 8++(Yak 2 2++(Yak flags.toNat 3++(Yak fmt.toNat 3++(Yvq inter++(Yak 0 4++(Yak quant.toNat 5++Yak 0 1)))))))=R:=⟨_,rfl⟩
 have hFR2:PF++(Ycq supp++Yak 0 1)=FR:=by rw [hhs,←hPF];simp only [List.append_assoc]
 have hPFl:PF.length=gap a+49:=by
  rw [←hPF]
  unfold Yvq
  simp only [List.length_append,List.length_replicate,Ya9,Yag]
 have EP:Ybj (List.replicate (gap a) 48)++Ybj (Ybb 0)++Ybj (Yak ref.toNat 8)++Ybj (Yak 2 2)++Ybj (Yak flags.toNat 3)++Ybj (Yak fmt.toNat 3)++Ybj (Yvq inter)++Ybj (Yak 0 4)++Ybj (Yak quant.toNat 5)++Ybj (Yak 0 1)=Ybj PF:=by
  rw [←hPF]
  simp only [Yd0,List.append_assoc]
 rw [show Ybj (Yak 2 2)=(⟨#[49,48]⟩:ByteArray) from rfl,show Ybj (Yak 0 4)=(⟨#[48,48,48,48]⟩:ByteArray) from rfl,show Ybj (Yak 0 1)=(⟨#[48]⟩:ByteArray) from rfl] at EP
 have EI:Ybj (Yvq inter)=if inter=true then (⟨#[49]⟩:ByteArray) else ⟨#[48]⟩:=by cases inter <;> rfl
 have z0:(Ybj (Ybb 0)).size=22:=by rw [Ybl,Ya9]
 have z1:(Ybj (Yak ref.toNat 8)).size=8:=by rw [Ybl,Yag]
 have z2:(Ybj (Yak flags.toNat 3)).size=3:=by rw [Ybl,Yag]
 have z3:(Ybj (Yak fmt.toNat 3)).size=3:=by rw [Ybl,Yag]
 have z4:(Ybj (Yak quant.toNat 5)).size=5:=by rw [Ybl,Yag]
 have zi:(Ybj (Yvq inter)).size=1:=by rw [Ybl];exact Yag _ _
 generalize Ybj (Ybb 0)=S0 at c0 EP z0
 generalize Ybj (Yak ref.toNat 8)=S1 at c1 EP z1
 generalize Ybj (Yak flags.toNat 3)=S2 at c2 EP z2
 generalize Ybj (Yak fmt.toNat 3)=S3 at c3 EP z3
 generalize Ybj (Yak quant.toNat 5)=S4 at c4 EP z4
 obtain ⟨I,hI⟩:∃I,Ybj (Yvq inter)=I:=⟨_,rfl⟩
 rw [hI] at EP EI zi
 have hg:=Ym2 a
 have GD:=Lib.hid (fun j (hj:j≤gap a)=> (by
  unfold gap at hj ⊢
  rw [Bool.eq_iff_iff,bne_iff_ne,decide_eq_true_iff]
  omega:(((a:Int)+(j:Nat))%8 != 0)=decide (j<gap a)))
 have NX:=Lib.hid (fun j=> (by rw [show (⟨#[48]⟩:ByteArray)=Ybj [48] from rfl,Yd0,List.replicate_succ']:Ybj (List.replicate j 48)++(⟨#[48]⟩:ByteArray)=Ybj (List.replicate (j+1) 48)))
 have SZ:=Lib.hid (fun j=> (by rw [Ybl,List.length_replicate]:(Ybj (List.replicate j 48)).size=j))
 have R0:Hid ((⟨#[]⟩:ByteArray)=Ybj (List.replicate 0 48)):=Lib.hid rfl
 obtain ⟨R,hR⟩:∃R:Nat→ByteArray,(fun j=> Ybj (List.replicate j 48))=R:=⟨_,rfl⟩
 have eR:∀j,Ybj (List.replicate j 48)=R j:=fun j=> by rw [←hR]
 simp only [eR] at EP NX SZ R0
 clear eR hR hI
 have SF:Hid (∀j,j<supp.length→Ybj (PF++Ycq (supp.take j))++(⟨#[49]⟩:ByteArray)++Ybj (Yak (supp.getD j 0).toNat 8)=Ybj (PF++Ycq (supp.take (j+1)))):=Lib.hid fun j hj=> by
  rw [show (⟨#[49]⟩:ByteArray)=Ybj (Yak 1 1) from rfl,Yd0,Yd0,←Ylf hj]
  simp only [List.append_assoc]
 have SS:Hid (∀j,j≤supp.length→(Ybj (PF++Ycq (supp.take j))).size=gap a+49+9*j):=Lib.hid fun j hj=> by
  rw [Ybl,List.length_append,Yfh,List.length_take,hPFl];omega
 have S8:Hid (∀j,(Ybj (Yak (supp.getD j 0).toNat 8)).size=8):=Lib.hid fun j=> by rw [Ybl,Yag]
 have SA:Hid (Ybj PF=Ybj (PF++Ycq (supp.take 0))):=Lib.hid (by rw [List.take_zero];show _=Ybj (PF ++ []);rw [List.append_nil])
 have SE:Hid (Ybj (PF++Ycq (supp.take supp.length))++(⟨#[48]⟩:ByteArray)=Ybj FR):=Lib.hid (by
  rw [List.take_length,show (⟨#[48]⟩:ByteArray)=Ybj (Yak 0 1) from rfl,Yd0,←hFR2,List.append_assoc])
 have C8:=Lib.hid c8
 obtain ⟨V,hV⟩:∃V:Nat→ByteArray,(fun j=> Ybj (PF++Ycq (supp.take j)))=V:=⟨_,rfl⟩
 have eV:∀j,Ybj (PF++Ycq (supp.take j))=V j:=fun j=> by rw [←hV]
 simp only [eV] at SF SS SA SE
 rw [SA.out] at EP
 have EPH:=Lib.hid EP
 have EIH:=Lib.hid EI
 clear eV hV hPF hFR2 hPFl EP hFR hhs hrow hby hm c8 EI SA r1 r2 f1 f2 q1 q2 m1 m2
 generalize gap a=g at *
 obtain ⟨A,hA⟩:∃A,w.heap.size=A:=⟨_,rfl⟩
 obtain ⟨wA,hwA⟩:∃wA,w.alloc (.cells #[.int .i64 ref,.int .i64 flags,.int .i64 fmt,.bool inter,.int .i64 quant,.slice p supp.length cap,rw_,.int .i64 z] 25 (0,0))=wA:=⟨_,rfl⟩
 have hb0:Below w.heap.size w wA:=by rw [←hwA];exact (Below.refl _ w).alloc (Nat.le_refl _) _
 have hh:wA.heap[A]? = some (.cells [.int .i64 ref,.int .i64 flags,.int .i64 fmt,.bool inter,.int .i64 quant,.slice p supp.length cap,rw_,.int .i64 z].toArray 25 (0,0)):=by rw [←hwA,←hA];exact heap_alloc_new w _
 have hlA:A<wA.heap.size:=by rw [←hwA,←hA];simp
 have K0:Hid (∀x,Below wA.heap.size wA x→x.cell? ⟨A,0,none⟩=some (.int .i64 ref)):=Lib.hid fun x hx=> Yab ((hx.block A hlA).trans hh) rfl
 have K1:Hid (∀x,Below wA.heap.size wA x→x.cell? ⟨A,1,none⟩=some (.int .i64 flags)):=Lib.hid fun x hx=> Yab ((hx.block A hlA).trans hh) rfl
 have K2:Hid (∀x,Below wA.heap.size wA x→x.cell? ⟨A,2,none⟩=some (.int .i64 fmt)):=Lib.hid fun x hx=> Yab ((hx.block A hlA).trans hh) rfl
 have K4:Hid (∀x,Below wA.heap.size wA x→x.cell? ⟨A,4,none⟩=some (.int .i64 quant)):=Lib.hid fun x hx=> Yab ((hx.block A hlA).trans hh) rfl
 have K5:Hid (∀x,Below wA.heap.size wA x→x.cell? ⟨A,5,none⟩=some (.slice p supp.length cap)∧Ydd x p supp∧Below w.heap.size w x):=Lib.hid fun x hx=> ⟨Yab ((hx.block A hlA).trans hh) rfl,(hs.below hb0).below hx,hb0.trans (hx.mono hb0.size)⟩
 have k3:wA.cell? ⟨A,3,none⟩=some (.bool inter):=Yab hh rfl
 have C1:=Lib.hid (fun x (hx:Below wA.heap.size wA x)=> ((c1 x).mono fun e y h=> ⟨h.1,h.2▸hx⟩:Calls Tryz.prog 64 #[.int .i64 ref,.int .i64 8] x fun e y=> e = .returned (.string S1)∧Below wA.heap.size wA y))
 have C2:=Lib.hid (fun x (hx:Below wA.heap.size wA x)=> ((c2 x).mono fun e y h=> ⟨h.1,h.2▸hx⟩:Calls Tryz.prog 64 #[.int .i64 flags,.int .i64 3] x fun e y=> e = .returned (.string S2)∧Below wA.heap.size wA y))
 have C3:=Lib.hid (fun x (hx:Below wA.heap.size wA x)=> ((c3 x).mono fun e y h=> ⟨h.1,h.2▸hx⟩:Calls Tryz.prog 64 #[.int .i64 fmt,.int .i64 3] x fun e y=> e = .returned (.string S3)∧Below wA.heap.size wA y))
 have C4:=Lib.hid (fun x (hx:Below wA.heap.size wA x)=> ((c4 x).mono fun e y h=> ⟨h.1,h.2▸hx⟩:Calls Tryz.prog 64 #[.int .i64 quant,.int .i64 5] x fun e y=> e = .returned (.string S4)∧Below wA.heap.size wA y))
 have C0:=Lib.hid (fun x (hx:Below wA.heap.size wA x)=> ((c0 x).mono fun e y h=> ⟨h.1,h.2▸hx⟩:Calls Tryz.prog 63 #[.int .i64 0] x fun e y=> e = .returned (.string S0)∧Below wA.heap.size wA y))
 have HWA:=Lib.hid hwA
 have HA:=Lib.hid hA
 clear hwA hA hs hh hb0 hlA c0 c1 c2 c3 c4
 go_enter Tryz.func39,Tryz.ntmps39
 go_wp2
 rw [HWA.out,HA.out]
 go_loop [5] (fun v=>∃j:Nat,j≤g∧v = .string (R j)) (fun v=> g-(match v with | .string x=> x.size | _=> 0))
 case atStart=> exact ⟨0,Nat.zero_le _,by rw [R0.out]⟩
 case round=>
  obtain ⟨j,hj,rfl⟩:=hrel
  have hd:=GD.out j hj
  have hs:=SZ.out j
  have hn:=NX.out j
  have hs2:=SZ.out (j+1)
  by_cases hlt:j<g
  ·obtain ⟨Y,hY⟩:∃Y,R (j+1)=Y:=⟨_,rfl⟩
   rw [hY] at hn hs2
   have NY:=Lib.hid hn
   have NJ:=Lib.hid hY
   clear hn hY
   obtain ⟨X,hX⟩:∃X,R j=X:=⟨_,rfl⟩
   rw [hX] at hs NY ⊢
   have d0:(((a:Int)+(X.size:Int))%8 != 0)=true:=by rw [hs,hd];simpa using hlt
   have hx8:X.size≤8:=by omega
   have HY:=Lib.hid hX
   have SY:=Lib.hid hs2
   clear hd hX hs2
   go_wp2
   go_round
   case rel=> exact ⟨j+1,by omega,by rw [NY.out,NJ.out]⟩
   case measure=> rw [NY.out];have:=SY.out;simp only;omega
  ·obtain rfl:j=g:=by omega
   obtain ⟨X,hX⟩:∃X,R j=X:=⟨_,rfl⟩
   rw [hX] at hs ⊢
   have d0:(((a:Int)+(X.size:Int))%8 != 0)=false:=by rw [hs,hd];simp
   have hx8:X.size≤8:=by omega
   have HX:=Lib.hid hX
   clear hd hs hX hs2 hn
   go_upto_if 17 with fail
   go_cut [6] (fun v wz=> v = .string I∧wz=wA)
   case first=>
    have ei:=EIH.out
    clear EIH
    cases inter with
    | true=>
     rw [if_pos rfl] at ei
     subst ei
     go_wp2
     go_meet
     case rel=> exact ⟨rfl,by trivial⟩
    | false=>
     rw [if_neg (by decide)] at ei
     subst ei
     go_wp2
     go_meet
     case rel=> exact ⟨rfl,by trivial⟩
   case rest=>
    obtain ⟨rfl,hwc⟩:=hcut
    rw [hwc]
    clear hwc k3
    have si:I.size≤1:=by omega
    have s0:S0.size≤22:=by omega
    have s1:S1.size≤8:=by omega
    have s2:S2.size≤3:=by omega
    have s3:S3.size≤3:=by omega
    have s4:S4.size≤5:=by omega
    clear z0 z1 z2 z3 z4 zi
    go_wp2
    refine Yah (S:=fun x=> Below wA.heap.size wA x) 25 (by kernel_rfl) (by kernel_rfl) (Below.refl _ _).drew ?_
    simp only [List.take_succ_cons,List.take_zero,List.drop_succ_cons,List.drop_zero]
    refine Yaa (by kernel_rfl) (fun x _=> by go_simp;try with_reducible rfl) ?_;simp only [Act.put,List.setIfInBounds_toArray,List.set_cons_zero,List.set_cons_succ]
    refine Yaf (by kernel_rfl) C0.out (fun _=> by kernel_rfl) ?_;simp only [Act.put,List.setIfInBounds_toArray,List.set_cons_zero,List.set_cons_succ]
    refine Yaa (v:=.string (X++S0)) (by kernel_rfl) (fun x _=> by go_simp;first | omega | trivial) ?_;simp only [Act.put,List.setIfInBounds_toArray,List.set_cons_zero,List.set_cons_succ]
    refine Yaa (by kernel_rfl) (fun x _=> by go_simp;try with_reducible rfl) ?_;simp only [Act.put,List.setIfInBounds_toArray,List.set_cons_zero,List.set_cons_succ]
    refine Yae 3 _ ⟨A,0,none⟩ (.int .i64 ref) (by kernel_rfl) rfl rfl (fun x hx=> by have c0:=K0.out x hx;go_simp) ?_;simp only [Act.put,List.setIfInBounds_toArray,List.set_cons_zero,List.set_cons_succ]
    refine Yaf (by kernel_rfl) C1.out (fun _=> by kernel_rfl) ?_;simp only [Act.put,List.setIfInBounds_toArray,List.set_cons_zero,List.set_cons_succ]
    refine Yaa (v:=.string ((X++S0)++S1)) (by kernel_rfl) (fun x _=> by go_simp;first | omega | trivial) ?_;simp only [Act.put,List.setIfInBounds_toArray,List.set_cons_zero,List.set_cons_succ]
    refine Yaa (v:=.string (((X++S0)++S1)++⟨#[49,48]⟩)) (by kernel_rfl) (fun x _=> by go_simp;first | omega | trivial) ?_;simp only [Act.put,List.setIfInBounds_toArray,List.set_cons_zero,List.set_cons_succ]
    refine Yaa (by kernel_rfl) (fun x _=> by go_simp;try with_reducible rfl) ?_;simp only [Act.put,List.setIfInBounds_toArray,List.set_cons_zero,List.set_cons_succ]
    refine Yae 3 _ ⟨A,1,none⟩ (.int .i64 flags) (by kernel_rfl) rfl rfl (fun x hx=> by have c0:=K1.out x hx;go_simp) ?_;simp only [Act.put,List.setIfInBounds_toArray,List.set_cons_zero,List.set_cons_succ]
    refine Yaf (by kernel_rfl) C2.out (fun _=> by kernel_rfl) ?_;simp only [Act.put,List.setIfInBounds_toArray,List.set_cons_zero,List.set_cons_succ]
    refine Yaa (v:=.string ((((X++S0)++S1)++⟨#[49,48]⟩)++S2)) (by kernel_rfl) (fun x _=> by go_simp;first | omega | trivial) ?_;simp only [Act.put,List.setIfInBounds_toArray,List.set_cons_zero,List.set_cons_succ]
    refine Yaa (by kernel_rfl) (fun x _=> by go_simp;try with_reducible rfl) ?_;simp only [Act.put,List.setIfInBounds_toArray,List.set_cons_zero,List.set_cons_succ]
    refine Yae 3 _ ⟨A,2,none⟩ (.int .i64 fmt) (by kernel_rfl) rfl rfl (fun x hx=> by have c0:=K2.out x hx;go_simp) ?_;simp only [Act.put,List.setIfInBounds_toArray,List.set_cons_zero,List.set_cons_succ]
    refine Yaf (by kernel_rfl) C3.out (fun _=> by kernel_rfl) ?_;simp only [Act.put,List.setIfInBounds_toArray,List.set_cons_zero,List.set_cons_succ]
    refine Yaa (v:=.string (((((X++S0)++S1)++⟨#[49,48]⟩)++S2)++S3)) (by kernel_rfl) (fun x _=> by go_simp;first | omega | trivial) ?_;simp only [Act.put,List.setIfInBounds_toArray,List.set_cons_zero,List.set_cons_succ]
    refine Yaa (by kernel_rfl) (fun x _=> by go_simp;try with_reducible rfl) ?_;simp only [Act.put,List.setIfInBounds_toArray,List.set_cons_zero,List.set_cons_succ]
    refine Yaa (v:=.string ((((((X++S0)++S1)++⟨#[49,48]⟩)++S2)++S3)++I)) (by kernel_rfl) (fun x _=> by go_simp;first | omega | trivial) ?_;simp only [Act.put,List.setIfInBounds_toArray,List.set_cons_zero,List.set_cons_succ]
    refine Yaa (v:=.string (((((((X++S0)++S1)++⟨#[49,48]⟩)++S2)++S3)++I)++⟨#[48,48,48,48]⟩)) (by kernel_rfl) (fun x _=> by go_simp;first | omega | trivial) ?_;simp only [Act.put,List.setIfInBounds_toArray,List.set_cons_zero,List.set_cons_succ]
    refine Yaa (by kernel_rfl) (fun x _=> by go_simp;try with_reducible rfl) ?_;simp only [Act.put,List.setIfInBounds_toArray,List.set_cons_zero,List.set_cons_succ]
    refine Yae 3 _ ⟨A,4,none⟩ (.int .i64 quant) (by kernel_rfl) rfl rfl (fun x hx=> by have c0:=K4.out x hx;go_simp) ?_;simp only [Act.put,List.setIfInBounds_toArray,List.set_cons_zero,List.set_cons_succ]
    refine Yaf (by kernel_rfl) C4.out (fun _=> by kernel_rfl) ?_;simp only [Act.put,List.setIfInBounds_toArray,List.set_cons_zero,List.set_cons_succ]
    refine Yaa (v:=.string ((((((((X++S0)++S1)++⟨#[49,48]⟩)++S2)++S3)++I)++⟨#[48,48,48,48]⟩)++S4)) (by kernel_rfl) (fun x _=> by go_simp;first | omega | trivial) ?_;simp only [Act.put,List.setIfInBounds_toArray,List.set_cons_zero,List.set_cons_succ]
    refine Yaa (v:=.string (((((((((X++S0)++S1)++⟨#[49,48]⟩)++S2)++S3)++I)++⟨#[48,48,48,48]⟩)++S4)++⟨#[48]⟩)) (by kernel_rfl) (fun x _=> by go_simp;first | omega | trivial) ?_;simp only [Act.put,List.setIfInBounds_toArray,List.set_cons_zero,List.set_cons_succ]
    refine Yaa (by kernel_rfl) (fun x _=> by go_simp;try with_reducible rfl) ?_;simp only [Act.put,List.setIfInBounds_toArray,List.set_cons_zero,List.set_cons_succ]
    refine Yas fun x1 hx1=> ?_
    have EQ:=EPH.out
    rw [HX.out] at EQ
    rw [show (((((((((X++S0)++S1)++⟨#[49,48]⟩)++S2)++S3)++I)++⟨#[48,48,48,48]⟩)++S4)++⟨#[48]⟩)=V 0 from EQ]
    clear EQ EPH HX C0 C1 C2 C3 C4 K0 K1 K2 K4 si s0 s1 s2 s3 s4 hx8 d0 EIH
    obtain ⟨k5,hil,hbl⟩:=K5.out _ hx1
    go_wp2
    go_loop [5,7] (fun v i=>∃j:Nat,j≤supp.length∧v = .string (V j)∧i = .int .i64 j) (fun _ i=> supp.length-(intOf i).toNat)
    case atStart=> exact ⟨0,Nat.zero_le _,rfl,rfl⟩
    case round=>
     obtain ⟨i,hi,rfl,rfl⟩:=hrel
     have hsz:=SS.out i hi
     by_cases hli:i<supp.length
     ·have t1:decide ((i:Int)<(supp.length:Int))=true:=by simp;omega
      obtain ⟨b1,o1,rfl,hb1,hc1⟩:=hil.hold (by omega)
      have k0:=hc1 _ (Below.refl _ _) i hli
      have cc:=C8.out i hli
      have sf:=SF.out i hli
      have s8:=S8.out i
      clear hc1 C8 SF S8 SS SE hil
      generalize Ybj (Yak (supp.getD i 0).toNat 8)=T at cc sf s8
      generalize supp.getD i 0=x at cc k0
      obtain ⟨VN,hVN⟩:∃N,V (i+1)=N:=⟨_,rfl⟩
      rw [hVN] at sf
      have HSF:=Lib.hid sf
      have HVN:=Lib.hid hVN
      clear sf hVN
      generalize V i=VI at *
      have u1:VI.size≤200:=by omega
      have u2:T.size≤8:=by omega
      go_wp2_with fail
      refine (cc _).mono ?_
      rintro e y1 ⟨rfl,rfl⟩
      go_wp2
      go_round
      case rel=> exact ⟨i+1,by omega,by rw [HSF.out,HVN.out],by go_num⟩
      case measure=> simp [intOf];omega
     ·obtain rfl:supp.length=i:=by omega
      have t1:decide ((supp.length:Int)<(supp.length:Int))=false:=by simp
      have HSE:=Lib.hid SE.out
      clear C8 SF S8 SS SE hil
      generalize V supp.length=VI at *
      have u1:VI.size≤200:=by omega
      go_wp2
      go_ret
      rw [HSE.out]
      exact ⟨rfl,hbl⟩
end Go.Proofs.YtgikochfffdpfaaGreatDoor
namespace Go.Proofs.YtgikochfffdpfaaGreatDoor
open Go.RowKit Go.Lib Go.ChangeShapes Go.WideShapes Go.ChangeAt
def Ybt {α:Type} (c:Nat) (V:World→α→List Value→Prop) (w:World) (q:Option Addr) (l:List α):Prop:=
 l = []∨∃b o,q=some ⟨b,o,none⟩∧b<w.heap.size∧∀i,(h:i<l.length)→∃vs,V w l[i] vs∧∀(j:Nat) v,vs[j]? = some v→w.cell? ⟨b,o+i*c+j,none⟩=some v
theorem Ybt.below {α:Type} {c:Nat} {V:World→α→List Value→Prop} {w x:World} {q:Option Addr} {l:List α} (h:Ybt c V w q l) (hV:∀a vs,V w a vs→V x a vs) (hb:Below w.heap.size w x):Ybt c V x q l:=by
 rcases h with h | ⟨b,o,rfl,hl,h⟩
 ·exact .inl h
 ·refine .inr ⟨b,o,rfl,Nat.lt_of_lt_of_le hl hb.size,fun i hi=> ?_⟩
  obtain ⟨vs,h1,h2⟩:=h i hi
  exact ⟨vs,hV _ _ h1,fun j v hj=> (World.cell?_of_block (a:=⟨b,o+i*c+j,none⟩) (hb.block b hl)).trans (h2 j v hj)⟩
theorem Yns {α:Type} [Inhabited α] {c:Nat} {V:World→α→List Value→Prop} {w:World} {q:Option Addr} {n:Nat} (h:Ys5 w (fun vs=>∃a,V w a vs) c q n):∃l:List α,l.length=n∧Ybt c V w q l:=by
 rcases h with rfl | ⟨b,o,rfl,hl,h⟩
 ·exact ⟨[],rfl,.inl rfl⟩
 ·have each:∀i,∃a:α,i<n→∃vs,V w a vs∧∀(j:Nat) v,vs[j]? = some v→w.cell? ⟨b,o+i*c+j,none⟩=some v:=by
   intro i
   by_cases hi:i<n
   ·obtain ⟨vs,_,⟨a,ha⟩,hv⟩:=h i hi
    exact ⟨a,fun _=> ⟨vs,ha,hv⟩⟩
   ·exact ⟨default,fun h=> absurd h hi⟩
  refine ⟨(List.range n).map fun i=> (each i).choose,by simp,.inr ⟨b,o,rfl,hl,fun i hi=> ?_⟩⟩
  have hi':i<n:=by simpa using hi
  have e:((List.range n).map fun i=> (each i).choose)[i]=(each i).choose:=by simp
  rw [e]
  exact (each i).choose_spec hi'
instance:Inhabited Cel:=⟨Yyw⟩
def Ylk (w:World) (c:Cel) (vs:List Value):Prop:=
 ∃(p:Nat→Option Addr) (cap:Nat→Nat),vs=Ycs c (fun i=> .slice (p i) (c.ev i).length (cap i))∧((Lit.int .i64 c.mx).wf=true∧(Lit.int .i64 c.my).wf=true)∧∀i,i<6→(c.ev i).length≤maxLen∧Yd2 w (p i) (c.ev i)
theorem Ylk.below {w x:World} (hb:Below w.heap.size w x) (c:Cel) (vs:List Value) (h:Ylk w c vs):Ylk x c vs:=by
 obtain ⟨p,cap,h1,h2,h3⟩:=h
 exact ⟨p,cap,h1,h2,fun i hi=> ⟨(h3 i hi).1,(h3 i hi).2.below hb⟩⟩
def Ygr:World→Option Addr→List Cel→Prop:=Ybt 18 Ylk
theorem Ygr.below {w x:World} {q:Option Addr} {l:List Cel} (h:Ygr w q l) (hb:Below w.heap.size w x):Ygr x q l:=Ybt.below h (Ylk.below hb) hb
structure RowP where
 head:Bool
 id:Int
 quant:Int
 cels:List Cel
instance:Inhabited RowP:=⟨⟨false,0,0,[]⟩⟩
def Yxe (w:World) (r:RowP) (vs:List Value):Prop:=
 ∃(q:Option Addr) (cap:Nat),vs = [.bool r.head,.int .i64 r.id,.int .i64 r.quant,.slice q r.cels.length cap]∧(q=none→cap=0)∧r.cels.length≤maxLen∧Ygr w q r.cels
theorem Yxe.below {w x:World} (hb:Below w.heap.size w x) (r:RowP) (vs:List Value) (h:Yxe w r vs):Yxe x r vs:=by
 obtain ⟨q,cap,h1,h0,h2,h3⟩:=h
 exact ⟨q,cap,h1,h0,h2,h3.below hb⟩
def Ydl:World→Option Addr→List RowP→Prop:=Ybt 4 Yxe
theorem Ydl.below {w x:World} {q:Option Addr} {l:List RowP} (h:Ydl w q l) (hb:Below w.heap.size w x):Ydl x q l:=Ybt.below h (Yxe.below hb) hb
structure ShP where
 hd:Shd
 rows:List RowP
 zeros:Int
def ShV (w:World) (S:ShP) (vs:List Value):Prop:=
 ∃(a b:Option Addr) (ca cb:Nat),vs=Ya3 S.hd (.slice a S.hd.supp.length ca) (.slice b S.rows.length cb) S.zeros∧S.hd.supp.length≤maxLen∧S.rows.length≤maxLen∧Ydd w a S.hd.supp∧Ydl w b S.rows
section
variable {H:Type} {enc:TypeId×Value→H} {P:Program}
theorem Ysm {w:World} {base fuel:Nat} {sp:Nat→Bool} {held:Bool} {t e:TypeId} {n cap:Nat} {x:DataW H×List MemPlace} (ht:P.underlying t=some (.slice e)) (hf:DataW.trod enc P w base sp held fuel t [.slice none n cap]=some x):cap=0:=by
 rcases Go.Deep.open_slice ht hf with ⟨h1,_⟩ | ⟨a',len',cap',m,n',D,Pl,h1,_⟩
 ·injection h1 with h1
  injection h1
 ·injection h1 with h1
  injection h1 with h1
  cases h1
theorem Yxw {w:World} {base:Nat} {sp:Nat→Bool} {held:Bool} {t tb ti t2 t6 te6 ts te:TypeId} {f0 f1 f2 f3 f4 f5 f6:Field}
  (ht:P.underlying t=some (.struct #[f0,f1,f2,f3,f4,f5,f6])) (hb:P.underlying tb=some .bool) (hi:P.underlying ti=some (.int .i64)) (h2:P.underlying t2=some (.array 2 ti)) (h6:P.underlying t6=some (.array 6 ti)) (he6:P.underlying te6=some (.array 6 ts)) (hs:P.underlying ts=some (.slice te))
  (e:f0.type=ti∧f1.type=tb∧f2.type=ti∧f3.type=ti∧f4.type=t2∧f5.type=t6∧f6.type=te6) (o:f0.offset=0∧f1.offset=1∧f2.offset=2∧f3.offset=3∧f4.offset=4∧f5.offset=6∧f6.offset=12)
  (cb:P.cellsOf tb=1) (ci:P.cellsOf ti=1) (cs:P.cellsOf ts=1) (c2:P.cellsOf t2=2) (c6:P.cellsOf t6=6) (ce6:P.cellsOf te6=6) (ce:P.cellsOf te=3) (hq:∀k vs y,vs.length=3→DataW.trod enc P w base sp held k te vs=some y→Yei vs):
  ∀k (vs:List Value) y,vs.length=18→DataW.trod enc P w base sp held k t vs=some y→∃c,Ylk w c vs:=by
 intro k vs y hlen h
 obtain ⟨xs,m,hk,hxy,_,hxl,hfs⟩:=DataW.trod_struct ht h
 match vs,hlen,xs,hxl with
 | [u0,u1,u2,u3,u4,u5,u6,u7,u8,u9,u10,u11,u12,u13,u14,u15,u16,u17],_,[y0,y1,y2,y3,y4,y5,y6],_=>
  have g0:=hfs 0 f0 rfl
  have g1:=hfs 1 f1 rfl
  have g2:=hfs 2 f2 rfl
  have g3:=hfs 3 f3 rfl
  have g4:=hfs 4 f4 rfl
  have g5:=hfs 5 f5 rfl
  have g6:=hfs 6 f6 rfl
  rw [e.1,o.1,ci] at g0
  rw [e.2.1,o.2.1,cb] at g1
  rw [e.2.2.1,o.2.2.1,ci] at g2
  rw [e.2.2.2.1,o.2.2.2.1,ci] at g3
  rw [e.2.2.2.2.1,o.2.2.2.2.1,c2] at g4
  rw [e.2.2.2.2.2.1,o.2.2.2.2.2.1,c6] at g5
  rw [e.2.2.2.2.2.2,o.2.2.2.2.2.2,ce6] at g6
  obtain ⟨x0,rfl,_⟩:=Yda hi (show DataW.trod _ P w base sp held m ti [u0]=some y0 from g0)
  obtain ⟨x1,q1,_⟩:=DataW.trod_bool hb (show DataW.trod _ P w base sp held m tb [u1]=some y1 from g1)
  injection q1 with q1
  subst q1
  obtain ⟨x2,rfl,_⟩:=Yda hi (show DataW.trod _ P w base sp held m ti [u2]=some y2 from g2)
  obtain ⟨x3,rfl,_⟩:=Yda hi (show DataW.trod _ P w base sp held m ti [u3]=some y3 from g3)
  obtain ⟨x4,x5,rfl,rfl,w4,w5⟩:=Yo4 h2 hi ci (show DataW.trod _ P w base sp held m t2 [u4,u5]=some y4 from g4)
  obtain ⟨m',z0,z1,z2,z3,z4,z5,a0,a1,a2,a3,a4,a5⟩:=Yjd h6 ci (show DataW.trod _ P w base sp held m t6 [u6,u7,u8,u9,u10,u11]=some y5 from g5)
  obtain ⟨d0,rfl,_⟩:=Yda hi a0
  obtain ⟨d1,rfl,_⟩:=Yda hi a1
  obtain ⟨d2,rfl,_⟩:=Yda hi a2
  obtain ⟨d3,rfl,_⟩:=Yda hi a3
  obtain ⟨d4,rfl,_⟩:=Yda hi a4
  obtain ⟨d5,rfl,_⟩:=Yda hi a5
  obtain ⟨m'',z0',z1',z2',z3',z4',z5',b0,b1,b2,b3,b4,b5⟩:=Yjd he6 cs (show DataW.trod _ P w base sp held m te6 [u12,u13,u14,u15,u16,u17]=some y6 from g6)
  obtain ⟨p0,n0,k0,rfl,l0,r0⟩:=Yc5 3 Yei hs ce (by decide) hq b0
  obtain ⟨p1,n1,k1,rfl,l1,r1⟩:=Yc5 3 Yei hs ce (by decide) hq b1
  obtain ⟨p2,n2,k2,rfl,l2,r2⟩:=Yc5 3 Yei hs ce (by decide) hq b2
  obtain ⟨p3,n3,k3,rfl,l3,r3⟩:=Yc5 3 Yei hs ce (by decide) hq b3
  obtain ⟨p4,n4,k4,rfl,l4,r4⟩:=Yc5 3 Yei hs ce (by decide) hq b4
  obtain ⟨p5,n5,k5,rfl,l5,r5⟩:=Yc5 3 Yei hs ce (by decide) hq b5
  obtain ⟨v0,rfl,s0,_⟩:=Yfq r0
  obtain ⟨v1,rfl,s1,_⟩:=Yfq r1
  obtain ⟨v2,rfl,s2,_⟩:=Yfq r2
  obtain ⟨v3,rfl,s3,_⟩:=Yfq r3
  obtain ⟨v4,rfl,s4,_⟩:=Yfq r4
  obtain ⟨v5,rfl,s5,_⟩:=Yfq r5
  refine ⟨⟨x0,x1,x2,x3,x4,x5,six d0 d1 d2 d3 d4 d5,six v0 v1 v2 v3 v4 v5⟩,six p0 p1 p2 p3 p4 p5,six k0 k1 k2 k3 k4 k5,rfl,⟨w4,w5⟩,fun i hi=> ?_⟩
  match i,hi with
  | 0,_=> exact ⟨l0,s0⟩
  | 1,_=> exact ⟨l1,s1⟩
  | 2,_=> exact ⟨l2,s2⟩
  | 3,_=> exact ⟨l3,s3⟩
  | 4,_=> exact ⟨l4,s4⟩
  | 5,_=> exact ⟨l5,s5⟩
theorem Yyh {w:World} {base:Nat} {sp:Nat→Bool} {held:Bool} {t tb ti ts te:TypeId} {f0 f1 f2 f3:Field}
  (ht:P.underlying t=some (.struct #[f0,f1,f2,f3])) (hb:P.underlying tb=some .bool) (hi:P.underlying ti=some (.int .i64)) (hs:P.underlying ts=some (.slice te))
  (e:f0.type=tb∧f1.type=ti∧f2.type=ti∧f3.type=ts) (o:f0.offset=0∧f1.offset=1∧f2.offset=2∧f3.offset=3)
  (cb:P.cellsOf tb=1) (ci:P.cellsOf ti=1) (cs:P.cellsOf ts=1) (ce:P.cellsOf te=18) (hq:∀k vs y,vs.length=18→DataW.trod enc P w base sp held k te vs=some y→∃c,Ylk w c vs):
  ∀k (vs:List Value) y,vs.length=4→DataW.trod enc P w base sp held k t vs=some y→∃r,Yxe w r vs:=by
 intro k vs y hlen h
 obtain ⟨xs,m,hk,hxy,_,hxl,hfs⟩:=DataW.trod_struct ht h
 match vs,hlen,xs,hxl with
 | [u0,u1,u2,u3],_,[y0,y1,y2,y3],_=>
  have g0:=hfs 0 f0 rfl
  have g1:=hfs 1 f1 rfl
  have g2:=hfs 2 f2 rfl
  have g3:=hfs 3 f3 rfl
  rw [e.1,o.1,cb] at g0
  rw [e.2.1,o.2.1,ci] at g1
  rw [e.2.2.1,o.2.2.1,ci] at g2
  rw [e.2.2.2,o.2.2.2,cs] at g3
  obtain ⟨x0,q0,_⟩:=DataW.trod_bool hb (show DataW.trod _ P w base sp held m tb [u0]=some y0 from g0)
  injection q0 with q0
  subst q0
  obtain ⟨x1,rfl,_⟩:=Yda hi (show DataW.trod _ P w base sp held m ti [u1]=some y1 from g1)
  obtain ⟨x2,rfl,_⟩:=Yda hi (show DataW.trod _ P w base sp held m ti [u2]=some y2 from g2)
  obtain ⟨p,n,cap,rfl,hl,hr⟩:=Yc5 18 (fun vs=>∃c,Ylk w c vs) hs ce (by decide) hq (show DataW.trod _ P w base sp held m ts [u3]=some y3 from g3)
  have hcap:p=none→cap=0:=fun e=> by subst e;exact Ysm hs (show DataW.trod _ P w base sp held m ts [.slice none n cap]=some y3 from g3)
  obtain ⟨L,rfl,hL⟩:=Yns hr
  exact ⟨⟨x0,x1,x2,L⟩,p,cap,rfl,hcap,hl,hL⟩
theorem Yrz {w:World} {r:Reach} {b0 base:Nat} {sp:Nat→Bool} {held:Bool} {t ti tb ts tr te:TypeId} {f0 f1 f2 f3 f4 f5 f6 f7:Field} {v:Value} {d:DataW H} {ps:List MemPlace}
  (ht:P.underlying t=some (.struct #[f0,f1,f2,f3,f4,f5,f6,f7])) (hi:P.underlying ti=some (.int .i64)) (hb:P.underlying tb=some .bool) (hs:P.underlying ts=some (.slice ti)) (hr:P.underlying tr=some (.slice te))
  (e:f0.type=ti∧f1.type=ti∧f2.type=ti∧f3.type=tb∧f4.type=ti∧f5.type=ts∧f6.type=tr∧f7.type=ti) (o:f0.offset=0∧f1.offset=1∧f2.offset=2∧f3.offset=3∧f4.offset=4∧f5.offset=5∧f6.offset=6∧f7.offset=7)
  (ci:P.cellsOf ti=1) (cb:P.cellsOf tb=1) (cs:P.cellsOf ts=1) (cr:P.cellsOf tr=1) (ce:P.cellsOf te=4) (hc:P.cellsOf t=8) (hq:∀k vs y,vs.length=4→DataW.trod enc P w base sp held k te vs=some y→∃r,Yxe w r vs)
  (hval:Value.okWide P w r b0 t v) (hd:DataW.Trod enc P w base sp held t v d ps):
  ∃(S:ShP) (vs:List Value),v = .agg vs.toArray∧ShV w S vs:=by
 obtain ⟨cs',rfl,hsz,_⟩:∃cs,v = .agg cs∧cs.size=P.cellsOf t∧Row.okWide P w r b0 t cs:=by
  simpa [Value.okWide,ht] using hval
 rw [hc] at hsz
 obtain ⟨fuel,hf⟩:=hd
 obtain ⟨xs,k,hk,hxy,_,hxl,hfs⟩:=DataW.trod_struct ht hf
 obtain ⟨l⟩:=cs'
 match l,hsz,xs,hxl with
 | [u0,u1,u2,u3,u4,u5,u6,u7],_,[y0,y1,y2,y3,y4,y5,y6,y7],_=>
  have g0:=hfs 0 f0 rfl
  have g1:=hfs 1 f1 rfl
  have g2:=hfs 2 f2 rfl
  have g3:=hfs 3 f3 rfl
  have g4:=hfs 4 f4 rfl
  have g5:=hfs 5 f5 rfl
  have g6:=hfs 6 f6 rfl
  have g7:=hfs 7 f7 rfl
  rw [e.1,o.1,ci] at g0
  rw [e.2.1,o.2.1,ci] at g1
  rw [e.2.2.1,o.2.2.1,ci] at g2
  rw [e.2.2.2.1,o.2.2.2.1,cb] at g3
  rw [e.2.2.2.2.1,o.2.2.2.2.1,ci] at g4
  rw [e.2.2.2.2.2.1,o.2.2.2.2.2.1,cs] at g5
  rw [e.2.2.2.2.2.2.1,o.2.2.2.2.2.2.1,cr] at g6
  rw [e.2.2.2.2.2.2.2,o.2.2.2.2.2.2.2,ci] at g7
  obtain ⟨x0,rfl,_⟩:=Yda hi (show DataW.trod _ P w base sp held k ti [u0]=some y0 from g0)
  obtain ⟨x1,rfl,_⟩:=Yda hi (show DataW.trod _ P w base sp held k ti [u1]=some y1 from g1)
  obtain ⟨x2,rfl,_⟩:=Yda hi (show DataW.trod _ P w base sp held k ti [u2]=some y2 from g2)
  obtain ⟨x3,q3,_⟩:=DataW.trod_bool hb (show DataW.trod _ P w base sp held k tb [u3]=some y3 from g3)
  injection q3 with q3
  subst q3
  obtain ⟨x4,rfl,_⟩:=Yda hi (show DataW.trod _ P w base sp held k ti [u4]=some y4 from g4)
  obtain ⟨p,len,cap,f,rfl,hl,hin⟩:=Yt2 hs hi ci (show DataW.trod _ P w base sp held k ts [u5]=some y5 from g5)
  obtain ⟨q,n,cap',rfl,hn,hrw⟩:=Yc5 4 (fun vs=>∃r,Yxe w r vs) hr ce (by decide) hq (show DataW.trod _ P w base sp held k tr [u6]=some y6 from g6)
  obtain ⟨x7,rfl,_⟩:=Yda hi (show DataW.trod _ P w base sp held k ti [u7]=some y7 from g7)
  obtain ⟨L,rfl,hL⟩:=Yt3 hin
  obtain ⟨M,rfl,hM⟩:=Yns hrw
  exact ⟨⟨⟨x0,x1,x2,x3,x4,L⟩,M,x7⟩,_,rfl,p,q,cap,cap',rfl,hl,hn,hL,hM⟩
end
end Go.Proofs.YtgikochfffdpfaaGreatDoor