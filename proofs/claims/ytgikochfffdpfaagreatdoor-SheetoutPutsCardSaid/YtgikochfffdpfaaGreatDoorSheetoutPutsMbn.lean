/- Texts that SheetoutPuts's proof stands on, part 40 of 47. No condition of its own. -/
import Derived.Test.YtgikochfffdpfaaGreatDoorSheetoutPutsMw
import Derived.Test.YtgikochfffdpfaaGreatDoorSheetoutPutsMbb
import Derived.Test.YtgikochfffdpfaaGreatDoorSheetoutPutsMbf
import Derived.Test.YtgikochfffdpfaaGreatDoorSheetoutPutsMbm
namespace Go.Proofs.YtgikochfffdpfaaGreatDoor
open Go.RowKit Go.Lib
theorem Yxd {c:Cel}:Yfz c=true↔(c.kind=0∧c.step=0∧c.mx=0∧c.my=0)∧∀i,i<6→c.dc i=0∧(c.ev i).length=0:=by
 unfold Yfz
 simp only [Bool.and_eq_true,beq_iff_eq,List.all_eq_true,List.mem_range,decide_eq_true_eq]
 constructor
 ·rintro ⟨⟨⟨h1,h2⟩,h3,h4⟩,h5,h6⟩
  exact ⟨⟨h1,h2,h3,h4⟩,fun i hi=> ⟨h5 i hi,h6 i hi⟩⟩
 ·rintro ⟨⟨h1,h2,h3,h4⟩,h5⟩
  exact ⟨⟨⟨h1,h2⟩,h3,h4⟩,fun i hi=> (h5 i hi).1,fun i hi=> (h5 i hi).2⟩
set_option maxRecDepth 100000 in
set_option maxHeartbeats 1000000 in
theorem Yvp (c:Cel) (p:Nat→Option Addr) (n k:Nat→Nat) (w:World) (hc:Yfu w c p n):Calls Tryz.prog 93 #[.agg (Ycs c fun i=> .slice (p i) (n i) (k i)).toArray] w fun e w'=> e = .returned (.bool (Yfz c))∧Below w.heap.size w w':=by
 obtain ⟨A,hA,f0,f1,f2,f3,f4,f5,⟨f6,f7,f8,f9,f10,f11⟩,f12,f13,f14,f15,f16,f17⟩:=Ycg c fun i=> .slice (p i) (n i) (k i)
 obtain ⟨R,w0,hR,hw0,hz0,hb0,HSZ,hbx⟩:=Ydo w hA
 have hbx0:=(hbx w0 (Below.refl _ _)).2
 obtain ⟨-,-,c2,c3,c4,c5⟩:=Yaz hbx0
 have DC:=Lib.hid (fun i (hi:i<6)=> Yab (o:=6+i) hbx0 (Ydn c _ i hi))
 have EV:=Lib.hid (fun i (hi:i<6)=> Yab (o:=12+i) hbx0 (Yd4 c (fun i=> .slice (p i) (n i) (k i)) i hi))
 have NL:=Lib.hid (fun i hi=> (hc i hi).1)
 have ZI:=Lib.hid (Yxd (c:=c))
 rw [hA]
 have HW:=Lib.hid hw0
 have HR:=Lib.hid hR
 clear hA hw0 hR hbx hbx0 hc f0 f1 f2 f3 f4 f5 f6 f7 f8 f9 f10 f11 f12 f13 f14 f15 f16 f17
 go_enter Tryz.func93,Tryz.ntmps93
 go_wp2
 rw [HW.out,HR.out]
 go_loopw [3] (fun z wr=>∃i:Nat,i≤6∧z = .int .i64 i∧wr=w0∧Hid (∀j,j<i→c.dc j=0∧(c.ev j).length=0)) (fun z _=> 6-(RowKit.intOf z).toNat)
 case atStart=> exact ⟨0,by omega,rfl,rfl,Lib.hid fun j h=> absurd h (Nat.not_lt_zero j)⟩
 case round=>
  obtain ⟨i,hi6,rfl,rfl,zs⟩:=hrel
  by_cases hlt:i<6
  ·have t0:decide ((i:Int)<6)=true:=by simp;omega
   have e0:=EV.out i hlt
   have d0:=DC.out i hlt
   have nl:=NL.out i hlt
   by_cases hn:0<n i
   ·have t1:decide (0<n i)=true:=decide_eq_true hn
    have t2:decide (0<(n i:Int))=true:=decide_eq_true (by omega)
    have Z:Hid (Yfz c=false):=Lib.hid (Bool.eq_false_iff.2 fun h=> by have h2:=((ZI.out.1 h).2 i hlt).2;omega)
    clear hn nl
    go_wp2
    go_ret
    exact ⟨Yad Z.out.symm,by rw [HR.out];exact hb0⟩
   ·have t1:decide (0<n i)=false:=decide_eq_false hn
    have t2:decide (0<(n i:Int))=false:=decide_eq_false (by omega)
    by_cases hd:c.dc i=0
    ·have t3:(c.dc i != 0)=false:=by simpa using hd
     have ZN:=Lib.hid (⟨hd,by omega⟩:c.dc i=0∧(c.ev i).length=0)
     clear hn nl hd
     go_wp2
     go_roundw
     case rel=> exact ⟨i+1,by omega,by go_num,by trivial,Lib.hid fun j hj=> (Nat.lt_succ_iff_lt_or_eq.1 hj).elim (zs.out j) fun h=> h▸ZN.out⟩
     case measure=> simp [RowKit.intOf];omega
    ·have t3:(c.dc i != 0)=true:=by simpa using hd
     have Z:Hid (Yfz c=false):=Lib.hid (Bool.eq_false_iff.2 fun h=> hd ((ZI.out.1 h).2 i hlt).1)
     clear hn nl hd
     go_wp2
     go_ret
     exact ⟨Yad Z.out.symm,by rw [HR.out];exact hb0⟩
  ·obtain rfl:i=6:=by omega
   cases t1:(c.kind==0) with
   | false=>
    go_wp2
    go_ret
    exact ⟨Yad (Bool.eq_false_iff.2 fun h=> by have h2:=(ZI.out.1 h).1;rw [beq_eq_false_iff_ne] at t1;exact t1 h2.1).symm,by rw [HR.out];exact hb0⟩
   | true=>
    cases t2:(c.step==0) with
    | false=>
     go_wp2
     go_ret
     exact ⟨Yad (Bool.eq_false_iff.2 fun h=> by have h2:=(ZI.out.1 h).1;rw [beq_eq_false_iff_ne] at t2;exact t2 h2.2.1).symm,by rw [HR.out];exact hb0⟩
    | true=>
     cases t3:(c.mx==0) with
     | false=>
      go_wp2
      go_ret
      exact ⟨Yad (Bool.eq_false_iff.2 fun h=> by have h2:=(ZI.out.1 h).1;rw [beq_eq_false_iff_ne] at t3;exact t3 h2.2.2.1).symm,by rw [HR.out];exact hb0⟩
     | true=>
      cases t4:(c.my==0) with
      | false=>
       go_wp2
       go_ret
       exact ⟨Yad (Bool.eq_false_iff.2 fun h=> by have h2:=(ZI.out.1 h).1;rw [beq_eq_false_iff_ne] at t4;exact t4 h2.2.2.2).symm,by rw [HR.out];exact hb0⟩
      | true=>
       go_wp2
       go_ret
       exact ⟨Yad (ZI.out.2 ⟨⟨by simpa using t1,by simpa using t2,by simpa using t3,by simpa using t4⟩,zs.out⟩).symm,by rw [HR.out];exact hb0⟩
def Yaw (k m:Int):Bool:=if Yaj k then m==0 else m==Ya5 m
theorem Yxc (k mx my:Int):Ykg k mx my=(Yaw k mx&&Yaw k my):=by
 unfold Ykg Yaw
 split <;> rfl
set_option maxRecDepth 100000 in
set_option maxHeartbeats 2000000 in
theorem Yo9 (inter:Bool) (c:Cel) (p:Nat→Option Addr) (n k:Nat→Nat) (w:World) (hc:Yfu w c p n):Calls Tryz.prog 61 #[.bool inter,.agg (Ycs c fun i=> .slice (p i) (n i) (k i)).toArray] w fun e w'=> e = .returned (.bool (Ya7 inter c))∧Below w.heap.size w w':=by
 have hze:=fun x (hx:Below w.heap.size w x)=> Yvp c p n k x (hc.below hx)
 have hst:=fun x=> Yn3 c.step x
 have hin:=fun x=> Ygl c.kind x
 have hma:=fun i (hi:i<6) x (hx:Below w.heap.size w x)=> Ytb (Yaj c.kind) (c.dc i) (p i) (c.ev i) (k i) x ((hc i hi).2.2.below hx) (by have:=(hc i hi).1;have:=(hc i hi).2.1;omega)
 have NL:=Lib.hid (fun i hi=> (hc i hi).1)
 obtain ⟨A,hA,f0,f1,f2,f3,f4,f5,-,-⟩:=Ycg c fun i=> .slice (p i) (n i) (k i)
 obtain ⟨R,w0,hR,hw0,hz0,hb0,HSZ,hbx⟩:=Ydo w hA
 simp only [hA] at hze
 rw [hR] at hze hma
 rw [hA]
 have HW:=Lib.hid hw0
 have HR:=Lib.hid hR
 have HBX:=Lib.hid hbx
 have HZE:=Lib.hid hze
 have HMA:=Lib.hid hma
 have ZC:Hid (Ya7 inter c=((decide (0≤c.stuff)&&decide (c.stuff≤64))&&(if c.skip then inter&&Yfz c else (Yey inter c.kind&&Yfg c.kind c.step)&&(Yaw c.kind c.mx&&Yaw c.kind c.my&&Ydx c)))):=Lib.hid (by rw [←Yxc];rfl)
 have BO:=Lib.hid (Ye2 (c:=c))
 clear hA hw0 hR hbx hze hma hc
 generalize Ya7 inter c=z at *
 by_cases h0:c.stuff<0
 ·have t0:decide (c.stuff<0)=true:=decide_eq_true h0
  have Z:=Lib.hid (show z=false by rw [ZC.out,decide_eq_false (by omega:¬ 0≤c.stuff)];rfl)
  clear h0 ZC
  go_enter Tryz.func61,Tryz.ntmps61
  go_wp2
  go_ret
  exact ⟨Yad Z.out.symm,by rw [HW.out,HR.out];exact hb0⟩
 by_cases h1:64<c.stuff
 ·have t0:decide (c.stuff<0)=false:=decide_eq_false h0
  have t1:decide (64<c.stuff)=true:=decide_eq_true h1
  have Z:=Lib.hid (show z=false by rw [ZC.out,decide_eq_false (by omega:¬ c.stuff≤64),Bool.and_false];rfl)
  clear h0 h1 ZC
  go_enter Tryz.func61,Tryz.ntmps61
  go_wp2
  go_ret
  exact ⟨Yad Z.out.symm,by rw [HW.out,HR.out];exact hb0⟩
 have t0:decide (c.stuff<0)=false:=decide_eq_false h0
 have t1:decide (64<c.stuff)=false:=decide_eq_false h1
 rw [decide_eq_true (by omega:0≤c.stuff),decide_eq_true (by omega:c.stuff≤64)] at ZC
 clear h0 h1
 cases hsk:c.skip with
 | true=>
  rw [hsk] at ZC f1
  cases inter with
  | false=>
   have Z:=Lib.hid (show z=false by rw [ZC.out];rfl)
   go_enter Tryz.func61,Tryz.ntmps61
   go_wp2
   go_ret
   exact ⟨Yad Z.out.symm,by rw [HW.out,HR.out];exact hb0⟩
  | true=>
   have Z:=Lib.hid (show z=Yfz c by rw [ZC.out];rfl)
   go_enter Tryz.func61,Tryz.ntmps61
   go_wp2_with (with_reducible refine Yav (by kernel_rfl) 56 _ rfl w.heap.size rfl 56 A (0,0) _ (heap_alloc_new w _) Tryz.underlying56 rfl HSZ ?_)
   rw [HW.out,HR.out]
   refine (HZE.out _ hb0).mono ?_
   rintro e w1 ⟨rfl,hb1⟩
   have hb2:=hb0.trans (hb1.mono (by omega))
   go_wp2
   go_ret
   exact ⟨Yad Z.out.symm,by rw [HR.out];exact hb2⟩
 | false=>
  rw [hsk] at ZC f1
  have ZZ:=Lib.hid (show z=((Yey inter c.kind&&Yfg c.kind c.step)&&(Yaw c.kind c.mx&&Yaw c.kind c.my&&Ydx c)) by rw [ZC.out];rfl)
  clear ZC
  generalize hck:c.kind=kd at *
  have HK:=Lib.hid hck
  clear hck
  have bad:∀(h:Yey inter kd=false),Hid (z=false):=fun h=> Lib.hid (by rw [ZZ.out,h];rfl)
  by_cases k0:kd<0
  ·have s0:decide (kd<0)=true:=decide_eq_true k0
   have Z:=bad (by unfold Yey;rw [beq_eq_false_iff_ne.2 (by omega:kd≠3),beq_eq_false_iff_ne.2 (by omega:kd≠4),beq_eq_false_iff_ne.2 (by omega:kd≠0),beq_eq_false_iff_ne.2 (by omega:kd≠1)];cases inter <;> rfl)
   clear k0 bad
   go_enter Tryz.func61,Tryz.ntmps61
   go_wp2
   go_ret
   exact ⟨Yad Z.out.symm,by rw [HW.out,HR.out];exact hb0⟩
  by_cases k4:4<kd
  ·have s0:decide (kd<0)=false:=decide_eq_false k0
   have s1:decide (4<kd)=true:=decide_eq_true k4
   have Z:=bad (by unfold Yey;rw [beq_eq_false_iff_ne.2 (by omega:kd≠3),beq_eq_false_iff_ne.2 (by omega:kd≠4),beq_eq_false_iff_ne.2 (by omega:kd≠0),beq_eq_false_iff_ne.2 (by omega:kd≠1)];cases inter <;> rfl)
   clear k0 k4 bad
   go_enter Tryz.func61,Tryz.ntmps61
   go_wp2
   go_ret
   exact ⟨Yad Z.out.symm,by rw [HW.out,HR.out];exact hb0⟩
  have hkd:kd=2∨((kd=0∨kd=1)∧inter=false)∨((kd=3∨kd=4∨kd=0∨kd=1)∧Yey inter kd=true):=by
   rcases (by omega:kd=0∨kd=1∨kd=2∨kd=3∨kd=4) with rfl | rfl | rfl | rfl | rfl <;> cases inter <;> simp [Yey]
  clear k0 k4
  rcases hkd with rfl | ⟨rfl | rfl,rfl⟩ | ⟨hkd,hko⟩
  ·have Z:=bad (by cases inter <;> rfl)
   clear bad
   go_enter Tryz.func61,Tryz.ntmps61
   go_wp2
   go_ret
   exact ⟨Yad Z.out.symm,by rw [HW.out,HR.out];exact hb0⟩
  ·have Z:=bad rfl
   clear bad
   go_enter Tryz.func61,Tryz.ntmps61
   go_wp2
   go_ret
   exact ⟨Yad Z.out.symm,by rw [HW.out,HR.out];exact hb0⟩
  ·have Z:=bad rfl
   clear bad
   go_enter Tryz.func61,Tryz.ntmps61
   go_wp2
   go_ret
   exact ⟨Yad Z.out.symm,by rw [HW.out,HR.out];exact hb0⟩
  rw [hko] at ZZ
  have ZS:=Lib.hid (show z=(Yfg kd c.step&&(Yaw kd c.mx&&Yaw kd c.my&&Ydx c)) by rw [ZZ.out,Bool.true_and])
  have hin2:inter=false→¬ (kd=0∨kd=1):=fun h e=> by subst h;rcases e with rfl | rfl <;> simp [Yey] at hko
  clear bad ZZ hko
  rcases hkd with rfl | rfl | rfl | rfl
  ·clear hin2
   by_cases hs:c.step=0
   ·have u:(c.step != 0)=false:=by simpa using hs
    have STP:Hid (Yfg 3 c.step=true):=Lib.hid (by rw [hs];rfl)
    have hbX:Below (R+1) w0 w0:=Below.refl _ _
    clear hs
    go_enter Tryz.func61,Tryz.ntmps61
    go_wp2
    rw [HW.out,HR.out]
    go_loopw [5] (fun v wr=>∃i:Nat,i≤2∧v = .int .i64 i∧Below (R+1) w0 wr∧Hid ((0<i→Yaw 3 c.mx=true)∧(1<i→Yaw 3 c.my=true))) (fun v _=> 2-(RowKit.intOf v).toNat)
    case atStart=> exact ⟨0,by omega,rfl,hbX,Lib.hid ⟨fun h=> absurd h (by omega),fun h=> absurd h (by omega)⟩⟩
    case round=>
     obtain ⟨i,hi2,rfl,hb,o1⟩:=hrel
     obtain ⟨-,-,c2,-,c4,c5⟩:=Yaz (HBX.out _ hb).2
     rw [HK.out] at c2
     rcases (by omega:i=0∨i=1∨i=2) with rfl | rfl | rfl
     ·by_cases m0:c.mx < -32
      ·have u0:decide (c.mx < -32)=true:=decide_eq_true m0
       have Z:Hid (z=false):=Lib.hid (by rw [ZS.out,(show Yaw 3 c.mx=false by unfold Yaw;rw [show Yaj 3=true from rfl];exact beq_eq_false_iff_ne.2 (by omega))];simp)
       clear m0
       go_wp2
       go_ret
       exact ⟨Yad Z.out.symm,by rw [HR.out];exact hb0.trans ((hb).mono (by omega))⟩
      have u0:decide (c.mx < -32)=false:=decide_eq_false m0
      by_cases m1:31<c.mx
      ·have u1:decide (31<c.mx)=true:=decide_eq_true m1
       have Z:Hid (z=false):=Lib.hid (by rw [ZS.out,(show Yaw 3 c.mx=false by unfold Yaw;rw [show Yaj 3=true from rfl];exact beq_eq_false_iff_ne.2 (by omega))];simp)
       clear m0 m1
       go_wp2
       go_ret
       exact ⟨Yad Z.out.symm,by rw [HR.out];exact hb0.trans ((hb).mono (by omega))⟩
      have u1:decide (31<c.mx)=false:=decide_eq_false m1
      by_cases m2:c.mx=0
      ·have u2:(c.mx != 0)=false:=by simpa using m2
       have OK:Hid (Yaw 3 c.mx=true):=Lib.hid (by unfold Yaw;rw [show Yaj 3=true from rfl,m2];rfl)
       clear m0 m1 m2
       go_wp2
       go_roundw
       case rel=> exact ⟨0+1,by omega,by first | rfl | trivial,hb,Lib.hid ⟨fun _=> OK.out,fun h=> absurd h (by omega)⟩⟩
       case measure=> simp [RowKit.intOf]
      ·have u2:(c.mx != 0)=true:=by simpa using m2
       have Z:Hid (z=false):=Lib.hid (by rw [ZS.out,(show Yaw 3 c.mx=false by unfold Yaw;rw [show Yaj 3=true from rfl];exact beq_eq_false_iff_ne.2 m2)];simp)
       clear m0 m1 m2
       go_wp2
       go_ret
       exact ⟨Yad Z.out.symm,by rw [HR.out];exact hb0.trans ((hb).mono (by omega))⟩
     ·by_cases m0:c.my < -32
      ·have u0:decide (c.my < -32)=true:=decide_eq_true m0
       have Z:Hid (z=false):=Lib.hid (by rw [ZS.out,(show Yaw 3 c.my=false by unfold Yaw;rw [show Yaj 3=true from rfl];exact beq_eq_false_iff_ne.2 (by omega))];simp)
       clear m0
       go_wp2
       go_ret
       exact ⟨Yad Z.out.symm,by rw [HR.out];exact hb0.trans ((hb).mono (by omega))⟩
      have u0:decide (c.my < -32)=false:=decide_eq_false m0
      by_cases m1:31<c.my
      ·have u1:decide (31<c.my)=true:=decide_eq_true m1
       have Z:Hid (z=false):=Lib.hid (by rw [ZS.out,(show Yaw 3 c.my=false by unfold Yaw;rw [show Yaj 3=true from rfl];exact beq_eq_false_iff_ne.2 (by omega))];simp)
       clear m0 m1
       go_wp2
       go_ret
       exact ⟨Yad Z.out.symm,by rw [HR.out];exact hb0.trans ((hb).mono (by omega))⟩
      have u1:decide (31<c.my)=false:=decide_eq_false m1
      by_cases m2:c.my=0
      ·have u2:(c.my != 0)=false:=by simpa using m2
       have OK:Hid (Yaw 3 c.my=true):=Lib.hid (by unfold Yaw;rw [show Yaj 3=true from rfl,m2];rfl)
       clear m0 m1 m2
       go_wp2
       go_roundw
       case rel=> exact ⟨1+1,by omega,by first | rfl | trivial,hb,Lib.hid ⟨fun _=> o1.out.1 (by omega),fun _=> OK.out⟩⟩
       case measure=> simp [RowKit.intOf]
      ·have u2:(c.my != 0)=true:=by simpa using m2
       have Z:Hid (z=false):=Lib.hid (by rw [ZS.out,(show Yaw 3 c.my=false by unfold Yaw;rw [show Yaj 3=true from rfl];exact beq_eq_false_iff_ne.2 m2)];simp)
       clear m0 m1 m2
       go_wp2
       go_ret
       exact ⟨Yad Z.out.symm,by rw [HR.out];exact hb0.trans ((hb).mono (by omega))⟩
     ·have OX:Hid (z=Ydx c):=Lib.hid (by rw [ZS.out,o1.out.1 (by omega),o1.out.2 (by omega),STP.out];rfl)
      clear c4 c5
      go_wp2
      go_loopw [6] (fun v wr2=>∃i:Nat,i≤6∧v = .int .i64 i∧Below (R+1) w0 wr2∧Hid (∀j,j<i→Yh4 (Yaj 3) (c.dc j) (c.ev j)=true)) (fun v _=> 6-(RowKit.intOf v).toNat)
      case atStart=> exact ⟨0,by omega,rfl,hb,Lib.hid fun j h=> absurd h (Nat.not_lt_zero j)⟩
      case round=>
       clear hb c2
       obtain ⟨i,hi6,rfl,hb,ms⟩:=hrel
       obtain ⟨-,-,c2,-,-,-⟩:=Yaz (HBX.out _ hb).2
       rw [HK.out] at c2
       by_cases hlt:i<6
       ·have t3:decide ((i:Int)<6)=true:=by simp;omega
        have d0:=Yab (o:=6+i) (HBX.out _ hb).2 (Ydn c _ i hlt)
        have e0:=Yab (o:=12+i) (HBX.out _ hb).2 (Yd4 c (fun i=> .slice (p i) (n i) (k i)) i hlt)
        rw [NL.out i hlt] at e0
        have hm:=HMA.out i hlt
        have C2:=Lib.hid (fun x (hx:Below (R+1) w0 x)=> (HK.out▸(Yaz (HBX.out x hx).2).2.2.1:x.cell? ⟨R,2,none⟩=some (.int .i64 3)))
        have D0:=Lib.hid (fun x (hx:Below (R+1) w0 x)=> Yab (o:=6+i) (HBX.out x hx).2 (Ydn c _ i hlt))
        have E0:=Lib.hid (fun x (hx:Below (R+1) w0 x)=> (by have h:=Yab (o:=12+i) (HBX.out x hx).2 (Yd4 c (fun i=> .slice (p i) (n i) (k i)) i hlt);rw [NL.out i hlt] at h;exact h:x.cell? ⟨R,12+i,none⟩=some (.slice (p i) (c.ev i).length (k i))))
        have IN:=Lib.hid (fun x (hx:Below (R+1) w0 x)=> ((hin x).mono fun e y h=> ⟨h.1,h.2▸hx⟩:Calls Tryz.prog 37 #[.int .i64 3] x fun e y=> e = .returned (.bool (Yaj 3))∧Below (R+1) w0 y))
        have MA:=Lib.hid (fun x (hx:Below (R+1) w0 x)=> ((hm x (hb0.trans (hx.mono (by omega)))).mono fun e y h=> ⟨h.1,hx.trans (h.2.mono (by have:=hx.size;omega))⟩:Calls Tryz.prog 94 #[.bool (Yaj 3),.int .i64 (c.dc i),.slice (p i) (c.ev i).length (k i)] x fun e y=> e = .returned (.bool (Yh4 (Yaj 3) (c.dc i) (c.ev i)))∧Below (R+1) w0 y))
        have hbd:=hb.drew
        clear c2 d0 e0 hm
        generalize hmb:Yh4 (Yaj 3) (c.dc i) (c.ev i)=mb at MA
        go_wp2
        refine Yah (S:=fun x=> Below (R+1) w0 x) 13 (by kernel_rfl) (by kernel_rfl) hbd ?_
        simp only [List.take_succ_cons,List.take_zero,List.drop_succ_cons,List.drop_zero]
        refine Yaa (by kernel_rfl) (fun x _=> by go_simp;try with_reducible rfl) ?_;simp only [Act.put,List.setIfInBounds_toArray,List.set_cons_zero,List.set_cons_succ]
        refine Yae 3 _ ⟨R,2,none⟩ (.int .i64 3) (by kernel_rfl) rfl rfl (fun x hx=> by have c0:=C2.out x hx;go_simp) ?_;simp only [Act.put,List.setIfInBounds_toArray,List.set_cons_zero,List.set_cons_succ]
        refine Yaf (by kernel_rfl) IN.out (fun _=> by kernel_rfl) ?_;simp only [Act.put,List.setIfInBounds_toArray,List.set_cons_zero,List.set_cons_succ]
        iterate 2 (refine Yaa (by kernel_rfl) (fun x _=> by go_simp;try with_reducible rfl) ?_;simp only [Act.put,List.setIfInBounds_toArray,List.set_cons_zero,List.set_cons_succ])
        refine Yaa (by kernel_rfl) (fun x _=> by go_simp;rw [if_pos (by omega)]) ?_;simp only [Act.put,List.setIfInBounds_toArray,List.set_cons_zero,List.set_cons_succ]
        refine Yae 3 _ ⟨R,6+i,none⟩ (.int .i64 (c.dc i)) (by kernel_rfl) rfl rfl (fun x hx=> by have c0:=D0.out x hx;go_simp) ?_;simp only [Act.put,List.setIfInBounds_toArray,List.set_cons_zero,List.set_cons_succ]
        iterate 2 (refine Yaa (by kernel_rfl) (fun x _=> by go_simp;try with_reducible rfl) ?_;simp only [Act.put,List.setIfInBounds_toArray,List.set_cons_zero,List.set_cons_succ])
        refine Yaa (by kernel_rfl) (fun x _=> by go_simp;rw [if_pos (by omega)]) ?_;simp only [Act.put,List.setIfInBounds_toArray,List.set_cons_zero,List.set_cons_succ]
        refine Yae 53 _ ⟨R,12+i,none⟩ (.slice (p i) (c.ev i).length (k i)) (by kernel_rfl) rfl rfl (fun x hx=> by have c0:=E0.out x hx;go_simp) ?_;simp only [Act.put,List.setIfInBounds_toArray,List.set_cons_zero,List.set_cons_succ]
        refine Yaf (by kernel_rfl) MA.out (fun _=> by kernel_rfl) ?_;simp only [Act.put,List.setIfInBounds_toArray,List.set_cons_zero,List.set_cons_succ]
        refine Yaa (by kernel_rfl) (fun x _=> by go_simp;try with_reducible rfl) ?_;simp only [Act.put,List.setIfInBounds_toArray,List.set_cons_zero,List.set_cons_succ]
        refine Yas fun x hx=> ?_
        cases mb with
        | true=>
         have HM:=Lib.hid hmb
         clear hmb
         go_wp2
         go_roundw
         case rel=> exact ⟨i+1,by omega,by go_num,hx,Lib.hid fun j hj=> (Nat.lt_succ_iff_lt_or_eq.1 hj).elim (ms.out j) fun h=> h▸HM.out⟩
         case measure=> simp [RowKit.intOf];omega
        | false=>
         have Z:Hid (z=false):=Lib.hid (by rw [OX.out];exact Bool.eq_false_iff.2 fun h=> by rw [BO.out.1 h i hlt] at hmb;cases hmb)
         clear hmb
         go_wp2
         go_ret
         exact ⟨Yad Z.out.symm,by rw [HR.out];exact hb0.trans (hx.mono (by omega))⟩
       ·obtain rfl:i=6:=by omega
        have Z:Hid (z=true):=Lib.hid (by rw [OX.out];exact BO.out.2 ms.out)
        go_wp2
        go_ret
        exact ⟨Yad Z.out.symm,by rw [HR.out];exact hb0.trans (hb.mono (by omega))⟩
   ·have u:(c.step != 0)=true:=by simpa using hs
    have Z:Hid (z=false):=Lib.hid (by rw [ZS.out,show Yfg 3 c.step=false from beq_eq_false_iff_ne.2 hs];rfl)
    clear hs
    go_enter Tryz.func61,Tryz.ntmps61
    go_wp2
    go_ret
    exact ⟨Yad Z.out.symm,by rw [HW.out,HR.out];exact hb0⟩
  ·clear hin2
   have SE:Hid (Yfg 4 c.step = !(Yax c.step).data.toList.isEmpty):=Lib.hid rfl
   go_enter Tryz.func61,Tryz.ntmps61
   go_wp2_with fail
   rw [HW.out,HR.out]
   refine (hst _).mono ?_
   rintro e w1 ⟨rfl,hb1⟩
   rw [hz0] at hb1
   have hbX:Below (R+1) w0 w1:=hb1
   obtain ⟨-,-,c2,c3,-,-⟩:=Yaz (HBX.out _ hbX).2
   rw [HK.out] at c2
   have ue:(Yax c.step).data.toList.isEmpty=false→(Yax c.step).toList.isEmpty=false:=fun h=> by rcases Yh8.1 h with e | e | e | e <;> rw [e] <;> decide +kernel
   generalize Yax c.step=sr at *
   cases hse:sr.data.toList.isEmpty
   ·have STP:Hid (Yfg 4 c.step=true):=Lib.hid (by rw [SE.out,hse];rfl)
    have u:=ue hse
    clear hse ue
    go_wp2
    go_loopw [5] (fun v wr=>∃i:Nat,i≤2∧v = .int .i64 i∧Below (R+1) w0 wr∧Hid ((0<i→Yaw 4 c.mx=true)∧(1<i→Yaw 4 c.my=true))) (fun v _=> 2-(RowKit.intOf v).toNat)
    case atStart=> exact ⟨0,by omega,rfl,hbX,Lib.hid ⟨fun h=> absurd h (by omega),fun h=> absurd h (by omega)⟩⟩
    case round=>
     obtain ⟨i,hi2,rfl,hb,o1⟩:=hrel
     obtain ⟨-,-,c2,-,c4,c5⟩:=Yaz (HBX.out _ hb).2
     rw [HK.out] at c2
     rcases (by omega:i=0∨i=1∨i=2) with rfl | rfl | rfl
     ·by_cases m0:c.mx < -32
      ·have u0:decide (c.mx < -32)=true:=decide_eq_true m0
       have Z:Hid (z=false):=Lib.hid (by rw [ZS.out,(show Yaw 4 c.mx=false by unfold Yaw;rw [show Yaj 4=true from rfl];exact beq_eq_false_iff_ne.2 (by omega))];simp)
       clear m0
       go_wp2
       go_ret
       exact ⟨Yad Z.out.symm,by rw [HR.out];exact hb0.trans ((hb).mono (by omega))⟩
      have u0:decide (c.mx < -32)=false:=decide_eq_false m0
      by_cases m1:31<c.mx
      ·have u1:decide (31<c.mx)=true:=decide_eq_true m1
       have Z:Hid (z=false):=Lib.hid (by rw [ZS.out,(show Yaw 4 c.mx=false by unfold Yaw;rw [show Yaj 4=true from rfl];exact beq_eq_false_iff_ne.2 (by omega))];simp)
       clear m0 m1
       go_wp2
       go_ret
       exact ⟨Yad Z.out.symm,by rw [HR.out];exact hb0.trans ((hb).mono (by omega))⟩
      have u1:decide (31<c.mx)=false:=decide_eq_false m1
      by_cases m2:c.mx=0
      ·have u2:(c.mx != 0)=false:=by simpa using m2
       have OK:Hid (Yaw 4 c.mx=true):=Lib.hid (by unfold Yaw;rw [show Yaj 4=true from rfl,m2];rfl)
       clear m0 m1 m2
       go_wp2
       go_roundw
       case rel=> exact ⟨0+1,by omega,by first | rfl | trivial,hb,Lib.hid ⟨fun _=> OK.out,fun h=> absurd h (by omega)⟩⟩
       case measure=> simp [RowKit.intOf]
      ·have u2:(c.mx != 0)=true:=by simpa using m2
       have Z:Hid (z=false):=Lib.hid (by rw [ZS.out,(show Yaw 4 c.mx=false by unfold Yaw;rw [show Yaj 4=true from rfl];exact beq_eq_false_iff_ne.2 m2)];simp)
       clear m0 m1 m2
       go_wp2
       go_ret
       exact ⟨Yad Z.out.symm,by rw [HR.out];exact hb0.trans ((hb).mono (by omega))⟩
     ·by_cases m0:c.my < -32
      ·have u0:decide (c.my < -32)=true:=decide_eq_true m0
       have Z:Hid (z=false):=Lib.hid (by rw [ZS.out,(show Yaw 4 c.my=false by unfold Yaw;rw [show Yaj 4=true from rfl];exact beq_eq_false_iff_ne.2 (by omega))];simp)
       clear m0
       go_wp2
       go_ret
       exact ⟨Yad Z.out.symm,by rw [HR.out];exact hb0.trans ((hb).mono (by omega))⟩
      have u0:decide (c.my < -32)=false:=decide_eq_false m0
      by_cases m1:31<c.my
      ·have u1:decide (31<c.my)=true:=decide_eq_true m1
       have Z:Hid (z=false):=Lib.hid (by rw [ZS.out,(show Yaw 4 c.my=false by unfold Yaw;rw [show Yaj 4=true from rfl];exact beq_eq_false_iff_ne.2 (by omega))];simp)
       clear m0 m1
       go_wp2
       go_ret
       exact ⟨Yad Z.out.symm,by rw [HR.out];exact hb0.trans ((hb).mono (by omega))⟩
      have u1:decide (31<c.my)=false:=decide_eq_false m1
      by_cases m2:c.my=0
      ·have u2:(c.my != 0)=false:=by simpa using m2
       have OK:Hid (Yaw 4 c.my=true):=Lib.hid (by unfold Yaw;rw [show Yaj 4=true from rfl,m2];rfl)
       clear m0 m1 m2
       go_wp2
       go_roundw
       case rel=> exact ⟨1+1,by omega,by first | rfl | trivial,hb,Lib.hid ⟨fun _=> o1.out.1 (by omega),fun _=> OK.out⟩⟩
       case measure=> simp [RowKit.intOf]
      ·have u2:(c.my != 0)=true:=by simpa using m2
       have Z:Hid (z=false):=Lib.hid (by rw [ZS.out,(show Yaw 4 c.my=false by unfold Yaw;rw [show Yaj 4=true from rfl];exact beq_eq_false_iff_ne.2 m2)];simp)
       clear m0 m1 m2
       go_wp2
       go_ret
       exact ⟨Yad Z.out.symm,by rw [HR.out];exact hb0.trans ((hb).mono (by omega))⟩
     ·have OX:Hid (z=Ydx c):=Lib.hid (by rw [ZS.out,o1.out.1 (by omega),o1.out.2 (by omega),STP.out];rfl)
      clear c4 c5
      go_wp2
      go_loopw [6] (fun v wr2=>∃i:Nat,i≤6∧v = .int .i64 i∧Below (R+1) w0 wr2∧Hid (∀j,j<i→Yh4 (Yaj 4) (c.dc j) (c.ev j)=true)) (fun v _=> 6-(RowKit.intOf v).toNat)
      case atStart=> exact ⟨0,by omega,rfl,hb,Lib.hid fun j h=> absurd h (Nat.not_lt_zero j)⟩
      case round=>
       clear hb c2
       obtain ⟨i,hi6,rfl,hb,ms⟩:=hrel
       obtain ⟨-,-,c2,-,-,-⟩:=Yaz (HBX.out _ hb).2
       rw [HK.out] at c2
       by_cases hlt:i<6
       ·have t3:decide ((i:Int)<6)=true:=by simp;omega
        have d0:=Yab (o:=6+i) (HBX.out _ hb).2 (Ydn c _ i hlt)
        have e0:=Yab (o:=12+i) (HBX.out _ hb).2 (Yd4 c (fun i=> .slice (p i) (n i) (k i)) i hlt)
        rw [NL.out i hlt] at e0
        have hm:=HMA.out i hlt
        have C2:=Lib.hid (fun x (hx:Below (R+1) w0 x)=> (HK.out▸(Yaz (HBX.out x hx).2).2.2.1:x.cell? ⟨R,2,none⟩=some (.int .i64 4)))
        have D0:=Lib.hid (fun x (hx:Below (R+1) w0 x)=> Yab (o:=6+i) (HBX.out x hx).2 (Ydn c _ i hlt))
        have E0:=Lib.hid (fun x (hx:Below (R+1) w0 x)=> (by have h:=Yab (o:=12+i) (HBX.out x hx).2 (Yd4 c (fun i=> .slice (p i) (n i) (k i)) i hlt);rw [NL.out i hlt] at h;exact h:x.cell? ⟨R,12+i,none⟩=some (.slice (p i) (c.ev i).length (k i))))
        have IN:=Lib.hid (fun x (hx:Below (R+1) w0 x)=> ((hin x).mono fun e y h=> ⟨h.1,h.2▸hx⟩:Calls Tryz.prog 37 #[.int .i64 4] x fun e y=> e = .returned (.bool (Yaj 4))∧Below (R+1) w0 y))
        have MA:=Lib.hid (fun x (hx:Below (R+1) w0 x)=> ((hm x (hb0.trans (hx.mono (by omega)))).mono fun e y h=> ⟨h.1,hx.trans (h.2.mono (by have:=hx.size;omega))⟩:Calls Tryz.prog 94 #[.bool (Yaj 4),.int .i64 (c.dc i),.slice (p i) (c.ev i).length (k i)] x fun e y=> e = .returned (.bool (Yh4 (Yaj 4) (c.dc i) (c.ev i)))∧Below (R+1) w0 y))
        have hbd:=hb.drew
        clear c2 d0 e0 hm
        generalize hmb:Yh4 (Yaj 4) (c.dc i) (c.ev i)=mb at MA
        go_wp2
        refine Yah (S:=fun x=> Below (R+1) w0 x) 13 (by kernel_rfl) (by kernel_rfl) hbd ?_
        simp only [List.take_succ_cons,List.take_zero,List.drop_succ_cons,List.drop_zero]
        refine Yaa (by kernel_rfl) (fun x _=> by go_simp;try with_reducible rfl) ?_;simp only [Act.put,List.setIfInBounds_toArray,List.set_cons_zero,List.set_cons_succ]
        refine Yae 3 _ ⟨R,2,none⟩ (.int .i64 4) (by kernel_rfl) rfl rfl (fun x hx=> by have c0:=C2.out x hx;go_simp) ?_;simp only [Act.put,List.setIfInBounds_toArray,List.set_cons_zero,List.set_cons_succ]
        refine Yaf (by kernel_rfl) IN.out (fun _=> by kernel_rfl) ?_;simp only [Act.put,List.setIfInBounds_toArray,List.set_cons_zero,List.set_cons_succ]
        iterate 2 (refine Yaa (by kernel_rfl) (fun x _=> by go_simp;try with_reducible rfl) ?_;simp only [Act.put,List.setIfInBounds_toArray,List.set_cons_zero,List.set_cons_succ])
        refine Yaa (by kernel_rfl) (fun x _=> by go_simp;rw [if_pos (by omega)]) ?_;simp only [Act.put,List.setIfInBounds_toArray,List.set_cons_zero,List.set_cons_succ]
        refine Yae 3 _ ⟨R,6+i,none⟩ (.int .i64 (c.dc i)) (by kernel_rfl) rfl rfl (fun x hx=> by have c0:=D0.out x hx;go_simp) ?_;simp only [Act.put,List.setIfInBounds_toArray,List.set_cons_zero,List.set_cons_succ]
        iterate 2 (refine Yaa (by kernel_rfl) (fun x _=> by go_simp;try with_reducible rfl) ?_;simp only [Act.put,List.setIfInBounds_toArray,List.set_cons_zero,List.set_cons_succ])
        refine Yaa (by kernel_rfl) (fun x _=> by go_simp;rw [if_pos (by omega)]) ?_;simp only [Act.put,List.setIfInBounds_toArray,List.set_cons_zero,List.set_cons_succ]
        refine Yae 53 _ ⟨R,12+i,none⟩ (.slice (p i) (c.ev i).length (k i)) (by kernel_rfl) rfl rfl (fun x hx=> by have c0:=E0.out x hx;go_simp) ?_;simp only [Act.put,List.setIfInBounds_toArray,List.set_cons_zero,List.set_cons_succ]
        refine Yaf (by kernel_rfl) MA.out (fun _=> by kernel_rfl) ?_;simp only [Act.put,List.setIfInBounds_toArray,List.set_cons_zero,List.set_cons_succ]
        refine Yaa (by kernel_rfl) (fun x _=> by go_simp;try with_reducible rfl) ?_;simp only [Act.put,List.setIfInBounds_toArray,List.set_cons_zero,List.set_cons_succ]
        refine Yas fun x hx=> ?_
        cases mb with
        | true=>
         have HM:=Lib.hid hmb
         clear hmb
         go_wp2
         go_roundw
         case rel=> exact ⟨i+1,by omega,by go_num,hx,Lib.hid fun j hj=> (Nat.lt_succ_iff_lt_or_eq.1 hj).elim (ms.out j) fun h=> h▸HM.out⟩
         case measure=> simp [RowKit.intOf];omega
        | false=>
         have Z:Hid (z=false):=Lib.hid (by rw [OX.out];exact Bool.eq_false_iff.2 fun h=> by rw [BO.out.1 h i hlt] at hmb;cases hmb)
         clear hmb
         go_wp2
         go_ret
         exact ⟨Yad Z.out.symm,by rw [HR.out];exact hb0.trans (hx.mono (by omega))⟩
       ·obtain rfl:i=6:=by omega
        have Z:Hid (z=true):=Lib.hid (by rw [OX.out];exact BO.out.2 ms.out)
        go_wp2
        go_ret
        exact ⟨Yad Z.out.symm,by rw [HR.out];exact hb0.trans (hb.mono (by omega))⟩
   ·have Z:Hid (z=false):=Lib.hid (by rw [ZS.out,SE.out,hse];rfl)
    have u0:sr=⟨#[]⟩:=by
     have h:=List.isEmpty_iff.1 hse
     exact Yln.2 h
    subst u0
    clear hse c3
    go_wp2
    go_ret
    exact ⟨Yad Z.out.symm,by rw [HR.out];exact hb0.trans (hbX.mono (by omega))⟩
  ·obtain rfl:inter=true:=by cases inter with | true=> rfl | false=> exact absurd (hin2 rfl) (by simp)
   clear hin2
   by_cases hs:c.step=0
   ·have u:(c.step != 0)=false:=by simpa using hs
    have STP:Hid (Yfg 0 c.step=true):=Lib.hid (by rw [hs];rfl)
    have hbX:Below (R+1) w0 w0:=Below.refl _ _
    clear hs
    go_enter Tryz.func61,Tryz.ntmps61
    go_wp2
    rw [HW.out,HR.out]
    go_loopw [5] (fun v wr=>∃i:Nat,i≤2∧v = .int .i64 i∧Below (R+1) w0 wr∧Hid ((0<i→Yaw 0 c.mx=true)∧(1<i→Yaw 0 c.my=true))) (fun v _=> 2-(RowKit.intOf v).toNat)
    case atStart=> exact ⟨0,by omega,rfl,hbX,Lib.hid ⟨fun h=> absurd h (by omega),fun h=> absurd h (by omega)⟩⟩
    case round=>
     obtain ⟨i,hi2,rfl,hb,o1⟩:=hrel
     obtain ⟨-,-,c2,-,c4,c5⟩:=Yaz (HBX.out _ hb).2
     rw [HK.out] at c2
     rcases (by omega:i=0∨i=1∨i=2) with rfl | rfl | rfl
     ·by_cases m0:c.mx < -32
      ·have u0:decide (c.mx < -32)=true:=decide_eq_true m0
       have Z:Hid (z=false):=Lib.hid (by rw [ZS.out,(show Yaw 0 c.mx=false by unfold Yaw;rw [show Yaj 0=false from rfl];exact beq_eq_false_iff_ne.2 (fun h=> by have:=Yc9 c.mx;omega))];simp)
       clear m0
       go_wp2
       go_ret
       exact ⟨Yad Z.out.symm,by rw [HR.out];exact hb0.trans ((hb).mono (by omega))⟩
      have u0:decide (c.mx < -32)=false:=decide_eq_false m0
      by_cases m1:31<c.mx
      ·have u1:decide (31<c.mx)=true:=decide_eq_true m1
       have Z:Hid (z=false):=Lib.hid (by rw [ZS.out,(show Yaw 0 c.mx=false by unfold Yaw;rw [show Yaj 0=false from rfl];exact beq_eq_false_iff_ne.2 (fun h=> by have:=Yc9 c.mx;omega))];simp)
       clear m0 m1
       go_wp2
       go_ret
       exact ⟨Yad Z.out.symm,by rw [HR.out];exact hb0.trans ((hb).mono (by omega))⟩
      have u1:decide (31<c.mx)=false:=decide_eq_false m1
      have OK:Hid (Yaw 0 c.mx=true):=Lib.hid (by unfold Yaw;rw [show Yaj 0=false from rfl];exact beq_iff_eq.2 (Yc6.2 ⟨by omega,by omega⟩))
      clear m0 m1
      go_wp2
      go_roundw
      case rel=> exact ⟨0+1,by omega,by first | rfl | trivial,hb,Lib.hid ⟨fun _=> OK.out,fun h=> absurd h (by omega)⟩⟩
      case measure=> simp [RowKit.intOf]
     ·by_cases m0:c.my < -32
      ·have u0:decide (c.my < -32)=true:=decide_eq_true m0
       have Z:Hid (z=false):=Lib.hid (by rw [ZS.out,(show Yaw 0 c.my=false by unfold Yaw;rw [show Yaj 0=false from rfl];exact beq_eq_false_iff_ne.2 (fun h=> by have:=Yc9 c.my;omega))];simp)
       clear m0
       go_wp2
       go_ret
       exact ⟨Yad Z.out.symm,by rw [HR.out];exact hb0.trans ((hb).mono (by omega))⟩
      have u0:decide (c.my < -32)=false:=decide_eq_false m0
      by_cases m1:31<c.my
      ·have u1:decide (31<c.my)=true:=decide_eq_true m1
       have Z:Hid (z=false):=Lib.hid (by rw [ZS.out,(show Yaw 0 c.my=false by unfold Yaw;rw [show Yaj 0=false from rfl];exact beq_eq_false_iff_ne.2 (fun h=> by have:=Yc9 c.my;omega))];simp)
       clear m0 m1
       go_wp2
       go_ret
       exact ⟨Yad Z.out.symm,by rw [HR.out];exact hb0.trans ((hb).mono (by omega))⟩
      have u1:decide (31<c.my)=false:=decide_eq_false m1
      have OK:Hid (Yaw 0 c.my=true):=Lib.hid (by unfold Yaw;rw [show Yaj 0=false from rfl];exact beq_iff_eq.2 (Yc6.2 ⟨by omega,by omega⟩))
      clear m0 m1
      go_wp2
      go_roundw
      case rel=> exact ⟨1+1,by omega,by first | rfl | trivial,hb,Lib.hid ⟨fun _=> o1.out.1 (by omega),fun _=> OK.out⟩⟩
      case measure=> simp [RowKit.intOf]
     ·have OX:Hid (z=Ydx c):=Lib.hid (by rw [ZS.out,o1.out.1 (by omega),o1.out.2 (by omega),STP.out];rfl)
      clear c4 c5
      go_wp2
      go_loopw [6] (fun v wr2=>∃i:Nat,i≤6∧v = .int .i64 i∧Below (R+1) w0 wr2∧Hid (∀j,j<i→Yh4 (Yaj 0) (c.dc j) (c.ev j)=true)) (fun v _=> 6-(RowKit.intOf v).toNat)
      case atStart=> exact ⟨0,by omega,rfl,hb,Lib.hid fun j h=> absurd h (Nat.not_lt_zero j)⟩
      case round=>
       clear hb c2
       obtain ⟨i,hi6,rfl,hb,ms⟩:=hrel
       obtain ⟨-,-,c2,-,-,-⟩:=Yaz (HBX.out _ hb).2
       rw [HK.out] at c2
       by_cases hlt:i<6
       ·have t3:decide ((i:Int)<6)=true:=by simp;omega
        have d0:=Yab (o:=6+i) (HBX.out _ hb).2 (Ydn c _ i hlt)
        have e0:=Yab (o:=12+i) (HBX.out _ hb).2 (Yd4 c (fun i=> .slice (p i) (n i) (k i)) i hlt)
        rw [NL.out i hlt] at e0
        have hm:=HMA.out i hlt
        have C2:=Lib.hid (fun x (hx:Below (R+1) w0 x)=> (HK.out▸(Yaz (HBX.out x hx).2).2.2.1:x.cell? ⟨R,2,none⟩=some (.int .i64 0)))
        have D0:=Lib.hid (fun x (hx:Below (R+1) w0 x)=> Yab (o:=6+i) (HBX.out x hx).2 (Ydn c _ i hlt))
        have E0:=Lib.hid (fun x (hx:Below (R+1) w0 x)=> (by have h:=Yab (o:=12+i) (HBX.out x hx).2 (Yd4 c (fun i=> .slice (p i) (n i) (k i)) i hlt);rw [NL.out i hlt] at h;exact h:x.cell? ⟨R,12+i,none⟩=some (.slice (p i) (c.ev i).length (k i))))
        have IN:=Lib.hid (fun x (hx:Below (R+1) w0 x)=> ((hin x).mono fun e y h=> ⟨h.1,h.2▸hx⟩:Calls Tryz.prog 37 #[.int .i64 0] x fun e y=> e = .returned (.bool (Yaj 0))∧Below (R+1) w0 y))
        have MA:=Lib.hid (fun x (hx:Below (R+1) w0 x)=> ((hm x (hb0.trans (hx.mono (by omega)))).mono fun e y h=> ⟨h.1,hx.trans (h.2.mono (by have:=hx.size;omega))⟩:Calls Tryz.prog 94 #[.bool (Yaj 0),.int .i64 (c.dc i),.slice (p i) (c.ev i).length (k i)] x fun e y=> e = .returned (.bool (Yh4 (Yaj 0) (c.dc i) (c.ev i)))∧Below (R+1) w0 y))
        have hbd:=hb.drew
        clear c2 d0 e0 hm
        generalize hmb:Yh4 (Yaj 0) (c.dc i) (c.ev i)=mb at MA
        go_wp2
        refine Yah (S:=fun x=> Below (R+1) w0 x) 13 (by kernel_rfl) (by kernel_rfl) hbd ?_
        simp only [List.take_succ_cons,List.take_zero,List.drop_succ_cons,List.drop_zero]
        refine Yaa (by kernel_rfl) (fun x _=> by go_simp;try with_reducible rfl) ?_;simp only [Act.put,List.setIfInBounds_toArray,List.set_cons_zero,List.set_cons_succ]
        refine Yae 3 _ ⟨R,2,none⟩ (.int .i64 0) (by kernel_rfl) rfl rfl (fun x hx=> by have c0:=C2.out x hx;go_simp) ?_;simp only [Act.put,List.setIfInBounds_toArray,List.set_cons_zero,List.set_cons_succ]
        refine Yaf (by kernel_rfl) IN.out (fun _=> by kernel_rfl) ?_;simp only [Act.put,List.setIfInBounds_toArray,List.set_cons_zero,List.set_cons_succ]
        iterate 2 (refine Yaa (by kernel_rfl) (fun x _=> by go_simp;try with_reducible rfl) ?_;simp only [Act.put,List.setIfInBounds_toArray,List.set_cons_zero,List.set_cons_succ])
        refine Yaa (by kernel_rfl) (fun x _=> by go_simp;rw [if_pos (by omega)]) ?_;simp only [Act.put,List.setIfInBounds_toArray,List.set_cons_zero,List.set_cons_succ]
        refine Yae 3 _ ⟨R,6+i,none⟩ (.int .i64 (c.dc i)) (by kernel_rfl) rfl rfl (fun x hx=> by have c0:=D0.out x hx;go_simp) ?_;simp only [Act.put,List.setIfInBounds_toArray,List.set_cons_zero,List.set_cons_succ]
        iterate 2 (refine Yaa (by kernel_rfl) (fun x _=> by go_simp;try with_reducible rfl) ?_;simp only [Act.put,List.setIfInBounds_toArray,List.set_cons_zero,List.set_cons_succ])
        refine Yaa (by kernel_rfl) (fun x _=> by go_simp;rw [if_pos (by omega)]) ?_;simp only [Act.put,List.setIfInBounds_toArray,List.set_cons_zero,List.set_cons_succ]
        refine Yae 53 _ ⟨R,12+i,none⟩ (.slice (p i) (c.ev i).length (k i)) (by kernel_rfl) rfl rfl (fun x hx=> by have c0:=E0.out x hx;go_simp) ?_;simp only [Act.put,List.setIfInBounds_toArray,List.set_cons_zero,List.set_cons_succ]
        refine Yaf (by kernel_rfl) MA.out (fun _=> by kernel_rfl) ?_;simp only [Act.put,List.setIfInBounds_toArray,List.set_cons_zero,List.set_cons_succ]
        refine Yaa (by kernel_rfl) (fun x _=> by go_simp;try with_reducible rfl) ?_;simp only [Act.put,List.setIfInBounds_toArray,List.set_cons_zero,List.set_cons_succ]
        refine Yas fun x hx=> ?_
        cases mb with
        | true=>
         have HM:=Lib.hid hmb
         clear hmb
         go_wp2
         go_roundw
         case rel=> exact ⟨i+1,by omega,by go_num,hx,Lib.hid fun j hj=> (Nat.lt_succ_iff_lt_or_eq.1 hj).elim (ms.out j) fun h=> h▸HM.out⟩
         case measure=> simp [RowKit.intOf];omega
        | false=>
         have Z:Hid (z=false):=Lib.hid (by rw [OX.out];exact Bool.eq_false_iff.2 fun h=> by rw [BO.out.1 h i hlt] at hmb;cases hmb)
         clear hmb
         go_wp2
         go_ret
         exact ⟨Yad Z.out.symm,by rw [HR.out];exact hb0.trans (hx.mono (by omega))⟩
       ·obtain rfl:i=6:=by omega
        have Z:Hid (z=true):=Lib.hid (by rw [OX.out];exact BO.out.2 ms.out)
        go_wp2
        go_ret
        exact ⟨Yad Z.out.symm,by rw [HR.out];exact hb0.trans (hb.mono (by omega))⟩
   ·have u:(c.step != 0)=true:=by simpa using hs
    have Z:Hid (z=false):=Lib.hid (by rw [ZS.out,show Yfg 0 c.step=false from beq_eq_false_iff_ne.2 hs];rfl)
    clear hs
    go_enter Tryz.func61,Tryz.ntmps61
    go_wp2
    go_ret
    exact ⟨Yad Z.out.symm,by rw [HW.out,HR.out];exact hb0⟩
  ·obtain rfl:inter=true:=by cases inter with | true=> rfl | false=> exact absurd (hin2 rfl) (by simp)
   clear hin2
   have SE:Hid (Yfg 1 c.step = !(Yax c.step).data.toList.isEmpty):=Lib.hid rfl
   go_enter Tryz.func61,Tryz.ntmps61
   go_wp2_with fail
   rw [HW.out,HR.out]
   refine (hst _).mono ?_
   rintro e w1 ⟨rfl,hb1⟩
   rw [hz0] at hb1
   have hbX:Below (R+1) w0 w1:=hb1
   obtain ⟨-,-,c2,c3,-,-⟩:=Yaz (HBX.out _ hbX).2
   rw [HK.out] at c2
   have ue:(Yax c.step).data.toList.isEmpty=false→(Yax c.step).toList.isEmpty=false:=fun h=> by rcases Yh8.1 h with e | e | e | e <;> rw [e] <;> decide +kernel
   generalize Yax c.step=sr at *
   cases hse:sr.data.toList.isEmpty
   ·have STP:Hid (Yfg 1 c.step=true):=Lib.hid (by rw [SE.out,hse];rfl)
    have u:=ue hse
    clear hse ue
    go_wp2
    go_loopw [5] (fun v wr=>∃i:Nat,i≤2∧v = .int .i64 i∧Below (R+1) w0 wr∧Hid ((0<i→Yaw 1 c.mx=true)∧(1<i→Yaw 1 c.my=true))) (fun v _=> 2-(RowKit.intOf v).toNat)
    case atStart=> exact ⟨0,by omega,rfl,hbX,Lib.hid ⟨fun h=> absurd h (by omega),fun h=> absurd h (by omega)⟩⟩
    case round=>
     obtain ⟨i,hi2,rfl,hb,o1⟩:=hrel
     obtain ⟨-,-,c2,-,c4,c5⟩:=Yaz (HBX.out _ hb).2
     rw [HK.out] at c2
     rcases (by omega:i=0∨i=1∨i=2) with rfl | rfl | rfl
     ·by_cases m0:c.mx < -32
      ·have u0:decide (c.mx < -32)=true:=decide_eq_true m0
       have Z:Hid (z=false):=Lib.hid (by rw [ZS.out,(show Yaw 1 c.mx=false by unfold Yaw;rw [show Yaj 1=false from rfl];exact beq_eq_false_iff_ne.2 (fun h=> by have:=Yc9 c.mx;omega))];simp)
       clear m0
       go_wp2
       go_ret
       exact ⟨Yad Z.out.symm,by rw [HR.out];exact hb0.trans ((hb).mono (by omega))⟩
      have u0:decide (c.mx < -32)=false:=decide_eq_false m0
      by_cases m1:31<c.mx
      ·have u1:decide (31<c.mx)=true:=decide_eq_true m1
       have Z:Hid (z=false):=Lib.hid (by rw [ZS.out,(show Yaw 1 c.mx=false by unfold Yaw;rw [show Yaj 1=false from rfl];exact beq_eq_false_iff_ne.2 (fun h=> by have:=Yc9 c.mx;omega))];simp)
       clear m0 m1
       go_wp2
       go_ret
       exact ⟨Yad Z.out.symm,by rw [HR.out];exact hb0.trans ((hb).mono (by omega))⟩
      have u1:decide (31<c.mx)=false:=decide_eq_false m1
      have OK:Hid (Yaw 1 c.mx=true):=Lib.hid (by unfold Yaw;rw [show Yaj 1=false from rfl];exact beq_iff_eq.2 (Yc6.2 ⟨by omega,by omega⟩))
      clear m0 m1
      go_wp2
      go_roundw
      case rel=> exact ⟨0+1,by omega,by first | rfl | trivial,hb,Lib.hid ⟨fun _=> OK.out,fun h=> absurd h (by omega)⟩⟩
      case measure=> simp [RowKit.intOf]
     ·by_cases m0:c.my < -32
      ·have u0:decide (c.my < -32)=true:=decide_eq_true m0
       have Z:Hid (z=false):=Lib.hid (by rw [ZS.out,(show Yaw 1 c.my=false by unfold Yaw;rw [show Yaj 1=false from rfl];exact beq_eq_false_iff_ne.2 (fun h=> by have:=Yc9 c.my;omega))];simp)
       clear m0
       go_wp2
       go_ret
       exact ⟨Yad Z.out.symm,by rw [HR.out];exact hb0.trans ((hb).mono (by omega))⟩
      have u0:decide (c.my < -32)=false:=decide_eq_false m0
      by_cases m1:31<c.my
      ·have u1:decide (31<c.my)=true:=decide_eq_true m1
       have Z:Hid (z=false):=Lib.hid (by rw [ZS.out,(show Yaw 1 c.my=false by unfold Yaw;rw [show Yaj 1=false from rfl];exact beq_eq_false_iff_ne.2 (fun h=> by have:=Yc9 c.my;omega))];simp)
       clear m0 m1
       go_wp2
       go_ret
       exact ⟨Yad Z.out.symm,by rw [HR.out];exact hb0.trans ((hb).mono (by omega))⟩
      have u1:decide (31<c.my)=false:=decide_eq_false m1
      have OK:Hid (Yaw 1 c.my=true):=Lib.hid (by unfold Yaw;rw [show Yaj 1=false from rfl];exact beq_iff_eq.2 (Yc6.2 ⟨by omega,by omega⟩))
      clear m0 m1
      go_wp2
      go_roundw
      case rel=> exact ⟨1+1,by omega,by first | rfl | trivial,hb,Lib.hid ⟨fun _=> o1.out.1 (by omega),fun _=> OK.out⟩⟩
      case measure=> simp [RowKit.intOf]
     ·have OX:Hid (z=Ydx c):=Lib.hid (by rw [ZS.out,o1.out.1 (by omega),o1.out.2 (by omega),STP.out];rfl)
      clear c4 c5
      go_wp2
      go_loopw [6] (fun v wr2=>∃i:Nat,i≤6∧v = .int .i64 i∧Below (R+1) w0 wr2∧Hid (∀j,j<i→Yh4 (Yaj 1) (c.dc j) (c.ev j)=true)) (fun v _=> 6-(RowKit.intOf v).toNat)
      case atStart=> exact ⟨0,by omega,rfl,hb,Lib.hid fun j h=> absurd h (Nat.not_lt_zero j)⟩
      case round=>
       clear hb c2
       obtain ⟨i,hi6,rfl,hb,ms⟩:=hrel
       obtain ⟨-,-,c2,-,-,-⟩:=Yaz (HBX.out _ hb).2
       rw [HK.out] at c2
       by_cases hlt:i<6
       ·have t3:decide ((i:Int)<6)=true:=by simp;omega
        have d0:=Yab (o:=6+i) (HBX.out _ hb).2 (Ydn c _ i hlt)
        have e0:=Yab (o:=12+i) (HBX.out _ hb).2 (Yd4 c (fun i=> .slice (p i) (n i) (k i)) i hlt)
        rw [NL.out i hlt] at e0
        have hm:=HMA.out i hlt
        have C2:=Lib.hid (fun x (hx:Below (R+1) w0 x)=> (HK.out▸(Yaz (HBX.out x hx).2).2.2.1:x.cell? ⟨R,2,none⟩=some (.int .i64 1)))
        have D0:=Lib.hid (fun x (hx:Below (R+1) w0 x)=> Yab (o:=6+i) (HBX.out x hx).2 (Ydn c _ i hlt))
        have E0:=Lib.hid (fun x (hx:Below (R+1) w0 x)=> (by have h:=Yab (o:=12+i) (HBX.out x hx).2 (Yd4 c (fun i=> .slice (p i) (n i) (k i)) i hlt);rw [NL.out i hlt] at h;exact h:x.cell? ⟨R,12+i,none⟩=some (.slice (p i) (c.ev i).length (k i))))
        have IN:=Lib.hid (fun x (hx:Below (R+1) w0 x)=> ((hin x).mono fun e y h=> ⟨h.1,h.2▸hx⟩:Calls Tryz.prog 37 #[.int .i64 1] x fun e y=> e = .returned (.bool (Yaj 1))∧Below (R+1) w0 y))
        have MA:=Lib.hid (fun x (hx:Below (R+1) w0 x)=> ((hm x (hb0.trans (hx.mono (by omega)))).mono fun e y h=> ⟨h.1,hx.trans (h.2.mono (by have:=hx.size;omega))⟩:Calls Tryz.prog 94 #[.bool (Yaj 1),.int .i64 (c.dc i),.slice (p i) (c.ev i).length (k i)] x fun e y=> e = .returned (.bool (Yh4 (Yaj 1) (c.dc i) (c.ev i)))∧Below (R+1) w0 y))
        have hbd:=hb.drew
        clear c2 d0 e0 hm
        generalize hmb:Yh4 (Yaj 1) (c.dc i) (c.ev i)=mb at MA
        go_wp2
        refine Yah (S:=fun x=> Below (R+1) w0 x) 13 (by kernel_rfl) (by kernel_rfl) hbd ?_
        simp only [List.take_succ_cons,List.take_zero,List.drop_succ_cons,List.drop_zero]
        refine Yaa (by kernel_rfl) (fun x _=> by go_simp;try with_reducible rfl) ?_;simp only [Act.put,List.setIfInBounds_toArray,List.set_cons_zero,List.set_cons_succ]
        refine Yae 3 _ ⟨R,2,none⟩ (.int .i64 1) (by kernel_rfl) rfl rfl (fun x hx=> by have c0:=C2.out x hx;go_simp) ?_;simp only [Act.put,List.setIfInBounds_toArray,List.set_cons_zero,List.set_cons_succ]
        refine Yaf (by kernel_rfl) IN.out (fun _=> by kernel_rfl) ?_;simp only [Act.put,List.setIfInBounds_toArray,List.set_cons_zero,List.set_cons_succ]
        iterate 2 (refine Yaa (by kernel_rfl) (fun x _=> by go_simp;try with_reducible rfl) ?_;simp only [Act.put,List.setIfInBounds_toArray,List.set_cons_zero,List.set_cons_succ])
        refine Yaa (by kernel_rfl) (fun x _=> by go_simp;rw [if_pos (by omega)]) ?_;simp only [Act.put,List.setIfInBounds_toArray,List.set_cons_zero,List.set_cons_succ]
        refine Yae 3 _ ⟨R,6+i,none⟩ (.int .i64 (c.dc i)) (by kernel_rfl) rfl rfl (fun x hx=> by have c0:=D0.out x hx;go_simp) ?_;simp only [Act.put,List.setIfInBounds_toArray,List.set_cons_zero,List.set_cons_succ]
        iterate 2 (refine Yaa (by kernel_rfl) (fun x _=> by go_simp;try with_reducible rfl) ?_;simp only [Act.put,List.setIfInBounds_toArray,List.set_cons_zero,List.set_cons_succ])
        refine Yaa (by kernel_rfl) (fun x _=> by go_simp;rw [if_pos (by omega)]) ?_;simp only [Act.put,List.setIfInBounds_toArray,List.set_cons_zero,List.set_cons_succ]
        refine Yae 53 _ ⟨R,12+i,none⟩ (.slice (p i) (c.ev i).length (k i)) (by kernel_rfl) rfl rfl (fun x hx=> by have c0:=E0.out x hx;go_simp) ?_;simp only [Act.put,List.setIfInBounds_toArray,List.set_cons_zero,List.set_cons_succ]
        refine Yaf (by kernel_rfl) MA.out (fun _=> by kernel_rfl) ?_;simp only [Act.put,List.setIfInBounds_toArray,List.set_cons_zero,List.set_cons_succ]
        refine Yaa (by kernel_rfl) (fun x _=> by go_simp;try with_reducible rfl) ?_;simp only [Act.put,List.setIfInBounds_toArray,List.set_cons_zero,List.set_cons_succ]
        refine Yas fun x hx=> ?_
        cases mb with
        | true=>
         have HM:=Lib.hid hmb
         clear hmb
         go_wp2
         go_roundw
         case rel=> exact ⟨i+1,by omega,by go_num,hx,Lib.hid fun j hj=> (Nat.lt_succ_iff_lt_or_eq.1 hj).elim (ms.out j) fun h=> h▸HM.out⟩
         case measure=> simp [RowKit.intOf];omega
        | false=>
         have Z:Hid (z=false):=Lib.hid (by rw [OX.out];exact Bool.eq_false_iff.2 fun h=> by rw [BO.out.1 h i hlt] at hmb;cases hmb)
         clear hmb
         go_wp2
         go_ret
         exact ⟨Yad Z.out.symm,by rw [HR.out];exact hb0.trans (hx.mono (by omega))⟩
       ·obtain rfl:i=6:=by omega
        have Z:Hid (z=true):=Lib.hid (by rw [OX.out];exact BO.out.2 ms.out)
        go_wp2
        go_ret
        exact ⟨Yad Z.out.symm,by rw [HR.out];exact hb0.trans (hb.mono (by omega))⟩
   ·have Z:Hid (z=false):=Lib.hid (by rw [ZS.out,SE.out,hse];rfl)
    have u0:sr=⟨#[]⟩:=by
     have h:=List.isEmpty_iff.1 hse
     exact Yln.2 h
    subst u0
    clear hse c3
    go_wp2
    go_ret
    exact ⟨Yad Z.out.symm,by rw [HR.out];exact hb0.trans (hbX.mono (by omega))⟩
end Go.Proofs.YtgikochfffdpfaaGreatDoor