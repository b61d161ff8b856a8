/- No condition. -/
import Derived.Test.YtndbeacoaimdgaaDoorQuantsOfMa
import Derived.Test.YtndbeacoaimdgaaDoorQuantsOfMy
import Derived.Test.YtndbeacoaimdgaaDoorQuantsOfMba
import Derived.Test.YtndbeacoaimdgaaDoorQuantsOfMbc
import Derived.Test.YtndbeacoaimdgaaDoorQuantsOfMbf
namespace Go.Proofs.YtndbeacoaimdgaaDoor
open Go.RowKit Go.Lib
theorem Ypu {c:Cel}:Yd4 c=true↔(c.kind=0∧c.step=0∧c.mx=0∧c.my=0)∧∀i,i<6→c.dc i=0∧(c.ev i).length=0:=by
 unfold Yd4;simp only[Bool.and_eq_true,beq_iff_eq,List.all_eq_true,List.mem_range,decide_eq_true_eq];constructor
 ·rintro⟨⟨⟨h1,h2⟩,h3,h4⟩,h5,h6⟩;exact⟨⟨h1,h2,h3,h4⟩,fun i hi=>⟨h5 i hi,h6 i hi⟩⟩
 ·rintro⟨⟨h1,h2,h3,h4⟩,h5⟩;exact⟨⟨⟨h1,h2⟩,h3,h4⟩,fun i hi=>(h5 i hi).1,fun i hi=>(h5 i hi).2⟩
set_option maxRecDepth 100000 in
set_option maxHeartbeats 1000000 in
theorem Yoh (c:Cel)(p:Nat→Option Addr)(n k:Nat→Nat)(w:World)(hc:Yfj w c p n):Calls Tryd.prog 35 #[.agg (Ybw c fun i=>.slice (p i) (n i) (k i)).toArray] w fun e w'=>e=.returned (.bool (Yd4 c))∧Below w.heap.size w w':=by
 obtain⟨A,hA,f0,f1,f2,f3,f4,f5,⟨f6,f7,f8,f9,f10,f11⟩,f12,f13,f14,f15,f16,f17⟩:=Ybr c fun i=>.slice (p i) (n i) (k i);obtain⟨R,w0,hR,hw0,hz0,hb0,HSZ,hbx⟩:=Ycf w hA;have hbx0:=(hbx w0 (Below.refl _ _)).2;obtain⟨-,-,c2,c3,c4,c5⟩:=Yav hbx0;have DC:=Lib.hid (fun i (hi:i<6)=>Yac (o:=6+i) hbx0 (Ycn c _ i hi))
 have EV:=Lib.hid (fun i (hi:i<6)=>Yac (o:=12+i) hbx0 (Yc1 c (fun i=>.slice (p i) (n i) (k i)) i hi));have NL:=Lib.hid (fun i hi=>(hc i hi).1);have ZI:=Lib.hid (Ypu (c:=c));rw[hA];have HW:=Lib.hid hw0;have HR:=Lib.hid hR;clear hA hw0 hR hbx hbx0 hc f0 f1 f2 f3 f4 f5 f6 f7 f8 f9 f10 f11 f12 f13 f14 f15 f16 f17
 go_enter Tryd.func35,Tryd.ntmps35
 go_wp2
 rw[HW.out,HR.out]
 go_loopw [3] (fun z wr=>∃i:Nat,i≤6∧z=.int .i64 i∧wr=w0∧Hid (∀j,j<i→c.dc j=0∧(c.ev j).length=0)) (fun z _=>6-(RowKit.intOf z).toNat)
 case atStart=>exact⟨0,by omega,rfl,rfl,Lib.hid fun j h=>absurd h (Nat.not_lt_zero j)⟩
 case round=>
  obtain⟨i,hi6,rfl,rfl,zs⟩:=hrel;by_cases hlt:i<6
  ·have t0:decide ((i:Int)<6)=true:=by simp;omega
   have e0:=EV.out i hlt;have d0:=DC.out i hlt;have nl:=NL.out i hlt;by_cases hn:0<n i
   ·have t1:decide (0<n i)=true:=decide_eq_true hn;have t2:decide (0<(n i:Int))=true:=decide_eq_true (by omega);have Z:Hid (Yd4 c=false):=Lib.hid (Bool.eq_false_iff.2 fun h=>by have h2:=((ZI.out.1 h).2 i hlt).2;omega);clear hn nl
    go_wp2
    go_ret
    exact⟨Yad Z.out.symm,by rw[HR.out];exact hb0⟩
   ·have t1:decide (0<n i)=false:=decide_eq_false hn;have t2:decide (0<(n i:Int))=false:=decide_eq_false (by omega);by_cases hd:c.dc i=0
    ·have t3:(c.dc i != 0)=false:=by simpa using hd
     have ZN:=Lib.hid (⟨hd,by omega⟩:c.dc i=0∧(c.ev i).length=0);clear hn nl hd
     go_wp2
     go_roundw
     case rel=>exact⟨i+1,by omega,by go_num,by trivial,Lib.hid fun j hj=>(Nat.lt_succ_iff_lt_or_eq.1 hj).elim (zs.out j) fun h=>h▸ZN.out⟩
     case measure=>simp[RowKit.intOf];omega
    ·have t3:(c.dc i != 0)=true:=by simpa using hd
     have Z:Hid (Yd4 c=false):=Lib.hid (Bool.eq_false_iff.2 fun h=>hd ((ZI.out.1 h).2 i hlt).1);clear hn nl hd
     go_wp2
     go_ret
     exact⟨Yad Z.out.symm,by rw[HR.out];exact hb0⟩
  ·obtain rfl:i=6:=by omega
   cases t1:(c.kind==0) with
   |false=>
    go_wp2
    go_ret
    exact⟨Yad (Bool.eq_false_iff.2 fun h=>by have h2:=(ZI.out.1 h).1;rw[beq_eq_false_iff_ne] at t1;exact t1 h2.1).symm,by rw[HR.out];exact hb0⟩
   |true=>
    cases t2:(c.step==0) with
    |false=>
     go_wp2
     go_ret
     exact⟨Yad (Bool.eq_false_iff.2 fun h=>by have h2:=(ZI.out.1 h).1;rw[beq_eq_false_iff_ne] at t2;exact t2 h2.2.1).symm,by rw[HR.out];exact hb0⟩
    |true=>
     cases t3:(c.mx==0) with
     |false=>
      go_wp2
      go_ret
      exact⟨Yad (Bool.eq_false_iff.2 fun h=>by have h2:=(ZI.out.1 h).1;rw[beq_eq_false_iff_ne] at t3;exact t3 h2.2.2.1).symm,by rw[HR.out];exact hb0⟩
     |true=>
      cases t4:(c.my==0) with
      |false=>
       go_wp2
       go_ret
       exact⟨Yad (Bool.eq_false_iff.2 fun h=>by have h2:=(ZI.out.1 h).1;rw[beq_eq_false_iff_ne] at t4;exact t4 h2.2.2.2).symm,by rw[HR.out];exact hb0⟩
      |true=>
       go_wp2
       go_ret
       exact⟨Yad (ZI.out.2 ⟨⟨by simpa using t1,by simpa using t2,by simpa using t3,by simpa using t4⟩,zs.out⟩).symm,by rw[HR.out];exact hb0⟩
def Yap (k m:Int):Bool:=if Yaj k then m==0 else m==Ygi m
theorem Ypt (k mx my:Int):Yjk k mx my=(Yap k mx&&Yap k my):=by
 unfold Yjk Yap
 split <;> rfl
set_option maxRecDepth 100000 in
set_option maxHeartbeats 2000000 in
theorem Yj6 (inter:Bool)(c:Cel)(p:Nat→Option Addr)(n k:Nat→Nat)(w:World)(hc:Yfj w c p n):Calls Tryd.prog 25 #[.bool inter,.agg (Ybw c fun i=>.slice (p i) (n i) (k i)).toArray] w fun e w'=>e=.returned (.bool (Ya6 inter c))∧Below w.heap.size w w':=by
 have hze:=fun x (hx:Below w.heap.size w x)=>Yoh c p n k x (hc.below hx);have hst:=fun x=>Yod c.step x;have hin:=fun x=>Yf9 c.kind x;have hma:=fun i (hi:i<6) x (hx:Below w.heap.size w x)=>Ymt (Yaj c.kind) (c.dc i) (p i) (c.ev i) (k i) x ((hc i hi).2.2.below hx) (by have:=(hc i hi).1;have:=(hc i hi).2.1;omega);have NL:=Lib.hid (fun i hi=>(hc i hi).1)
 obtain⟨A,hA,f0,f1,f2,f3,f4,f5,-,-⟩:=Ybr c fun i=>.slice (p i) (n i) (k i);obtain⟨R,w0,hR,hw0,hz0,hb0,HSZ,hbx⟩:=Ycf w hA;simp only[hA] at hze;rw[hR] at hze hma;rw[hA];have HW:=Lib.hid hw0;have HR:=Lib.hid hR;have HBX:=Lib.hid hbx;have HZE:=Lib.hid hze;have HMA:=Lib.hid hma
 have ZC:Hid (Ya6 inter c=((decide (0≤c.stuff)&&decide (c.stuff≤64))&&(if c.skip then inter&&Yd4 c else (Ydo inter c.kind&&Yc8 c.kind c.step)&&(Yap c.kind c.mx&&Yap c.kind c.my&&Ycr c)))):=Lib.hid (by rw[←Ypt];rfl);have BO:=Lib.hid (Yih (c:=c));clear hA hw0 hR hbx hze hma hc;generalize Ya6 inter c=z at *;by_cases h0:c.stuff<0
 ·have t0:decide (c.stuff<0)=true:=decide_eq_true h0;have Z:=Lib.hid (show z=false by rw[ZC.out,decide_eq_false (by omega:¬ 0≤c.stuff)];rfl);clear h0 ZC
  go_enter Tryd.func25,Tryd.ntmps25
  go_wp2
  go_ret
  exact⟨Yad Z.out.symm,by rw[HW.out,HR.out];exact hb0⟩
 by_cases h1:64<c.stuff
 ·have t0:decide (c.stuff<0)=false:=decide_eq_false h0;have t1:decide (64<c.stuff)=true:=decide_eq_true h1;have Z:=Lib.hid (show z=false by rw[ZC.out,decide_eq_false (by omega:¬ c.stuff≤64),Bool.and_false];rfl);clear h0 h1 ZC
  go_enter Tryd.func25,Tryd.ntmps25
  go_wp2
  go_ret
  exact⟨Yad Z.out.symm,by rw[HW.out,HR.out];exact hb0⟩
 have t0:decide (c.stuff<0)=false:=decide_eq_false h0;have t1:decide (64<c.stuff)=false:=decide_eq_false h1;rw[decide_eq_true (by omega:0≤c.stuff),decide_eq_true (by omega:c.stuff≤64)] at ZC;clear h0 h1;cases hsk:c.skip with
 |true=>
  rw[hsk] at ZC f1;cases inter with
  |false=>
   have Z:=Lib.hid (show z=false by rw[ZC.out];rfl)
   go_enter Tryd.func25,Tryd.ntmps25
   go_wp2
   go_ret
   exact⟨Yad Z.out.symm,by rw[HW.out,HR.out];exact hb0⟩
  |true=>
   have Z:=Lib.hid (show z=Yd4 c by rw[ZC.out];rfl)
   go_enter Tryd.func25,Tryd.ntmps25
   go_wp2_with (with_reducible refine Yas (by kernel_rfl) 42 _ rfl w.heap.size rfl 42 A (0,0) _ (heap_alloc_new w _) Tryd.underlying42 rfl HSZ ?_)
   rw[HW.out,HR.out];refine(HZE.out _ hb0).mono ?_;rintro e w1 ⟨rfl,hb1⟩;have hb2:=hb0.trans (hb1.mono (by omega))
   go_wp2
   go_ret
   exact⟨Yad Z.out.symm,by rw[HR.out];exact hb2⟩
 |false=>
  rw[hsk] at ZC f1;have ZZ:=Lib.hid (show z=((Ydo inter c.kind&&Yc8 c.kind c.step)&&(Yap c.kind c.mx&&Yap c.kind c.my&&Ycr c)) by rw[ZC.out];rfl);clear ZC;generalize hck:c.kind=kd at *;have HK:=Lib.hid hck;clear hck;have bad:∀(h:Ydo inter kd=false),Hid (z=false):=fun h=>Lib.hid (by rw[ZZ.out,h];rfl);by_cases k0:kd<0
  ·have s0:decide (kd<0)=true:=decide_eq_true k0;have Z:=bad (by unfold Ydo;rw[beq_eq_false_iff_ne.2 (by omega:kd≠3),beq_eq_false_iff_ne.2 (by omega:kd≠4),beq_eq_false_iff_ne.2 (by omega:kd≠0),beq_eq_false_iff_ne.2 (by omega:kd≠1)];cases inter <;> rfl);clear k0 bad
   go_enter Tryd.func25,Tryd.ntmps25
   go_wp2
   go_ret
   exact⟨Yad Z.out.symm,by rw[HW.out,HR.out];exact hb0⟩
  by_cases k4:4<kd
  ·have s0:decide (kd<0)=false:=decide_eq_false k0;have s1:decide (4<kd)=true:=decide_eq_true k4;have Z:=bad (by unfold Ydo;rw[beq_eq_false_iff_ne.2 (by omega:kd≠3),beq_eq_false_iff_ne.2 (by omega:kd≠4),beq_eq_false_iff_ne.2 (by omega:kd≠0),beq_eq_false_iff_ne.2 (by omega:kd≠1)];cases inter <;> rfl);clear k0 k4 bad
   go_enter Tryd.func25,Tryd.ntmps25
   go_wp2
   go_ret
   exact⟨Yad Z.out.symm,by rw[HW.out,HR.out];exact hb0⟩
  have hkd:kd=2∨((kd=0∨kd=1)∧inter=false)∨((kd=3∨kd=4∨kd=0∨kd=1)∧Ydo inter kd=true):=by
   rcases (by omega:kd=0∨kd=1∨kd=2∨kd=3∨kd=4) with rfl|rfl|rfl|rfl|rfl <;> cases inter <;> simp[Ydo]
  clear k0 k4;rcases hkd with rfl|⟨rfl|rfl,rfl⟩|⟨hkd,hko⟩
  ·have Z:=bad (by cases inter <;> rfl);clear bad
   go_enter Tryd.func25,Tryd.ntmps25
   go_wp2
   go_ret
   exact⟨Yad Z.out.symm,by rw[HW.out,HR.out];exact hb0⟩
  ·have Z:=bad rfl;clear bad
   go_enter Tryd.func25,Tryd.ntmps25
   go_wp2
   go_ret
   exact⟨Yad Z.out.symm,by rw[HW.out,HR.out];exact hb0⟩
  ·have Z:=bad rfl;clear bad
   go_enter Tryd.func25,Tryd.ntmps25
   go_wp2
   go_ret
   exact⟨Yad Z.out.symm,by rw[HW.out,HR.out];exact hb0⟩
  rw[hko] at ZZ;have ZS:=Lib.hid (show z=(Yc8 kd c.step&&(Yap kd c.mx&&Yap kd c.my&&Ycr c)) by rw[ZZ.out,Bool.true_and]);have hin2:inter=false→¬ (kd=0∨kd=1):=fun h e=>by subst h;rcases e with rfl|rfl <;> simp[Ydo] at hko
  clear bad ZZ hko;rcases hkd with rfl|rfl|rfl|rfl
  ·clear hin2;by_cases hs:c.step=0
   ·have u:(c.step != 0)=false:=by simpa using hs
    have STP:Hid (Yc8 3 c.step=true):=Lib.hid (by rw[hs];rfl);have hbX:Below (R+1) w0 w0:=Below.refl _ _;clear hs
    go_enter Tryd.func25,Tryd.ntmps25
    go_wp2
    rw[HW.out,HR.out]
    go_loopw [5] (fun v wr=>∃i:Nat,i≤2∧v=.int .i64 i∧Below (R+1) w0 wr∧Hid ((0<i→Yap 3 c.mx=true)∧(1<i→Yap 3 c.my=true))) (fun v _=>2-(RowKit.intOf v).toNat)
    case atStart=>exact⟨0,by omega,rfl,hbX,Lib.hid ⟨fun h=>absurd h (by omega),fun h=>absurd h (by omega)⟩⟩
    case round=>
     obtain⟨i,hi2,rfl,hb,o1⟩:=hrel;obtain⟨-,-,c2,-,c4,c5⟩:=Yav (HBX.out _ hb).2;rw[HK.out] at c2;rcases (by omega:i=0∨i=1∨i=2) with rfl|rfl|rfl
     ·by_cases m0:c.mx < -32
      ·have u0:decide (c.mx < -32)=true:=decide_eq_true m0;have Z:Hid (z=false):=Lib.hid (by rw[ZS.out,(show Yap 3 c.mx=false by unfold Yap;rw[show Yaj 3=true from rfl];exact beq_eq_false_iff_ne.2 (by omega))];simp);clear m0
       go_wp2
       go_ret
       exact⟨Yad Z.out.symm,by rw[HR.out];exact hb0.trans ((hb).mono (by omega))⟩
      have u0:decide (c.mx < -32)=false:=decide_eq_false m0;by_cases m1:31<c.mx
      ·have u1:decide (31<c.mx)=true:=decide_eq_true m1;have Z:Hid (z=false):=Lib.hid (by rw[ZS.out,(show Yap 3 c.mx=false by unfold Yap;rw[show Yaj 3=true from rfl];exact beq_eq_false_iff_ne.2 (by omega))];simp);clear m0 m1
       go_wp2
       go_ret
       exact⟨Yad Z.out.symm,by rw[HR.out];exact hb0.trans ((hb).mono (by omega))⟩
      have u1:decide (31<c.mx)=false:=decide_eq_false m1;by_cases m2:c.mx=0
      ·have u2:(c.mx != 0)=false:=by simpa using m2
       have OK:Hid (Yap 3 c.mx=true):=Lib.hid (by unfold Yap;rw[show Yaj 3=true from rfl,m2];rfl);clear m0 m1 m2
       go_wp2
       go_roundw
       case rel=>exact⟨0+1,by omega,by first|rfl|trivial,hb,Lib.hid ⟨fun _=>OK.out,fun h=>absurd h (by omega)⟩⟩
       case measure=>simp[RowKit.intOf]
      ·have u2:(c.mx != 0)=true:=by simpa using m2
       have Z:Hid (z=false):=Lib.hid (by rw[ZS.out,(show Yap 3 c.mx=false by unfold Yap;rw[show Yaj 3=true from rfl];exact beq_eq_false_iff_ne.2 m2)];simp);clear m0 m1 m2
       go_wp2
       go_ret
       exact⟨Yad Z.out.symm,by rw[HR.out];exact hb0.trans ((hb).mono (by omega))⟩
     ·by_cases m0:c.my < -32
      ·have u0:decide (c.my < -32)=true:=decide_eq_true m0;have Z:Hid (z=false):=Lib.hid (by rw[ZS.out,(show Yap 3 c.my=false by unfold Yap;rw[show Yaj 3=true from rfl];exact beq_eq_false_iff_ne.2 (by omega))];simp);clear m0
       go_wp2
       go_ret
       exact⟨Yad Z.out.symm,by rw[HR.out];exact hb0.trans ((hb).mono (by omega))⟩
      have u0:decide (c.my < -32)=false:=decide_eq_false m0;by_cases m1:31<c.my
      ·have u1:decide (31<c.my)=true:=decide_eq_true m1;have Z:Hid (z=false):=Lib.hid (by rw[ZS.out,(show Yap 3 c.my=false by unfold Yap;rw[show Yaj 3=true from rfl];exact beq_eq_false_iff_ne.2 (by omega))];simp);clear m0 m1
       go_wp2
       go_ret
       exact⟨Yad Z.out.symm,by rw[HR.out];exact hb0.trans ((hb).mono (by omega))⟩
      have u1:decide (31<c.my)=false:=decide_eq_false m1;by_cases m2:c.my=0
      ·have u2:(c.my != 0)=false:=by simpa using m2
       have OK:Hid (Yap 3 c.my=true):=Lib.hid (by unfold Yap;rw[show Yaj 3=true from rfl,m2];rfl);clear m0 m1 m2
       go_wp2
       go_roundw
       case rel=>exact⟨1+1,by omega,by first|rfl|trivial,hb,Lib.hid ⟨fun _=>o1.out.1 (by omega),fun _=>OK.out⟩⟩
       case measure=>simp[RowKit.intOf]
      ·have u2:(c.my != 0)=true:=by simpa using m2
       have Z:Hid (z=false):=Lib.hid (by rw[ZS.out,(show Yap 3 c.my=false by unfold Yap;rw[show Yaj 3=true from rfl];exact beq_eq_false_iff_ne.2 m2)];simp);clear m0 m1 m2
       go_wp2
       go_ret
       exact⟨Yad Z.out.symm,by rw[HR.out];exact hb0.trans ((hb).mono (by omega))⟩
     ·have OX:Hid (z=Ycr c):=Lib.hid (by rw[ZS.out,o1.out.1 (by omega),o1.out.2 (by omega),STP.out];rfl);clear c4 c5
      go_wp2
      go_loopw [6] (fun v wr2=>∃i:Nat,i≤6∧v=.int .i64 i∧Below (R+1) w0 wr2∧Hid (∀j,j<i→Ye8 (Yaj 3) (c.dc j) (c.ev j)=true)) (fun v _=>6-(RowKit.intOf v).toNat)
      case atStart=>exact⟨0,by omega,rfl,hb,Lib.hid fun j h=>absurd h (Nat.not_lt_zero j)⟩
      case round=>
       clear hb c2;obtain⟨i,hi6,rfl,hb,ms⟩:=hrel;obtain⟨-,-,c2,-,-,-⟩:=Yav (HBX.out _ hb).2;rw[HK.out] at c2;by_cases hlt:i<6
       ·have t3:decide ((i:Int)<6)=true:=by simp;omega
        have d0:=Yac (o:=6+i) (HBX.out _ hb).2 (Ycn c _ i hlt);have e0:=Yac (o:=12+i) (HBX.out _ hb).2 (Yc1 c (fun i=>.slice (p i) (n i) (k i)) i hlt);rw[NL.out i hlt] at e0;have hm:=HMA.out i hlt;have C2:=Lib.hid (fun x (hx:Below (R+1) w0 x)=>(HK.out▸(Yav (HBX.out x hx).2).2.2.1:x.cell? ⟨R,2,none⟩=some (.int .i64 3)))
        have D0:=Lib.hid (fun x (hx:Below (R+1) w0 x)=>Yac (o:=6+i) (HBX.out x hx).2 (Ycn c _ i hlt));have E0:=Lib.hid (fun x (hx:Below (R+1) w0 x)=>(by have h:=Yac (o:=12+i) (HBX.out x hx).2 (Yc1 c (fun i=>.slice (p i) (n i) (k i)) i hlt);rw[NL.out i hlt] at h;exact h:x.cell? ⟨R,12+i,none⟩=some (.slice (p i) (c.ev i).length (k i))))
        have IN:=Lib.hid (fun x (hx:Below (R+1) w0 x)=>((hin x).mono fun e y h=>⟨h.1,h.2▸hx⟩:Calls Tryd.prog 18 #[.int .i64 3] x fun e y=>e=.returned (.bool (Yaj 3))∧Below (R+1) w0 y))
        have MA:=Lib.hid (fun x (hx:Below (R+1) w0 x)=>((hm x (hb0.trans (hx.mono (by omega)))).mono fun e y h=>⟨h.1,hx.trans (h.2.mono (by have:=hx.size;omega))⟩:Calls Tryd.prog 37 #[.bool (Yaj 3),.int .i64 (c.dc i),.slice (p i) (c.ev i).length (k i)] x fun e y=>e=.returned (.bool (Ye8 (Yaj 3) (c.dc i) (c.ev i)))∧Below (R+1) w0 y));have hbd:=hb.drew;clear c2 d0 e0 hm
        generalize hmb:Ye8 (Yaj 3) (c.dc i) (c.ev i)=mb at MA
        go_wp2
        refine Yag (S:=fun x=>Below (R+1) w0 x) 13 (by kernel_rfl) (by kernel_rfl) hbd ?_;simp only[List.take_succ_cons,List.take_zero,List.drop_succ_cons,List.drop_zero];refine Yab (by kernel_rfl) (fun x _=>by go_simp;try with_reducible rfl) ?_;simp only[Yaa];refine Yaf 3 _ ⟨R,2,none⟩ (.int .i64 3) (by kernel_rfl) rfl rfl (fun x hx=>by have c0:=C2.out x hx;go_simp) ?_;simp only[Yaa]
        refine Yai (by kernel_rfl) IN.out (fun _=>by kernel_rfl) ?_;simp only[Yaa]
        iterate 2 (refine Yab (by kernel_rfl) (fun x _=>by go_simp;try with_reducible rfl) ?_;simp only[Yaa])
        refine Yab (by kernel_rfl) (fun x _=>by go_simp;rw[if_pos (by omega)]) ?_;simp only[Yaa];refine Yaf 3 _ ⟨R,6+i,none⟩ (.int .i64 (c.dc i)) (by kernel_rfl) rfl rfl (fun x hx=>by have c0:=D0.out x hx;go_simp) ?_;simp only[Yaa]
        iterate 2 (refine Yab (by kernel_rfl) (fun x _=>by go_simp;try with_reducible rfl) ?_;simp only[Yaa])
        refine Yab (by kernel_rfl) (fun x _=>by go_simp;rw[if_pos (by omega)]) ?_;simp only[Yaa];refine Yaf 37 _ ⟨R,12+i,none⟩ (.slice (p i) (c.ev i).length (k i)) (by kernel_rfl) rfl rfl (fun x hx=>by have c0:=E0.out x hx;go_simp) ?_;simp only[Yaa];refine Yai (by kernel_rfl) MA.out (fun _=>by kernel_rfl) ?_;simp only[Yaa]
        refine Yab (by kernel_rfl) (fun x _=>by go_simp;try with_reducible rfl) ?_;simp only[Yaa];refine Yax fun x hx=>?_;cases mb with
        |true=>
         have HM:=Lib.hid hmb;clear hmb
         go_wp2
         go_roundw
         case rel=>exact⟨i+1,by omega,by go_num,hx,Lib.hid fun j hj=>(Nat.lt_succ_iff_lt_or_eq.1 hj).elim (ms.out j) fun h=>h▸HM.out⟩
         case measure=>simp[RowKit.intOf];omega
        |false=>
         have Z:Hid (z=false):=Lib.hid (by rw[OX.out];exact Bool.eq_false_iff.2 fun h=>by rw[BO.out.1 h i hlt] at hmb;cases hmb);clear hmb
         go_wp2
         go_ret
         exact⟨Yad Z.out.symm,by rw[HR.out];exact hb0.trans (hx.mono (by omega))⟩
       ·obtain rfl:i=6:=by omega
        have Z:Hid (z=true):=Lib.hid (by rw[OX.out];exact BO.out.2 ms.out)
        go_wp2
        go_ret
        exact⟨Yad Z.out.symm,by rw[HR.out];exact hb0.trans (hb.mono (by omega))⟩
   ·have u:(c.step != 0)=true:=by simpa using hs
    have Z:Hid (z=false):=Lib.hid (by rw[ZS.out,show Yc8 3 c.step=false from beq_eq_false_iff_ne.2 hs];rfl);clear hs
    go_enter Tryd.func25,Tryd.ntmps25
    go_wp2
    go_ret
    exact⟨Yad Z.out.symm,by rw[HW.out,HR.out];exact hb0⟩
  ·clear hin2;have SE:Hid (Yc8 4 c.step = !(Ybb c.step).data.toList.isEmpty):=Lib.hid rfl
   go_enter Tryd.func25,Tryd.ntmps25
   go_wp2_with fail
   rw[HW.out,HR.out];refine(hst _).mono ?_;rintro e w1 ⟨rfl,hb1⟩;rw[hz0] at hb1;have hbX:Below (R+1) w0 w1:=hb1;obtain⟨-,-,c2,c3,-,-⟩:=Yav (HBX.out _ hbX).2;rw[HK.out] at c2;have ue:(Ybb c.step).data.toList.isEmpty=false→(Ybb c.step).toList.isEmpty=false:=fun h=>by rcases Ye5.1 h with e|e|e|e <;> rw[e] <;> decide +kernel
   generalize Ybb c.step=sr at *;cases hse:sr.data.toList.isEmpty
   ·have STP:Hid (Yc8 4 c.step=true):=Lib.hid (by rw[SE.out,hse];rfl);have u:=ue hse;clear hse ue
    go_wp2
    go_loopw [5] (fun v wr=>∃i:Nat,i≤2∧v=.int .i64 i∧Below (R+1) w0 wr∧Hid ((0<i→Yap 4 c.mx=true)∧(1<i→Yap 4 c.my=true))) (fun v _=>2-(RowKit.intOf v).toNat)
    case atStart=>exact⟨0,by omega,rfl,hbX,Lib.hid ⟨fun h=>absurd h (by omega),fun h=>absurd h (by omega)⟩⟩
    case round=>
     obtain⟨i,hi2,rfl,hb,o1⟩:=hrel;obtain⟨-,-,c2,-,c4,c5⟩:=Yav (HBX.out _ hb).2;rw[HK.out] at c2;rcases (by omega:i=0∨i=1∨i=2) with rfl|rfl|rfl
     ·by_cases m0:c.mx < -32
      ·have u0:decide (c.mx < -32)=true:=decide_eq_true m0;have Z:Hid (z=false):=Lib.hid (by rw[ZS.out,(show Yap 4 c.mx=false by unfold Yap;rw[show Yaj 4=true from rfl];exact beq_eq_false_iff_ne.2 (by omega))];simp);clear m0
       go_wp2
       go_ret
       exact⟨Yad Z.out.symm,by rw[HR.out];exact hb0.trans ((hb).mono (by omega))⟩
      have u0:decide (c.mx < -32)=false:=decide_eq_false m0;by_cases m1:31<c.mx
      ·have u1:decide (31<c.mx)=true:=decide_eq_true m1;have Z:Hid (z=false):=Lib.hid (by rw[ZS.out,(show Yap 4 c.mx=false by unfold Yap;rw[show Yaj 4=true from rfl];exact beq_eq_false_iff_ne.2 (by omega))];simp);clear m0 m1
       go_wp2
       go_ret
       exact⟨Yad Z.out.symm,by rw[HR.out];exact hb0.trans ((hb).mono (by omega))⟩
      have u1:decide (31<c.mx)=false:=decide_eq_false m1;by_cases m2:c.mx=0
      ·have u2:(c.mx != 0)=false:=by simpa using m2
       have OK:Hid (Yap 4 c.mx=true):=Lib.hid (by unfold Yap;rw[show Yaj 4=true from rfl,m2];rfl);clear m0 m1 m2
       go_wp2
       go_roundw
       case rel=>exact⟨0+1,by omega,by first|rfl|trivial,hb,Lib.hid ⟨fun _=>OK.out,fun h=>absurd h (by omega)⟩⟩
       case measure=>simp[RowKit.intOf]
      ·have u2:(c.mx != 0)=true:=by simpa using m2
       have Z:Hid (z=false):=Lib.hid (by rw[ZS.out,(show Yap 4 c.mx=false by unfold Yap;rw[show Yaj 4=true from rfl];exact beq_eq_false_iff_ne.2 m2)];simp);clear m0 m1 m2
       go_wp2
       go_ret
       exact⟨Yad Z.out.symm,by rw[HR.out];exact hb0.trans ((hb).mono (by omega))⟩
     ·by_cases m0:c.my < -32
      ·have u0:decide (c.my < -32)=true:=decide_eq_true m0;have Z:Hid (z=false):=Lib.hid (by rw[ZS.out,(show Yap 4 c.my=false by unfold Yap;rw[show Yaj 4=true from rfl];exact beq_eq_false_iff_ne.2 (by omega))];simp);clear m0
       go_wp2
       go_ret
       exact⟨Yad Z.out.symm,by rw[HR.out];exact hb0.trans ((hb).mono (by omega))⟩
      have u0:decide (c.my < -32)=false:=decide_eq_false m0;by_cases m1:31<c.my
      ·have u1:decide (31<c.my)=true:=decide_eq_true m1;have Z:Hid (z=false):=Lib.hid (by rw[ZS.out,(show Yap 4 c.my=false by unfold Yap;rw[show Yaj 4=true from rfl];exact beq_eq_false_iff_ne.2 (by omega))];simp);clear m0 m1
       go_wp2
       go_ret
       exact⟨Yad Z.out.symm,by rw[HR.out];exact hb0.trans ((hb).mono (by omega))⟩
      have u1:decide (31<c.my)=false:=decide_eq_false m1;by_cases m2:c.my=0
      ·have u2:(c.my != 0)=false:=by simpa using m2
       have OK:Hid (Yap 4 c.my=true):=Lib.hid (by unfold Yap;rw[show Yaj 4=true from rfl,m2];rfl);clear m0 m1 m2
       go_wp2
       go_roundw
       case rel=>exact⟨1+1,by omega,by first|rfl|trivial,hb,Lib.hid ⟨fun _=>o1.out.1 (by omega),fun _=>OK.out⟩⟩
       case measure=>simp[RowKit.intOf]
      ·have u2:(c.my != 0)=true:=by simpa using m2
       have Z:Hid (z=false):=Lib.hid (by rw[ZS.out,(show Yap 4 c.my=false by unfold Yap;rw[show Yaj 4=true from rfl];exact beq_eq_false_iff_ne.2 m2)];simp);clear m0 m1 m2
       go_wp2
       go_ret
       exact⟨Yad Z.out.symm,by rw[HR.out];exact hb0.trans ((hb).mono (by omega))⟩
     ·have OX:Hid (z=Ycr c):=Lib.hid (by rw[ZS.out,o1.out.1 (by omega),o1.out.2 (by omega),STP.out];rfl);clear c4 c5
      go_wp2
      go_loopw [6] (fun v wr2=>∃i:Nat,i≤6∧v=.int .i64 i∧Below (R+1) w0 wr2∧Hid (∀j,j<i→Ye8 (Yaj 4) (c.dc j) (c.ev j)=true)) (fun v _=>6-(RowKit.intOf v).toNat)
      case atStart=>exact⟨0,by omega,rfl,hb,Lib.hid fun j h=>absurd h (Nat.not_lt_zero j)⟩
      case round=>
       clear hb c2;obtain⟨i,hi6,rfl,hb,ms⟩:=hrel;obtain⟨-,-,c2,-,-,-⟩:=Yav (HBX.out _ hb).2;rw[HK.out] at c2;by_cases hlt:i<6
       ·have t3:decide ((i:Int)<6)=true:=by simp;omega
        have d0:=Yac (o:=6+i) (HBX.out _ hb).2 (Ycn c _ i hlt);have e0:=Yac (o:=12+i) (HBX.out _ hb).2 (Yc1 c (fun i=>.slice (p i) (n i) (k i)) i hlt);rw[NL.out i hlt] at e0;have hm:=HMA.out i hlt;have C2:=Lib.hid (fun x (hx:Below (R+1) w0 x)=>(HK.out▸(Yav (HBX.out x hx).2).2.2.1:x.cell? ⟨R,2,none⟩=some (.int .i64 4)))
        have D0:=Lib.hid (fun x (hx:Below (R+1) w0 x)=>Yac (o:=6+i) (HBX.out x hx).2 (Ycn c _ i hlt));have E0:=Lib.hid (fun x (hx:Below (R+1) w0 x)=>(by have h:=Yac (o:=12+i) (HBX.out x hx).2 (Yc1 c (fun i=>.slice (p i) (n i) (k i)) i hlt);rw[NL.out i hlt] at h;exact h:x.cell? ⟨R,12+i,none⟩=some (.slice (p i) (c.ev i).length (k i))))
        have IN:=Lib.hid (fun x (hx:Below (R+1) w0 x)=>((hin x).mono fun e y h=>⟨h.1,h.2▸hx⟩:Calls Tryd.prog 18 #[.int .i64 4] x fun e y=>e=.returned (.bool (Yaj 4))∧Below (R+1) w0 y))
        have MA:=Lib.hid (fun x (hx:Below (R+1) w0 x)=>((hm x (hb0.trans (hx.mono (by omega)))).mono fun e y h=>⟨h.1,hx.trans (h.2.mono (by have:=hx.size;omega))⟩:Calls Tryd.prog 37 #[.bool (Yaj 4),.int .i64 (c.dc i),.slice (p i) (c.ev i).length (k i)] x fun e y=>e=.returned (.bool (Ye8 (Yaj 4) (c.dc i) (c.ev i)))∧Below (R+1) w0 y));have hbd:=hb.drew;clear c2 d0 e0 hm
        generalize hmb:Ye8 (Yaj 4) (c.dc i) (c.ev i)=mb at MA
        go_wp2
        refine Yag (S:=fun x=>Below (R+1) w0 x) 13 (by kernel_rfl) (by kernel_rfl) hbd ?_;simp only[List.take_succ_cons,List.take_zero,List.drop_succ_cons,List.drop_zero];refine Yab (by kernel_rfl) (fun x _=>by go_simp;try with_reducible rfl) ?_;simp only[Yaa];refine Yaf 3 _ ⟨R,2,none⟩ (.int .i64 4) (by kernel_rfl) rfl rfl (fun x hx=>by have c0:=C2.out x hx;go_simp) ?_;simp only[Yaa]
        refine Yai (by kernel_rfl) IN.out (fun _=>by kernel_rfl) ?_;simp only[Yaa]
        iterate 2 (refine Yab (by kernel_rfl) (fun x _=>by go_simp;try with_reducible rfl) ?_;simp only[Yaa])
        refine Yab (by kernel_rfl) (fun x _=>by go_simp;rw[if_pos (by omega)]) ?_;simp only[Yaa];refine Yaf 3 _ ⟨R,6+i,none⟩ (.int .i64 (c.dc i)) (by kernel_rfl) rfl rfl (fun x hx=>by have c0:=D0.out x hx;go_simp) ?_;simp only[Yaa]
        iterate 2 (refine Yab (by kernel_rfl) (fun x _=>by go_simp;try with_reducible rfl) ?_;simp only[Yaa])
        refine Yab (by kernel_rfl) (fun x _=>by go_simp;rw[if_pos (by omega)]) ?_;simp only[Yaa];refine Yaf 37 _ ⟨R,12+i,none⟩ (.slice (p i) (c.ev i).length (k i)) (by kernel_rfl) rfl rfl (fun x hx=>by have c0:=E0.out x hx;go_simp) ?_;simp only[Yaa];refine Yai (by kernel_rfl) MA.out (fun _=>by kernel_rfl) ?_;simp only[Yaa]
        refine Yab (by kernel_rfl) (fun x _=>by go_simp;try with_reducible rfl) ?_;simp only[Yaa];refine Yax fun x hx=>?_;cases mb with
        |true=>
         have HM:=Lib.hid hmb;clear hmb
         go_wp2
         go_roundw
         case rel=>exact⟨i+1,by omega,by go_num,hx,Lib.hid fun j hj=>(Nat.lt_succ_iff_lt_or_eq.1 hj).elim (ms.out j) fun h=>h▸HM.out⟩
         case measure=>simp[RowKit.intOf];omega
        |false=>
         have Z:Hid (z=false):=Lib.hid (by rw[OX.out];exact Bool.eq_false_iff.2 fun h=>by rw[BO.out.1 h i hlt] at hmb;cases hmb);clear hmb
         go_wp2
         go_ret
         exact⟨Yad Z.out.symm,by rw[HR.out];exact hb0.trans (hx.mono (by omega))⟩
       ·obtain rfl:i=6:=by omega
        have Z:Hid (z=true):=Lib.hid (by rw[OX.out];exact BO.out.2 ms.out)
        go_wp2
        go_ret
        exact⟨Yad Z.out.symm,by rw[HR.out];exact hb0.trans (hb.mono (by omega))⟩
   ·have Z:Hid (z=false):=Lib.hid (by rw[ZS.out,SE.out,hse];rfl);have u0:sr=⟨#[]⟩:=by
     have h:=List.isEmpty_iff.1 hse;exact Yq5.2 h
    subst u0;clear hse c3
    go_wp2
    go_ret
    exact⟨Yad Z.out.symm,by rw[HR.out];exact hb0.trans (hbX.mono (by omega))⟩
  ·obtain rfl:inter=true:=by cases inter with|true=>rfl|false=>exact absurd (hin2 rfl) (by simp)
   clear hin2;by_cases hs:c.step=0
   ·have u:(c.step != 0)=false:=by simpa using hs
    have STP:Hid (Yc8 0 c.step=true):=Lib.hid (by rw[hs];rfl);have hbX:Below (R+1) w0 w0:=Below.refl _ _;clear hs
    go_enter Tryd.func25,Tryd.ntmps25
    go_wp2
    rw[HW.out,HR.out]
    go_loopw [5] (fun v wr=>∃i:Nat,i≤2∧v=.int .i64 i∧Below (R+1) w0 wr∧Hid ((0<i→Yap 0 c.mx=true)∧(1<i→Yap 0 c.my=true))) (fun v _=>2-(RowKit.intOf v).toNat)
    case atStart=>exact⟨0,by omega,rfl,hbX,Lib.hid ⟨fun h=>absurd h (by omega),fun h=>absurd h (by omega)⟩⟩
    case round=>
     obtain⟨i,hi2,rfl,hb,o1⟩:=hrel;obtain⟨-,-,c2,-,c4,c5⟩:=Yav (HBX.out _ hb).2;rw[HK.out] at c2;rcases (by omega:i=0∨i=1∨i=2) with rfl|rfl|rfl
     ·by_cases m0:c.mx < -32
      ·have u0:decide (c.mx < -32)=true:=decide_eq_true m0;have Z:Hid (z=false):=Lib.hid (by rw[ZS.out,(show Yap 0 c.mx=false by unfold Yap;rw[show Yaj 0=false from rfl];exact beq_eq_false_iff_ne.2 (fun h=>by have:=Ydi c.mx;omega))];simp);clear m0
       go_wp2
       go_ret
       exact⟨Yad Z.out.symm,by rw[HR.out];exact hb0.trans ((hb).mono (by omega))⟩
      have u0:decide (c.mx < -32)=false:=decide_eq_false m0;by_cases m1:31<c.mx
      ·have u1:decide (31<c.mx)=true:=decide_eq_true m1;have Z:Hid (z=false):=Lib.hid (by rw[ZS.out,(show Yap 0 c.mx=false by unfold Yap;rw[show Yaj 0=false from rfl];exact beq_eq_false_iff_ne.2 (fun h=>by have:=Ydi c.mx;omega))];simp);clear m0 m1
       go_wp2
       go_ret
       exact⟨Yad Z.out.symm,by rw[HR.out];exact hb0.trans ((hb).mono (by omega))⟩
      have u1:decide (31<c.mx)=false:=decide_eq_false m1;have OK:Hid (Yap 0 c.mx=true):=Lib.hid (by unfold Yap;rw[show Yaj 0=false from rfl];exact beq_iff_eq.2 (Yep.2 ⟨by omega,by omega⟩));clear m0 m1
      go_wp2
      go_roundw
      case rel=>exact⟨0+1,by omega,by first|rfl|trivial,hb,Lib.hid ⟨fun _=>OK.out,fun h=>absurd h (by omega)⟩⟩
      case measure=>simp[RowKit.intOf]
     ·by_cases m0:c.my < -32
      ·have u0:decide (c.my < -32)=true:=decide_eq_true m0;have Z:Hid (z=false):=Lib.hid (by rw[ZS.out,(show Yap 0 c.my=false by unfold Yap;rw[show Yaj 0=false from rfl];exact beq_eq_false_iff_ne.2 (fun h=>by have:=Ydi c.my;omega))];simp);clear m0
       go_wp2
       go_ret
       exact⟨Yad Z.out.symm,by rw[HR.out];exact hb0.trans ((hb).mono (by omega))⟩
      have u0:decide (c.my < -32)=false:=decide_eq_false m0;by_cases m1:31<c.my
      ·have u1:decide (31<c.my)=true:=decide_eq_true m1;have Z:Hid (z=false):=Lib.hid (by rw[ZS.out,(show Yap 0 c.my=false by unfold Yap;rw[show Yaj 0=false from rfl];exact beq_eq_false_iff_ne.2 (fun h=>by have:=Ydi c.my;omega))];simp);clear m0 m1
       go_wp2
       go_ret
       exact⟨Yad Z.out.symm,by rw[HR.out];exact hb0.trans ((hb).mono (by omega))⟩
      have u1:decide (31<c.my)=false:=decide_eq_false m1;have OK:Hid (Yap 0 c.my=true):=Lib.hid (by unfold Yap;rw[show Yaj 0=false from rfl];exact beq_iff_eq.2 (Yep.2 ⟨by omega,by omega⟩));clear m0 m1
      go_wp2
      go_roundw
      case rel=>exact⟨1+1,by omega,by first|rfl|trivial,hb,Lib.hid ⟨fun _=>o1.out.1 (by omega),fun _=>OK.out⟩⟩
      case measure=>simp[RowKit.intOf]
     ·have OX:Hid (z=Ycr c):=Lib.hid (by rw[ZS.out,o1.out.1 (by omega),o1.out.2 (by omega),STP.out];rfl);clear c4 c5
      go_wp2
      go_loopw [6] (fun v wr2=>∃i:Nat,i≤6∧v=.int .i64 i∧Below (R+1) w0 wr2∧Hid (∀j,j<i→Ye8 (Yaj 0) (c.dc j) (c.ev j)=true)) (fun v _=>6-(RowKit.intOf v).toNat)
      case atStart=>exact⟨0,by omega,rfl,hb,Lib.hid fun j h=>absurd h (Nat.not_lt_zero j)⟩
      case round=>
       clear hb c2;obtain⟨i,hi6,rfl,hb,ms⟩:=hrel;obtain⟨-,-,c2,-,-,-⟩:=Yav (HBX.out _ hb).2;rw[HK.out] at c2;by_cases hlt:i<6
       ·have t3:decide ((i:Int)<6)=true:=by simp;omega
        have d0:=Yac (o:=6+i) (HBX.out _ hb).2 (Ycn c _ i hlt);have e0:=Yac (o:=12+i) (HBX.out _ hb).2 (Yc1 c (fun i=>.slice (p i) (n i) (k i)) i hlt);rw[NL.out i hlt] at e0;have hm:=HMA.out i hlt;have C2:=Lib.hid (fun x (hx:Below (R+1) w0 x)=>(HK.out▸(Yav (HBX.out x hx).2).2.2.1:x.cell? ⟨R,2,none⟩=some (.int .i64 0)))
        have D0:=Lib.hid (fun x (hx:Below (R+1) w0 x)=>Yac (o:=6+i) (HBX.out x hx).2 (Ycn c _ i hlt));have E0:=Lib.hid (fun x (hx:Below (R+1) w0 x)=>(by have h:=Yac (o:=12+i) (HBX.out x hx).2 (Yc1 c (fun i=>.slice (p i) (n i) (k i)) i hlt);rw[NL.out i hlt] at h;exact h:x.cell? ⟨R,12+i,none⟩=some (.slice (p i) (c.ev i).length (k i))))
        have IN:=Lib.hid (fun x (hx:Below (R+1) w0 x)=>((hin x).mono fun e y h=>⟨h.1,h.2▸hx⟩:Calls Tryd.prog 18 #[.int .i64 0] x fun e y=>e=.returned (.bool (Yaj 0))∧Below (R+1) w0 y))
        have MA:=Lib.hid (fun x (hx:Below (R+1) w0 x)=>((hm x (hb0.trans (hx.mono (by omega)))).mono fun e y h=>⟨h.1,hx.trans (h.2.mono (by have:=hx.size;omega))⟩:Calls Tryd.prog 37 #[.bool (Yaj 0),.int .i64 (c.dc i),.slice (p i) (c.ev i).length (k i)] x fun e y=>e=.returned (.bool (Ye8 (Yaj 0) (c.dc i) (c.ev i)))∧Below (R+1) w0 y));have hbd:=hb.drew;clear c2 d0 e0 hm
        generalize hmb:Ye8 (Yaj 0) (c.dc i) (c.ev i)=mb at MA
        go_wp2
        refine Yag (S:=fun x=>Below (R+1) w0 x) 13 (by kernel_rfl) (by kernel_rfl) hbd ?_;simp only[List.take_succ_cons,List.take_zero,List.drop_succ_cons,List.drop_zero];refine Yab (by kernel_rfl) (fun x _=>by go_simp;try with_reducible rfl) ?_;simp only[Yaa];refine Yaf 3 _ ⟨R,2,none⟩ (.int .i64 0) (by kernel_rfl) rfl rfl (fun x hx=>by have c0:=C2.out x hx;go_simp) ?_;simp only[Yaa]
        refine Yai (by kernel_rfl) IN.out (fun _=>by kernel_rfl) ?_;simp only[Yaa]
        iterate 2 (refine Yab (by kernel_rfl) (fun x _=>by go_simp;try with_reducible rfl) ?_;simp only[Yaa])
        refine Yab (by kernel_rfl) (fun x _=>by go_simp;rw[if_pos (by omega)]) ?_;simp only[Yaa];refine Yaf 3 _ ⟨R,6+i,none⟩ (.int .i64 (c.dc i)) (by kernel_rfl) rfl rfl (fun x hx=>by have c0:=D0.out x hx;go_simp) ?_;simp only[Yaa]
        iterate 2 (refine Yab (by kernel_rfl) (fun x _=>by go_simp;try with_reducible rfl) ?_;simp only[Yaa])
        refine Yab (by kernel_rfl) (fun x _=>by go_simp;rw[if_pos (by omega)]) ?_;simp only[Yaa];refine Yaf 37 _ ⟨R,12+i,none⟩ (.slice (p i) (c.ev i).length (k i)) (by kernel_rfl) rfl rfl (fun x hx=>by have c0:=E0.out x hx;go_simp) ?_;simp only[Yaa];refine Yai (by kernel_rfl) MA.out (fun _=>by kernel_rfl) ?_;simp only[Yaa]
        refine Yab (by kernel_rfl) (fun x _=>by go_simp;try with_reducible rfl) ?_;simp only[Yaa];refine Yax fun x hx=>?_;cases mb with
        |true=>
         have HM:=Lib.hid hmb;clear hmb
         go_wp2
         go_roundw
         case rel=>exact⟨i+1,by omega,by go_num,hx,Lib.hid fun j hj=>(Nat.lt_succ_iff_lt_or_eq.1 hj).elim (ms.out j) fun h=>h▸HM.out⟩
         case measure=>simp[RowKit.intOf];omega
        |false=>
         have Z:Hid (z=false):=Lib.hid (by rw[OX.out];exact Bool.eq_false_iff.2 fun h=>by rw[BO.out.1 h i hlt] at hmb;cases hmb);clear hmb
         go_wp2
         go_ret
         exact⟨Yad Z.out.symm,by rw[HR.out];exact hb0.trans (hx.mono (by omega))⟩
       ·obtain rfl:i=6:=by omega
        have Z:Hid (z=true):=Lib.hid (by rw[OX.out];exact BO.out.2 ms.out)
        go_wp2
        go_ret
        exact⟨Yad Z.out.symm,by rw[HR.out];exact hb0.trans (hb.mono (by omega))⟩
   ·have u:(c.step != 0)=true:=by simpa using hs
    have Z:Hid (z=false):=Lib.hid (by rw[ZS.out,show Yc8 0 c.step=false from beq_eq_false_iff_ne.2 hs];rfl);clear hs
    go_enter Tryd.func25,Tryd.ntmps25
    go_wp2
    go_ret
    exact⟨Yad Z.out.symm,by rw[HW.out,HR.out];exact hb0⟩
  ·obtain rfl:inter=true:=by cases inter with|true=>rfl|false=>exact absurd (hin2 rfl) (by simp)
   clear hin2;have SE:Hid (Yc8 1 c.step = !(Ybb c.step).data.toList.isEmpty):=Lib.hid rfl
   go_enter Tryd.func25,Tryd.ntmps25
   go_wp2_with fail
   rw[HW.out,HR.out];refine(hst _).mono ?_;rintro e w1 ⟨rfl,hb1⟩;rw[hz0] at hb1;have hbX:Below (R+1) w0 w1:=hb1;obtain⟨-,-,c2,c3,-,-⟩:=Yav (HBX.out _ hbX).2;rw[HK.out] at c2;have ue:(Ybb c.step).data.toList.isEmpty=false→(Ybb c.step).toList.isEmpty=false:=fun h=>by rcases Ye5.1 h with e|e|e|e <;> rw[e] <;> decide +kernel
   generalize Ybb c.step=sr at *;cases hse:sr.data.toList.isEmpty
   ·have STP:Hid (Yc8 1 c.step=true):=Lib.hid (by rw[SE.out,hse];rfl);have u:=ue hse;clear hse ue
    go_wp2
    go_loopw [5] (fun v wr=>∃i:Nat,i≤2∧v=.int .i64 i∧Below (R+1) w0 wr∧Hid ((0<i→Yap 1 c.mx=true)∧(1<i→Yap 1 c.my=true))) (fun v _=>2-(RowKit.intOf v).toNat)
    case atStart=>exact⟨0,by omega,rfl,hbX,Lib.hid ⟨fun h=>absurd h (by omega),fun h=>absurd h (by omega)⟩⟩
    case round=>
     obtain⟨i,hi2,rfl,hb,o1⟩:=hrel;obtain⟨-,-,c2,-,c4,c5⟩:=Yav (HBX.out _ hb).2;rw[HK.out] at c2;rcases (by omega:i=0∨i=1∨i=2) with rfl|rfl|rfl
     ·by_cases m0:c.mx < -32
      ·have u0:decide (c.mx < -32)=true:=decide_eq_true m0;have Z:Hid (z=false):=Lib.hid (by rw[ZS.out,(show Yap 1 c.mx=false by unfold Yap;rw[show Yaj 1=false from rfl];exact beq_eq_false_iff_ne.2 (fun h=>by have:=Ydi c.mx;omega))];simp);clear m0
       go_wp2
       go_ret
       exact⟨Yad Z.out.symm,by rw[HR.out];exact hb0.trans ((hb).mono (by omega))⟩
      have u0:decide (c.mx < -32)=false:=decide_eq_false m0;by_cases m1:31<c.mx
      ·have u1:decide (31<c.mx)=true:=decide_eq_true m1;have Z:Hid (z=false):=Lib.hid (by rw[ZS.out,(show Yap 1 c.mx=false by unfold Yap;rw[show Yaj 1=false from rfl];exact beq_eq_false_iff_ne.2 (fun h=>by have:=Ydi c.mx;omega))];simp);clear m0 m1
       go_wp2
       go_ret
       exact⟨Yad Z.out.symm,by rw[HR.out];exact hb0.trans ((hb).mono (by omega))⟩
      have u1:decide (31<c.mx)=false:=decide_eq_false m1;have OK:Hid (Yap 1 c.mx=true):=Lib.hid (by unfold Yap;rw[show Yaj 1=false from rfl];exact beq_iff_eq.2 (Yep.2 ⟨by omega,by omega⟩));clear m0 m1
      go_wp2
      go_roundw
      case rel=>exact⟨0+1,by omega,by first|rfl|trivial,hb,Lib.hid ⟨fun _=>OK.out,fun h=>absurd h (by omega)⟩⟩
      case measure=>simp[RowKit.intOf]
     ·by_cases m0:c.my < -32
      ·have u0:decide (c.my < -32)=true:=decide_eq_true m0;have Z:Hid (z=false):=Lib.hid (by rw[ZS.out,(show Yap 1 c.my=false by unfold Yap;rw[show Yaj 1=false from rfl];exact beq_eq_false_iff_ne.2 (fun h=>by have:=Ydi c.my;omega))];simp);clear m0
       go_wp2
       go_ret
       exact⟨Yad Z.out.symm,by rw[HR.out];exact hb0.trans ((hb).mono (by omega))⟩
      have u0:decide (c.my < -32)=false:=decide_eq_false m0;by_cases m1:31<c.my
      ·have u1:decide (31<c.my)=true:=decide_eq_true m1;have Z:Hid (z=false):=Lib.hid (by rw[ZS.out,(show Yap 1 c.my=false by unfold Yap;rw[show Yaj 1=false from rfl];exact beq_eq_false_iff_ne.2 (fun h=>by have:=Ydi c.my;omega))];simp);clear m0 m1
       go_wp2
       go_ret
       exact⟨Yad Z.out.symm,by rw[HR.out];exact hb0.trans ((hb).mono (by omega))⟩
      have u1:decide (31<c.my)=false:=decide_eq_false m1;have OK:Hid (Yap 1 c.my=true):=Lib.hid (by unfold Yap;rw[show Yaj 1=false from rfl];exact beq_iff_eq.2 (Yep.2 ⟨by omega,by omega⟩));clear m0 m1
      go_wp2
      go_roundw
      case rel=>exact⟨1+1,by omega,by first|rfl|trivial,hb,Lib.hid ⟨fun _=>o1.out.1 (by omega),fun _=>OK.out⟩⟩
      case measure=>simp[RowKit.intOf]
     ·have OX:Hid (z=Ycr c):=Lib.hid (by rw[ZS.out,o1.out.1 (by omega),o1.out.2 (by omega),STP.out];rfl);clear c4 c5
      go_wp2
      go_loopw [6] (fun v wr2=>∃i:Nat,i≤6∧v=.int .i64 i∧Below (R+1) w0 wr2∧Hid (∀j,j<i→Ye8 (Yaj 1) (c.dc j) (c.ev j)=true)) (fun v _=>6-(RowKit.intOf v).toNat)
      case atStart=>exact⟨0,by omega,rfl,hb,Lib.hid fun j h=>absurd h (Nat.not_lt_zero j)⟩
      case round=>
       clear hb c2;obtain⟨i,hi6,rfl,hb,ms⟩:=hrel;obtain⟨-,-,c2,-,-,-⟩:=Yav (HBX.out _ hb).2;rw[HK.out] at c2;by_cases hlt:i<6
       ·have t3:decide ((i:Int)<6)=true:=by simp;omega
        have d0:=Yac (o:=6+i) (HBX.out _ hb).2 (Ycn c _ i hlt);have e0:=Yac (o:=12+i) (HBX.out _ hb).2 (Yc1 c (fun i=>.slice (p i) (n i) (k i)) i hlt);rw[NL.out i hlt] at e0;have hm:=HMA.out i hlt;have C2:=Lib.hid (fun x (hx:Below (R+1) w0 x)=>(HK.out▸(Yav (HBX.out x hx).2).2.2.1:x.cell? ⟨R,2,none⟩=some (.int .i64 1)))
        have D0:=Lib.hid (fun x (hx:Below (R+1) w0 x)=>Yac (o:=6+i) (HBX.out x hx).2 (Ycn c _ i hlt));have E0:=Lib.hid (fun x (hx:Below (R+1) w0 x)=>(by have h:=Yac (o:=12+i) (HBX.out x hx).2 (Yc1 c (fun i=>.slice (p i) (n i) (k i)) i hlt);rw[NL.out i hlt] at h;exact h:x.cell? ⟨R,12+i,none⟩=some (.slice (p i) (c.ev i).length (k i))))
        have IN:=Lib.hid (fun x (hx:Below (R+1) w0 x)=>((hin x).mono fun e y h=>⟨h.1,h.2▸hx⟩:Calls Tryd.prog 18 #[.int .i64 1] x fun e y=>e=.returned (.bool (Yaj 1))∧Below (R+1) w0 y))
        have MA:=Lib.hid (fun x (hx:Below (R+1) w0 x)=>((hm x (hb0.trans (hx.mono (by omega)))).mono fun e y h=>⟨h.1,hx.trans (h.2.mono (by have:=hx.size;omega))⟩:Calls Tryd.prog 37 #[.bool (Yaj 1),.int .i64 (c.dc i),.slice (p i) (c.ev i).length (k i)] x fun e y=>e=.returned (.bool (Ye8 (Yaj 1) (c.dc i) (c.ev i)))∧Below (R+1) w0 y));have hbd:=hb.drew;clear c2 d0 e0 hm
        generalize hmb:Ye8 (Yaj 1) (c.dc i) (c.ev i)=mb at MA
        go_wp2
        refine Yag (S:=fun x=>Below (R+1) w0 x) 13 (by kernel_rfl) (by kernel_rfl) hbd ?_;simp only[List.take_succ_cons,List.take_zero,List.drop_succ_cons,List.drop_zero];refine Yab (by kernel_rfl) (fun x _=>by go_simp;try with_reducible rfl) ?_;simp only[Yaa];refine Yaf 3 _ ⟨R,2,none⟩ (.int .i64 1) (by kernel_rfl) rfl rfl (fun x hx=>by have c0:=C2.out x hx;go_simp) ?_;simp only[Yaa]
        refine Yai (by kernel_rfl) IN.out (fun _=>by kernel_rfl) ?_;simp only[Yaa]
        iterate 2 (refine Yab (by kernel_rfl) (fun x _=>by go_simp;try with_reducible rfl) ?_;simp only[Yaa])
        refine Yab (by kernel_rfl) (fun x _=>by go_simp;rw[if_pos (by omega)]) ?_;simp only[Yaa];refine Yaf 3 _ ⟨R,6+i,none⟩ (.int .i64 (c.dc i)) (by kernel_rfl) rfl rfl (fun x hx=>by have c0:=D0.out x hx;go_simp) ?_;simp only[Yaa]
        iterate 2 (refine Yab (by kernel_rfl) (fun x _=>by go_simp;try with_reducible rfl) ?_;simp only[Yaa])
        refine Yab (by kernel_rfl) (fun x _=>by go_simp;rw[if_pos (by omega)]) ?_;simp only[Yaa];refine Yaf 37 _ ⟨R,12+i,none⟩ (.slice (p i) (c.ev i).length (k i)) (by kernel_rfl) rfl rfl (fun x hx=>by have c0:=E0.out x hx;go_simp) ?_;simp only[Yaa];refine Yai (by kernel_rfl) MA.out (fun _=>by kernel_rfl) ?_;simp only[Yaa]
        refine Yab (by kernel_rfl) (fun x _=>by go_simp;try with_reducible rfl) ?_;simp only[Yaa];refine Yax fun x hx=>?_;cases mb with
        |true=>
         have HM:=Lib.hid hmb;clear hmb
         go_wp2
         go_roundw
         case rel=>exact⟨i+1,by omega,by go_num,hx,Lib.hid fun j hj=>(Nat.lt_succ_iff_lt_or_eq.1 hj).elim (ms.out j) fun h=>h▸HM.out⟩
         case measure=>simp[RowKit.intOf];omega
        |false=>
         have Z:Hid (z=false):=Lib.hid (by rw[OX.out];exact Bool.eq_false_iff.2 fun h=>by rw[BO.out.1 h i hlt] at hmb;cases hmb);clear hmb
         go_wp2
         go_ret
         exact⟨Yad Z.out.symm,by rw[HR.out];exact hb0.trans (hx.mono (by omega))⟩
       ·obtain rfl:i=6:=by omega
        have Z:Hid (z=true):=Lib.hid (by rw[OX.out];exact BO.out.2 ms.out)
        go_wp2
        go_ret
        exact⟨Yad Z.out.symm,by rw[HR.out];exact hb0.trans (hb.mono (by omega))⟩
   ·have Z:Hid (z=false):=Lib.hid (by rw[ZS.out,SE.out,hse];rfl);have u0:sr=⟨#[]⟩:=by
     have h:=List.isEmpty_iff.1 hse;exact Yq5.2 h
    subst u0;clear hse c3
    go_wp2
    go_ret
    exact⟨Yad Z.out.symm,by rw[HR.out];exact hb0.trans (hbX.mono (by omega))⟩
end Go.Proofs.YtndbeacoaimdgaaDoor