/- No condition. -/
import Derived.Test.YtnamlooifcpoaaaGreatDoorScreensNextMa
import Derived.Test.YtnamlooifcpoaaaGreatDoorScreensNextMc
import Derived.Test.YtnamlooifcpoaaaGreatDoorScreensNextMg
import Derived.Test.YtnamlooifcpoaaaGreatDoorScreensNextMn
import Derived.Test.YtnamlooifcpoaaaGreatDoorScreensNextMp
import Derived.Test.YtnamlooifcpoaaaGreatDoorScreensNextMq
import Derived.Test.YtnamlooifcpoaaaGreatDoorScreensNextMu
import Derived.Test.YtnamlooifcpoaaaGreatDoorScreensNextMw
import Derived.Test.YtnamlooifcpoaaaGreatDoorScreensNextMbj
import Derived.StillTailTactics
import Derived.Deep.CutRange
import Derived.Deep.DeepCutAuto
import Derived.Laws.OwnMore
import Derived.Deep.AppendLies
import Derived.WalkMore
import Derived.IntWalk
import Derived.Maps.AppendAt
import Derived.RegionTactic
import Derived.Deep.RegionWith
namespace Go.Proofs.YtnamlooifcpoaaaGreatDoor
open Go.RowKit Go.Lib
theorem Ysy (i:Bool)(w:World):Calls Tryz.prog 109 #[.bool i] w fun e w'=>e=.returned (.int .i64 (Yci i:Nat))∧w=w':=by
 cases i
 all_goals
  go_enter Tryz.func109,Tryz.ntmps109
  go_wp2
  go_ret
  exact⟨rfl,rfl⟩
set_option maxRecDepth 100000 in
set_option maxHeartbeats 1000000 in
theorem Yvm (i:Bool)(d:Int)(p:Option Addr)(l:List Ev)(c:Nat)(w:World)(hp:Yfi w p l)(hln:l.length≤140737488355328):
  Calls Tryz.prog 84 #[.bool i,.int .i64 d,.slice p l.length c] w fun e w'=>e=.returned (.bool (Yio i d l))∧Below w.heap.size w w':=by
 obtain⟨B,hB⟩:∃B,w.heap.size=B:=⟨_,rfl⟩;have hfr:=fun x=>Ysy i x;have hlv:=Yju p l c ((Yci i:Nat):Int) w hp hln;unfold Yfj at hlv;have hor:((lvG l ((Yci i:Nat):Int)).2=0∧Yin (Yci i) l l.length=false)∨((lvG l ((Yci i:Nat):Int)).2=7∧Yin (Yci i) l l.length=true):=by
  cases hb:Yin (Yci i) l l.length with
  |false=>exact .inl ⟨Y1g hb,rfl⟩
  |true=>exact .inr ⟨Ywy hb,rfl⟩
 have hmay:Yio i d l=(Yv5 i d && !Yin (Yci i) l l.length):=rfl;rw[hmay];have HONE:=Ya9 (lvG l ((Yci i:Nat):Int)).1;have HSZ:(Tryz.prog.info? 60).map (·.size)=some (Ybb (lvG l ((Yci i:Nat):Int)).1).size:=Yau _;obtain⟨Y,hY⟩:∃Y,Ybb (fun _=>0)=Y:=⟨_,rfl⟩;have hzv:∀w,(zeroValue 60).run Tryz.prog w=.ok (.agg Y) w:=by rw[←hY];exact Ybx
 have hYZ:Y.size=(Ybb (lvG l ((Yci i:Nat):Int)).1).size:=by rw[←hY,Yak,Yak]
 generalize Ybb (lvG l ((Yci i:Nat):Int)).1=Z at hlv HONE HSZ hYZ;generalize (lvG l ((Yci i:Nat):Int)).2=f at hlv hor;generalize Yin (Yci i) l l.length=bv at hor ⊢;generalize ((Yci i:Nat):Int)=fr at hfr hlv;have HB:=Lib.hid hB;generalize l.length=n at hlv ⊢;obtain⟨M,hM⟩:∃M,(Yv5 i d && !bv)=M:=⟨_,rfl⟩;rw[hM];clear hp hY hB hln hmay
 go_enter Tryz.func84,Tryz.ntmps84
 go_wp2_with fail
 refine(hfr _).mono ?_;rintro e w2 ⟨rfl,rfl⟩
 go_wp2_with fail
 refine hlv.mono ?_;rintro e w2 ⟨rfl,hb2⟩;rw[HB.out] at hb2;have hz3:B≤w2.heap.size:=by rw[←HB.out];exact(show Below w.heap.size w w2 by rw[HB.out];exact hb2).size
 obtain⟨X,hX⟩:∃X,w2.heap.size=X:=⟨_,rfl⟩;have hh4:=heap_alloc_new w2 (.cells Y 60 (0,0));have hb4:=hb2.alloc hz3 (.cells Y 60 (0,0));have hsz4:(w2.alloc (.cells Y 60 (0,0))).heap.size=X+1:=by simp;omega
 rw[hX] at hh4;generalize hw4:w2.alloc (.cells Y 60 (0,0))=w4 at hh4 hb4 hsz4;have HW4:=Lib.hid hw4;have HX:=Lib.hid hX;have HXB:=Lib.hid (show B≤X by omega);clear hw4 hX hb2 hz3 hlv hfr;have FIN:=Lib.hid (fun(r:Bool) (x:World) (hx:Below B w x) (h:M=r)=>(⟨by rw[h],by rw[HB.out];exact hx⟩:Ending.returned (.bool r)=.returned (.bool M)∧Below w.heap.size w x));rcases hor with ⟨rfl,rfl⟩|⟨rfl,rfl⟩
 ·cases i with
  |false=>
   obtain⟨b0,h0⟩:∃b0,(d==0)=b0:=⟨_,rfl⟩;have R:=Lib.hid (show M=b0 by rw[←hM,Ys9,h0];simp);clear hM;cases b0
   all_goals
    go_wp2_with (rw[HW4.out,HX.out];with_reducible refine Yae rfl 60 _ _ rfl X Z Y rfl rfl 60 hh4 HSZ hYZ HONE ?_;intro w5 hh5 hg5;clear hzv)
    have hb6:=hb4.grown hg5 (by have:=HXB.out;omega) (fun k hk=>by injection hk with hk;have:=HXB.out;omega)
    go_ret
    exact FIN.out _ _ hb6 R.out
  |true=>
   obtain⟨b0,h0⟩:∃b0,decide (1≤d)=b0:=⟨_,rfl⟩;obtain⟨b1,h1⟩:∃b1,decide (d≤254)=b1:=⟨_,rfl⟩;have R:=Lib.hid (show M=(b0&&b1) by rw[←hM,Yv6,h0,h1];simp);clear hM;cases b0 <;> cases b1
   all_goals
    go_wp2_with (rw[HW4.out,HX.out];with_reducible refine Yae rfl 60 _ _ rfl X Z Y rfl rfl 60 hh4 HSZ hYZ HONE ?_;intro w5 hh5 hg5;clear hzv)
    have hb6:=hb4.grown hg5 (by have:=HXB.out;omega) (fun k hk=>by injection hk with hk;have:=HXB.out;omega)
    go_ret
    exact FIN.out _ _ hb6 R.out
 ·have R:=Lib.hid (show M=false by rw[←hM];simp);clear hM;cases i
  all_goals
   go_wp2_with (rw[HW4.out,HX.out];with_reducible refine Yae rfl 60 _ _ rfl X Z Y rfl rfl 60 hh4 HSZ hYZ HONE ?_;intro w5 hh5 hg5;clear hzv)
   have hb6:=hb4.grown hg5 (by have:=HXB.out;omega) (fun k hk=>by injection hk with hk;have:=HXB.out;omega)
   go_ret
   exact FIN.out _ _ hb6 R.out
theorem Y1b {c:Cel}:Yg5 c=true↔(c.kind=0∧c.step=0∧c.mx=0∧c.my=0)∧∀i,i<6→c.dc i=0∧(c.ev i).length=0:=by
 unfold Yg5;simp only[Bool.and_eq_true,beq_iff_eq,List.all_eq_true,List.mem_range,decide_eq_true_eq];constructor
 ·rintro⟨⟨⟨h1,h2⟩,h3,h4⟩,h5,h6⟩;exact⟨⟨h1,h2,h3,h4⟩,fun i hi=>⟨h5 i hi,h6 i hi⟩⟩
 ·rintro⟨⟨h1,h2,h3,h4⟩,h5⟩;exact⟨⟨⟨h1,h2⟩,h3,h4⟩,fun i hi=>(h5 i hi).1,fun i hi=>(h5 i hi).2⟩
set_option maxRecDepth 100000 in
set_option maxHeartbeats 1000000 in
theorem Yyu (c:Cel)(p:Nat→Option Addr)(n k:Nat→Nat)(w:World)(hc:Yea w c p n):Calls Tryz.prog 82 #[.agg (Ycd c fun i=>.slice (p i) (n i) (k i)).toArray] w fun e w'=>e=.returned (.bool (Yg5 c))∧Below w.heap.size w w':=by
 obtain⟨A,hA,f0,f1,f2,f3,f4,f5,⟨f6,f7,f8,f9,f10,f11⟩,f12,f13,f14,f15,f16,f17⟩:=Ydi c fun i=>.slice (p i) (n i) (k i);obtain⟨R,w0,hR,hw0,hz0,hb0,HSZ,hbx⟩:=Yei w hA;have hbx0:=(hbx w0 (Below.refl _ _)).2;obtain⟨-,-,c2,c3,c4,c5⟩:=Ybe hbx0;have DC:=Lib.hid (fun i (hi:i<6)=>Yac (o:=6+i) hbx0 (Yeh c _ i hi))
 have EV:=Lib.hid (fun i (hi:i<6)=>Yac (o:=12+i) hbx0 (Yez c (fun i=>.slice (p i) (n i) (k i)) i hi));have NL:=Lib.hid (fun i hi=>(hc i hi).1);have ZI:=Lib.hid (Y1b (c:=c));rw[hA];have HW:=Lib.hid hw0;have HR:=Lib.hid hR;clear hA hw0 hR hbx hbx0 hc f0 f1 f2 f3 f4 f5 f6 f7 f8 f9 f10 f11 f12 f13 f14 f15 f16 f17
 go_enter Tryz.func82,Tryz.ntmps82
 go_wp2
 rw[HW.out,HR.out]
 go_loopw [3] (fun z wr=>∃i:Nat,i≤6∧z=.int .i64 i∧wr=w0∧Hid (∀j,j<i→c.dc j=0∧(c.ev j).length=0)) (fun z _=>6-(RowKit.intOf z).toNat)
 case atStart=>exact⟨0,by omega,rfl,rfl,Lib.hid fun j h=>absurd h (Nat.not_lt_zero j)⟩
 case round=>
  obtain⟨i,hi6,rfl,rfl,zs⟩:=hrel;by_cases hlt:i<6
  ·have t0:decide ((i:Int)<6)=true:=by simp;omega
   have e0:=EV.out i hlt;have d0:=DC.out i hlt;have nl:=NL.out i hlt;by_cases hn:0<n i
   ·have t1:decide (0<n i)=true:=decide_eq_true hn;have t2:decide (0<(n i:Int))=true:=decide_eq_true (by omega);have Z:Hid (Yg5 c=false):=Lib.hid (Bool.eq_false_iff.2 fun h=>by have h2:=((ZI.out.1 h).2 i hlt).2;omega);clear hn nl
    go_wp2
    go_ret
    exact⟨Yad Z.out.symm,by rw[HR.out];exact hb0⟩
   ·have t1:decide (0<n i)=false:=decide_eq_false hn;have t2:decide (0<(n i:Int))=false:=decide_eq_false (by omega);by_cases hd:c.dc i=0
    ·have t3:(c.dc i != 0)=false:=by simpa using hd
     have ZN:=Lib.hid (⟨hd,by omega⟩:c.dc i=0∧(c.ev i).length=0);clear hn nl hd
     go_wp2
     go_roundw
     case rel=>exact⟨i+1,by omega,by go_num,by trivial,Lib.hid fun j hj=>(Nat.lt_succ_iff_lt_or_eq.1 hj).elim (zs.out j) fun h=>h▸ZN.out⟩
     case measure=>simp[RowKit.intOf];omega
    ·have t3:(c.dc i != 0)=true:=by simpa using hd
     have Z:Hid (Yg5 c=false):=Lib.hid (Bool.eq_false_iff.2 fun h=>hd ((ZI.out.1 h).2 i hlt).1);clear hn nl hd
     go_wp2
     go_ret
     exact⟨Yad Z.out.symm,by rw[HR.out];exact hb0⟩
  ·obtain rfl:i=6:=by omega
   cases t1:(c.kind==0) with
   |false=>
    go_wp2
    go_ret
    exact⟨Yad (Bool.eq_false_iff.2 fun h=>by have h2:=(ZI.out.1 h).1;rw[beq_eq_false_iff_ne] at t1;exact t1 h2.1).symm,by rw[HR.out];exact hb0⟩
   |true=>
    cases t2:(c.step==0) with
    |false=>
     go_wp2
     go_ret
     exact⟨Yad (Bool.eq_false_iff.2 fun h=>by have h2:=(ZI.out.1 h).1;rw[beq_eq_false_iff_ne] at t2;exact t2 h2.2.1).symm,by rw[HR.out];exact hb0⟩
    |true=>
     cases t3:(c.mx==0) with
     |false=>
      go_wp2
      go_ret
      exact⟨Yad (Bool.eq_false_iff.2 fun h=>by have h2:=(ZI.out.1 h).1;rw[beq_eq_false_iff_ne] at t3;exact t3 h2.2.2.1).symm,by rw[HR.out];exact hb0⟩
     |true=>
      cases t4:(c.my==0) with
      |false=>
       go_wp2
       go_ret
       exact⟨Yad (Bool.eq_false_iff.2 fun h=>by have h2:=(ZI.out.1 h).1;rw[beq_eq_false_iff_ne] at t4;exact t4 h2.2.2.2).symm,by rw[HR.out];exact hb0⟩
      |true=>
       go_wp2
       go_ret
       exact⟨Yad (ZI.out.2 ⟨⟨by simpa using t1,by simpa using t2,by simpa using t3,by simpa using t4⟩,zs.out⟩).symm,by rw[HR.out];exact hb0⟩
def Ya3 (k m:Int):Bool:=if Yaj k then m==0 else m==Ykk m
theorem Y1a (k mx my:Int):Ypn k mx my=(Ya3 k mx&&Ya3 k my):=by
 unfold Ypn Ya3
 split <;> rfl
set_option maxRecDepth 100000 in
set_option maxHeartbeats 2000000 in
theorem Yqo (inter:Bool)(c:Cel)(p:Nat→Option Addr)(n k:Nat→Nat)(w:World)(hc:Yea w c p n):Calls Tryz.prog 62 #[.bool inter,.agg (Ycd c fun i=>.slice (p i) (n i) (k i)).toArray] w fun e w'=>e=.returned (.bool (Ybi inter c))∧Below w.heap.size w w':=by
 have hze:=fun x (hx:Below w.heap.size w x)=>Yyu c p n k x (hc.below hx);have hst:=fun x=>Yyr c.step x;have hin:=fun x=>Yek c.kind x;have hma:=fun i (hi:i<6) x (hx:Below w.heap.size w x)=>Yvm (Yaj c.kind) (c.dc i) (p i) (c.ev i) (k i) x ((hc i hi).2.2.below hx) (by have:=(hc i hi).1;have:=(hc i hi).2.1;omega);have NL:=Lib.hid (fun i hi=>(hc i hi).1)
 obtain⟨A,hA,f0,f1,f2,f3,f4,f5,-,-⟩:=Ydi c fun i=>.slice (p i) (n i) (k i);obtain⟨R,w0,hR,hw0,hz0,hb0,HSZ,hbx⟩:=Yei w hA;simp only[hA] at hze;rw[hR] at hze hma;rw[hA];have HW:=Lib.hid hw0;have HR:=Lib.hid hR;have HBX:=Lib.hid hbx;have HZE:=Lib.hid hze;have HMA:=Lib.hid hma
 have ZC:Hid (Ybi inter c=((decide (0≤c.stuff)&&decide (c.stuff≤64))&&(if c.skip then inter&&Yg5 c else (Yfo inter c.kind&&Yfq c.kind c.step)&&(Ya3 c.kind c.mx&&Ya3 c.kind c.my&&Ye7 c)))):=Lib.hid (by rw[←Y1a];rfl);have BO:=Lib.hid (Yny (c:=c));clear hA hw0 hR hbx hze hma hc;generalize Ybi inter c=z at *;by_cases h0:c.stuff<0
 ·have t0:decide (c.stuff<0)=true:=decide_eq_true h0;have Z:=Lib.hid (show z=false by rw[ZC.out,decide_eq_false (by omega:¬ 0≤c.stuff)];rfl);clear h0 ZC
  go_enter Tryz.func62,Tryz.ntmps62
  go_wp2
  go_ret
  exact⟨Yad Z.out.symm,by rw[HW.out,HR.out];exact hb0⟩
 by_cases h1:64<c.stuff
 ·have t0:decide (c.stuff<0)=false:=decide_eq_false h0;have t1:decide (64<c.stuff)=true:=decide_eq_true h1;have Z:=Lib.hid (show z=false by rw[ZC.out,decide_eq_false (by omega:¬ c.stuff≤64),Bool.and_false];rfl);clear h0 h1 ZC
  go_enter Tryz.func62,Tryz.ntmps62
  go_wp2
  go_ret
  exact⟨Yad Z.out.symm,by rw[HW.out,HR.out];exact hb0⟩
 have t0:decide (c.stuff<0)=false:=decide_eq_false h0;have t1:decide (64<c.stuff)=false:=decide_eq_false h1;rw[decide_eq_true (by omega:0≤c.stuff),decide_eq_true (by omega:c.stuff≤64)] at ZC;clear h0 h1;cases hsk:c.skip with
 |true=>
  rw[hsk] at ZC f1;cases inter with
  |false=>
   have Z:=Lib.hid (show z=false by rw[ZC.out];rfl)
   go_enter Tryz.func62,Tryz.ntmps62
   go_wp2
   go_ret
   exact⟨Yad Z.out.symm,by rw[HW.out,HR.out];exact hb0⟩
  |true=>
   have Z:=Lib.hid (show z=Yg5 c by rw[ZC.out];rfl)
   go_enter Tryz.func62,Tryz.ntmps62
   go_wp2_with (with_reducible refine Yam (by kernel_rfl) 48 _ rfl w.heap.size rfl 48 A (0,0) _ (heap_alloc_new w _) Tryz.underlying48 rfl HSZ ?_)
   rw[HW.out,HR.out];refine(HZE.out _ hb0).mono ?_;rintro e w1 ⟨rfl,hb1⟩;have hb2:=hb0.trans (hb1.mono (by omega))
   go_wp2
   go_ret
   exact⟨Yad Z.out.symm,by rw[HR.out];exact hb2⟩
 |false=>
  rw[hsk] at ZC f1;have ZZ:=Lib.hid (show z=((Yfo inter c.kind&&Yfq c.kind c.step)&&(Ya3 c.kind c.mx&&Ya3 c.kind c.my&&Ye7 c)) by rw[ZC.out];rfl);clear ZC;generalize hck:c.kind=kd at *;have HK:=Lib.hid hck;clear hck;have bad:∀(h:Yfo inter kd=false),Hid (z=false):=fun h=>Lib.hid (by rw[ZZ.out,h];rfl);by_cases k0:kd<0
  ·have s0:decide (kd<0)=true:=decide_eq_true k0;have Z:=bad (by unfold Yfo;rw[beq_eq_false_iff_ne.2 (by omega:kd≠3),beq_eq_false_iff_ne.2 (by omega:kd≠4),beq_eq_false_iff_ne.2 (by omega:kd≠0),beq_eq_false_iff_ne.2 (by omega:kd≠1)];cases inter <;> rfl);clear k0 bad
   go_enter Tryz.func62,Tryz.ntmps62
   go_wp2
   go_ret
   exact⟨Yad Z.out.symm,by rw[HW.out,HR.out];exact hb0⟩
  by_cases k4:4<kd
  ·have s0:decide (kd<0)=false:=decide_eq_false k0;have s1:decide (4<kd)=true:=decide_eq_true k4;have Z:=bad (by unfold Yfo;rw[beq_eq_false_iff_ne.2 (by omega:kd≠3),beq_eq_false_iff_ne.2 (by omega:kd≠4),beq_eq_false_iff_ne.2 (by omega:kd≠0),beq_eq_false_iff_ne.2 (by omega:kd≠1)];cases inter <;> rfl);clear k0 k4 bad
   go_enter Tryz.func62,Tryz.ntmps62
   go_wp2
   go_ret
   exact⟨Yad Z.out.symm,by rw[HW.out,HR.out];exact hb0⟩
  have hkd:kd=2∨((kd=0∨kd=1)∧inter=false)∨((kd=3∨kd=4∨kd=0∨kd=1)∧Yfo inter kd=true):=by
   rcases (by omega:kd=0∨kd=1∨kd=2∨kd=3∨kd=4) with rfl|rfl|rfl|rfl|rfl <;> cases inter <;> simp[Yfo]
  clear k0 k4;rcases hkd with rfl|⟨rfl|rfl,rfl⟩|⟨hkd,hko⟩
  ·have Z:=bad (by cases inter <;> rfl);clear bad
   go_enter Tryz.func62,Tryz.ntmps62
   go_wp2
   go_ret
   exact⟨Yad Z.out.symm,by rw[HW.out,HR.out];exact hb0⟩
  ·have Z:=bad rfl;clear bad
   go_enter Tryz.func62,Tryz.ntmps62
   go_wp2
   go_ret
   exact⟨Yad Z.out.symm,by rw[HW.out,HR.out];exact hb0⟩
  ·have Z:=bad rfl;clear bad
   go_enter Tryz.func62,Tryz.ntmps62
   go_wp2
   go_ret
   exact⟨Yad Z.out.symm,by rw[HW.out,HR.out];exact hb0⟩
  rw[hko] at ZZ;have ZS:=Lib.hid (show z=(Yfq kd c.step&&(Ya3 kd c.mx&&Ya3 kd c.my&&Ye7 c)) by rw[ZZ.out,Bool.true_and]);have hin2:inter=false→¬ (kd=0∨kd=1):=fun h e=>by subst h;rcases e with rfl|rfl <;> simp[Yfo] at hko
  clear bad ZZ hko;rcases hkd with rfl|rfl|rfl|rfl
  ·clear hin2;by_cases hs:c.step=0
   ·have u:(c.step != 0)=false:=by simpa using hs
    have STP:Hid (Yfq 3 c.step=true):=Lib.hid (by rw[hs];rfl);have hbX:Below (R+1) w0 w0:=Below.refl _ _;clear hs
    go_enter Tryz.func62,Tryz.ntmps62
    go_wp2
    rw[HW.out,HR.out]
    go_loopw [5] (fun v wr=>∃i:Nat,i≤2∧v=.int .i64 i∧Below (R+1) w0 wr∧Hid ((0<i→Ya3 3 c.mx=true)∧(1<i→Ya3 3 c.my=true))) (fun v _=>2-(RowKit.intOf v).toNat)
    case atStart=>exact⟨0,by omega,rfl,hbX,Lib.hid ⟨fun h=>absurd h (by omega),fun h=>absurd h (by omega)⟩⟩
    case round=>
     obtain⟨i,hi2,rfl,hb,o1⟩:=hrel;obtain⟨-,-,c2,-,c4,c5⟩:=Ybe (HBX.out _ hb).2;rw[HK.out] at c2;rcases (by omega:i=0∨i=1∨i=2) with rfl|rfl|rfl
     ·by_cases m0:c.mx < -32
      ·have u0:decide (c.mx < -32)=true:=decide_eq_true m0;have Z:Hid (z=false):=Lib.hid (by rw[ZS.out,(show Ya3 3 c.mx=false by unfold Ya3;rw[show Yaj 3=true from rfl];exact beq_eq_false_iff_ne.2 (by omega))];simp);clear m0
       go_wp2
       go_ret
       exact⟨Yad Z.out.symm,by rw[HR.out];exact hb0.trans ((hb).mono (by omega))⟩
      have u0:decide (c.mx < -32)=false:=decide_eq_false m0;by_cases m1:31<c.mx
      ·have u1:decide (31<c.mx)=true:=decide_eq_true m1;have Z:Hid (z=false):=Lib.hid (by rw[ZS.out,(show Ya3 3 c.mx=false by unfold Ya3;rw[show Yaj 3=true from rfl];exact beq_eq_false_iff_ne.2 (by omega))];simp);clear m0 m1
       go_wp2
       go_ret
       exact⟨Yad Z.out.symm,by rw[HR.out];exact hb0.trans ((hb).mono (by omega))⟩
      have u1:decide (31<c.mx)=false:=decide_eq_false m1;by_cases m2:c.mx=0
      ·have u2:(c.mx != 0)=false:=by simpa using m2
       have OK:Hid (Ya3 3 c.mx=true):=Lib.hid (by unfold Ya3;rw[show Yaj 3=true from rfl,m2];rfl);clear m0 m1 m2
       go_wp2
       go_roundw
       case rel=>exact⟨0+1,by omega,by first|rfl|trivial,hb,Lib.hid ⟨fun _=>OK.out,fun h=>absurd h (by omega)⟩⟩
       case measure=>simp[RowKit.intOf]
      ·have u2:(c.mx != 0)=true:=by simpa using m2
       have Z:Hid (z=false):=Lib.hid (by rw[ZS.out,(show Ya3 3 c.mx=false by unfold Ya3;rw[show Yaj 3=true from rfl];exact beq_eq_false_iff_ne.2 m2)];simp);clear m0 m1 m2
       go_wp2
       go_ret
       exact⟨Yad Z.out.symm,by rw[HR.out];exact hb0.trans ((hb).mono (by omega))⟩
     ·by_cases m0:c.my < -32
      ·have u0:decide (c.my < -32)=true:=decide_eq_true m0;have Z:Hid (z=false):=Lib.hid (by rw[ZS.out,(show Ya3 3 c.my=false by unfold Ya3;rw[show Yaj 3=true from rfl];exact beq_eq_false_iff_ne.2 (by omega))];simp);clear m0
       go_wp2
       go_ret
       exact⟨Yad Z.out.symm,by rw[HR.out];exact hb0.trans ((hb).mono (by omega))⟩
      have u0:decide (c.my < -32)=false:=decide_eq_false m0;by_cases m1:31<c.my
      ·have u1:decide (31<c.my)=true:=decide_eq_true m1;have Z:Hid (z=false):=Lib.hid (by rw[ZS.out,(show Ya3 3 c.my=false by unfold Ya3;rw[show Yaj 3=true from rfl];exact beq_eq_false_iff_ne.2 (by omega))];simp);clear m0 m1
       go_wp2
       go_ret
       exact⟨Yad Z.out.symm,by rw[HR.out];exact hb0.trans ((hb).mono (by omega))⟩
      have u1:decide (31<c.my)=false:=decide_eq_false m1;by_cases m2:c.my=0
      ·have u2:(c.my != 0)=false:=by simpa using m2
       have OK:Hid (Ya3 3 c.my=true):=Lib.hid (by unfold Ya3;rw[show Yaj 3=true from rfl,m2];rfl);clear m0 m1 m2
       go_wp2
       go_roundw
       case rel=>exact⟨1+1,by omega,by first|rfl|trivial,hb,Lib.hid ⟨fun _=>o1.out.1 (by omega),fun _=>OK.out⟩⟩
       case measure=>simp[RowKit.intOf]
      ·have u2:(c.my != 0)=true:=by simpa using m2
       have Z:Hid (z=false):=Lib.hid (by rw[ZS.out,(show Ya3 3 c.my=false by unfold Ya3;rw[show Yaj 3=true from rfl];exact beq_eq_false_iff_ne.2 m2)];simp);clear m0 m1 m2
       go_wp2
       go_ret
       exact⟨Yad Z.out.symm,by rw[HR.out];exact hb0.trans ((hb).mono (by omega))⟩
     ·have OX:Hid (z=Ye7 c):=Lib.hid (by rw[ZS.out,o1.out.1 (by omega),o1.out.2 (by omega),STP.out];rfl);clear c4 c5
      go_wp2
      go_loopw [6] (fun v wr2=>∃i:Nat,i≤6∧v=.int .i64 i∧Below (R+1) w0 wr2∧Hid (∀j,j<i→Yio (Yaj 3) (c.dc j) (c.ev j)=true)) (fun v _=>6-(RowKit.intOf v).toNat)
      case atStart=>exact⟨0,by omega,rfl,hb,Lib.hid fun j h=>absurd h (Nat.not_lt_zero j)⟩
      case round=>
       clear hb c2;obtain⟨i,hi6,rfl,hb,ms⟩:=hrel;obtain⟨-,-,c2,-,-,-⟩:=Ybe (HBX.out _ hb).2;rw[HK.out] at c2;by_cases hlt:i<6
       ·have t3:decide ((i:Int)<6)=true:=by simp;omega
        have d0:=Yac (o:=6+i) (HBX.out _ hb).2 (Yeh c _ i hlt);have e0:=Yac (o:=12+i) (HBX.out _ hb).2 (Yez c (fun i=>.slice (p i) (n i) (k i)) i hlt);rw[NL.out i hlt] at e0;have hm:=HMA.out i hlt;have C2:=Lib.hid (fun x (hx:Below (R+1) w0 x)=>(HK.out▸(Ybe (HBX.out x hx).2).2.2.1:x.cell? ⟨R,2,none⟩=some (.int .i64 3)))
        have D0:=Lib.hid (fun x (hx:Below (R+1) w0 x)=>Yac (o:=6+i) (HBX.out x hx).2 (Yeh c _ i hlt));have E0:=Lib.hid (fun x (hx:Below (R+1) w0 x)=>(by have h:=Yac (o:=12+i) (HBX.out x hx).2 (Yez c (fun i=>.slice (p i) (n i) (k i)) i hlt);rw[NL.out i hlt] at h;exact h:x.cell? ⟨R,12+i,none⟩=some (.slice (p i) (c.ev i).length (k i))))
        have IN:=Lib.hid (fun x (hx:Below (R+1) w0 x)=>((hin x).mono fun e y h=>⟨h.1,h.2▸hx⟩:Calls Tryz.prog 36 #[.int .i64 3] x fun e y=>e=.returned (.bool (Yaj 3))∧Below (R+1) w0 y))
        have MA:=Lib.hid (fun x (hx:Below (R+1) w0 x)=>((hm x (hb0.trans (hx.mono (by omega)))).mono fun e y h=>⟨h.1,hx.trans (h.2.mono (by have:=hx.size;omega))⟩:Calls Tryz.prog 84 #[.bool (Yaj 3),.int .i64 (c.dc i),.slice (p i) (c.ev i).length (k i)] x fun e y=>e=.returned (.bool (Yio (Yaj 3) (c.dc i) (c.ev i)))∧Below (R+1) w0 y));have hbd:=hb.drew;clear c2 d0 e0 hm
        generalize hmb:Yio (Yaj 3) (c.dc i) (c.ev i)=mb at MA
        go_wp2
        refine Yaf (S:=fun x=>Below (R+1) w0 x) 13 (by kernel_rfl) (by kernel_rfl) hbd ?_;simp only[List.take_succ_cons,List.take_zero,List.drop_succ_cons,List.drop_zero];refine Yab (by kernel_rfl) (fun x _=>by go_simp;try with_reducible rfl) ?_;simp only[Yaa];refine Yag 3 _ ⟨R,2,none⟩ (.int .i64 3) (by kernel_rfl) rfl rfl (fun x hx=>by have c0:=C2.out x hx;go_simp) ?_;simp only[Yaa]
        refine Yah (by kernel_rfl) IN.out (fun _=>by kernel_rfl) ?_;simp only[Yaa]
        iterate 2 (refine Yab (by kernel_rfl) (fun x _=>by go_simp;try with_reducible rfl) ?_;simp only[Yaa])
        refine Yab (by kernel_rfl) (fun x _=>by go_simp;rw[if_pos (by omega)]) ?_;simp only[Yaa];refine Yag 3 _ ⟨R,6+i,none⟩ (.int .i64 (c.dc i)) (by kernel_rfl) rfl rfl (fun x hx=>by have c0:=D0.out x hx;go_simp) ?_;simp only[Yaa]
        iterate 2 (refine Yab (by kernel_rfl) (fun x _=>by go_simp;try with_reducible rfl) ?_;simp only[Yaa])
        refine Yab (by kernel_rfl) (fun x _=>by go_simp;rw[if_pos (by omega)]) ?_;simp only[Yaa];refine Yag 45 _ ⟨R,12+i,none⟩ (.slice (p i) (c.ev i).length (k i)) (by kernel_rfl) rfl rfl (fun x hx=>by have c0:=E0.out x hx;go_simp) ?_;simp only[Yaa];refine Yah (by kernel_rfl) MA.out (fun _=>by kernel_rfl) ?_;simp only[Yaa]
        refine Yab (by kernel_rfl) (fun x _=>by go_simp;try with_reducible rfl) ?_;simp only[Yaa];refine Yar fun x hx=>?_;cases mb with
        |true=>
         have HM:=Lib.hid hmb;clear hmb
         go_wp2
         go_roundw
         case rel=>exact⟨i+1,by omega,by go_num,hx,Lib.hid fun j hj=>(Nat.lt_succ_iff_lt_or_eq.1 hj).elim (ms.out j) fun h=>h▸HM.out⟩
         case measure=>simp[RowKit.intOf];omega
        |false=>
         have Z:Hid (z=false):=Lib.hid (by rw[OX.out];exact Bool.eq_false_iff.2 fun h=>by rw[BO.out.1 h i hlt] at hmb;cases hmb);clear hmb
         go_wp2
         go_ret
         exact⟨Yad Z.out.symm,by rw[HR.out];exact hb0.trans (hx.mono (by omega))⟩
       ·obtain rfl:i=6:=by omega
        have Z:Hid (z=true):=Lib.hid (by rw[OX.out];exact BO.out.2 ms.out)
        go_wp2
        go_ret
        exact⟨Yad Z.out.symm,by rw[HR.out];exact hb0.trans (hb.mono (by omega))⟩
   ·have u:(c.step != 0)=true:=by simpa using hs
    have Z:Hid (z=false):=Lib.hid (by rw[ZS.out,show Yfq 3 c.step=false from beq_eq_false_iff_ne.2 hs];rfl);clear hs
    go_enter Tryz.func62,Tryz.ntmps62
    go_wp2
    go_ret
    exact⟨Yad Z.out.symm,by rw[HW.out,HR.out];exact hb0⟩
  ·clear hin2;have SE:Hid (Yfq 4 c.step = !(Ycn c.step).data.toList.isEmpty):=Lib.hid rfl
   go_enter Tryz.func62,Tryz.ntmps62
   go_wp2_with fail
   rw[HW.out,HR.out];refine(hst _).mono ?_;rintro e w1 ⟨rfl,hb1⟩;rw[hz0] at hb1;have hbX:Below (R+1) w0 w1:=hb1;obtain⟨-,-,c2,c3,-,-⟩:=Ybe (HBX.out _ hbX).2;rw[HK.out] at c2;have ue:(Ycn c.step).data.toList.isEmpty=false→(Ycn c.step).toList.isEmpty=false:=fun h=>by rcases Yil.1 h with e|e|e|e <;> rw[e] <;> decide +kernel
   generalize Ycn c.step=sr at *;cases hse:sr.data.toList.isEmpty
   ·have STP:Hid (Yfq 4 c.step=true):=Lib.hid (by rw[SE.out,hse];rfl);have u:=ue hse;clear hse ue
    go_wp2
    go_loopw [5] (fun v wr=>∃i:Nat,i≤2∧v=.int .i64 i∧Below (R+1) w0 wr∧Hid ((0<i→Ya3 4 c.mx=true)∧(1<i→Ya3 4 c.my=true))) (fun v _=>2-(RowKit.intOf v).toNat)
    case atStart=>exact⟨0,by omega,rfl,hbX,Lib.hid ⟨fun h=>absurd h (by omega),fun h=>absurd h (by omega)⟩⟩
    case round=>
     obtain⟨i,hi2,rfl,hb,o1⟩:=hrel;obtain⟨-,-,c2,-,c4,c5⟩:=Ybe (HBX.out _ hb).2;rw[HK.out] at c2;rcases (by omega:i=0∨i=1∨i=2) with rfl|rfl|rfl
     ·by_cases m0:c.mx < -32
      ·have u0:decide (c.mx < -32)=true:=decide_eq_true m0;have Z:Hid (z=false):=Lib.hid (by rw[ZS.out,(show Ya3 4 c.mx=false by unfold Ya3;rw[show Yaj 4=true from rfl];exact beq_eq_false_iff_ne.2 (by omega))];simp);clear m0
       go_wp2
       go_ret
       exact⟨Yad Z.out.symm,by rw[HR.out];exact hb0.trans ((hb).mono (by omega))⟩
      have u0:decide (c.mx < -32)=false:=decide_eq_false m0;by_cases m1:31<c.mx
      ·have u1:decide (31<c.mx)=true:=decide_eq_true m1;have Z:Hid (z=false):=Lib.hid (by rw[ZS.out,(show Ya3 4 c.mx=false by unfold Ya3;rw[show Yaj 4=true from rfl];exact beq_eq_false_iff_ne.2 (by omega))];simp);clear m0 m1
       go_wp2
       go_ret
       exact⟨Yad Z.out.symm,by rw[HR.out];exact hb0.trans ((hb).mono (by omega))⟩
      have u1:decide (31<c.mx)=false:=decide_eq_false m1;by_cases m2:c.mx=0
      ·have u2:(c.mx != 0)=false:=by simpa using m2
       have OK:Hid (Ya3 4 c.mx=true):=Lib.hid (by unfold Ya3;rw[show Yaj 4=true from rfl,m2];rfl);clear m0 m1 m2
       go_wp2
       go_roundw
       case rel=>exact⟨0+1,by omega,by first|rfl|trivial,hb,Lib.hid ⟨fun _=>OK.out,fun h=>absurd h (by omega)⟩⟩
       case measure=>simp[RowKit.intOf]
      ·have u2:(c.mx != 0)=true:=by simpa using m2
       have Z:Hid (z=false):=Lib.hid (by rw[ZS.out,(show Ya3 4 c.mx=false by unfold Ya3;rw[show Yaj 4=true from rfl];exact beq_eq_false_iff_ne.2 m2)];simp);clear m0 m1 m2
       go_wp2
       go_ret
       exact⟨Yad Z.out.symm,by rw[HR.out];exact hb0.trans ((hb).mono (by omega))⟩
     ·by_cases m0:c.my < -32
      ·have u0:decide (c.my < -32)=true:=decide_eq_true m0;have Z:Hid (z=false):=Lib.hid (by rw[ZS.out,(show Ya3 4 c.my=false by unfold Ya3;rw[show Yaj 4=true from rfl];exact beq_eq_false_iff_ne.2 (by omega))];simp);clear m0
       go_wp2
       go_ret
       exact⟨Yad Z.out.symm,by rw[HR.out];exact hb0.trans ((hb).mono (by omega))⟩
      have u0:decide (c.my < -32)=false:=decide_eq_false m0;by_cases m1:31<c.my
      ·have u1:decide (31<c.my)=true:=decide_eq_true m1;have Z:Hid (z=false):=Lib.hid (by rw[ZS.out,(show Ya3 4 c.my=false by unfold Ya3;rw[show Yaj 4=true from rfl];exact beq_eq_false_iff_ne.2 (by omega))];simp);clear m0 m1
       go_wp2
       go_ret
       exact⟨Yad Z.out.symm,by rw[HR.out];exact hb0.trans ((hb).mono (by omega))⟩
      have u1:decide (31<c.my)=false:=decide_eq_false m1;by_cases m2:c.my=0
      ·have u2:(c.my != 0)=false:=by simpa using m2
       have OK:Hid (Ya3 4 c.my=true):=Lib.hid (by unfold Ya3;rw[show Yaj 4=true from rfl,m2];rfl);clear m0 m1 m2
       go_wp2
       go_roundw
       case rel=>exact⟨1+1,by omega,by first|rfl|trivial,hb,Lib.hid ⟨fun _=>o1.out.1 (by omega),fun _=>OK.out⟩⟩
       case measure=>simp[RowKit.intOf]
      ·have u2:(c.my != 0)=true:=by simpa using m2
       have Z:Hid (z=false):=Lib.hid (by rw[ZS.out,(show Ya3 4 c.my=false by unfold Ya3;rw[show Yaj 4=true from rfl];exact beq_eq_false_iff_ne.2 m2)];simp);clear m0 m1 m2
       go_wp2
       go_ret
       exact⟨Yad Z.out.symm,by rw[HR.out];exact hb0.trans ((hb).mono (by omega))⟩
     ·have OX:Hid (z=Ye7 c):=Lib.hid (by rw[ZS.out,o1.out.1 (by omega),o1.out.2 (by omega),STP.out];rfl);clear c4 c5
      go_wp2
      go_loopw [6] (fun v wr2=>∃i:Nat,i≤6∧v=.int .i64 i∧Below (R+1) w0 wr2∧Hid (∀j,j<i→Yio (Yaj 4) (c.dc j) (c.ev j)=true)) (fun v _=>6-(RowKit.intOf v).toNat)
      case atStart=>exact⟨0,by omega,rfl,hb,Lib.hid fun j h=>absurd h (Nat.not_lt_zero j)⟩
      case round=>
       clear hb c2;obtain⟨i,hi6,rfl,hb,ms⟩:=hrel;obtain⟨-,-,c2,-,-,-⟩:=Ybe (HBX.out _ hb).2;rw[HK.out] at c2;by_cases hlt:i<6
       ·have t3:decide ((i:Int)<6)=true:=by simp;omega
        have d0:=Yac (o:=6+i) (HBX.out _ hb).2 (Yeh c _ i hlt);have e0:=Yac (o:=12+i) (HBX.out _ hb).2 (Yez c (fun i=>.slice (p i) (n i) (k i)) i hlt);rw[NL.out i hlt] at e0;have hm:=HMA.out i hlt;have C2:=Lib.hid (fun x (hx:Below (R+1) w0 x)=>(HK.out▸(Ybe (HBX.out x hx).2).2.2.1:x.cell? ⟨R,2,none⟩=some (.int .i64 4)))
        have D0:=Lib.hid (fun x (hx:Below (R+1) w0 x)=>Yac (o:=6+i) (HBX.out x hx).2 (Yeh c _ i hlt));have E0:=Lib.hid (fun x (hx:Below (R+1) w0 x)=>(by have h:=Yac (o:=12+i) (HBX.out x hx).2 (Yez c (fun i=>.slice (p i) (n i) (k i)) i hlt);rw[NL.out i hlt] at h;exact h:x.cell? ⟨R,12+i,none⟩=some (.slice (p i) (c.ev i).length (k i))))
        have IN:=Lib.hid (fun x (hx:Below (R+1) w0 x)=>((hin x).mono fun e y h=>⟨h.1,h.2▸hx⟩:Calls Tryz.prog 36 #[.int .i64 4] x fun e y=>e=.returned (.bool (Yaj 4))∧Below (R+1) w0 y))
        have MA:=Lib.hid (fun x (hx:Below (R+1) w0 x)=>((hm x (hb0.trans (hx.mono (by omega)))).mono fun e y h=>⟨h.1,hx.trans (h.2.mono (by have:=hx.size;omega))⟩:Calls Tryz.prog 84 #[.bool (Yaj 4),.int .i64 (c.dc i),.slice (p i) (c.ev i).length (k i)] x fun e y=>e=.returned (.bool (Yio (Yaj 4) (c.dc i) (c.ev i)))∧Below (R+1) w0 y));have hbd:=hb.drew;clear c2 d0 e0 hm
        generalize hmb:Yio (Yaj 4) (c.dc i) (c.ev i)=mb at MA
        go_wp2
        refine Yaf (S:=fun x=>Below (R+1) w0 x) 13 (by kernel_rfl) (by kernel_rfl) hbd ?_;simp only[List.take_succ_cons,List.take_zero,List.drop_succ_cons,List.drop_zero];refine Yab (by kernel_rfl) (fun x _=>by go_simp;try with_reducible rfl) ?_;simp only[Yaa];refine Yag 3 _ ⟨R,2,none⟩ (.int .i64 4) (by kernel_rfl) rfl rfl (fun x hx=>by have c0:=C2.out x hx;go_simp) ?_;simp only[Yaa]
        refine Yah (by kernel_rfl) IN.out (fun _=>by kernel_rfl) ?_;simp only[Yaa]
        iterate 2 (refine Yab (by kernel_rfl) (fun x _=>by go_simp;try with_reducible rfl) ?_;simp only[Yaa])
        refine Yab (by kernel_rfl) (fun x _=>by go_simp;rw[if_pos (by omega)]) ?_;simp only[Yaa];refine Yag 3 _ ⟨R,6+i,none⟩ (.int .i64 (c.dc i)) (by kernel_rfl) rfl rfl (fun x hx=>by have c0:=D0.out x hx;go_simp) ?_;simp only[Yaa]
        iterate 2 (refine Yab (by kernel_rfl) (fun x _=>by go_simp;try with_reducible rfl) ?_;simp only[Yaa])
        refine Yab (by kernel_rfl) (fun x _=>by go_simp;rw[if_pos (by omega)]) ?_;simp only[Yaa];refine Yag 45 _ ⟨R,12+i,none⟩ (.slice (p i) (c.ev i).length (k i)) (by kernel_rfl) rfl rfl (fun x hx=>by have c0:=E0.out x hx;go_simp) ?_;simp only[Yaa];refine Yah (by kernel_rfl) MA.out (fun _=>by kernel_rfl) ?_;simp only[Yaa]
        refine Yab (by kernel_rfl) (fun x _=>by go_simp;try with_reducible rfl) ?_;simp only[Yaa];refine Yar fun x hx=>?_;cases mb with
        |true=>
         have HM:=Lib.hid hmb;clear hmb
         go_wp2
         go_roundw
         case rel=>exact⟨i+1,by omega,by go_num,hx,Lib.hid fun j hj=>(Nat.lt_succ_iff_lt_or_eq.1 hj).elim (ms.out j) fun h=>h▸HM.out⟩
         case measure=>simp[RowKit.intOf];omega
        |false=>
         have Z:Hid (z=false):=Lib.hid (by rw[OX.out];exact Bool.eq_false_iff.2 fun h=>by rw[BO.out.1 h i hlt] at hmb;cases hmb);clear hmb
         go_wp2
         go_ret
         exact⟨Yad Z.out.symm,by rw[HR.out];exact hb0.trans (hx.mono (by omega))⟩
       ·obtain rfl:i=6:=by omega
        have Z:Hid (z=true):=Lib.hid (by rw[OX.out];exact BO.out.2 ms.out)
        go_wp2
        go_ret
        exact⟨Yad Z.out.symm,by rw[HR.out];exact hb0.trans (hb.mono (by omega))⟩
   ·have Z:Hid (z=false):=Lib.hid (by rw[ZS.out,SE.out,hse];rfl);have u0:sr=⟨#[]⟩:=by
     have h:=List.isEmpty_iff.1 hse;exact Y3b.2 h
    subst u0;clear hse c3
    go_wp2
    go_ret
    exact⟨Yad Z.out.symm,by rw[HR.out];exact hb0.trans (hbX.mono (by omega))⟩
  ·obtain rfl:inter=true:=by cases inter with|true=>rfl|false=>exact absurd (hin2 rfl) (by simp)
   clear hin2;by_cases hs:c.step=0
   ·have u:(c.step != 0)=false:=by simpa using hs
    have STP:Hid (Yfq 0 c.step=true):=Lib.hid (by rw[hs];rfl);have hbX:Below (R+1) w0 w0:=Below.refl _ _;clear hs
    go_enter Tryz.func62,Tryz.ntmps62
    go_wp2
    rw[HW.out,HR.out]
    go_loopw [5] (fun v wr=>∃i:Nat,i≤2∧v=.int .i64 i∧Below (R+1) w0 wr∧Hid ((0<i→Ya3 0 c.mx=true)∧(1<i→Ya3 0 c.my=true))) (fun v _=>2-(RowKit.intOf v).toNat)
    case atStart=>exact⟨0,by omega,rfl,hbX,Lib.hid ⟨fun h=>absurd h (by omega),fun h=>absurd h (by omega)⟩⟩
    case round=>
     obtain⟨i,hi2,rfl,hb,o1⟩:=hrel;obtain⟨-,-,c2,-,c4,c5⟩:=Ybe (HBX.out _ hb).2;rw[HK.out] at c2;rcases (by omega:i=0∨i=1∨i=2) with rfl|rfl|rfl
     ·by_cases m0:c.mx < -32
      ·have u0:decide (c.mx < -32)=true:=decide_eq_true m0;have Z:Hid (z=false):=Lib.hid (by rw[ZS.out,(show Ya3 0 c.mx=false by unfold Ya3;rw[show Yaj 0=false from rfl];exact beq_eq_false_iff_ne.2 (fun h=>by have:=Yf6 c.mx;omega))];simp);clear m0
       go_wp2
       go_ret
       exact⟨Yad Z.out.symm,by rw[HR.out];exact hb0.trans ((hb).mono (by omega))⟩
      have u0:decide (c.mx < -32)=false:=decide_eq_false m0;by_cases m1:31<c.mx
      ·have u1:decide (31<c.mx)=true:=decide_eq_true m1;have Z:Hid (z=false):=Lib.hid (by rw[ZS.out,(show Ya3 0 c.mx=false by unfold Ya3;rw[show Yaj 0=false from rfl];exact beq_eq_false_iff_ne.2 (fun h=>by have:=Yf6 c.mx;omega))];simp);clear m0 m1
       go_wp2
       go_ret
       exact⟨Yad Z.out.symm,by rw[HR.out];exact hb0.trans ((hb).mono (by omega))⟩
      have u1:decide (31<c.mx)=false:=decide_eq_false m1;have OK:Hid (Ya3 0 c.mx=true):=Lib.hid (by unfold Ya3;rw[show Yaj 0=false from rfl];exact beq_iff_eq.2 (Yhw.2 ⟨by omega,by omega⟩));clear m0 m1
      go_wp2
      go_roundw
      case rel=>exact⟨0+1,by omega,by first|rfl|trivial,hb,Lib.hid ⟨fun _=>OK.out,fun h=>absurd h (by omega)⟩⟩
      case measure=>simp[RowKit.intOf]
     ·by_cases m0:c.my < -32
      ·have u0:decide (c.my < -32)=true:=decide_eq_true m0;have Z:Hid (z=false):=Lib.hid (by rw[ZS.out,(show Ya3 0 c.my=false by unfold Ya3;rw[show Yaj 0=false from rfl];exact beq_eq_false_iff_ne.2 (fun h=>by have:=Yf6 c.my;omega))];simp);clear m0
       go_wp2
       go_ret
       exact⟨Yad Z.out.symm,by rw[HR.out];exact hb0.trans ((hb).mono (by omega))⟩
      have u0:decide (c.my < -32)=false:=decide_eq_false m0;by_cases m1:31<c.my
      ·have u1:decide (31<c.my)=true:=decide_eq_true m1;have Z:Hid (z=false):=Lib.hid (by rw[ZS.out,(show Ya3 0 c.my=false by unfold Ya3;rw[show Yaj 0=false from rfl];exact beq_eq_false_iff_ne.2 (fun h=>by have:=Yf6 c.my;omega))];simp);clear m0 m1
       go_wp2
       go_ret
       exact⟨Yad Z.out.symm,by rw[HR.out];exact hb0.trans ((hb).mono (by omega))⟩
      have u1:decide (31<c.my)=false:=decide_eq_false m1;have OK:Hid (Ya3 0 c.my=true):=Lib.hid (by unfold Ya3;rw[show Yaj 0=false from rfl];exact beq_iff_eq.2 (Yhw.2 ⟨by omega,by omega⟩));clear m0 m1
      go_wp2
      go_roundw
      case rel=>exact⟨1+1,by omega,by first|rfl|trivial,hb,Lib.hid ⟨fun _=>o1.out.1 (by omega),fun _=>OK.out⟩⟩
      case measure=>simp[RowKit.intOf]
     ·have OX:Hid (z=Ye7 c):=Lib.hid (by rw[ZS.out,o1.out.1 (by omega),o1.out.2 (by omega),STP.out];rfl);clear c4 c5
      go_wp2
      go_loopw [6] (fun v wr2=>∃i:Nat,i≤6∧v=.int .i64 i∧Below (R+1) w0 wr2∧Hid (∀j,j<i→Yio (Yaj 0) (c.dc j) (c.ev j)=true)) (fun v _=>6-(RowKit.intOf v).toNat)
      case atStart=>exact⟨0,by omega,rfl,hb,Lib.hid fun j h=>absurd h (Nat.not_lt_zero j)⟩
      case round=>
       clear hb c2;obtain⟨i,hi6,rfl,hb,ms⟩:=hrel;obtain⟨-,-,c2,-,-,-⟩:=Ybe (HBX.out _ hb).2;rw[HK.out] at c2;by_cases hlt:i<6
       ·have t3:decide ((i:Int)<6)=true:=by simp;omega
        have d0:=Yac (o:=6+i) (HBX.out _ hb).2 (Yeh c _ i hlt);have e0:=Yac (o:=12+i) (HBX.out _ hb).2 (Yez c (fun i=>.slice (p i) (n i) (k i)) i hlt);rw[NL.out i hlt] at e0;have hm:=HMA.out i hlt;have C2:=Lib.hid (fun x (hx:Below (R+1) w0 x)=>(HK.out▸(Ybe (HBX.out x hx).2).2.2.1:x.cell? ⟨R,2,none⟩=some (.int .i64 0)))
        have D0:=Lib.hid (fun x (hx:Below (R+1) w0 x)=>Yac (o:=6+i) (HBX.out x hx).2 (Yeh c _ i hlt));have E0:=Lib.hid (fun x (hx:Below (R+1) w0 x)=>(by have h:=Yac (o:=12+i) (HBX.out x hx).2 (Yez c (fun i=>.slice (p i) (n i) (k i)) i hlt);rw[NL.out i hlt] at h;exact h:x.cell? ⟨R,12+i,none⟩=some (.slice (p i) (c.ev i).length (k i))))
        have IN:=Lib.hid (fun x (hx:Below (R+1) w0 x)=>((hin x).mono fun e y h=>⟨h.1,h.2▸hx⟩:Calls Tryz.prog 36 #[.int .i64 0] x fun e y=>e=.returned (.bool (Yaj 0))∧Below (R+1) w0 y))
        have MA:=Lib.hid (fun x (hx:Below (R+1) w0 x)=>((hm x (hb0.trans (hx.mono (by omega)))).mono fun e y h=>⟨h.1,hx.trans (h.2.mono (by have:=hx.size;omega))⟩:Calls Tryz.prog 84 #[.bool (Yaj 0),.int .i64 (c.dc i),.slice (p i) (c.ev i).length (k i)] x fun e y=>e=.returned (.bool (Yio (Yaj 0) (c.dc i) (c.ev i)))∧Below (R+1) w0 y));have hbd:=hb.drew;clear c2 d0 e0 hm
        generalize hmb:Yio (Yaj 0) (c.dc i) (c.ev i)=mb at MA
        go_wp2
        refine Yaf (S:=fun x=>Below (R+1) w0 x) 13 (by kernel_rfl) (by kernel_rfl) hbd ?_;simp only[List.take_succ_cons,List.take_zero,List.drop_succ_cons,List.drop_zero];refine Yab (by kernel_rfl) (fun x _=>by go_simp;try with_reducible rfl) ?_;simp only[Yaa];refine Yag 3 _ ⟨R,2,none⟩ (.int .i64 0) (by kernel_rfl) rfl rfl (fun x hx=>by have c0:=C2.out x hx;go_simp) ?_;simp only[Yaa]
        refine Yah (by kernel_rfl) IN.out (fun _=>by kernel_rfl) ?_;simp only[Yaa]
        iterate 2 (refine Yab (by kernel_rfl) (fun x _=>by go_simp;try with_reducible rfl) ?_;simp only[Yaa])
        refine Yab (by kernel_rfl) (fun x _=>by go_simp;rw[if_pos (by omega)]) ?_;simp only[Yaa];refine Yag 3 _ ⟨R,6+i,none⟩ (.int .i64 (c.dc i)) (by kernel_rfl) rfl rfl (fun x hx=>by have c0:=D0.out x hx;go_simp) ?_;simp only[Yaa]
        iterate 2 (refine Yab (by kernel_rfl) (fun x _=>by go_simp;try with_reducible rfl) ?_;simp only[Yaa])
        refine Yab (by kernel_rfl) (fun x _=>by go_simp;rw[if_pos (by omega)]) ?_;simp only[Yaa];refine Yag 45 _ ⟨R,12+i,none⟩ (.slice (p i) (c.ev i).length (k i)) (by kernel_rfl) rfl rfl (fun x hx=>by have c0:=E0.out x hx;go_simp) ?_;simp only[Yaa];refine Yah (by kernel_rfl) MA.out (fun _=>by kernel_rfl) ?_;simp only[Yaa]
        refine Yab (by kernel_rfl) (fun x _=>by go_simp;try with_reducible rfl) ?_;simp only[Yaa];refine Yar fun x hx=>?_;cases mb with
        |true=>
         have HM:=Lib.hid hmb;clear hmb
         go_wp2
         go_roundw
         case rel=>exact⟨i+1,by omega,by go_num,hx,Lib.hid fun j hj=>(Nat.lt_succ_iff_lt_or_eq.1 hj).elim (ms.out j) fun h=>h▸HM.out⟩
         case measure=>simp[RowKit.intOf];omega
        |false=>
         have Z:Hid (z=false):=Lib.hid (by rw[OX.out];exact Bool.eq_false_iff.2 fun h=>by rw[BO.out.1 h i hlt] at hmb;cases hmb);clear hmb
         go_wp2
         go_ret
         exact⟨Yad Z.out.symm,by rw[HR.out];exact hb0.trans (hx.mono (by omega))⟩
       ·obtain rfl:i=6:=by omega
        have Z:Hid (z=true):=Lib.hid (by rw[OX.out];exact BO.out.2 ms.out)
        go_wp2
        go_ret
        exact⟨Yad Z.out.symm,by rw[HR.out];exact hb0.trans (hb.mono (by omega))⟩
   ·have u:(c.step != 0)=true:=by simpa using hs
    have Z:Hid (z=false):=Lib.hid (by rw[ZS.out,show Yfq 0 c.step=false from beq_eq_false_iff_ne.2 hs];rfl);clear hs
    go_enter Tryz.func62,Tryz.ntmps62
    go_wp2
    go_ret
    exact⟨Yad Z.out.symm,by rw[HW.out,HR.out];exact hb0⟩
  ·obtain rfl:inter=true:=by cases inter with|true=>rfl|false=>exact absurd (hin2 rfl) (by simp)
   clear hin2;have SE:Hid (Yfq 1 c.step = !(Ycn c.step).data.toList.isEmpty):=Lib.hid rfl
   go_enter Tryz.func62,Tryz.ntmps62
   go_wp2_with fail
   rw[HW.out,HR.out];refine(hst _).mono ?_;rintro e w1 ⟨rfl,hb1⟩;rw[hz0] at hb1;have hbX:Below (R+1) w0 w1:=hb1;obtain⟨-,-,c2,c3,-,-⟩:=Ybe (HBX.out _ hbX).2;rw[HK.out] at c2;have ue:(Ycn c.step).data.toList.isEmpty=false→(Ycn c.step).toList.isEmpty=false:=fun h=>by rcases Yil.1 h with e|e|e|e <;> rw[e] <;> decide +kernel
   generalize Ycn c.step=sr at *;cases hse:sr.data.toList.isEmpty
   ·have STP:Hid (Yfq 1 c.step=true):=Lib.hid (by rw[SE.out,hse];rfl);have u:=ue hse;clear hse ue
    go_wp2
    go_loopw [5] (fun v wr=>∃i:Nat,i≤2∧v=.int .i64 i∧Below (R+1) w0 wr∧Hid ((0<i→Ya3 1 c.mx=true)∧(1<i→Ya3 1 c.my=true))) (fun v _=>2-(RowKit.intOf v).toNat)
    case atStart=>exact⟨0,by omega,rfl,hbX,Lib.hid ⟨fun h=>absurd h (by omega),fun h=>absurd h (by omega)⟩⟩
    case round=>
     obtain⟨i,hi2,rfl,hb,o1⟩:=hrel;obtain⟨-,-,c2,-,c4,c5⟩:=Ybe (HBX.out _ hb).2;rw[HK.out] at c2;rcases (by omega:i=0∨i=1∨i=2) with rfl|rfl|rfl
     ·by_cases m0:c.mx < -32
      ·have u0:decide (c.mx < -32)=true:=decide_eq_true m0;have Z:Hid (z=false):=Lib.hid (by rw[ZS.out,(show Ya3 1 c.mx=false by unfold Ya3;rw[show Yaj 1=false from rfl];exact beq_eq_false_iff_ne.2 (fun h=>by have:=Yf6 c.mx;omega))];simp);clear m0
       go_wp2
       go_ret
       exact⟨Yad Z.out.symm,by rw[HR.out];exact hb0.trans ((hb).mono (by omega))⟩
      have u0:decide (c.mx < -32)=false:=decide_eq_false m0;by_cases m1:31<c.mx
      ·have u1:decide (31<c.mx)=true:=decide_eq_true m1;have Z:Hid (z=false):=Lib.hid (by rw[ZS.out,(show Ya3 1 c.mx=false by unfold Ya3;rw[show Yaj 1=false from rfl];exact beq_eq_false_iff_ne.2 (fun h=>by have:=Yf6 c.mx;omega))];simp);clear m0 m1
       go_wp2
       go_ret
       exact⟨Yad Z.out.symm,by rw[HR.out];exact hb0.trans ((hb).mono (by omega))⟩
      have u1:decide (31<c.mx)=false:=decide_eq_false m1;have OK:Hid (Ya3 1 c.mx=true):=Lib.hid (by unfold Ya3;rw[show Yaj 1=false from rfl];exact beq_iff_eq.2 (Yhw.2 ⟨by omega,by omega⟩));clear m0 m1
      go_wp2
      go_roundw
      case rel=>exact⟨0+1,by omega,by first|rfl|trivial,hb,Lib.hid ⟨fun _=>OK.out,fun h=>absurd h (by omega)⟩⟩
      case measure=>simp[RowKit.intOf]
     ·by_cases m0:c.my < -32
      ·have u0:decide (c.my < -32)=true:=decide_eq_true m0;have Z:Hid (z=false):=Lib.hid (by rw[ZS.out,(show Ya3 1 c.my=false by unfold Ya3;rw[show Yaj 1=false from rfl];exact beq_eq_false_iff_ne.2 (fun h=>by have:=Yf6 c.my;omega))];simp);clear m0
       go_wp2
       go_ret
       exact⟨Yad Z.out.symm,by rw[HR.out];exact hb0.trans ((hb).mono (by omega))⟩
      have u0:decide (c.my < -32)=false:=decide_eq_false m0;by_cases m1:31<c.my
      ·have u1:decide (31<c.my)=true:=decide_eq_true m1;have Z:Hid (z=false):=Lib.hid (by rw[ZS.out,(show Ya3 1 c.my=false by unfold Ya3;rw[show Yaj 1=false from rfl];exact beq_eq_false_iff_ne.2 (fun h=>by have:=Yf6 c.my;omega))];simp);clear m0 m1
       go_wp2
       go_ret
       exact⟨Yad Z.out.symm,by rw[HR.out];exact hb0.trans ((hb).mono (by omega))⟩
      have u1:decide (31<c.my)=false:=decide_eq_false m1;have OK:Hid (Ya3 1 c.my=true):=Lib.hid (by unfold Ya3;rw[show Yaj 1=false from rfl];exact beq_iff_eq.2 (Yhw.2 ⟨by omega,by omega⟩));clear m0 m1
      go_wp2
      go_roundw
      case rel=>exact⟨1+1,by omega,by first|rfl|trivial,hb,Lib.hid ⟨fun _=>o1.out.1 (by omega),fun _=>OK.out⟩⟩
      case measure=>simp[RowKit.intOf]
     ·have OX:Hid (z=Ye7 c):=Lib.hid (by rw[ZS.out,o1.out.1 (by omega),o1.out.2 (by omega),STP.out];rfl);clear c4 c5
      go_wp2
      go_loopw [6] (fun v wr2=>∃i:Nat,i≤6∧v=.int .i64 i∧Below (R+1) w0 wr2∧Hid (∀j,j<i→Yio (Yaj 1) (c.dc j) (c.ev j)=true)) (fun v _=>6-(RowKit.intOf v).toNat)
      case atStart=>exact⟨0,by omega,rfl,hb,Lib.hid fun j h=>absurd h (Nat.not_lt_zero j)⟩
      case round=>
       clear hb c2;obtain⟨i,hi6,rfl,hb,ms⟩:=hrel;obtain⟨-,-,c2,-,-,-⟩:=Ybe (HBX.out _ hb).2;rw[HK.out] at c2;by_cases hlt:i<6
       ·have t3:decide ((i:Int)<6)=true:=by simp;omega
        have d0:=Yac (o:=6+i) (HBX.out _ hb).2 (Yeh c _ i hlt);have e0:=Yac (o:=12+i) (HBX.out _ hb).2 (Yez c (fun i=>.slice (p i) (n i) (k i)) i hlt);rw[NL.out i hlt] at e0;have hm:=HMA.out i hlt;have C2:=Lib.hid (fun x (hx:Below (R+1) w0 x)=>(HK.out▸(Ybe (HBX.out x hx).2).2.2.1:x.cell? ⟨R,2,none⟩=some (.int .i64 1)))
        have D0:=Lib.hid (fun x (hx:Below (R+1) w0 x)=>Yac (o:=6+i) (HBX.out x hx).2 (Yeh c _ i hlt));have E0:=Lib.hid (fun x (hx:Below (R+1) w0 x)=>(by have h:=Yac (o:=12+i) (HBX.out x hx).2 (Yez c (fun i=>.slice (p i) (n i) (k i)) i hlt);rw[NL.out i hlt] at h;exact h:x.cell? ⟨R,12+i,none⟩=some (.slice (p i) (c.ev i).length (k i))))
        have IN:=Lib.hid (fun x (hx:Below (R+1) w0 x)=>((hin x).mono fun e y h=>⟨h.1,h.2▸hx⟩:Calls Tryz.prog 36 #[.int .i64 1] x fun e y=>e=.returned (.bool (Yaj 1))∧Below (R+1) w0 y))
        have MA:=Lib.hid (fun x (hx:Below (R+1) w0 x)=>((hm x (hb0.trans (hx.mono (by omega)))).mono fun e y h=>⟨h.1,hx.trans (h.2.mono (by have:=hx.size;omega))⟩:Calls Tryz.prog 84 #[.bool (Yaj 1),.int .i64 (c.dc i),.slice (p i) (c.ev i).length (k i)] x fun e y=>e=.returned (.bool (Yio (Yaj 1) (c.dc i) (c.ev i)))∧Below (R+1) w0 y));have hbd:=hb.drew;clear c2 d0 e0 hm
        generalize hmb:Yio (Yaj 1) (c.dc i) (c.ev i)=mb at MA
        go_wp2
        refine Yaf (S:=fun x=>Below (R+1) w0 x) 13 (by kernel_rfl) (by kernel_rfl) hbd ?_;simp only[List.take_succ_cons,List.take_zero,List.drop_succ_cons,List.drop_zero];refine Yab (by kernel_rfl) (fun x _=>by go_simp;try with_reducible rfl) ?_;simp only[Yaa];refine Yag 3 _ ⟨R,2,none⟩ (.int .i64 1) (by kernel_rfl) rfl rfl (fun x hx=>by have c0:=C2.out x hx;go_simp) ?_;simp only[Yaa]
        refine Yah (by kernel_rfl) IN.out (fun _=>by kernel_rfl) ?_;simp only[Yaa]
        iterate 2 (refine Yab (by kernel_rfl) (fun x _=>by go_simp;try with_reducible rfl) ?_;simp only[Yaa])
        refine Yab (by kernel_rfl) (fun x _=>by go_simp;rw[if_pos (by omega)]) ?_;simp only[Yaa];refine Yag 3 _ ⟨R,6+i,none⟩ (.int .i64 (c.dc i)) (by kernel_rfl) rfl rfl (fun x hx=>by have c0:=D0.out x hx;go_simp) ?_;simp only[Yaa]
        iterate 2 (refine Yab (by kernel_rfl) (fun x _=>by go_simp;try with_reducible rfl) ?_;simp only[Yaa])
        refine Yab (by kernel_rfl) (fun x _=>by go_simp;rw[if_pos (by omega)]) ?_;simp only[Yaa];refine Yag 45 _ ⟨R,12+i,none⟩ (.slice (p i) (c.ev i).length (k i)) (by kernel_rfl) rfl rfl (fun x hx=>by have c0:=E0.out x hx;go_simp) ?_;simp only[Yaa];refine Yah (by kernel_rfl) MA.out (fun _=>by kernel_rfl) ?_;simp only[Yaa]
        refine Yab (by kernel_rfl) (fun x _=>by go_simp;try with_reducible rfl) ?_;simp only[Yaa];refine Yar fun x hx=>?_;cases mb with
        |true=>
         have HM:=Lib.hid hmb;clear hmb
         go_wp2
         go_roundw
         case rel=>exact⟨i+1,by omega,by go_num,hx,Lib.hid fun j hj=>(Nat.lt_succ_iff_lt_or_eq.1 hj).elim (ms.out j) fun h=>h▸HM.out⟩
         case measure=>simp[RowKit.intOf];omega
        |false=>
         have Z:Hid (z=false):=Lib.hid (by rw[OX.out];exact Bool.eq_false_iff.2 fun h=>by rw[BO.out.1 h i hlt] at hmb;cases hmb);clear hmb
         go_wp2
         go_ret
         exact⟨Yad Z.out.symm,by rw[HR.out];exact hb0.trans (hx.mono (by omega))⟩
       ·obtain rfl:i=6:=by omega
        have Z:Hid (z=true):=Lib.hid (by rw[OX.out];exact BO.out.2 ms.out)
        go_wp2
        go_ret
        exact⟨Yad Z.out.symm,by rw[HR.out];exact hb0.trans (hb.mono (by omega))⟩
   ·have Z:Hid (z=false):=Lib.hid (by rw[ZS.out,SE.out,hse];rfl);have u0:sr=⟨#[]⟩:=by
     have h:=List.isEmpty_iff.1 hse;exact Y3b.2 h
    subst u0;clear hse c3
    go_wp2
    go_ret
    exact⟨Yad Z.out.symm,by rw[HR.out];exact hb0.trans (hbX.mono (by omega))⟩
def Yt4 (c:Cel)(sl:Nat→Value)(q:Int):List Value:=Ycd c sl++[.int .i64 q]
theorem Ym5 (c:Cel)(sl:Nat→Value)(q:Int):(Tryz.prog.info? 121).map (·.size)=some (Yt4 c sl q).toArray.size:=by kernel_rfl
theorem Yx2 (c:Cel)(sl:Nat→Value)(q:Int):(Yt4 c sl q)[18]? =some (.int .i64 q):=rfl
theorem Y3p (c:Cel)(sl:Nat→Value)(q:Int):∀i,i<6→(Yt4 c sl q)[6+i]? =some (.int .i64 (c.dc i))
 |0,_=>rfl
 |1,_=>rfl
 |2,_=>rfl
 |3,_=>rfl
 |4,_=>rfl
 |5,_=>rfl
theorem Y3q (c:Cel)(sl:Nat→Value)(q:Int):∀i,i<6→(Yt4 c sl q)[12+i]? =some (sl i)
 |0,_=>rfl
 |1,_=>rfl
 |2,_=>rfl
 |3,_=>rfl
 |4,_=>rfl
 |5,_=>rfl
theorem Yj5 (c:Cel)(sl:Nat→Value)(q:Int)(w:World):Calls Tryz.prog 128 #[.agg (Yt4 c sl q).toArray] w fun e w'=>e=.returned (.bool (Yaj c.kind))∧Below w.heap.size w w':=by
 obtain⟨A,hA⟩:∃A,(Yt4 c sl q).toArray=A:=⟨_,rfl⟩;have f2:A[2]? =some (.int .i64 c.kind):=by rw[←hA];rfl
 rw[hA];clear hA;have IK:Hid (Yaj c.kind=(c.kind==3 || c.kind==4)):=Lib.hid rfl;generalize Yaj c.kind=ik at IK ⊢;generalize c.kind=k at f2 IK;rcases Bool.eq_false_or_eq_true (k==3) with t0|t0
 ·go_enter Tryz.func128,Tryz.ntmps128
  go_wp2
  go_ret
  exact⟨Yad (by rw[IK.out,t0];rfl),(Below.refl _ w).alloc (Nat.le_refl _) _⟩
 ·go_enter Tryz.func128,Tryz.ntmps128
  go_wp2
  go_ret
  exact⟨Yad (by rw[IK.out,t0];rfl),(Below.refl _ w).alloc (Nat.le_refl _) _⟩
set_option maxRecDepth 100000 in
set_option maxHeartbeats 2000000 in
theorem Yoz (c:Cel)(p:Nat→Option Addr)(n k:Nat→Nat)(q:Int)(b:Nat)(w:World)(hb:b<6)(hc:Yea w c p n)(hS:Ycl w):
  Calls Tryz.prog 127 #[.agg (Yt4 c (fun i=>.slice (p i) (n i) (k i)) q).toArray,.int .i64 (b:Int)] w (Ybq (Yfx c b) w):=by
 have hin:=fun x=>Yj5 c (fun i=>.slice (p i) (n i) (k i)) q x;obtain⟨hn1,hn2,hev⟩:=hc b hb;obtain⟨A,hA⟩:∃A,(Yt4 c (fun i=>.slice (p i) (n i) (k i)) q).toArray=A:=⟨_,rfl⟩;have HSA:(Tryz.prog.info? 121).map (·.size)=some A.size:=hA▸Ym5 c _ q;obtain⟨Y,hY⟩:∃Y,Ybb (fun _=>0)=Y:=⟨_,rfl⟩;have hz0:∀w,(zeroValue 60).run Tryz.prog w=.ok (.agg Y) w:=by rw[←hY];exact Ybx
 obtain⟨B,wA,wB,hB,hwA,hwB,hzA,hzB,hC0,hC1,hbB⟩:=Yej w (.cells A 121 (0,0)) (.cells Y 60 (0,0));obtain⟨g,hg⟩:∃g,(lvG (c.ev b) (Yk8 c.kind)).1=g:=⟨_,rfl⟩;obtain⟨er,her⟩:∃er,(lvG (c.ev b) (Yk8 c.kind)).2=er:=⟨_,rfl⟩;obtain⟨G,hG⟩:∃G,Ybb g=G:=⟨_,rfl⟩;obtain⟨V,hV⟩:∃V,Ybb (Yto g)=V:=⟨_,rfl⟩;have LV:=Lib.hid (fun(a:Int) (ha:a=Yk8 c.kind) (x:World) (hx:Below (B+2) wB x)=>(by
  have h:=Yg2 (p b) (c.ev b) (k b) (Yk8 c.kind) x (hev.below (hB▸hbB.trans (hx.mono (by omega)))) (by omega);unfold Yfj at h;rw[hg,her,hG,←hn1,←ha] at h;exact h:Calls Tryz.prog 152 #[.slice (p b) (n b) (k b),.int .i64 a] x fun e y=>e=.returned (.tuple #[.agg G,.int .i64 er])∧Below x.heap.size x y))
 have RS:=Lib.hid (fun(x:World) (hx:Below (B+2) wB x)=>(by
  have h:=Yqk g x (hS.below (hB▸hbB.trans (hx.mono (by omega))));unfold Ybq at h;rw[hG,hV] at h;exact h:Calls Tryz.prog 153 #[.agg G] x fun e y=>e=.returned (.agg V)∧Below x.heap.size x y))
 have C0:=Lib.hid (fun(x:World) (hx:Below (B+2) wB x)=>((hx.block B (by omega)).trans hC0:x.heap[B]? =some (.cells A 121 (0,0))));have C1:=Lib.hid (fun(x:World) (hx:Below (B+2) wB x)=>((hx.block (B+1) (by omega)).trans hC1:x.heap[B+1]? =some (.cells Y 60 (0,0))))
 have EV:=Lib.hid (fun(x:World) (hx:Below (B+2) wB x)=>(Yac (o:=12+b) (by rw[←hA] at hC0;exact(hx.block B (by omega)).trans hC0) (Y3q c (fun i=>.slice (p i) (n i) (k i)) q b hb):x.cell? ⟨B,12+b,none⟩=some (.slice (p b) (n b) (k b))));have HSG:(Tryz.prog.info? 60).map (·.size)=some G.size:=hG▸Yau _;have HOG:G.all (·.oneCell')=true:=hG▸Ya9 _;have HYG:Y.size=G.size:=by rw[←hY,←hG,Yak,Yak]
 have HSV:(Tryz.prog.info? 60).map (·.size)=some V.size:=hV▸Yau _;have HOV:V.all (·.oneCell')=true:=hV▸Ya9 _;have HYV:Y.size=V.size:=by rw[←hY,←hV,Yak,Yak]
 have FIN:=Lib.hid (show∀y,Below B w y→Ybq (Yfx c b) w (.returned (.agg V)) y from fun y hy=>Yhf (h:=Yto g) (fun i _=>by unfold Yfx;rw[hg]) hV (by rw[hB];exact hy));have FR0:=Lib.hid (fun(h:Yaj c.kind=true)=>(by unfold Yk8;rw[if_pos h]:(1:Int)=Yk8 c.kind));have FR1:=Lib.hid (fun(h:Yaj c.kind=false)=>(by unfold Yk8;rw[if_neg (by rw[h];decide)]:(0:Int)=Yk8 c.kind));rw[hA] at hin ⊢
 have IN:=Lib.hid hin;have HWA:=Lib.hid hwA;have HWB:=Lib.hid hwB;have HB:=Lib.hid hB;have HBW:=Lib.hid hbB;have c0:=C0.out wB (Below.refl _ _);clear hin hA hY hwA hwB hB hC0 hC1 hbB hg her hG hV hS hc hev hn1 hn2;generalize Yk8 c.kind=fr at LV FR0 FR1;generalize p b=P at LV EV;generalize n b=N at LV EV;generalize k b=K at LV EV;generalize Yaj c.kind=ik at IN FR0 FR1
 obtain⟨a,ha⟩:∃a,(if ik=true then (1:Int) else 0)=a:=⟨_,rfl⟩;have LW:=LV.out a (by rw[←ha];cases ik;exact FR1.out rfl;exact FR0.out rfl);clear LV FR0 FR1;cases ik <;> (
  simp only[if_true,Bool.false_eq_true,if_false] at ha;subst ha
  replace LW:=Lib.hid LW
  go_enter Tryz.func127,Tryz.ntmps127
  go_wp2_with (rw[HWA.out,HB.out,HWB.out];with_reducible refine wpList_load_row rfl 121 _ rfl B rfl 121 A (0,0) _ c0 Tryz.underlying121 rfl HSA ?_)
  refine(IN.out _).mono ?_;rintro e x1 ⟨rfl,hb1⟩;rw[hzB] at hb1;have e1:=EV.out x1 hb1
  go_wp2_with fail
  refine(LW.out _ hb1).mono ?_;rintro e x2 ⟨rfl,hb2⟩;have hb3:Below (B+2) wB x2:=hb1.trans (hb2.mono (by have:=hb1.size;omega));obtain⟨X,hX⟩:∃X,x2.heap.size=X:=⟨_,rfl⟩;obtain⟨x3,hx3⟩:∃x3,x2.alloc (.cells G 60 (0,0))=x3:=⟨_,rfl⟩;have h3:x3.heap[X]? =some (.cells G 60 (0,0)):=by rw[←hx3,←hX];exact heap_alloc_new x2 _
  have hb4:Below (B+2) wB x3:=by rw[←hx3];exact hb3.alloc (by have:=hb3.size;omega) _
  have HX:=Lib.hid hX;have HX3:=Lib.hid hx3;clear hb1 hb2 hb3 hX hx3 e1
  go_wp2_with (first|(with_reducible refine Yai rfl 60 _ _ rfl G Y 60 rfl rfl HSG HYG HOG ?_;rw[HX3.out,HX.out])|(with_reducible refine wpList_load_row rfl 60 _ rfl X rfl 60 G (0,0) _ h3 Tryz.underlying60 rfl HSG ?_))
  refine(RS.out _ hb4).mono ?_;rintro e x4 ⟨rfl,hb5⟩;have hb6:Below (B+2) wB x4:=hb4.trans (hb5.mono (by have:=hb4.size;omega));have c1:=C1.out x4 hb6;have hb7:Below B w x4:=HBW.out.trans (hb6.mono (by omega));have hz6:=hb6.size
  go_wp2_with (with_reducible refine Yae rfl 60 _ _ rfl (B+1) V Y rfl rfl 60 c1 HSV HYV HOV ?_;intro w5 hh5 hg5)
  refine bodyPost_ret (results_cell_row rfl _ _ (B+1) 60 _ (0,0) _ rfl hh5 Tryz.underlying60 rfl HSV) rfl ?_;exact FIN.out _ (hb7.grown hg5 (by omega) (fun k hk=>by injection hk with hk;omega)))
set_option maxRecDepth 100000 in
set_option maxHeartbeats 2000000 in
theorem Yo6 (c:Cel)(p:Nat→Option Addr)(n k:Nat→Nat)(q:Int)(b:Nat)(w:World)(hb:b<6)(hc:Yea w c p n)(hS:Ycl w):
  Calls Tryz.prog 102 #[.agg (Yt4 c (fun i=>.slice (p i) (n i) (k i)) q).toArray,.int .i64 (b:Int)] w (Ybq (Yfr c q b) w):=by
 obtain⟨A,hA⟩:∃A,(Yt4 c (fun i=>.slice (p i) (n i) (k i)) q).toArray=A:=⟨_,rfl⟩;have HSA:(Tryz.prog.info? 121).map (·.size)=some A.size:=hA▸Ym5 c _ q;obtain⟨Y,hY⟩:∃Y,Ybb (fun _=>0)=Y:=⟨_,rfl⟩;have hz0:∀w,(zeroValue 60).run Tryz.prog w=.ok (.agg Y) w:=by rw[←hY];exact Ybx
 obtain⟨B,wA,wB,hB,hwA,hwB,hzA,hzB,hC0,hC1,hbB⟩:=Yej w (.cells A 121 (0,0)) (.cells Y 60 (0,0));have UP:∀x y,Below (B+2) wB x→Below x.heap.size x y→Below (B+2) wB y:=fun x y hx hy=>hx.trans (hy.mono (by have:=hx.size;omega));obtain⟨V1,hV1⟩:∃V,Ybb (Yfx c b)=V:=⟨_,rfl⟩;obtain⟨V,hV⟩:∃V,Ybb (Yfr c q b)=V:=⟨_,rfl⟩;have LE:=Lib.hid (fun(x:World) (hx:Below (B+2) wB x)=>(by
  have hx2:Below w.heap.size w x:=hB▸hbB.trans (hx.mono (by omega));have h:=Yoz c p n k q b x hb (hc.below hx2) (hS.below hx2);unfold Ybq at h;rw[hA,hV1] at h;exact h.mono fun e y he=>⟨he.1,UP x y hx he.2⟩:Calls Tryz.prog 127 #[.agg A,.int .i64 (b:Int)] x fun e y=>e=.returned (.agg V1)∧Below (B+2) wB y))
 have IN:=Lib.hid (fun(x:World) (hx:Below (B+2) wB x)=>(by
  have h:=Yj5 c (fun i=>.slice (p i) (n i) (k i)) q x;rw[hA] at h;exact h.mono fun e y he=>⟨he.1,UP x y hx he.2⟩:Calls Tryz.prog 128 #[.agg A] x fun e y=>e=.returned (.bool (Yaj c.kind))∧Below (B+2) wB y))
 have BL:=Lib.hid (fun(x:World) (hx:Below (B+2) wB x)=>(by
  have h:=Yy3 (Yfx c b) q (Yaj c.kind) (c.dc b) x;unfold Ybq at h;rw[hV1,show Ybb (Ysp (Yfx c b) q (Yaj c.kind) (c.dc b))=V from hV] at h;exact h.mono fun e y he=>⟨he.1,UP x y hx he.2⟩:Calls Tryz.prog 126 #[.agg V1,.int .i64 q,.bool (Yaj c.kind),.int .i64 (c.dc b)] x fun e y=>e=.returned (.agg V)∧Below (B+2) wB y))
 have C0:=Lib.hid (fun(x:World) (hx:Below (B+2) wB x)=>((hx.block B (by omega)).trans hC0:x.heap[B]? =some (.cells A 121 (0,0))));have C1:=Lib.hid (fun(x:World) (hx:Below (B+2) wB x)=>((hx.block (B+1) (by omega)).trans hC1:x.heap[B+1]? =some (.cells Y 60 (0,0))))
 have CQ:=Lib.hid (fun(x:World) (hx:Below (B+2) wB x)=>(Yac (o:=18) (by rw[←hA] at hC0;exact(hx.block B (by omega)).trans hC0) (Yx2 c _ q):x.cell? ⟨B,18,none⟩=some (.int .i64 q)));have CD:=Lib.hid (fun(x:World) (hx:Below (B+2) wB x)=>(Yac (o:=6+b) (by rw[←hA] at hC0;exact(hx.block B (by omega)).trans hC0) (Y3p c _ q b hb):x.cell? ⟨B,6+b,none⟩=some (.int .i64 (c.dc b))))
 have HSV:(Tryz.prog.info? 60).map (·.size)=some V.size:=hV▸Yau _;have HOV:V.all (·.oneCell')=true:=hV▸Ya9 _;have HYV:Y.size=V.size:=by rw[←hY,←hV,Yak,Yak]
 have FIN:=Lib.hid (show∀y,Below B w y→Ybq (Yfr c q b) w (.returned (.agg V)) y from fun y hy=>Yhf (h:=Yfr c q b) (fun i _=>rfl) hV (by rw[hB];exact hy));rw[hA];have HWA:=Lib.hid hwA;have HWB:=Lib.hid hwB;have HB:=Lib.hid hB;have HBW:=Lib.hid hbB;clear hA hY hwA hwB hB hC0 hC1 hbB hV hV1 hS hc UP;generalize c.dc b=d at CD BL;generalize Yaj c.kind=ik at IN BL
 go_enter Tryz.func102,Tryz.ntmps102
 go_wp2
 rw[HWA.out,HB.out,HWB.out];refine Yaf (S:=fun x=>Below (B+2) wB x) 13 (by kernel_rfl) (by kernel_rfl) (Below.refl _ _).drew ?_;simp only[List.take_succ_cons,List.take_zero,List.drop_succ_cons,List.drop_zero];refine Ya0 121 _ B 121 A (0,0) _ (by kernel_rfl) rfl rfl (fun x hx=>C0.out x hx) Tryz.underlying121 rfl HSA ?_;simp only[Yaa]
 refine Yab (by kernel_rfl) (fun x _=>by go_simp;try with_reducible rfl) ?_;simp only[Yaa];refine Yah (by kernel_rfl) LE.out (fun _=>by kernel_rfl) ?_;simp only[Yaa];refine Yab (by kernel_rfl) (fun x _=>by go_simp;try with_reducible rfl) ?_;simp only[Yaa];refine Yag 3 _ ⟨B,18,none⟩ (.int .i64 q) (by kernel_rfl) rfl rfl (fun x hx=>by have c0:=CQ.out x hx;go_simp) ?_;simp only[Yaa]
 refine Ya0 121 _ B 121 A (0,0) _ (by kernel_rfl) rfl rfl (fun x hx=>C0.out x hx) Tryz.underlying121 rfl HSA ?_;simp only[Yaa];refine Yah (by kernel_rfl) IN.out (fun _=>by kernel_rfl) ?_;simp only[Yaa]
 iterate 3 (refine Yab (by kernel_rfl) (fun x _=>by go_simp;try with_reducible rfl) ?_;simp only[Yaa])
 refine Yab (by kernel_rfl) (fun x _=>by go_simp;rw[if_pos (by omega)]) ?_;simp only[Yaa];refine Yag 3 _ ⟨B,6+b,none⟩ (.int .i64 d) (by kernel_rfl) rfl rfl (fun x hx=>by have c0:=CD.out x hx;go_simp) ?_;simp only[Yaa];refine Yah (by kernel_rfl) BL.out (fun _=>by kernel_rfl) ?_;simp only[Yaa];refine Yar fun x hx=>?_;have c1:=C1.out x hx;have hb7:Below B w x:=HBW.out.trans (hx.mono (by omega))
 have hz6:=hx.size
 go_wp2_with (with_reducible refine Yae rfl 60 _ _ rfl (B+1) V Y rfl rfl 60 c1 HSV HYV HOV ?_;intro w5 hh5 hg5)
 refine bodyPost_ret (results_cell_row rfl _ _ (B+1) 60 _ (0,0) _ rfl hh5 Tryz.underlying60 rfl HSV) rfl ?_;exact FIN.out _ (hb7.grown hg5 (by omega) (fun k hk=>by injection hk with hk;omega))
set_option maxRecDepth 100000 in
set_option maxHeartbeats 2000000 in
theorem Ym8 (c:Cel)(p:Nat→Option Addr)(n k:Nat→Nat)(q:Int)(b:Nat)(w:World)(hb:b<6)(hc:Yea w c p n)(hS:Ycl w)(hD:Ydo w):
  Calls Tryz.prog 78 #[.agg (Yt4 c (fun i=>.slice (p i) (n i) (k i)) q).toArray,.int .i64 (b:Int)] w (Ybq (Yf2 c q b) w):=by
 obtain⟨A,hA⟩:∃A,(Yt4 c (fun i=>.slice (p i) (n i) (k i)) q).toArray=A:=⟨_,rfl⟩;have HSA:(Tryz.prog.info? 121).map (·.size)=some A.size:=hA▸Ym5 c _ q;obtain⟨Y,hY⟩:∃Y,Ybb (fun _=>0)=Y:=⟨_,rfl⟩;have hz0:∀w,(zeroValue 60).run Tryz.prog w=.ok (.agg Y) w:=by rw[←hY];exact Ybx
 have hbz:∀w,(Instr.build 60 #[]).run Tryz.prog w=.ok (.agg Y) w:=by rw[←hY];exact Yh1
 obtain⟨B,wA,wB,hB,hwA,hwB,hzA,hzB,hC0,hC1,hbB⟩:=Yej w (.cells A 121 (0,0)) (.cells Y 60 (0,0));obtain⟨G,hG⟩:∃V,Ybb (Yfr c q b)=V:=⟨_,rfl⟩;obtain⟨V,hV⟩:∃V,Ybb (Yf2 c q b)=V:=⟨_,rfl⟩;obtain⟨z,hz⟩:∃z,Yy0 (Yfr c q b) (fun _=>0)=z:=⟨_,rfl⟩;have qe:∀x,(Op.equalIn 10000 60 (.agg G) (.agg Y)).run Tryz.prog x=.ok z x:=fun x=>by rw[←hG,←hY,←hz];exact Yvj _ _ x
 have ZV:=Lib.hid (fun(h:z=true)=>(by
  have h2:=Yvh.1 (hz.trans h);rw[←hG,←hV];exact Yhz fun i hi=>by rw[h2 i hi];exact(Yzw h2 i hi).symm:G=V))
 have VA:=Lib.hid (fun(x:World) (hx:Below (B+2) wB x)=>(by
  have hx2:Below w.heap.size w x:=hB▸hbB.trans (hx.mono (by omega));have h:=Yo6 c p n k q b x hb (hc.below hx2) (hS.below hx2);unfold Ybq at h;rw[hA,hG] at h;exact h:Calls Tryz.prog 102 #[.agg A,.int .i64 (b:Int)] x fun e y=>e=.returned (.agg G)∧Below x.heap.size x y))
 have IV:=Lib.hid (fun(x:World) (hx:Below (B+2) wB x)=>(by
  have h:=Yon (Yfr c q b) x (hD.below (hB▸hbB.trans (hx.mono (by omega))));unfold Yb8 at h;rw[hG,show arn 64 (Yi0 (Yfr c q b))=V from hV] at h;exact h:Calls Tryz.prog 103 #[.agg G] x fun e y=>e=.returned (.agg V)∧Below x.heap.size x y))
 have C1:=Lib.hid (fun(x:World) (hx:Below (B+2) wB x)=>((hx.block (B+1) (by omega)).trans hC1:x.heap[B+1]? =some (.cells Y 60 (0,0))));have HSG:(Tryz.prog.info? 60).map (·.size)=some G.size:=hG▸Yau _;have HOG:G.all (·.oneCell')=true:=hG▸Ya9 _;have HYG:Y.size=G.size:=by rw[←hY,←hG,Yak,Yak]
 have HSV:(Tryz.prog.info? 60).map (·.size)=some V.size:=hV▸Yau _;have HOV:V.all (·.oneCell')=true:=hV▸Ya9 _;have HYV:Y.size=V.size:=by rw[←hY,←hV,Yak,Yak]
 have FIN:=Lib.hid (show∀y,Below B w y→Ybq (Yf2 c q b) w (.returned (.agg V)) y from fun y hy=>Yhf (h:=Yf2 c q b) (fun i _=>rfl) hV (by rw[hB];exact hy));rw[hA];have HWA:=Lib.hid hwA;have HWB:=Lib.hid hwB;have HB:=Lib.hid hB;have HBW:=Lib.hid hbB;have c0:=hC0;clear hA hY hwA hwB hB hC0 hC1 hbB hV hG hS hc hD hz
 go_enter Tryz.func78,Tryz.ntmps78
 go_wp2_with (rw[HWA.out,HB.out,HWB.out];with_reducible refine wpList_load_row rfl 121 _ rfl B rfl 121 A (0,0) _ c0 Tryz.underlying121 rfl HSA ?_)
 refine(VA.out _ (Below.refl _ _)).mono ?_;rintro e x2 ⟨rfl,hb3⟩;rw[hzB] at hb3;obtain⟨X,hX⟩:∃X,x2.heap.size=X:=⟨_,rfl⟩;obtain⟨x3,hx3⟩:∃x3,x2.alloc (.cells G 60 (0,0))=x3:=⟨_,rfl⟩;have h3:x3.heap[X]? =some (.cells G 60 (0,0)):=by rw[←hx3,←hX];exact heap_alloc_new x2 _
 have hb4:Below (B+2) wB x3:=by rw[←hx3];exact hb3.alloc (by have:=hb3.size;omega) _
 have HX:=Lib.hid hX;have HX3:=Lib.hid hx3;have hz6:=hb4.size;clear hb3 hX hx3 c0;cases z with
 |true=>
  obtain rfl:=ZV.out rfl;have c1:=C1.out x3 hb4;have hb7:Below B w x3:=HBW.out.trans (hb4.mono (by omega))
  go_wp2_with (first|(with_reducible refine Yai rfl 60 _ _ rfl G Y 60 rfl rfl HSG HYG HOG ?_;rw[HX3.out,HX.out])|(with_reducible refine wpList_load_row rfl 60 _ rfl X rfl 60 G (0,0) _ h3 Tryz.underlying60 rfl HSG ?_)|(with_reducible refine Yae rfl 60 _ _ rfl (B+1) G Y rfl rfl 60 c1 HSV HYV HOV ?_;intro w5 hh5 hg5))
  refine bodyPost_ret (results_cell_row rfl _ _ (B+1) 60 _ (0,0) _ rfl hh5 Tryz.underlying60 rfl HSV) rfl ?_;exact FIN.out _ (hb7.grown hg5 (by omega) (fun k hk=>by injection hk with hk;omega))
 |false=>
  go_wp2_with (first|(with_reducible refine Yai rfl 60 _ _ rfl G Y 60 rfl rfl HSG HYG HOG ?_;rw[HX3.out,HX.out])|(with_reducible refine wpList_load_row rfl 60 _ rfl X rfl 60 G (0,0) _ h3 Tryz.underlying60 rfl HSG ?_))
  refine(IV.out _ hb4).mono ?_;rintro e x4 ⟨rfl,hb5⟩;have hb6:Below (B+2) wB x4:=hb4.trans (hb5.mono (by omega));have hz7:=hb6.size;have c1:=C1.out x4 hb6;have hb7:Below B w x4:=HBW.out.trans (hb6.mono (by omega))
  go_wp2_with (with_reducible refine Yae rfl 60 _ _ rfl (B+1) V Y rfl rfl 60 c1 HSV HYV HOV ?_;intro w5 hh5 hg5)
  refine bodyPost_ret (results_cell_row rfl _ _ (B+1) 60 _ (0,0) _ rfl hh5 Tryz.underlying60 rfl HSV) rfl ?_;exact FIN.out _ (hb7.grown hg5 (by omega) (fun k hk=>by injection hk with hk;omega))
end Go.Proofs.YtnamlooifcpoaaaGreatDoor