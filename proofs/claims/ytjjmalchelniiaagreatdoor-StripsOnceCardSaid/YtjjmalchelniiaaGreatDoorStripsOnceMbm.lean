/- Part 39 of StripsOnce. No condition. -/
import Derived.Test.YtjjmalchelniiaaGreatDoorStripsOnceMa
import Derived.Test.YtjjmalchelniiaaGreatDoorStripsOnceMba
import Derived.Test.YtjjmalchelniiaaGreatDoorStripsOnceMbl
namespace Go.Proofs.YtjjmalchelniiaaGreatDoor
open Go.RowKit Go.Lib
theorem Ybn.lone {a b:Nat}{w x:World}(h:Ybn a b w x)(hb:w.heap.size≤b):w.grownBy x (some a):=
 ⟨h.os,h.tape,h.output,h.size,fun k hk hn=>h.block k hk (fun e=>hn (by rw[e])) (by omega)⟩
def Yqz (inter:Bool)(s:ByteArray)(rb:Nat)(x y:Int)(p:Nat)(w:World)(e:Ending)(w':World):Prop:=
 ∃(c:Cel) (q:Nat) (f:Int) (sl:Nat→Value),ctk inter (Yad s.data.toList) x y p=(c,q,f)∧e=.returned (.tuple #[.agg (Ybd c sl).toArray,.int .i64 f])∧(∀i,i<6→Ymu w' w.heap.size (sl i) (c.ev i))∧Yba w' rb s q∧w.grownBy w' (some rb)
set_option maxRecDepth 100000 in
set_option maxHeartbeats 2000000 in
theorem Y3z {N:Nat}{w:World}{rb:Nat}{s:ByteArray}{p:Nat}(inter:Bool)(x y:Int)(ht:Ybh N w)(hN:N≤rb)(hr:Yba w rb s p):
  Calls Tryz.prog 178 #[.pointer (some ⟨rb,0,none⟩),.bool inter,.agg #[.int .i64 x,.int .i64 y]] w (Yqz inter s rb x y p w):=by
 obtain⟨Y,hY⟩:∃Y:Array Value,(Ybd Yma nilS).toArray=Y:=⟨_,rfl⟩;have hzv:∀w,(zeroValue 77).run Tryz.prog w=.ok (.agg Y) w:=by rw[←hY];exact Y1d
 have HSY:(Tryz.prog.info? 77).map (·.size)=some Y.size:=hY▸Yj8 _ _;have HOY:Y.all (·.oneCell')=true:=hY▸Yn0 _ _ fun _ _=>rfl;obtain⟨A,wA,wB,wC,hA,hwA,hwB,hwC,hzA,hzB,hzC,hC0,hC1,hC2,hbC⟩:=Qje w (.cells #[.int .i64 x,.int .i64 y] 73 (0,0)) (.cells Y 77 (0,0)) (.cells #[.pointer (some ⟨rb,0,none⟩),.int .i64 0] 212 (0,0));have hrA:rb<A:=hA▸hr.lt;have hrC:Yba wC rb s p:=hr.under hbC hrA
 have hps:=hr.2.1;have RD:Yjd wC (A+2) rb s (p,0):=⟨hC2,hrC,by omega⟩;have p0:wC.cell? ⟨A,0,none⟩=some (.int .i64 x):=Yab (cs:=[.int .i64 x,.int .i64 y]) hC0 rfl;have p1:wC.cell? ⟨A,1,none⟩=some (.int .i64 y):=Yab (cs:=[.int .i64 x,.int .i64 y]) hC0 rfl;have r0:wC.cell? ⟨A+2,0,none⟩=some (.pointer (some ⟨rb,0,none⟩)):=Yab (cs:=[.pointer (some ⟨rb,0,none⟩),.int .i64 0]) hC2 rfl
 have cc:=Y7n (N:=N) inter x y (ht.below (hbC.mono (by omega))) hN RD;have HY:=Lib.hid hY;have HA:=Lib.hid hA;have HWA:=Lib.hid hwA;have HWB:=Lib.hid hwB;have HWC:=Lib.hid hwC;have HBC:=Lib.hid hbC;have HZA:=Lib.hid hzA;have HC1:=Lib.hid hC1;clear hY hA hwA hwB hwC hbC hzA hC1 hC0 hC2 RD ht hr hN
 go_enter Tryz.func178,Tryz.ntmps178
 go_wp2_with fail
 rw[HWA.out,HA.out,HWB.out,HWC.out];refine(Yb7 _ _ _ _ hrC).mono ?_;rintro e w0 ⟨rfl,rfl⟩
 go_wp2_with fail
 refine cc.mono ?_;rintro e w1 ⟨c,st1,sl,hcel,rfl,hsl,hr1,hm1⟩;obtain⟨Z,hZ⟩:∃Z,(Ybd c sl).toArray=Z:=⟨_,rfl⟩;rw[hZ];obtain⟨C,hC⟩:∃C,w1.heap.size=C:=⟨_,rfl⟩;obtain⟨w2,hw2⟩:∃z,w1.alloc (.cells Z 77 (0,0))=z:=⟨_,rfl⟩;have hb2:Below C w1 w2:=by rw[←hw2,←hC];exact(Below.refl _ w1).alloc (Nat.le_refl _) _
 have hz1:=hm1.size;have hr2:=hr1.under hb2 (by omega);have hcZ:w2.heap[C]? =some (.cells Z 77 (0,0)):=by rw[←hw2,←hC];exact heap_alloc_new w1 _
 have hcR:w2.heap[A+1]? =some (.cells Y 77 (0,0)):=(hb2.block (A+1) (by omega)).trans ((hm1.block (A+1) (by omega) (by omega) (by omega)).trans HC1.out);have hz2:C<w2.heap.size:=by rw[←hw2,←hC];simp
 have HSZ:(Tryz.prog.info? 77).map (·.size)=some Z.size:=hZ▸Yj8 _ _;have HYZ:Y.size=Z.size:=by rw[←hZ,←HY.out];rfl
 have HONE:Z.all (·.oneCell')=true:=hZ▸Yn0 _ _ fun i hi=>(hsl i hi).one;have hg2:w.grownBy w2 (some rb):=by
  have h1:Ybn rb (A+2) w w1:=((Ybn.refl rb (A+2) w).onto HBC.out (Nat.le_of_eq HA.out)).trans hm1;exact(h1.onto hb2 (by have:=h1.size;omega)).lone (by have:=HA.out;omega)
 have hsl2:∀i,i<6→Ymu w2 (A+2) (sl i) (c.ev i):=fun i hi=>((hsl i hi).from (by omega)).below (hC▸hb2);have HZ:=Lib.hid hZ;have HC:=Lib.hid hC;have HW2:=Lib.hid hw2;have HCEL:=Lib.hid hcel;have HSL:=Lib.hid hsl2;have w1c:=Yab (o:=1) hr2.1 rfl;have w1p:=Yab (o:=0) hr2.1 rfl;obtain⟨q,f⟩:=st1;simp only at w1c w1p;have h2A:A+3≤C:=by omega
 clear hZ hC hw2 hcel hsl hsl2 hm1 hr1 hb2 cc hz1;by_cases hf:f=0
 ·subst hf
  go_wp2_with (first|(with_reducible refine Yao rfl 77 _ _ rfl Z Y 77 rfl rfl HSZ HYZ HONE ?_;rw[HW2.out,HC.out])|(with_reducible refine wpList_load_row rfl 77 _ rfl C rfl 77 Z (0,0) _ hcZ Tryz.underlying77 rfl HSZ ?_)|(with_reducible refine Yaj rfl 77 _ _ rfl (A+1) Z Y rfl rfl 77 hcR HSZ HYZ HONE ?_;intro w5 hh5 hg5))
  refine bodyPost_ret (Yam rfl _ _ (A+1) 77 _ (0,0) _ rfl hh5 Tryz.underlying77 rfl HSZ) rfl ?_;have hb5:=Yeu hg5 (by omega)
  exact⟨c,q,0,sl,Yn1 HCEL.out,by rw[HZ.out];rfl,fun i hi=>((HSL.out i hi).moved (Ybn.grown hg5 (.inl rfl):Ybn (A+1) (A+1) _ _) (by omega) (by omega)).from (by have:=HA.out;omega),hr2.2.1.under hb5 (by omega),⟨hb5.os.trans hg2.os,hb5.tape.trans hg2.tape,hb5.output.trans hg2.output,Nat.le_trans hg2.size hb5.size,fun k hk hn=>(hb5.block k (by have:=HA.out;omega)).trans (hg2.block k hk hn)⟩⟩
 ·have g0:(f != 0)=true:=by simpa using hf
  have HF:=Lib.hid hf;clear hf
  go_wp2_with (with_reducible refine Yao rfl 77 _ _ rfl Z Y 77 rfl rfl HSZ HYZ HONE ?_;rw[HW2.out,HC.out])
  refine(Yb2 _ _ _ _ (p:Int) hr2.2.1 (by omega) (by omega)).mono ?_;rintro e w3 ⟨rfl,hr3,hg3⟩;rw[Int.toNat_natCast] at hr3;have hcR3:=(hg3.block (A+1) (by omega) (by simp;omega)).trans hcR;have w3c:=(World.cell?_of_block (a:=⟨A+2,1,none⟩) (hg3.block (A+2) (by omega) (by simp;omega))).trans w1c;have hz3:=hg3.size
  go_wp2
  refine wp_region_held_drew (S:=(fun z=>z.cell? ⟨A+2,1,none⟩=some (.int .i64 f))) (by kernel_rfl) w3c (fun hH=>?_);refine Yco 0 (some 29) (v:=.agg Y) rfl rfl hH (by kernel_rfl) (fun x _=>by go_simp;try with_reducible rfl) ?_
  try simp only[Yaa]
  refine Yah 1 (some 30) hH ?_
  try simp only[Yaa]
  refine Yco 2 (some 31) (v:=.int .i64 f) rfl rfl hH (by kernel_rfl) (fun x hx=>by have c0:=(show _ from hx);go_simp) ?_
  try simp only[Yaa]
  refine wpAnyH_ready (rs:=[3]) (by kernel_rfl) (by simp) ?_;refine AllReadyH.cons rfl (fun K hK=>?_) AllReadyH.nil;refine(if_pos (by kernel_rfl)).mpr ?_;have hcR4:w3.drew.heap[A+1]? =some (.cells Y 77 (0,0)):=hcR3;refine wp_store_row 77 _ _ rfl (A+1) Y rfl rfl 77 Y hcR4 HSY rfl HOY ?_;obtain⟨w5,hw5⟩:∃w5,w3.drew.setRow (A+1) Y=w5:=⟨_,rfl⟩
  have hh5:w5.heap[A+1]? =some (.cells Y 77 (0,0)):=by rw[←hw5];exact setRow_heap _ _ _ _ _ _ hcR4
  have hg5:w3.drew.grownBy w5 (some (A+1)):=by rw[←hw5];exact⟨rfl,rfl,rfl,by simp,fun k _ hk=>setRow_other _ _ _ _ (by intro e;exact hk (by rw[e]))⟩
  have hS5:w5.cell? ⟨A+2,1,none⟩=some (.int .i64 f):=(World.cell?_of_block (a:=⟨A+2,1,none⟩) (hg5.block (A+2) (show A+2<w3.heap.size by omega) (by simp))).trans w3c;rw[hw5];refine hK.out _ _ hS5 (fun hH2=>?_);clear hK K hH hw5;refine Yco 4 (some 7) rfl rfl hH2 (by kernel_rfl) (fun x _=>by go_simp;try with_reducible rfl) ?_
  try simp only[Act.put]
  refine wpAnyH_done (by kernel_rfl) ?_ _
  go_wp2
  refine bodyPost_ret (Yam rfl _ _ (A+1) 77 _ (0,0) _ rfl hh5 Tryz.underlying77 rfl HSY) rfl ?_;have hb5:=((Below.refl (A+1) w3).drew).trans (Yeu hg5 (show A+1<w3.heap.size by omega))
  exact⟨Yma,p,f,nilS,Y7k HF.out (by rw[HCEL.out]),by rw[HY.out];rfl,fun i hi=>Ymu.nil _ _,hr3.under hb5 (by omega),⟨hb5.os.trans (hg3.os.trans hg2.os),hb5.tape.trans (hg3.tape.trans hg2.tape),hb5.output.trans (hg3.output.trans hg2.output),Nat.le_trans hg2.size (Nat.le_trans hz3 hb5.size),fun k hk hn=>(hb5.block k (by have:=HA.out;omega)).trans ((hg3.block k (Nat.lt_of_lt_of_le hk hg2.size) hn).trans (hg2.block k hk hn))⟩⟩
theorem Y72 (inter:Bool)(S:List UInt8)(x y:Int)(p i:Nat):((ctk inter S x y p).1.ev i).length≤65:=by
 have hb:∀a b st,(Yiz a b S st).2.1.length≤65:=by
  intro a b st;unfold Yiz
  split
  ·exact Qhc S st.1 a b
  ·exact Nat.zero_le _
 unfold ctk
 split
 ·simp only[Yyh]
  split
  ·exact Nat.zero_le _
  ·exact hb _ _ _
 ·exact Nat.zero_le _
end Go.Proofs.YtjjmalchelniiaaGreatDoor