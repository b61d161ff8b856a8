/- Texts that SheetinTakes's proof stands on, part 48 of 52. No condition of its own. -/
import Derived.Test.YtpgdngijmihafaaGreatDoorSheetinTakesMs
import Derived.Test.YtpgdngijmihafaaGreatDoorSheetinTakesMv
import Derived.Test.YtpgdngijmihafaaGreatDoorSheetinTakesMy
import Derived.Test.YtpgdngijmihafaaGreatDoorSheetinTakesMbc
import Derived.Test.YtpgdngijmihafaaGreatDoorSheetinTakesMbo
import Derived.Test.YtpgdngijmihafaaGreatDoorSheetinTakesMbr
import Derived.Test.YtpgdngijmihafaaGreatDoorSheetinTakesMbt
namespace Go.Proofs.YtpgdngijmihafaaGreatDoor
open Go.RowKit Go.Lib
theorem Yaw.lone {a b:Nat} {w x:World} (h:Yaw a b w x) (hb:w.heap.size≤b):w.grownBy x (some a):=
 ⟨h.os,h.tape,h.output,h.size,fun k hk hn=> h.block k hk (fun e=> hn (by rw [e])) (by omega)⟩
def Ypo (inter:Bool) (s:ByteArray) (rb:Nat) (x y:Int) (p:Nat) (w:World) (e:Ending) (w':World):Prop:=
 ∃(c:Cel) (q:Nat) (f:Int) (sl:Nat→Value),ctk inter (Yac s.data.toList) x y p=(c,q,f)∧e = .returned (.tuple #[.agg (Ya5 c sl).toArray,.int .i64 f])∧(∀i,i<6→Yet w' w.heap.size (sl i) (c.ev i))∧Ybb w' rb s q∧w.grownBy w' (some rb)
set_option maxRecDepth 100000 in
set_option maxHeartbeats 2000000 in
theorem Y0m {N:Nat} {w:World} {rb:Nat} {s:ByteArray} {p:Nat} (inter:Bool) (x y:Int) (ht:Ycr N w) (hN:N≤rb) (hr:Ybb w rb s p):
  Calls Tryz.prog 91 #[.pointer (some ⟨rb,0,none⟩),.bool inter,.agg #[.int .i64 x,.int .i64 y]] w (Ypo inter s rb x y p w):=by
 obtain ⟨Y,hY⟩:∃Y:Array Value,(Ya5 Yc1 nilS).toArray=Y:=⟨_,rfl⟩
 have hzv:∀w,(zeroValue 50).run Tryz.prog w = .ok (.agg Y) w:=by rw [←hY];exact Yl0
 have HSY:(Tryz.prog.info? 50).map (·.size)=some Y.size:=hY▸Ybx _ _
 have HOY:Y.all (·.oneCell')=true:=hY▸Ycn _ _ fun _ _=> rfl
 obtain ⟨A,wA,wB,wC,hA,hwA,hwB,hwC,hzA,hzB,hzC,hC0,hC1,hC2,hbC⟩:=Qb6 w (.cells #[.int .i64 x,.int .i64 y] 45 (0,0)) (.cells Y 50 (0,0)) (.cells #[.pointer (some ⟨rb,0,none⟩),.int .i64 0] 151 (0,0))
 have hrA:rb<A:=hA▸hr.lt
 have hrC:Ybb wC rb s p:=hr.under hbC hrA
 have hps:=hr.2.1
 have RD:Yid wC (A+2) rb s (p,0):=⟨hC2,hrC,by omega⟩
 have p0:wC.cell? ⟨A,0,none⟩=some (.int .i64 x):=Yaa (cs:=[.int .i64 x,.int .i64 y]) hC0 rfl
 have p1:wC.cell? ⟨A,1,none⟩=some (.int .i64 y):=Yaa (cs:=[.int .i64 x,.int .i64 y]) hC0 rfl
 have r0:wC.cell? ⟨A+2,0,none⟩=some (.pointer (some ⟨rb,0,none⟩)):=Yaa (cs:=[.pointer (some ⟨rb,0,none⟩),.int .i64 0]) hC2 rfl
 have cc:=Y2v (N:=N) inter x y (ht.below (hbC.mono (by omega))) hN RD
 have HY:=Lib.hid hY
 have HA:=Lib.hid hA
 have HWA:=Lib.hid hwA
 have HWB:=Lib.hid hwB
 have HWC:=Lib.hid hwC
 have HBC:=Lib.hid hbC
 have HZA:=Lib.hid hzA
 have HC1:=Lib.hid hC1
 clear hY hA hwA hwB hwC hbC hzA hC1 hC0 hC2 RD ht hr hN
 go_enter Tryz.func91,Tryz.ntmps91
 go_wp2_with fail
 rw [HWA.out,HA.out,HWB.out,HWC.out]
 refine (Ybs _ _ _ _ hrC).mono ?_
 rintro e w0 ⟨rfl,rfl⟩
 go_wp2_with fail
 refine cc.mono ?_
 rintro e w1 ⟨c,st1,sl,hcel,rfl,hsl,hr1,hm1⟩
 obtain ⟨Z,hZ⟩:∃Z,(Ya5 c sl).toArray=Z:=⟨_,rfl⟩
 rw [hZ]
 obtain ⟨C,hC⟩:∃C,w1.heap.size=C:=⟨_,rfl⟩
 obtain ⟨w2,hw2⟩:∃z,w1.alloc (.cells Z 50 (0,0))=z:=⟨_,rfl⟩
 have hb2:Below C w1 w2:=by rw [←hw2,←hC];exact (Below.refl _ w1).alloc (Nat.le_refl _) _
 have hz1:=hm1.size
 have hr2:=hr1.under hb2 (by omega)
 have hcZ:w2.heap[C]? = some (.cells Z 50 (0,0)):=by rw [←hw2,←hC];exact heap_alloc_new w1 _
 have hcR:w2.heap[A+1]? = some (.cells Y 50 (0,0)):=(hb2.block (A+1) (by omega)).trans ((hm1.block (A+1) (by omega) (by omega) (by omega)).trans HC1.out)
 have hz2:C<w2.heap.size:=by rw [←hw2,←hC];simp
 have HSZ:(Tryz.prog.info? 50).map (·.size)=some Z.size:=hZ▸Ybx _ _
 have HYZ:Y.size=Z.size:=by rw [←hZ,←HY.out];rfl
 have HONE:Z.all (·.oneCell')=true:=hZ▸Ycn _ _ fun i hi=> (hsl i hi).one
 have hg2:w.grownBy w2 (some rb):=by
  have h1:Yaw rb (A+2) w w1:=((Yaw.refl rb (A+2) w).onto HBC.out (Nat.le_of_eq HA.out)).trans hm1
  exact (h1.onto hb2 (by have:=h1.size;omega)).lone (by have:=HA.out;omega)
 have hsl2:∀i,i<6→Yet w2 (A+2) (sl i) (c.ev i):=fun i hi=> ((hsl i hi).from (by omega)).below (hC▸hb2)
 have HZ:=Lib.hid hZ
 have HC:=Lib.hid hC
 have HW2:=Lib.hid hw2
 have HCEL:=Lib.hid hcel
 have HSL:=Lib.hid hsl2
 have w1c:=Yaa (o:=1) hr2.1 rfl
 have w1p:=Yaa (o:=0) hr2.1 rfl
 obtain ⟨q,f⟩:=st1
 simp only at w1c w1p
 have h2A:A+3≤C:=by omega
 clear hZ hC hw2 hcel hsl hsl2 hm1 hr1 hb2 cc hz1
 by_cases hf:f=0
 ·subst hf
  go_wp2_with (first | (with_reducible refine Yaj rfl 50 _ _ rfl Z Y 50 rfl rfl HSZ HYZ HONE ?_;rw [HW2.out,HC.out]) | (with_reducible refine wpList_load_row rfl 50 _ rfl C rfl 50 Z (0,0) _ hcZ Tryz.underlying50 rfl HSZ ?_) | (with_reducible refine Yae rfl 50 _ _ rfl (A+1) Z Y rfl rfl 50 hcR HSZ HYZ HONE ?_;intro w5 hh5 hg5))
  refine bodyPost_ret (Yan rfl _ _ (A+1) 50 _ (0,0) _ rfl hh5 Tryz.underlying50 rfl HSZ) rfl ?_
  have hb5:=Yas hg5 (by omega)
  exact ⟨c,q,0,sl,Yfp HCEL.out,by rw [HZ.out];rfl,fun i hi=> ((HSL.out i hi).moved (Yaw.grown hg5 (.inl rfl):Yaw (A+1) (A+1) _ _) (by omega) (by omega)).from (by have:=HA.out;omega),hr2.2.1.under hb5 (by omega),⟨hb5.os.trans hg2.os,hb5.tape.trans hg2.tape,hb5.output.trans hg2.output,Nat.le_trans hg2.size hb5.size,fun k hk hn=> (hb5.block k (by have:=HA.out;omega)).trans (hg2.block k hk hn)⟩⟩
 ·have g0:(f != 0)=true:=by simpa using hf
  have HF:=Lib.hid hf
  clear hf
  go_wp2_with (with_reducible refine Yaj rfl 50 _ _ rfl Z Y 50 rfl rfl HSZ HYZ HONE ?_;rw [HW2.out,HC.out])
  refine (Ybk _ _ _ _ (p:Int) hr2.2.1 (by omega) (by omega)).mono ?_
  rintro e w3 ⟨rfl,hr3,hg3⟩
  rw [Int.toNat_natCast] at hr3
  have hcR3:=(hg3.block (A+1) (by omega) (by simp;omega)).trans hcR
  have w3c:=(World.cell?_of_block (a:=⟨A+2,1,none⟩) (hg3.block (A+2) (by omega) (by simp;omega))).trans w1c
  have hz3:=hg3.size
  go_wp2
  refine wp_region_held_drew (S:=(fun z=> z.cell? ⟨A+2,1,none⟩=some (.int .i64 f))) (by kernel_rfl) w3c (fun hH=> ?_)
  refine Yab 0 (some 29) (v:=.agg Y) rfl rfl (by kernel_rfl) (by kernel_rfl) (by kernel_rfl) (fun _ _ _ h=> h) hH (Or.inl ⟨by kernel_rfl,?_⟩) ?_
  ·(intro x _;go_simp;try with_reducible rfl)
  try simp only [Act.put,List.setIfInBounds_toArray,List.set_cons_zero,List.set_cons_succ]
  refine Yab 1 (some 30) (v:=?_) rfl rfl (by kernel_rfl) (by kernel_rfl) (by kernel_rfl) (fun _ _ _ h=> h) hH (Or.inl ⟨by kernel_rfl,?_⟩) ?_
  rotate_left
  ·(intro x _;go_simp;try with_reducible rfl)
  rotate_right
  try simp only [Act.put,List.setIfInBounds_toArray,List.set_cons_zero,List.set_cons_succ]
  refine Yab 2 (some 31) (v:=.int .i64 f) rfl rfl (by kernel_rfl) (by kernel_rfl) (by kernel_rfl) (fun _ _ _ h=> h) hH (Or.inl ⟨by kernel_rfl,?_⟩) ?_
  ·(intro x hx;have c0:=(show _ from hx);go_simp)
  try simp only [Act.put,List.setIfInBounds_toArray,List.set_cons_zero,List.set_cons_succ]
  refine wpAnyH_ready (rs:=[3]) (by kernel_rfl) (by simp) ?_
  refine AllReadyH.cons rfl (fun K hK=> ?_) AllReadyH.nil
  refine (if_pos (by kernel_rfl)).mpr ?_
  have hcR4:w3.drew.heap[A+1]? = some (.cells Y 50 (0,0)):=hcR3
  refine wp_store_row 50 _ _ rfl (A+1) Y rfl rfl 50 Y hcR4 HSY rfl HOY ?_
  obtain ⟨w5,hw5⟩:∃w5,w3.drew.setRow (A+1) Y=w5:=⟨_,rfl⟩
  have hh5:w5.heap[A+1]? = some (.cells Y 50 (0,0)):=by rw [←hw5];exact setRow_heap _ _ _ _ _ _ hcR4
  have hg5:w3.drew.grownBy w5 (some (A+1)):=by rw [←hw5];exact ⟨rfl,rfl,rfl,by simp,fun k _ hk=> setRow_other _ _ _ _ (by intro e;exact hk (by rw [e]))⟩
  have hS5:w5.cell? ⟨A+2,1,none⟩=some (.int .i64 f):=(World.cell?_of_block (a:=⟨A+2,1,none⟩) (hg5.block (A+2) (show A+2<w3.heap.size by omega) (by simp))).trans w3c
  rw [hw5]
  refine hK.out _ _ hS5 (fun hH2=> ?_)
  clear hK K hH hw5
  refine Yab 4 (some 7) (v:=?_) rfl rfl (by kernel_rfl) (by kernel_rfl) (by kernel_rfl) (fun _ _ _ h=> h) hH2 (Or.inl ⟨by kernel_rfl,?_⟩) ?_
  rotate_left
  ·(intro x _;go_simp;try with_reducible rfl)
  rotate_right
  try simp only [Act.put]
  refine wpAnyH_done (by kernel_rfl) ?_ _
  go_wp2
  refine bodyPost_ret (Yan rfl _ _ (A+1) 50 _ (0,0) _ rfl hh5 Tryz.underlying50 rfl HSY) rfl ?_
  have hb5:=((Below.refl (A+1) w3).drew).trans (Yas hg5 (show A+1<w3.heap.size by omega))
  exact ⟨Yc1,p,f,nilS,Yni HF.out (by rw [HCEL.out]),by rw [HY.out];rfl,fun i hi=> Yet.nil _ _,hr3.under hb5 (by omega),⟨hb5.os.trans (hg3.os.trans hg2.os),hb5.tape.trans (hg3.tape.trans hg2.tape),hb5.output.trans (hg3.output.trans hg2.output),Nat.le_trans hg2.size (Nat.le_trans hz3 hb5.size),fun k hk hn=> (hb5.block k (by have:=HA.out;omega)).trans ((hg3.block k (Nat.lt_of_lt_of_le hk hg2.size) hn).trans (hg2.block k hk hn))⟩⟩
theorem Yvk (inter:Bool) (S:List UInt8) (x y:Int) (p i:Nat):((ctk inter S x y p).1.ev i).length≤65:=by
 have hb:∀a b st,(Yc0 a b S st).2.1.length≤65:=by
  intro a b st
  unfold Yc0
  split
  ·exact Y85 S st.1 a b
  ·exact Nat.zero_le _
 unfold ctk
 split
 ·simp only [Yny]
  split
  ·exact Nat.zero_le _
  ·exact hb _ _ _
 ·exact Nat.zero_le _
theorem Ycq {inter:Bool} {S:List UInt8} {x y:Int} {p n:Nat} {k ch:Int} {st1:Stt} {q:Nat} {f:Int} (i:Nat) (h:Yck inter S 65 0 (p,0)=(n,false,k,ch,st1)) (hi:i≤6)
  (hs:stB (Yak k) (Y03 inter S (p,0)) S (st4 inter S x y (p,0)) i=(q,f)) (hf:f≠0):ctk inter S x y p=(Yc1,p,f):=by
 refine Yni hf ?_
 rw [Qag h]
 have h1:=Yre (intra:=Yak k) (c:=Y03 inter S (p,0)) (S:=S) (st:=st4 inter S x y (p,0)) (i:=i) (by rw [hs];exact hf) (6-i)
 rw [show i+(6-i)=6 by omega,hs] at h1
 rw [h1]
theorem Yqq {inter:Bool} {S:List UInt8} {st:Stt} {n:Nat} {sk:Bool} {k ch pt:Int} {st1 s2:Stt} (h:Yck inter S 65 0 st=(n,sk,k,ch,st1)) (h2:Yb7 (ptk (Yak k)) S st1=(pt,s2)):st2 inter S st=s2:=by
 unfold st2
 rw [h,h2]
theorem Yfl {inter:Bool} {S:List UInt8} {st:Stt} {n:Nat} {sk:Bool} {k ch sp:Int} {st1 s2 s3:Stt} (h:Yck inter S 65 0 st=(n,sk,k,ch,st1)) (h2:st2 inter S st=s2) (h3:Yr5 S k s2=(sp,s3)):st3 inter S st=s3:=by
 unfold st3
 rw [h,h2,h3]
theorem Yrd {inter:Bool} {S:List UInt8} {x y:Int} {st:Stt} {n:Nat} {sk:Bool} {k ch mx my:Int} {st1 s3 s4:Stt} (h:Yck inter S 65 0 st=(n,sk,k,ch,st1)) (h3:st3 inter S st=s3) (h4:Ypu S k x y s3=(mx,my,s4)):st4 inter S x y st=s4:=by
 unfold st4
 rw [h,h3,h4]
theorem Yd6 {inter:Bool} {S:List UInt8} {x y:Int} {st:Stt} {n:Nat} {sk:Bool} {k ch:Int} {st1 s3 s4:Stt} (h:Yck inter S 65 0 st=(n,sk,k,ch,st1)) (h3:st3 inter S st=s3) (h4:(Ypu S k x y s3).2.2=s4):st4 inter S x y st=s4:=by
 unfold st4
 rw [h,h3,h4]
theorem Yqo {inter:Bool} {S:List UInt8} {st:Stt} {n:Nat} {sk:Bool} {k ch pt:Int} {st1 s2:Stt} (h:Yck inter S 65 0 st=(n,sk,k,ch,st1)) (h2:Yb7 (ptk (Yak k)) S st1=(pt,s2)):Y03 inter S st=4*pt.toNat+ch.toNat:=by
 unfold Y03
 rw [h,h2]
structure Yiw (w wr:World) (A R C:Nat) (x y:Int) (Y:Array Value) (c:Cel) (sl:Nat→Value):Prop where
 below:Below A w wr
 two:wr.heap[A]? = some (.cells #[.int .i64 x,.int .i64 y] 45 (0,0))
 res:wr.heap[R]? = some (.cells Y 50 (0,0))
 cel:wr.heap[C]? = some (.cells (Ya5 c sl).toArray 50 (0,0))
 lt:A<R∧R<C∧C<wr.heap.size
section
variable {w wr z:World} {A R C:Nat} {x y:Int} {Y:Array Value} {c c':Cel} {sl sl':Nat→Value}
theorem Yiw.move (h:Yiw w wr A R C x y Y c sl) (hb:Below wr.heap.size wr z):Yiw w z A R C x y Y c sl:=
 ⟨h.below.trans (hb.mono (by have:=h.lt;omega)),(hb.block A (by have:=h.lt;omega)).trans h.two,(hb.block R (by have:=h.lt;omega)).trans h.res,(hb.block C h.lt.2.2).trans h.cel,h.lt.1,h.lt.2.1,Nat.lt_of_lt_of_le h.lt.2.2 hb.size⟩
theorem Yiw.set (h:Yiw w wr A R C x y Y c sl) (o:Nat) (v:Value) (hs:(Ya5 c sl).set o v=Ya5 c' sl'):Yiw w (wr.setCell ⟨C,o,none⟩ v) A R C x y Y c' sl':=by
 have hb:Below C wr (wr.setCell ⟨C,o,none⟩ v):=⟨rfl,rfl,rfl,by simp [World.setCell],fun k hk=> Below.heap_setCell _ _ _ _ (by simp;omega)⟩
 refine ⟨h.below.trans (hb.mono (by have:=h.lt;omega)),(hb.block A (by have:=h.lt;omega)).trans h.two,(hb.block R h.lt.2.1).trans h.res,?_,h.lt.1,h.lt.2.1,Nat.lt_of_lt_of_le h.lt.2.2 hb.size⟩
 rw [←hs]
 exact Yau (o:=o) v h.cel
theorem Yiw.same (h:Yiw w wr A R C x y Y c sl) (he:Ya5 c sl=Ya5 c' sl'):Yiw w wr A R C x y Y c' sl':=
 ⟨h.below,h.two,h.res,he▸h.cel,h.lt⟩
end
def Ysi (inter:Bool) (S:List UInt8) (x y:Int) (p:Nat) (w:World) (e:Ending) (w':World):Prop:=
 ∃(c:Cel) (q:Nat) (f:Int) (sl:Nat→Value),ctk inter S x y p=(c,q,f)∧e = .returned (.tuple #[.agg (Ya5 c sl).toArray,.int .i64 (q:Int),.int .i64 f])∧(∀i,i<6→Yet w' w.heap.size (sl i) (c.ev i))∧Below w.heap.size w w'
theorem Yra {S:List UInt8} {x y mx my p2:Int} {st st1 st2:Stt} (h:Yk8 S x y st 0=(mx,my,st1)) (h1:Ydm S x st1=(p2,st2)):Yk8 S x y st 1=(p2,0,st2):=by
 have e:st=st1:=(Prod.mk.inj (Prod.mk.inj h).2).2
 subst e
 show ((Ydm S x st).1,(0:Int),(Ydm S x st).2)=_
 rw [h1]
theorem Yly {S:List UInt8} {x y mx my p2:Int} {st st1 st2:Stt} (h:Yk8 S x y st 1=(mx,my,st1)) (h1:Ydm S y st1=(p2,st2)):Yk8 S x y st 2=(mx,p2,st2):=by
 have e1:(Ydm S x st).1=mx:=(Prod.mk.inj h).1
 have e2:(Ydm S x st).2=st1:=(Prod.mk.inj (Prod.mk.inj h).2).2
 show ((Ydm S x st).1,(Ydm S y (Ydm S x st).2).1,(Ydm S y (Ydm S x st).2).2)=_
 rw [e1,e2,h1]
theorem Yyi {S:List UInt8} {k x y mx my p2:Int} {st st1 st2:Stt} (hk:Yak k=false) (h:Yk8 S x y st 1=(mx,my,st1)) (h1:Ydm S y st1=(p2,st2)):(Ypu S k x y st).2.2=st2:=by
 rw [Yke hk,Yly h h1]
theorem Yxa {S:List UInt8} {k x y mx my p2:Int} {st st1:Stt} {t:Nat} {f:Int} (hk:Yak k=false) (h:Yk8 S x y st 0=(mx,my,st1)) (h1:Ydm S x st1=(p2,(t,f))) (hf:f≠0):(Ypu S k x y st).2.2=(t,f):=by
 have h2:=Yra h h1
 have h3:Ydm S y (t,f)=(Ycj (Ycj y+(Yb7 dtk S (t,f)).1),(Yb7 dtk S (t,f)).2):=rfl
 rw [Yev (show ((t,f):Stt).2≠0 from hf)] at h3
 rw [Yke hk,Yly h2 h3]
theorem Yjl (c i:Nat) (hi:i≤5):((c / (32 / 2^i)%2:Nat)==1)=Yb4 c i:=by
 unfold Yb4
 have h:32 / 2^i=2^(5-i):=by
  match i,hi with
  | 0,_=> rfl
  | 1,_=> rfl
  | 2,_=> rfl
  | 3,_=> rfl
  | 4,_=> rfl
  | 5,_=> rfl
 rw [h]
set_option maxRecDepth 100000 in
set_option maxHeartbeats 4000000 in
theorem Y1v (inter:Bool) (s:ByteArray) (p:Nat) (x y:Int) (w:World) (hs:s.size≤1048576) (hp:p≤s.size) (hrow:Yba s.data.toList=true):
  Calls Tryz.prog 20 #[.string s,.int .i64 (p:Int),.bool inter,.agg #[.int .i64 x,.int .i64 y]] w (Ysi inter s.data.toList x y p w):=by
 obtain ⟨Y,hY⟩:∃Y:Array Value,(Ya5 Yc1 nilS).toArray=Y:=⟨_,rfl⟩
 have hzv:∀w,(zeroValue 50).run Tryz.prog w = .ok (.agg Y) w:=by rw [←hY];exact Yl0
 have HSY:(Tryz.prog.info? 50).map (·.size)=some Y.size:=hY▸Ybx _ _
 have HOY:Y.all (·.oneCell')=true:=hY▸Ycn _ _ fun _ _=> rfl
 have hsl:s.data.toList.length=s.size:=rfl
 obtain ⟨A,wA,wB,hA,hwA,hwB,hzA,hzB,hC0,hC1,hbB⟩:=Y28 w (.cells #[.int .i64 x,.int .i64 y] 45 (0,0)) (.cells Y 50 (0,0))
 have cb:=Yv0 inter s p wB hs hp
 have PM:=fun (b:Bool) (t:Nat) (z:World) (ht:t≤s.size)=> Yv5 b s t z hs ht
 have PS:=fun (t:Nat) (z:World) (ht:t≤s.size)=> Ywh s t z (by omega) ht hrow
 have PD:=fun (t:Nat) (z:World) (ht:t≤s.size)=> Yvc s t z hs ht
 have PB:=fun (t:Nat) (i c:Bool) (z:World) (ht:t≤s.size)=> Yyv s t i c z hs ht hrow
 unfold Yxx at PM
 unfold Y1n at PS
 unfold Yxn at PD
 unfold Yik at PB
 generalize s.data.toList=S at cb PM PS PD PB hsl hrow ⊢
 have WR:∀(f:Int) (wx wy:World),ctk inter S x y p=(Yc1,p,f)→Below A w wx→Below A wx wy→Ysi inter S x y p w (.returned (.tuple #[.agg Y,.int .i64 (p:Int),.int .i64 f])) wy:=
  fun f wx wy h h1 h2=> ⟨Yc1,p,f,nilS,h,by rw [hY],fun i _=> Yet.nil _ _,hA▸h1.trans h2⟩
 have HWR:=Lib.hid WR
 have HPM:=Lib.hid PM
 have HPS:=Lib.hid PS
 have HPD:=Lib.hid PD
 have HPB:=Lib.hid PB
 have HY:=Lib.hid hY
 have HA:=Lib.hid hA
 have HWA:=Lib.hid hwA
 have HWB:=Lib.hid hwB
 clear WR PM PS PD PB hY hA hwA hwB hrow
 go_enter Tryz.func20,Tryz.ntmps20
 go_wp2_with fail
 rw [HWA.out,HA.out,HWB.out]
 refine cb.mono ?_
 rintro e w1 ⟨n,sk,k,ch,q1,f1,hbeg,hb1,hcase⟩
 have HBEG:=Lib.hid hbeg
 have hz1:=hb1.size
 have hbA1:Below A w w1:=hbB.trans (hb1.mono (by omega))
 have h2A:=(hb1.block A (by omega)).trans hC0
 have h2R:=(hb1.block (A+1) (by omega)).trans hC1
 obtain ⟨C,hC⟩:∃C,w1.heap.size=C:=⟨_,rfl⟩
 have HC:=Lib.hid hC
 have hAC:A+2≤C:=by omega
 clear cb hbB hC0 hC1 hb1 hbeg
 rcases hcase with ⟨rfl,rfl,hq1⟩ | ⟨hf1,rfl⟩
 case inr=>
  have g0:(f1 != 0)=true:=by simpa using hf1
  have F:=Lib.hid (Yni hf1 (Y3o (x:=x) (y:=y) HBEG.out hf1))
  obtain ⟨w2,hw2⟩:∃z,w1.alloc (.cells Y 50 (0,0))=z:=⟨_,rfl⟩
  have hb2:Below C w1 w2:=by rw [←hw2,←hC];exact (Below.refl _ w1).alloc (Nat.le_refl _) _
  have hres:=(hb2.block (A+1) (by omega)).trans h2R
  have hz2:C<w2.heap.size:=by rw [←hw2,←hC];simp
  have HW2:=Lib.hid hw2
  have HBA2:=Lib.hid (hbA1.trans (hb2.mono (by omega)))
  rw [HY.out]
  clear hf1 hw2 hb2 hbA1 hC
  go_wp2_with (first | (with_reducible refine Yaj rfl 50 _ _ rfl Y Y 50 rfl rfl HSY rfl HOY ?_;rw [HW2.out,HC.out]) | (with_reducible refine Yae rfl 50 _ _ rfl (A+1) Y Y rfl rfl 50 hres HSY rfl HOY ?_;intro w5 hh5 hg5))
  refine bodyPost_ret (Yaf rfl _ _ (A+1) 50 _ (0,0) _ rfl hh5 Tryz.underlying50 rfl HSY) rfl ?_
  exact HWR.out f1 _ _ F.out HBA2.out ((Yas hg5 (by omega)).mono (by omega))
 case inl=>
  obtain ⟨Z,hZ⟩:∃Z,(Ya5 {Yc1 with stuff:=n,skip:=sk,kind:=k} nilS).toArray=Z:=⟨_,rfl⟩
  rw [hZ]
  obtain ⟨w2,hw2⟩:∃z,w1.alloc (.cells Z 50 (0,0))=z:=⟨_,rfl⟩
  have AT:Yiw w w2 A (A+1) C x y Y {Yc1 with stuff:=n,skip:=sk,kind:=k} nilS:=by
   have hb2:Below C w1 w2:=by rw [←hw2,←hC];exact (Below.refl _ w1).alloc (Nat.le_refl _) _
   exact ⟨hbA1.trans (hb2.mono (by omega)),(hb2.block A (by omega)).trans h2A,(hb2.block (A+1) (by omega)).trans h2R,by rw [hZ,←hw2,←hC];exact heap_alloc_new w1 _,by omega,by omega,by rw [←hw2,←hC];simp⟩
  have HSZ:(Tryz.prog.info? 50).map (·.size)=some Z.size:=hZ▸Ybx _ _
  have HYZ:Y.size=Z.size:=by rw [←hZ,←HY.out];rfl
  have HONE:Z.all (·.oneCell')=true:=hZ▸Ycn _ _ fun _ _=> rfl
  have HZ:=Lib.hid hZ
  have HW2:=Lib.hid hw2
  have HAT:=Lib.hid AT
  have hcel:=AT.cel
  rw [hZ] at hcel
  have hres:=AT.res
  have hC2:=AT.lt
  have BIN:=Ywc _ _ _ _ _ _ _ _ _ _ HBEG.out
  clear hZ hw2 AT hbA1 h2A h2R hC hz1 hzA hzB
  cases sk with
  | true=>
   have c1:w2.cell? ⟨C,1,none⟩=some (.bool true):=Yaa (o:=1) HAT.out.cel rfl
   obtain rfl:0=k:=(BIN.2.2.2.2.2.2 rfl).symm
   clear BIN
   go_wp2_with (first | (with_reducible refine Yaj rfl 50 _ _ rfl Z Y 50 rfl rfl HSZ HYZ HONE ?_;rw [HW2.out,HC.out]) | (with_reducible refine wpList_load_row rfl 50 _ rfl C rfl 50 Z (0,0) _ hcel Tryz.underlying50 rfl HSZ ?_) | (with_reducible refine Yae rfl 50 _ _ rfl (A+1) Z Y rfl rfl 50 hres HSZ HYZ HONE ?_;intro w5 hh5 hg5))
   refine bodyPost_ret (Yaf rfl _ _ (A+1) 50 _ (0,0) _ rfl hh5 Tryz.underlying50 rfl HSZ) rfl ?_
   exact ⟨_,q1,0,nilS,Yfp (Ypt HBEG.out),by rw [←HZ.out];rfl,fun i hi=> Yet.nil _ _,HA.out▸HAT.out.below.trans ((Yas hg5 (by omega)).mono (by omega))⟩
  | false=>
   obtain ⟨b0,b1,b2,b3,b4,b5,_⟩:=BIN
   obtain ⟨a,rfl⟩:∃a:Nat,ch=(a:Int):=⟨ch.toNat,by omega⟩
   have c1:w2.cell? ⟨C,1,none⟩=some (.bool false):=Yaa (o:=1) HAT.out.cel rfl
   have c2:w2.cell? ⟨C,2,none⟩=some (.int .i64 k):=Yaa (o:=2) HAT.out.cel rfl
   obtain hk | hk | hk | hk:k=0∨k=1∨k=3∨k=4:=by omega
   ·subst hk
    have pin:=Yj2 false (S.drop q1)
    have cp:=HPM.out false q1 w2 (by omega)
    have hpt:Yb7 (ptk false) S (q1,0)=_:=Yb6
    have hdl:(S.drop q1).length=S.length-q1:=List.length_drop
    generalize ptk false (S.drop q1)=z at cp pin hpt
    obtain ⟨pt,f2,n2⟩:=z
    simp only at cp pin hpt
    obtain ⟨b,rfl⟩:∃b:Nat,pt=(b:Int):=⟨pt.toNat,by omega⟩
    have HPT:Hid (Yb7 (ptk (Yak 0)) S (q1,0)=((b:Int),q1+n2,f2)):=Lib.hid hpt
    have pi:=Ycg 0
    rw [show Yak 0=false from rfl] at pi
    obtain ⟨cd,hcd⟩:∃cd,4*b+a=cd:=⟨_,rfl⟩
    have hcd2:4*(b:Int)+(a:Int)=(cd:Int):=by omega
    have HCD:=Lib.hid hcd
    clear hcd
    obtain ⟨q2,hq2⟩:∃q2,q1+n2=q2:=⟨_,rfl⟩
    have hqs2:q2≤s.size:=by omega
    rw [hq2] at HPT cp
    have hST2:st2 inter S (p,0)=(q2,f2):=Yqq HBEG.out HPT.out
    have HST2:=Lib.hid hST2
    have hb15:(b:Int)≤15:=by omega
    clear hpt hdl hq2 hST2
    by_cases hf2:f2=0
    ·subst hf2
     go_wp2_with (with_reducible refine Yaj rfl 50 _ _ rfl Z Y 50 rfl rfl HSZ HYZ HONE ?_;rw [HW2.out,HC.out])
     refine (pi _).mono ?_
     rintro e w9 ⟨rfl,rfl⟩
     go_wp2_with fail
     refine cp.mono ?_
     rintro e w3 ⟨rfl,hb3⟩
     have AT3:=HAT.out.move hb3
     have d2:w3.cell? ⟨C,2,none⟩=some (.int .i64 0):=Yaa (o:=2) AT3.cel rfl
     clear cp hb3 HAT hcel hres c1 c2 HSZ HYZ HONE hC2
     have HSTP:Hid (Yr5 S 0 (q2,0)=(0,q2,0)):=Lib.hid rfl
     have hST3:st3 inter S (p,0)=(q2,0):=Yfl HBEG.out HST2.out HSTP.out
     have HST3:=Lib.hid hST3
     clear hST3
     go_wp2
     have HATV:=Lib.hid AT3
     clear AT3
     go_loopw [13,19] (fun u v wr=>∃i t:Nat,i≤2∧t≤s.size∧u = .int .i64 (t:Int)∧v = .int .i64 (i:Int)∧∃mx my,Hid (Yk8 S x y (q2,0) i=(mx,my,(t,0)))∧Hid (Yiw w wr A (A+1) C x y Y {Yc1 with stuff:=n,skip:=false,kind:=0,step:=0,mx:=mx,my:=my} nilS)) (fun _ v _=> 2-(intOf v).toNat)
     case atStart=> exact ⟨0,q2,by omega,by omega,rfl,rfl,0,0,Lib.hid rfl,HATV⟩
     case round=>
      clear HATV
      obtain ⟨i,t,hi2,ht,rfl,rfl,mx,my,hvn,hat⟩:=hrel
      obtain rfl | rfl | rfl:i=0∨i=1∨i=2:=by omega
      ·obtain rfl:mx=0:=(Prod.mk.inj hvn.out).1.symm
       obtain rfl:my=0:=(Prod.mk.inj (Prod.mk.inj hvn.out).2).1.symm
       have AT2:=hat.out
       have e2:wr.cell? ⟨C,2,none⟩=some (.int .i64 0):=Yaa (o:=2) AT2.cel rfl
       have cp:=HPD.out t wr ht
       have din:=Yg1 S (t,0)
       have dal:=Ykm (S.drop t)
       have hdl:(S.drop t).length=S.length-t:=List.length_drop
       have hnu:Yb7 dtk S (t,0)=_:=Yb6
       have hon:Ydm S x (t,0)=(Ycj (Ycj x+(Yb7 dtk S (t,0)).1),(Yb7 dtk S (t,0)).2):=rfl
       rw [hnu] at din hon
       generalize dtk (S.drop t)=z at cp din dal hon hnu
       obtain ⟨dd,f4,n4⟩:=z
       simp only at cp din dal hon hnu
       obtain ⟨t2,ht2⟩:∃t2,t+n4=t2:=⟨_,rfl⟩
       have hts2:t2≤s.size:=by omega
       rw [ht2] at cp hon hnu
       have wl:=Ygy x
       have wh:=Ygx x
       have sw:IntKind.i64.wrap (Ycj x+dd)=Ycj x+dd:=IntWalk.i64_in _ (by omega)
       have HON:=Lib.hid hon
       have HAT2:=Lib.hid AT2
       clear hon hnu hdl dal din ht2 hat AT2
       by_cases hf4:f4=0
       ·subst hf4
        generalize hwp:Ycj x=p1 at HON sw wl wh
        have cw:=Yd9 x
        rw [hwp] at cw
        have cw2:=Yd9 (p1+dd)
        generalize Ycj (p1+dd)=p2 at cw2 HON
        clear hwp
        go_wp2_with fail
        refine cp.mono ?_
        rintro e w3 ⟨rfl,hb3⟩
        have AT3:=HAT2.out.move hb3
        have p0:w3.cell? ⟨A,0,none⟩=some (.int .i64 x):=Yaa (cs:=[.int .i64 x,.int .i64 y]) AT3.two rfl
        have e4:=Yaa (o:=4) AT3.cel rfl
        have f4:=Yag (o:=4) AT3.cel
        have AT7:=AT3.set 4 (.int .i64 p2) (c':={Yc1 with stuff:=n,skip:=false,kind:=0,step:=0,mx:=p2,my:=0}) (sl':=nilS) rfl
        have N7:=Lib.hid AT7
        clear AT7 AT3 hb3 cp HAT2 e2
        go_wp2_with fail
        refine (cw _).mono ?_
        rintro e w9 ⟨rfl,rfl⟩
        go_wp2_with fail
        refine (cw2 _).mono ?_
        rintro e w9 ⟨rfl,rfl⟩
        go_wp2
        go_roundw
        case rel=> exact ⟨1,t2,by omega,hts2,rfl,by go_num,_,_,Lib.hid (Yra hvn.out HON.out),N7⟩
        case measure=> simp [intOf]
       ·have g4:(f4 != 0)=true:=by simpa using hf4
        have F:=Lib.hid (Ycq 0 HBEG.out (by omega) (Yd6 (x:=x) (y:=y) HBEG.out HST3.out (Yxa (k:=0) rfl hvn.out HON.out hf4)) hf4)
        clear hf4
        go_wp2_with fail
        refine cp.mono ?_
        rintro e w3 ⟨rfl,hb3⟩
        have AT3:=HAT2.out.move hb3
        clear cp hb3 HAT2 e2 hvn
        have hre:=AT3.res
        have hlt9:=AT3.lt
        have hbe:=AT3.below
        have HBE:=Lib.hid hbe
        clear hbe
        go_wp2_with (with_reducible refine Yae rfl 50 _ _ rfl (A+1) Y Y rfl rfl 50 hre HSY rfl HOY ?_;intro w5 hh5 hg5)
        refine bodyPost_ret (Yaf rfl _ _ (A+1) 50 _ (0,0) _ rfl hh5 Tryz.underlying50 rfl HSY) rfl ?_
        exact HWR.out f4 _ _ F.out HBE.out ((Yas hg5 (by omega)).mono (by omega))
      ·have hmy:=(Prod.mk.inj (Prod.mk.inj hvn.out).2).1
       obtain rfl:my=0:=(Prod.mk.inj (Prod.mk.inj hvn.out).2).1.symm
       have AT2:=hat.out
       have e2:wr.cell? ⟨C,2,none⟩=some (.int .i64 0):=Yaa (o:=2) AT2.cel rfl
       have cp:=HPD.out t wr ht
       have din:=Yg1 S (t,0)
       have dal:=Ykm (S.drop t)
       have hdl:(S.drop t).length=S.length-t:=List.length_drop
       have hnu:Yb7 dtk S (t,0)=_:=Yb6
       have hon:Ydm S y (t,0)=(Ycj (Ycj y+(Yb7 dtk S (t,0)).1),(Yb7 dtk S (t,0)).2):=rfl
       rw [hnu] at din hon
       generalize dtk (S.drop t)=z at cp din dal hon hnu
       obtain ⟨dd,f4,n4⟩:=z
       simp only at cp din dal hon hnu
       obtain ⟨t2,ht2⟩:∃t2,t+n4=t2:=⟨_,rfl⟩
       have hts2:t2≤s.size:=by omega
       rw [ht2] at cp hon hnu
       have wl:=Ygy y
       have wh:=Ygx y
       have sw:IntKind.i64.wrap (Ycj y+dd)=Ycj y+dd:=IntWalk.i64_in _ (by omega)
       have HON:=Lib.hid hon
       have HAT2:=Lib.hid AT2
       clear hon hnu hdl dal din ht2 hat AT2
       by_cases hf4:f4=0
       ·subst hf4
        generalize hwp:Ycj y=p1 at HON sw wl wh
        have cw:=Yd9 y
        rw [hwp] at cw
        have cw2:=Yd9 (p1+dd)
        generalize Ycj (p1+dd)=p2 at cw2 HON
        clear hwp
        go_wp2_with fail
        refine cp.mono ?_
        rintro e w3 ⟨rfl,hb3⟩
        have AT3:=HAT2.out.move hb3
        have p0:w3.cell? ⟨A,1,none⟩=some (.int .i64 y):=Yaa (cs:=[.int .i64 x,.int .i64 y]) AT3.two rfl
        have e4:=Yaa (o:=5) AT3.cel rfl
        have f4:=Yag (o:=5) AT3.cel
        have AT7:=AT3.set 5 (.int .i64 p2) (c':={Yc1 with stuff:=n,skip:=false,kind:=0,step:=0,mx:=mx,my:=p2}) (sl':=nilS) rfl
        have N7:=Lib.hid AT7
        clear AT7 AT3 hb3 cp HAT2 e2
        go_wp2_with fail
        refine (cw _).mono ?_
        rintro e w9 ⟨rfl,rfl⟩
        go_wp2_with fail
        refine (cw2 _).mono ?_
        rintro e w9 ⟨rfl,rfl⟩
        go_wp2
        go_roundw
        case rel=> exact ⟨2,t2,by omega,hts2,rfl,by go_num,_,_,Lib.hid (Yly hvn.out HON.out),N7⟩
        case measure=> simp [intOf]
       ·have g4:(f4 != 0)=true:=by simpa using hf4
        have F:=Lib.hid (Ycq 0 HBEG.out (by omega) (Yd6 (x:=x) (y:=y) HBEG.out HST3.out (Yyi (k:=0) rfl hvn.out HON.out)) hf4)
        clear hf4
        go_wp2_with fail
        refine cp.mono ?_
        rintro e w3 ⟨rfl,hb3⟩
        have AT3:=HAT2.out.move hb3
        clear cp hb3 HAT2 e2 hvn
        have hre:=AT3.res
        have hlt9:=AT3.lt
        have hbe:=AT3.below
        have HBE:=Lib.hid hbe
        clear hbe
        go_wp2_with (with_reducible refine Yae rfl 50 _ _ rfl (A+1) Y Y rfl rfl 50 hre HSY rfl HOY ?_;intro w5 hh5 hg5)
        refine bodyPost_ret (Yaf rfl _ _ (A+1) 50 _ (0,0) _ rfl hh5 Tryz.underlying50 rfl HSY) rfl ?_
        exact HWR.out f4 _ _ F.out HBE.out ((Yas hg5 (by omega)).mono (by omega))
      ·have AT2:=hat.out
       have hvec:=(Yke (S:=S) (k:=0) (x:=x) (y:=y) (st:=(q2,0)) rfl).trans hvn.out
       have HVEC:=Lib.hid hvec
       have HST4:Hid (st4 inter S x y (p,0)=(t,0)):=Lib.hid (Yrd HBEG.out HST3.out hvec)
       clear hvec hat hvn
       rw [show (Value.int .i64 ((2:Nat):Int)) = .int .i64 2 from rfl]
       go_wp2
       generalize wr=wo at *
       generalize t=q4 at *
       have hq4s:q4≤s.size:=by omega
       have hall:=Ygd (inter:=inter) (x:=x) (y:=y) HBEG.out HPT.out HSTP.out HVEC.out
       have hcc:=Yqo HBEG.out HPT.out
       rw [show ((b:Int)).toNat=b from rfl,show ((a:Int)).toNat=a from rfl,HCD.out] at hall hcc
       obtain ⟨D,hD⟩:∃D:Cel,{stuff:=n,skip:=false,kind:=0,step:=0,mx:=mx,my:=my,dc:=fun i=> (Yc0 (Yak 0) (Yb4 cd i) S (stB (Yak 0) cd S (q4,0) i)).1,ev:=fun i=> (Yc0 (Yak 0) (Yb4 cd i) S (stB (Yak 0) cd S (q4,0) i)).2.1}=D:=⟨_,rfl⟩
       rw [hD] at hall
       have hDc:∀i,D.dc i=(Yc0 false (Yb4 cd i) S (stB false cd S (q4,0) i)).1:=fun i=> by rw [←hD];rfl
       have hDe:∀i,D.ev i=(Yc0 false (Yb4 cd i) S (stB false cd S (q4,0) i)).2.1:=fun i=> by rw [←hD];rfl
       have ATD:Yiw w wo A (A+1) C x y Y (Yj5 D 0) nilS:=Yiw.same AT2 (by rw [←hD];rfl)
       have hfail:∀(i:Nat) (q f:Nat×Int),True:=fun _ _ _=> trivial
       have HCF:=Lib.hid (fun (i tq:Nat) (f:Int) (hi:i≤6) (h:stB false cd S (q4,0) i=(tq,f)) (hf:f≠0)=> Ycq (x:=x) (y:=y) i HBEG.out hi (by rw [hcc,HST4.out];exact h) hf)
       have HALL:=Lib.hid hall
       have HDK:Hid (D.kind=0):=Lib.hid (by rw [←hD])
       have HDC:=Lib.hid hDc
       have HDE:=Lib.hid hDe
       have HATD:=Lib.hid ATD
       clear hall hD hDc hDe ATD AT2 hcc hfail HST4 HVEC
       go_loopw [13,23,24] (fun u v z wr=>∃i t:Nat,i≤6∧t≤s.size∧u = .int .i64 (t:Int)∧v = .int .i64 ((32 / 2^i:Nat):Int)∧z = .int .i64 (i:Int)∧∃sl,Hid (stB false cd S (q4,0) i=(t,0))∧Hid (Yiw w wr A (A+1) C x y Y (Yj5 D i) sl∧(∀j,j<i→Yet wr (C+1) (sl j) (D.ev j))∧∀j,i≤j→sl j = .slice none 0 0)) (fun _ _ z _=> 6-(intOf z).toNat)
       case atStart=> exact ⟨0,q4,by omega,hq4s,rfl,rfl,rfl,nilS,Lib.hid rfl,Lib.hid ⟨HATD.out,fun j h=> absurd h (Nat.not_lt_zero j),fun _ _=> rfl⟩⟩
       case round=>
        clear HATD
        obtain ⟨i,t,hi6,ht,rfl,rfl,rfl,sl,hst,hat⟩:=hrel
        by_cases hlt:i<6
        ·have t0:decide ((i:Int)<6)=true:=by simp;omega
         have c2:wr.cell? ⟨C,2,none⟩=some (.int .i64 0):=Yaa (o:=2) hat.out.1.cel (by show some (Value.int .i64 D.kind)=_;rw [HDK.out])
         have cb:=HPB.out t false (Yb4 cd i) wr.drew ht
         have hbl:Yc0 false (Yb4 cd i) S (t,0)=_:=Ykg
         have hin:=(Yho S t false (Yb4 cd i) (by omega)).1
         have hnx:stB false cd S (q4,0) (i+1)=(Yc0 false (Yb4 cd i) S (stB false cd S (q4,0) i)).2.2:=rfl
         have hdv:=HDC.out i
         have hev:=HDE.out i
         rw [hst.out,hbl] at hnx hdv hev
         have q3:=Yjl cd i (by omega)
         generalize Yb4 cd i=cdb at cb hbl hin hnx hdv hev q3
         generalize btk S t false cdb=z at cb hbl hin hnx hdv hev
         obtain ⟨dv,L,t2,f5⟩:=z
         simp only at hin hnx hdv hev
         have HDV:=Lib.hid hdv
         have HEV:=Lib.hid hev
         have HNX:=Lib.hid hnx
         obtain ⟨B,hB⟩:∃B,32 / 2^i=B:=⟨_,rfl⟩
         have hB1:1≤B∧B≤32∧B / 2=32 / 2^(i+1):=by
          rw [←hB]
          match i,hlt with
          | 0,_=> decide
          | 1,_=> decide
          | 2,_=> decide
          | 3,_=> decide
          | 4,_=> decide
          | 5,_=> decide
         rw [hB] at q3 ⊢
         have HB2:=Lib.hid hB1.2.2
         obtain ⟨hBl,hBh,-⟩:=hB1
         have pi:=Ycg 0
         rw [show Yak 0=false from rfl] at pi
         clear hdv hev hnx hbl hB
         have qw:IntKind.i64.wrap ((cd:Int) / (B:Int))=(cd:Int) / (B:Int):=by rw [←Int.natCast_ediv];exact Yir (Nat.le_trans (Nat.div_le_self _ _) (by omega))
         have qm:((cd:Int) / (B:Int)).tmod 2=(cd:Int) / (B:Int)%2:=by rw [←Int.natCast_ediv];exact Int.tmod_eq_emod_of_nonneg (Int.natCast_nonneg _)
         have qe:(((cd:Int) / (B:Int)%2)==1)=cdb:=by rw [←q3,Bool.eq_iff_iff,beq_iff_eq,beq_iff_eq,←Int.natCast_ediv];omega
         have ATD:=hat.out.1.move ((Below.refl wr.heap.size wr).drew)
         have HKC:=Lib.hid (fun (z:World) (h:Yiw w z A (A+1) C x y Y (Yj5 D i) sl)=> (Yaa (o:=2) h.cel (by show some (Value.int .i64 D.kind)=_;rw [HDK.out]):z.cell? ⟨C,2,none⟩=some (.int .i64 0)))
         have HST:=Lib.hid hst.out
         have HAT:=Lib.hid hat.out
         clear q3 hst hat c2
         go_wp2
         refine wp_region_held_drew (S:=(fun z=> z.cell? ⟨C,2,none⟩=some (.int .i64 0))) (by kernel_rfl) (HKC.out _ ATD) (fun hH=> ?_)
         refine Yab 0 (some 126) (v:=?_) rfl rfl (by kernel_rfl) (by kernel_rfl) (by kernel_rfl) (fun _ _ _ h=> h) hH (Or.inl ⟨by kernel_rfl,?_⟩) ?_
         rotate_left
         ·(intro x _;go_simp;try with_reducible rfl)
         rotate_right
         try simp only [Act.put,List.setIfInBounds_toArray,List.set_cons_zero,List.set_cons_succ]
         refine Yab 1 (some 127) (v:=?_) rfl rfl (by kernel_rfl) (by kernel_rfl) (by kernel_rfl) (fun _ _ _ h=> h) hH (Or.inl ⟨by kernel_rfl,?_⟩) ?_
         rotate_left
         ·(intro x _;go_simp;try with_reducible rfl)
         rotate_right
         try simp only [Act.put,List.setIfInBounds_toArray,List.set_cons_zero,List.set_cons_succ]
         refine Yab 2 (some 128) (v:=?_) rfl rfl (by kernel_rfl) (by kernel_rfl) (by kernel_rfl) (fun _ _ _ h=> h) hH (Or.inl ⟨by kernel_rfl,?_⟩) ?_
         rotate_left
         ·(intro x _;go_simp;try with_reducible rfl)
         rotate_right
         try simp only [Act.put,List.setIfInBounds_toArray,List.set_cons_zero,List.set_cons_succ]
         refine Yab 3 (some 129) (v:=.int .i64 0) rfl rfl (by kernel_rfl) (by kernel_rfl) (by kernel_rfl) (fun _ _ _ h=> h) hH (Or.inl ⟨by kernel_rfl,?_⟩) ?_
         ·(intro x hx;have c0:=(show _ from hx);go_simp)
         try simp only [Act.put,List.setIfInBounds_toArray,List.set_cons_zero,List.set_cons_succ]
         refine Yab 5 (some 131) (v:=?_) rfl rfl (by kernel_rfl) (by kernel_rfl) (by kernel_rfl) (fun _ _ _ h=> h) hH (Or.inl ⟨by kernel_rfl,?_⟩) ?_
         rotate_left
         ·(intro x _;go_simp;try with_reducible rfl)
         rotate_right
         try simp only [Act.put,List.setIfInBounds_toArray,List.set_cons_zero,List.set_cons_succ]
         refine Yab 6 (some 132) (v:=?_) rfl rfl (by kernel_rfl) (by kernel_rfl) (by kernel_rfl) (fun _ _ _ h=> h) hH (Or.inl ⟨by kernel_rfl,?_⟩) ?_
         rotate_left
         ·(intro x _;go_simp;try with_reducible rfl)
         rotate_right
         try simp only [Act.put,List.setIfInBounds_toArray,List.set_cons_zero,List.set_cons_succ]
         refine Yab 7 (some 133) (v:=.int .i64 ((cd:Int) / (B:Int))) rfl rfl (by kernel_rfl) (by kernel_rfl) (by kernel_rfl) (fun _ _ _ h=> h) hH (Or.inl ⟨by kernel_rfl,?_⟩) ?_
         ·(intro x _;go_simp;omega)
         try simp only [Act.put,List.setIfInBounds_toArray,List.set_cons_zero,List.set_cons_succ]
         refine Yab 8 (some 134) (v:=.int .i64 ((cd:Int) / (B:Int)%2)) rfl rfl (by kernel_rfl) (by kernel_rfl) (by kernel_rfl) (fun _ _ _ h=> h) hH (Or.inl ⟨by kernel_rfl,?_⟩) ?_
         ·(intro x _;go_simp)
         try simp only [Act.put,List.setIfInBounds_toArray,List.set_cons_zero,List.set_cons_succ]
         refine Yab 9 (some 135) (v:=.bool cdb) rfl rfl (by kernel_rfl) (by kernel_rfl) (by kernel_rfl) (fun _ _ _ h=> h) hH (Or.inl ⟨by kernel_rfl,?_⟩) ?_
         ·(intro x _;go_simp)
         try simp only [Act.put,List.setIfInBounds_toArray,List.set_cons_zero,List.set_cons_succ]
         refine wpAnyH_ready (rs:=[4]) (by kernel_rfl) (by simp) ?_
         refine AllReadyH.cons rfl (fun K hK=> ?_) AllReadyH.nil
         go_simp
         go_wp2_with fail
         refine (pi _).mono ?_
         rintro e w8 ⟨rfl,rfl⟩
         refine hK.out _ _ (HKC.out _ ATD) (fun hH2=> ?_)
         clear hK K hH
         have hH:=hH2
         clear hH2
         try simp only [Act.put,List.setIfInBounds_toArray,List.set_cons_zero,List.set_cons_succ]
         refine wpAnyH_ready (rs:=[10]) (by kernel_rfl) (by simp) ?_
         refine AllReadyH.cons rfl (fun K hK=> ?_) AllReadyH.nil
         go_simp
         go_wp2_with fail
         refine cb.mono ?_
         rintro e w9 ⟨d1,L1,f1,t1,m,qa,cap,heq,rfl,hm9,hev,hfr,hb9⟩
         simp only [Prod.mk.injEq] at heq
         obtain ⟨rfl,rfl,rfl,rfl⟩:=heq
         have HM:=Lib.hid hm9
         have AT3:=ATD.move hb9
         clear hm9 cb
         refine hK.out _ _ (HKC.out _ AT3) (fun hH2=> ?_)
         clear hK K hH
         have hH:=hH2
         clear hH2
         try simp only [Act.put,List.setIfInBounds_toArray,List.set_cons_zero,List.set_cons_succ]
         refine Yab 11 (some 125) (v:=?_) rfl rfl (by kernel_rfl) (by kernel_rfl) (by kernel_rfl) (fun _ _ _ h=> h) hH (Or.inl ⟨by kernel_rfl,?_⟩) ?_
         rotate_left
         ·(intro x _;go_simp;try with_reducible rfl)
         rotate_right
         try simp only [Act.put,List.setIfInBounds_toArray,List.set_cons_zero,List.set_cons_succ]
         refine Yab 12 (some 137) (v:=?_) rfl rfl (by kernel_rfl) (by kernel_rfl) (by kernel_rfl) (fun _ _ _ h=> h) hH (Or.inl ⟨by kernel_rfl,?_⟩) ?_
         rotate_left
         ·(intro x _;go_simp;try with_reducible rfl)
         rotate_right
         try simp only [Act.put,List.setIfInBounds_toArray,List.set_cons_zero,List.set_cons_succ]
         refine Yab 13 (some 138) (v:=?_) rfl rfl (by kernel_rfl) (by kernel_rfl) (by kernel_rfl) (fun _ _ _ h=> h) hH (Or.inl ⟨by kernel_rfl,?_⟩) ?_
         rotate_left
         ·(intro x _;go_simp;try with_reducible rfl)
         rotate_right
         try simp only [Act.put,List.setIfInBounds_toArray,List.set_cons_zero,List.set_cons_succ]
         refine Yab 14 (some 139) (v:=?_) rfl rfl (by kernel_rfl) (by kernel_rfl) (by kernel_rfl) (fun _ _ _ h=> h) hH (Or.inl ⟨by kernel_rfl,?_⟩) ?_
         rotate_left
         ·(intro x _;go_simp;try with_reducible rfl)
         rotate_right
         try simp only [Act.put,List.setIfInBounds_toArray,List.set_cons_zero,List.set_cons_succ]
         refine Yab 15 (some 140) (v:=?_) rfl rfl (by kernel_rfl) (by kernel_rfl) (by kernel_rfl) (fun _ _ _ h=> h) hH (Or.inl ⟨by kernel_rfl,?_⟩) ?_
         rotate_left
         ·(intro x _;go_simp;try with_reducible rfl)
         rotate_right
         try simp only [Act.put,List.setIfInBounds_toArray,List.set_cons_zero,List.set_cons_succ]
         refine Yab 16 (some 25) (v:=?_) rfl rfl (by kernel_rfl) (by kernel_rfl) (by kernel_rfl) (fun _ _ _ h=> h) hH (Or.inl ⟨by kernel_rfl,?_⟩) ?_
         rotate_left
         ·(intro x _;go_simp;try with_reducible rfl)
         rotate_right
         try simp only [Act.put,List.setIfInBounds_toArray,List.set_cons_zero,List.set_cons_succ]
         refine Yab 17 (some 26) (v:=?_) rfl rfl (by kernel_rfl) (by kernel_rfl) (by kernel_rfl) (fun _ _ _ h=> h) hH (Or.inl ⟨by kernel_rfl,?_⟩) ?_
         rotate_left
         ·(intro x _;go_simp;try with_reducible rfl)
         rotate_right
         try simp only [Act.put,List.setIfInBounds_toArray,List.set_cons_zero,List.set_cons_succ]
         refine Yab 18 (some 27) (v:=?_) rfl rfl (by kernel_rfl) (by kernel_rfl) (by kernel_rfl) (fun _ _ _ h=> h) hH (Or.inl ⟨by kernel_rfl,?_⟩) ?_
         rotate_left
         ·(intro x _;go_simp;try with_reducible rfl)
         rotate_right
         try simp only [Act.put,List.setIfInBounds_toArray,List.set_cons_zero,List.set_cons_succ]
         refine Yab 19 (some 28) (v:=?_) rfl rfl (by kernel_rfl) (by kernel_rfl) (by kernel_rfl) (fun _ _ _ h=> h) hH (Or.inl ⟨by kernel_rfl,?_⟩) ?_
         rotate_left
         ·(intro x _;go_simp;try with_reducible rfl)
         rotate_right
         try simp only [Act.put,List.setIfInBounds_toArray,List.set_cons_zero,List.set_cons_succ]
         refine wpAnyH_done (by kernel_rfl) ?_ _
         clear hH
         have HN9:=Lib.hid (And.intro AT3 (And.intro hev hfr))
         have hz9:=hb9.size
         have HB9:=Lib.hid hb9
         clear AT3 hev hfr hb9 qw qm qe
         by_cases hf5:f5=0
         ·subst hf5
          have AT6:=HN9.out.1
          have hev:=HN9.out.2.1
          have hfr:=HN9.out.2.2
          have hlt6:=AT6.lt
          have hsz:=HAT.out.1.lt
          have hm6:Yaw C C wr.drew w9:=Yaw.below HB9.out
          have e6:=Yaa (o:=6+i) AT6.cel (Ygz _ _ i hlt)
          have f6:=Yag (o:=6+i) AT6.cel
          have AT7:=AT6.set (6+i) (.int .i64 dv) (Ycy _ _ dv i hlt)
          rw [←HDV.out,Yeg] at AT7
          rw [HDV.out] at AT7
          have e7:=Yaa (o:=12+i) AT7.cel (Yfk _ _ i hlt)
          have f7:=Yag (o:=12+i) AT7.cel
          have AT8:=AT7.set (12+i) (.slice qa m cap) (Ycu _ _ _ i hlt)
          have hm8:Yaw C C w9 ((w9.setCell ⟨C,6+i,none⟩ (.int .i64 dv)).setCell ⟨C,12+i,none⟩ (.slice qa m cap)):=(Yaw.set (a:=C) (b:=C) (p:=⟨C,6+i,none⟩) _ (.inl rfl)).trans (Yaw.set (a:=C) (b:=C) (p:=⟨C,12+i,none⟩) _ (.inl rfl))
          have SL8:∀j,j<i+1→Yet ((w9.setCell ⟨C,6+i,none⟩ (.int .i64 dv)).setCell ⟨C,12+i,none⟩ (.slice qa m cap)) (C+1) (Yel sl i (.slice qa m cap) j) (D.ev j):=by
           intro j hj
           unfold Yel
           by_cases e:j=i
           ·rw [if_pos e,e,HEV.out]
            exact (show Yet w9 (C+1) _ _ from ⟨qa,cap,by rw [HM.out],hev,hfr.mono (show C+1≤wr.heap.size by omega)⟩).moved hm8 (by omega) (by omega)
           ·rw [if_neg e]
            exact (((HAT.out.2.1 j (by omega)).below ((Below.refl wr.heap.size wr).drew)).moved hm6 (by omega) (by omega)).moved hm8 (by omega) (by omega)
          have NL8:∀j,i+1≤j→Yel sl i (.slice qa m cap) j = .slice none 0 0:=fun j hj=> (if_neg (by omega)).trans (HAT.out.2.2 j (by omega))
          have N8:=Lib.hid (And.intro AT8 (And.intro SL8 NL8))
          rw [HAT.out.2.2 i (Nat.le_refl i)] at e7
          have qb:((B:Int)).tdiv 2=((B / 2:Nat):Int):=by rw [Int.tdiv_eq_ediv_of_nonneg (by omega)];simp
          clear AT6 AT7 AT8 hm8 hm6 SL8 NL8 hev hfr
          go_wp2
          go_roundw
          case rel=> exact ⟨i+1,t2,by omega,by omega,rfl,by rw [←HB2.out];go_num,by go_num,_,HNX,N8⟩
          case measure=> simp [intOf];omega
         ·have g5:(f5 != 0)=true:=by simpa using hf5
          have F:=Lib.hid (HCF.out (i+1) t2 f5 (by omega) HNX.out hf5)
          have AT6:=HN9.out.1
          clear hf5
          have hre:=AT6.res
          have hlt9:=AT6.lt
          have hbe:=AT6.below
          have HBE:=Lib.hid hbe
          clear hbe
          go_wp2_with (with_reducible refine Yae rfl 50 _ _ rfl (A+1) Y Y rfl rfl 50 hre HSY rfl HOY ?_;intro w5 hh5 hg5)
          refine bodyPost_ret (Yaf rfl _ _ (A+1) 50 _ (0,0) _ rfl hh5 Tryz.underlying50 rfl HSY) rfl ?_
          exact HWR.out f5 _ _ F.out HBE.out ((Yas hg5 (by omega)).mono (by omega))
        ·obtain rfl:i=6:=by omega
         have t0:decide ((6:Int)<6)=false:=by simp
         have hc6:=hat.out.1.cel
         rw [Yfd] at hc6
         have hl6:=hat.out.1.lt
         have hr6:=hat.out.1.res
         have one6:=Ycn D sl fun j hj=> (hat.out.2.1 j hj).one
         have siz6:=Ybx D sl
         have syz6:Y.size=(Ya5 D sl).toArray.size:=by rw [←HY.out];rfl
         obtain ⟨V,hV⟩:∃V,(Ya5 D sl).toArray=V:=⟨_,rfl⟩
         rw [hV] at hc6 one6 siz6 syz6
         have HV:=Lib.hid hV
         have hall:Yny inter S x y (p,0)=(D,t,0):=HALL.out.trans (Prod.ext rfl hst.out)
         have HRT:=Lib.hid (Yfp hall)
         have HAB:=Lib.hid (show w.heap.size≤C+1 by have:=HA.out;omega)
         clear hV hall
         go_wp2_with (first | (with_reducible refine wpList_load_row rfl 50 _ rfl C rfl 50 V (0,0) _ hc6 Tryz.underlying50 rfl siz6 ?_) | (with_reducible refine Yae rfl 50 _ _ rfl (A+1) V Y rfl rfl 50 hr6 siz6 syz6 one6 ?_;intro w5 hh5 hg5))
         have hb5:=Yas hg5 (by omega)
         refine bodyPost_ret (Yaf rfl _ _ (A+1) 50 _ (0,0) _ rfl hh5 Tryz.underlying50 rfl siz6) rfl ?_
         exact ⟨D,t,0,sl,HRT.out,by rw [HV.out];rfl,fun j hj=> ((hat.out.2.1 j hj).moved (Yaw.grown hg5 (.inl rfl):Yaw (A+1) (A+1) _ _) (by omega) (by omega)).from HAB.out,HA.out▸hat.out.1.below.trans (hb5.mono (by omega))⟩
    ·have g0:(f2 != 0)=true:=by simpa using hf2
     have F:=Lib.hid (Ycq 0 HBEG.out (by omega) (Yd6 (x:=x) (y:=y) HBEG.out (Yfl HBEG.out HST2.out (Yhy hf2)) (Yfg hf2)) hf2)
     clear hf2
     go_wp2_with (with_reducible refine Yaj rfl 50 _ _ rfl Z Y 50 rfl rfl HSZ HYZ HONE ?_;rw [HW2.out,HC.out])
     refine (pi _).mono ?_
     rintro e w9 ⟨rfl,rfl⟩
     go_wp2_with fail
     refine cp.mono ?_
     rintro e w3 ⟨rfl,hb3⟩
     have AT3:=HAT.out.move hb3
     clear cp hb3 HAT hcel hres c1 c2 HSZ HYZ HONE hC2
     have hre:=AT3.res
     have hlt9:=AT3.lt
     have hbe:=AT3.below
     have HBE:=Lib.hid hbe
     clear hbe
     go_wp2_with (with_reducible refine Yae rfl 50 _ _ rfl (A+1) Y Y rfl rfl 50 hre HSY rfl HOY ?_;intro w5 hh5 hg5)
     refine bodyPost_ret (Yaf rfl _ _ (A+1) 50 _ (0,0) _ rfl hh5 Tryz.underlying50 rfl HSY) rfl ?_
     exact HWR.out f2 _ _ F.out HBE.out ((Yas hg5 (by omega)).mono (by omega))
   ·subst hk
    have pin:=Yj2 false (S.drop q1)
    have cp:=HPM.out false q1 w2 (by omega)
    have hpt:Yb7 (ptk false) S (q1,0)=_:=Yb6
    have hdl:(S.drop q1).length=S.length-q1:=List.length_drop
    generalize ptk false (S.drop q1)=z at cp pin hpt
    obtain ⟨pt,f2,n2⟩:=z
    simp only at cp pin hpt
    obtain ⟨b,rfl⟩:∃b:Nat,pt=(b:Int):=⟨pt.toNat,by omega⟩
    have HPT:Hid (Yb7 (ptk (Yak 1)) S (q1,0)=((b:Int),q1+n2,f2)):=Lib.hid hpt
    have pi:=Ycg 1
    rw [show Yak 1=false from rfl] at pi
    obtain ⟨cd,hcd⟩:∃cd,4*b+a=cd:=⟨_,rfl⟩
    have hcd2:4*(b:Int)+(a:Int)=(cd:Int):=by omega
    have HCD:=Lib.hid hcd
    clear hcd
    obtain ⟨q2,hq2⟩:∃q2,q1+n2=q2:=⟨_,rfl⟩
    have hqs2:q2≤s.size:=by omega
    rw [hq2] at HPT cp
    have hST2:st2 inter S (p,0)=(q2,f2):=Yqq HBEG.out HPT.out
    have HST2:=Lib.hid hST2
    have hb15:(b:Int)≤15:=by omega
    clear hpt hdl hq2 hST2
    by_cases hf2:f2=0
    ·subst hf2
     go_wp2_with (with_reducible refine Yaj rfl 50 _ _ rfl Z Y 50 rfl rfl HSZ HYZ HONE ?_;rw [HW2.out,HC.out])
     refine (pi _).mono ?_
     rintro e w9 ⟨rfl,rfl⟩
     go_wp2_with fail
     refine cp.mono ?_
     rintro e w3 ⟨rfl,hb3⟩
     have AT3:=HAT.out.move hb3
     have d2:w3.cell? ⟨C,2,none⟩=some (.int .i64 1):=Yaa (o:=2) AT3.cel rfl
     clear cp hb3 HAT hcel hres c1 c2 HSZ HYZ HONE hC2
     have cs:=HPS.out q2 w3 (by omega)
     have sal:=Y27 (S.drop q2)
     have hsp:Yb7 stk S (q2,0)=_:=Yb6
     have hdl:(S.drop q2).length=S.length-q2:=List.length_drop
     generalize stk (S.drop q2)=z at cs sal hsp
     obtain ⟨sp,f3,n3⟩:=z
     simp only at cs sal hsp
     obtain ⟨q3,hq3⟩:∃q3,q2+n3=q3:=⟨_,rfl⟩
     have hqs3:q3≤s.size:=by omega
     rw [hq3] at cs hsp
     have HSTP:Hid (Yr5 S 1 (q2,0)=(sp,q3,f3)):=Lib.hid hsp
     clear hsp hdl sal hq3
     by_cases hf3:f3=0
     ·subst hf3
      have hST3:st3 inter S (p,0)=(q3,0):=Yfl HBEG.out HST2.out HSTP.out
      have HST3:=Lib.hid hST3
      clear hST3
      go_wp2_with fail
      refine cs.mono ?_
      rintro e w4 ⟨rfl,hb4⟩
      have AT4:=AT3.move hb4
      have e3:=Yaa (o:=3) AT4.cel rfl
      have f3:=Yag (o:=3) AT4.cel
      have e2:w4.cell? ⟨C,2,none⟩=some (.int .i64 1):=Yaa (o:=2) AT4.cel rfl
      have AT5:=AT4.set 3 (.int .i64 sp) (c':={Yc1 with stuff:=n,skip:=false,kind:=1,step:=sp,mx:=0,my:=0}) (sl':=nilS) rfl
      obtain ⟨w5,hw5⟩:∃z,w4.setCell ⟨C,3,none⟩ (.int .i64 sp)=z:=⟨_,rfl⟩
      rw [hw5] at AT5
      have HW5:=Lib.hid hw5
      clear cs hb4 AT3 AT4 hw5 d2
      go_wp2
      rw [HW5.out]
      have HATV:=Lib.hid AT5
      clear AT5
      go_loopw [13,19] (fun u v wr=>∃i t:Nat,i≤2∧t≤s.size∧u = .int .i64 (t:Int)∧v = .int .i64 (i:Int)∧∃mx my,Hid (Yk8 S x y (q3,0) i=(mx,my,(t,0)))∧Hid (Yiw w wr A (A+1) C x y Y {Yc1 with stuff:=n,skip:=false,kind:=1,step:=sp,mx:=mx,my:=my} nilS)) (fun _ v _=> 2-(intOf v).toNat)
      case atStart=> exact ⟨0,q3,by omega,by omega,rfl,rfl,0,0,Lib.hid rfl,HATV⟩
      case round=>
       clear HATV
       obtain ⟨i,t,hi2,ht,rfl,rfl,mx,my,hvn,hat⟩:=hrel
       obtain rfl | rfl | rfl:i=0∨i=1∨i=2:=by omega
       ·obtain rfl:mx=0:=(Prod.mk.inj hvn.out).1.symm
        obtain rfl:my=0:=(Prod.mk.inj (Prod.mk.inj hvn.out).2).1.symm
        have AT2:=hat.out
        have e2:wr.cell? ⟨C,2,none⟩=some (.int .i64 1):=Yaa (o:=2) AT2.cel rfl
        have cp:=HPD.out t wr ht
        have din:=Yg1 S (t,0)
        have dal:=Ykm (S.drop t)
        have hdl:(S.drop t).length=S.length-t:=List.length_drop
        have hnu:Yb7 dtk S (t,0)=_:=Yb6
        have hon:Ydm S x (t,0)=(Ycj (Ycj x+(Yb7 dtk S (t,0)).1),(Yb7 dtk S (t,0)).2):=rfl
        rw [hnu] at din hon
        generalize dtk (S.drop t)=z at cp din dal hon hnu
        obtain ⟨dd,f4,n4⟩:=z
        simp only at cp din dal hon hnu
        obtain ⟨t2,ht2⟩:∃t2,t+n4=t2:=⟨_,rfl⟩
        have hts2:t2≤s.size:=by omega
        rw [ht2] at cp hon hnu
        have wl:=Ygy x
        have wh:=Ygx x
        have sw:IntKind.i64.wrap (Ycj x+dd)=Ycj x+dd:=IntWalk.i64_in _ (by omega)
        have HON:=Lib.hid hon
        have HAT2:=Lib.hid AT2
        clear hon hnu hdl dal din ht2 hat AT2
        by_cases hf4:f4=0
        ·subst hf4
         generalize hwp:Ycj x=p1 at HON sw wl wh
         have cw:=Yd9 x
         rw [hwp] at cw
         have cw2:=Yd9 (p1+dd)
         generalize Ycj (p1+dd)=p2 at cw2 HON
         clear hwp
         go_wp2_with fail
         refine cp.mono ?_
         rintro e w3 ⟨rfl,hb3⟩
         have AT3:=HAT2.out.move hb3
         have p0:w3.cell? ⟨A,0,none⟩=some (.int .i64 x):=Yaa (cs:=[.int .i64 x,.int .i64 y]) AT3.two rfl
         have e4:=Yaa (o:=4) AT3.cel rfl
         have f4:=Yag (o:=4) AT3.cel
         have AT7:=AT3.set 4 (.int .i64 p2) (c':={Yc1 with stuff:=n,skip:=false,kind:=1,step:=sp,mx:=p2,my:=0}) (sl':=nilS) rfl
         have N7:=Lib.hid AT7
         clear AT7 AT3 hb3 cp HAT2 e2
         go_wp2_with fail
         refine (cw _).mono ?_
         rintro e w9 ⟨rfl,rfl⟩
         go_wp2_with fail
         refine (cw2 _).mono ?_
         rintro e w9 ⟨rfl,rfl⟩
         go_wp2
         go_roundw
         case rel=> exact ⟨1,t2,by omega,hts2,rfl,by go_num,_,_,Lib.hid (Yra hvn.out HON.out),N7⟩
         case measure=> simp [intOf]
        ·have g4:(f4 != 0)=true:=by simpa using hf4
         have F:=Lib.hid (Ycq 0 HBEG.out (by omega) (Yd6 (x:=x) (y:=y) HBEG.out HST3.out (Yxa (k:=1) rfl hvn.out HON.out hf4)) hf4)
         clear hf4
         go_wp2_with fail
         refine cp.mono ?_
         rintro e w3 ⟨rfl,hb3⟩
         have AT3:=HAT2.out.move hb3
         clear cp hb3 HAT2 e2 hvn
         have hre:=AT3.res
         have hlt9:=AT3.lt
         have hbe:=AT3.below
         have HBE:=Lib.hid hbe
         clear hbe
         go_wp2_with (with_reducible refine Yae rfl 50 _ _ rfl (A+1) Y Y rfl rfl 50 hre HSY rfl HOY ?_;intro w5 hh5 hg5)
         refine bodyPost_ret (Yaf rfl _ _ (A+1) 50 _ (0,0) _ rfl hh5 Tryz.underlying50 rfl HSY) rfl ?_
         exact HWR.out f4 _ _ F.out HBE.out ((Yas hg5 (by omega)).mono (by omega))
       ·have hmy:=(Prod.mk.inj (Prod.mk.inj hvn.out).2).1
        obtain rfl:my=0:=(Prod.mk.inj (Prod.mk.inj hvn.out).2).1.symm
        have AT2:=hat.out
        have e2:wr.cell? ⟨C,2,none⟩=some (.int .i64 1):=Yaa (o:=2) AT2.cel rfl
        have cp:=HPD.out t wr ht
        have din:=Yg1 S (t,0)
        have dal:=Ykm (S.drop t)
        have hdl:(S.drop t).length=S.length-t:=List.length_drop
        have hnu:Yb7 dtk S (t,0)=_:=Yb6
        have hon:Ydm S y (t,0)=(Ycj (Ycj y+(Yb7 dtk S (t,0)).1),(Yb7 dtk S (t,0)).2):=rfl
        rw [hnu] at din hon
        generalize dtk (S.drop t)=z at cp din dal hon hnu
        obtain ⟨dd,f4,n4⟩:=z
        simp only at cp din dal hon hnu
        obtain ⟨t2,ht2⟩:∃t2,t+n4=t2:=⟨_,rfl⟩
        have hts2:t2≤s.size:=by omega
        rw [ht2] at cp hon hnu
        have wl:=Ygy y
        have wh:=Ygx y
        have sw:IntKind.i64.wrap (Ycj y+dd)=Ycj y+dd:=IntWalk.i64_in _ (by omega)
        have HON:=Lib.hid hon
        have HAT2:=Lib.hid AT2
        clear hon hnu hdl dal din ht2 hat AT2
        by_cases hf4:f4=0
        ·subst hf4
         generalize hwp:Ycj y=p1 at HON sw wl wh
         have cw:=Yd9 y
         rw [hwp] at cw
         have cw2:=Yd9 (p1+dd)
         generalize Ycj (p1+dd)=p2 at cw2 HON
         clear hwp
         go_wp2_with fail
         refine cp.mono ?_
         rintro e w3 ⟨rfl,hb3⟩
         have AT3:=HAT2.out.move hb3
         have p0:w3.cell? ⟨A,1,none⟩=some (.int .i64 y):=Yaa (cs:=[.int .i64 x,.int .i64 y]) AT3.two rfl
         have e4:=Yaa (o:=5) AT3.cel rfl
         have f4:=Yag (o:=5) AT3.cel
         have AT7:=AT3.set 5 (.int .i64 p2) (c':={Yc1 with stuff:=n,skip:=false,kind:=1,step:=sp,mx:=mx,my:=p2}) (sl':=nilS) rfl
         have N7:=Lib.hid AT7
         clear AT7 AT3 hb3 cp HAT2 e2
         go_wp2_with fail
         refine (cw _).mono ?_
         rintro e w9 ⟨rfl,rfl⟩
         go_wp2_with fail
         refine (cw2 _).mono ?_
         rintro e w9 ⟨rfl,rfl⟩
         go_wp2
         go_roundw
         case rel=> exact ⟨2,t2,by omega,hts2,rfl,by go_num,_,_,Lib.hid (Yly hvn.out HON.out),N7⟩
         case measure=> simp [intOf]
        ·have g4:(f4 != 0)=true:=by simpa using hf4
         have F:=Lib.hid (Ycq 0 HBEG.out (by omega) (Yd6 (x:=x) (y:=y) HBEG.out HST3.out (Yyi (k:=1) rfl hvn.out HON.out)) hf4)
         clear hf4
         go_wp2_with fail
         refine cp.mono ?_
         rintro e w3 ⟨rfl,hb3⟩
         have AT3:=HAT2.out.move hb3
         clear cp hb3 HAT2 e2 hvn
         have hre:=AT3.res
         have hlt9:=AT3.lt
         have hbe:=AT3.below
         have HBE:=Lib.hid hbe
         clear hbe
         go_wp2_with (with_reducible refine Yae rfl 50 _ _ rfl (A+1) Y Y rfl rfl 50 hre HSY rfl HOY ?_;intro w5 hh5 hg5)
         refine bodyPost_ret (Yaf rfl _ _ (A+1) 50 _ (0,0) _ rfl hh5 Tryz.underlying50 rfl HSY) rfl ?_
         exact HWR.out f4 _ _ F.out HBE.out ((Yas hg5 (by omega)).mono (by omega))
       ·have AT2:=hat.out
        have hvec:=(Yke (S:=S) (k:=1) (x:=x) (y:=y) (st:=(q3,0)) rfl).trans hvn.out
        have HVEC:=Lib.hid hvec
        have HST4:Hid (st4 inter S x y (p,0)=(t,0)):=Lib.hid (Yrd HBEG.out HST3.out hvec)
        clear hvec hat hvn
        rw [show (Value.int .i64 ((2:Nat):Int)) = .int .i64 2 from rfl]
        go_wp2
        generalize wr=wo at *
        generalize t=q4 at *
        have hq4s:q4≤s.size:=by omega
        have hall:=Ygd (inter:=inter) (x:=x) (y:=y) HBEG.out HPT.out HSTP.out HVEC.out
        have hcc:=Yqo HBEG.out HPT.out
        rw [show ((b:Int)).toNat=b from rfl,show ((a:Int)).toNat=a from rfl,HCD.out] at hall hcc
        obtain ⟨D,hD⟩:∃D:Cel,{stuff:=n,skip:=false,kind:=1,step:=sp,mx:=mx,my:=my,dc:=fun i=> (Yc0 (Yak 1) (Yb4 cd i) S (stB (Yak 1) cd S (q4,0) i)).1,ev:=fun i=> (Yc0 (Yak 1) (Yb4 cd i) S (stB (Yak 1) cd S (q4,0) i)).2.1}=D:=⟨_,rfl⟩
        rw [hD] at hall
        have hDc:∀i,D.dc i=(Yc0 false (Yb4 cd i) S (stB false cd S (q4,0) i)).1:=fun i=> by rw [←hD];rfl
        have hDe:∀i,D.ev i=(Yc0 false (Yb4 cd i) S (stB false cd S (q4,0) i)).2.1:=fun i=> by rw [←hD];rfl
        have ATD:Yiw w wo A (A+1) C x y Y (Yj5 D 0) nilS:=Yiw.same AT2 (by rw [←hD];rfl)
        have hfail:∀(i:Nat) (q f:Nat×Int),True:=fun _ _ _=> trivial
        have HCF:=Lib.hid (fun (i tq:Nat) (f:Int) (hi:i≤6) (h:stB false cd S (q4,0) i=(tq,f)) (hf:f≠0)=> Ycq (x:=x) (y:=y) i HBEG.out hi (by rw [hcc,HST4.out];exact h) hf)
        have HALL:=Lib.hid hall
        have HDK:Hid (D.kind=1):=Lib.hid (by rw [←hD])
        have HDC:=Lib.hid hDc
        have HDE:=Lib.hid hDe
        have HATD:=Lib.hid ATD
        clear hall hD hDc hDe ATD AT2 hcc hfail HST4 HVEC
        go_loopw [13,23,24] (fun u v z wr=>∃i t:Nat,i≤6∧t≤s.size∧u = .int .i64 (t:Int)∧v = .int .i64 ((32 / 2^i:Nat):Int)∧z = .int .i64 (i:Int)∧∃sl,Hid (stB false cd S (q4,0) i=(t,0))∧Hid (Yiw w wr A (A+1) C x y Y (Yj5 D i) sl∧(∀j,j<i→Yet wr (C+1) (sl j) (D.ev j))∧∀j,i≤j→sl j = .slice none 0 0)) (fun _ _ z _=> 6-(intOf z).toNat)
        case atStart=> exact ⟨0,q4,by omega,hq4s,rfl,rfl,rfl,nilS,Lib.hid rfl,Lib.hid ⟨HATD.out,fun j h=> absurd h (Nat.not_lt_zero j),fun _ _=> rfl⟩⟩
        case round=>
         clear HATD
         obtain ⟨i,t,hi6,ht,rfl,rfl,rfl,sl,hst,hat⟩:=hrel
         by_cases hlt:i<6
         ·have t0:decide ((i:Int)<6)=true:=by simp;omega
          have c2:wr.cell? ⟨C,2,none⟩=some (.int .i64 1):=Yaa (o:=2) hat.out.1.cel (by show some (Value.int .i64 D.kind)=_;rw [HDK.out])
          have cb:=HPB.out t false (Yb4 cd i) wr.drew ht
          have hbl:Yc0 false (Yb4 cd i) S (t,0)=_:=Ykg
          have hin:=(Yho S t false (Yb4 cd i) (by omega)).1
          have hnx:stB false cd S (q4,0) (i+1)=(Yc0 false (Yb4 cd i) S (stB false cd S (q4,0) i)).2.2:=rfl
          have hdv:=HDC.out i
          have hev:=HDE.out i
          rw [hst.out,hbl] at hnx hdv hev
          have q3:=Yjl cd i (by omega)
          generalize Yb4 cd i=cdb at cb hbl hin hnx hdv hev q3
          generalize btk S t false cdb=z at cb hbl hin hnx hdv hev
          obtain ⟨dv,L,t2,f5⟩:=z
          simp only at hin hnx hdv hev
          have HDV:=Lib.hid hdv
          have HEV:=Lib.hid hev
          have HNX:=Lib.hid hnx
          obtain ⟨B,hB⟩:∃B,32 / 2^i=B:=⟨_,rfl⟩
          have hB1:1≤B∧B≤32∧B / 2=32 / 2^(i+1):=by
           rw [←hB]
           match i,hlt with
           | 0,_=> decide
           | 1,_=> decide
           | 2,_=> decide
           | 3,_=> decide
           | 4,_=> decide
           | 5,_=> decide
          rw [hB] at q3 ⊢
          have HB2:=Lib.hid hB1.2.2
          obtain ⟨hBl,hBh,-⟩:=hB1
          have pi:=Ycg 1
          rw [show Yak 1=false from rfl] at pi
          clear hdv hev hnx hbl hB
          have qw:IntKind.i64.wrap ((cd:Int) / (B:Int))=(cd:Int) / (B:Int):=by rw [←Int.natCast_ediv];exact Yir (Nat.le_trans (Nat.div_le_self _ _) (by omega))
          have qm:((cd:Int) / (B:Int)).tmod 2=(cd:Int) / (B:Int)%2:=by rw [←Int.natCast_ediv];exact Int.tmod_eq_emod_of_nonneg (Int.natCast_nonneg _)
          have qe:(((cd:Int) / (B:Int)%2)==1)=cdb:=by rw [←q3,Bool.eq_iff_iff,beq_iff_eq,beq_iff_eq,←Int.natCast_ediv];omega
          have ATD:=hat.out.1.move ((Below.refl wr.heap.size wr).drew)
          have HKC:=Lib.hid (fun (z:World) (h:Yiw w z A (A+1) C x y Y (Yj5 D i) sl)=> (Yaa (o:=2) h.cel (by show some (Value.int .i64 D.kind)=_;rw [HDK.out]):z.cell? ⟨C,2,none⟩=some (.int .i64 1)))
          have HST:=Lib.hid hst.out
          have HAT:=Lib.hid hat.out
          clear q3 hst hat c2
          go_wp2
          refine wp_region_held_drew (S:=(fun z=> z.cell? ⟨C,2,none⟩=some (.int .i64 1))) (by kernel_rfl) (HKC.out _ ATD) (fun hH=> ?_)
          refine Yab 0 (some 126) (v:=?_) rfl rfl (by kernel_rfl) (by kernel_rfl) (by kernel_rfl) (fun _ _ _ h=> h) hH (Or.inl ⟨by kernel_rfl,?_⟩) ?_
          rotate_left
          ·(intro x _;go_simp;try with_reducible rfl)
          rotate_right
          try simp only [Act.put,List.setIfInBounds_toArray,List.set_cons_zero,List.set_cons_succ]
          refine Yab 1 (some 127) (v:=?_) rfl rfl (by kernel_rfl) (by kernel_rfl) (by kernel_rfl) (fun _ _ _ h=> h) hH (Or.inl ⟨by kernel_rfl,?_⟩) ?_
          rotate_left
          ·(intro x _;go_simp;try with_reducible rfl)
          rotate_right
          try simp only [Act.put,List.setIfInBounds_toArray,List.set_cons_zero,List.set_cons_succ]
          refine Yab 2 (some 128) (v:=?_) rfl rfl (by kernel_rfl) (by kernel_rfl) (by kernel_rfl) (fun _ _ _ h=> h) hH (Or.inl ⟨by kernel_rfl,?_⟩) ?_
          rotate_left
          ·(intro x _;go_simp;try with_reducible rfl)
          rotate_right
          try simp only [Act.put,List.setIfInBounds_toArray,List.set_cons_zero,List.set_cons_succ]
          refine Yab 3 (some 129) (v:=.int .i64 1) rfl rfl (by kernel_rfl) (by kernel_rfl) (by kernel_rfl) (fun _ _ _ h=> h) hH (Or.inl ⟨by kernel_rfl,?_⟩) ?_
          ·(intro x hx;have c0:=(show _ from hx);go_simp)
          try simp only [Act.put,List.setIfInBounds_toArray,List.set_cons_zero,List.set_cons_succ]
          refine Yab 5 (some 131) (v:=?_) rfl rfl (by kernel_rfl) (by kernel_rfl) (by kernel_rfl) (fun _ _ _ h=> h) hH (Or.inl ⟨by kernel_rfl,?_⟩) ?_
          rotate_left
          ·(intro x _;go_simp;try with_reducible rfl)
          rotate_right
          try simp only [Act.put,List.setIfInBounds_toArray,List.set_cons_zero,List.set_cons_succ]
          refine Yab 6 (some 132) (v:=?_) rfl rfl (by kernel_rfl) (by kernel_rfl) (by kernel_rfl) (fun _ _ _ h=> h) hH (Or.inl ⟨by kernel_rfl,?_⟩) ?_
          rotate_left
          ·(intro x _;go_simp;try with_reducible rfl)
          rotate_right
          try simp only [Act.put,List.setIfInBounds_toArray,List.set_cons_zero,List.set_cons_succ]
          refine Yab 7 (some 133) (v:=.int .i64 ((cd:Int) / (B:Int))) rfl rfl (by kernel_rfl) (by kernel_rfl) (by kernel_rfl) (fun _ _ _ h=> h) hH (Or.inl ⟨by kernel_rfl,?_⟩) ?_
          ·(intro x _;go_simp;omega)
          try simp only [Act.put,List.setIfInBounds_toArray,List.set_cons_zero,List.set_cons_succ]
          refine Yab 8 (some 134) (v:=.int .i64 ((cd:Int) / (B:Int)%2)) rfl rfl (by kernel_rfl) (by kernel_rfl) (by kernel_rfl) (fun _ _ _ h=> h) hH (Or.inl ⟨by kernel_rfl,?_⟩) ?_
          ·(intro x _;go_simp)
          try simp only [Act.put,List.setIfInBounds_toArray,List.set_cons_zero,List.set_cons_succ]
          refine Yab 9 (some 135) (v:=.bool cdb) rfl rfl (by kernel_rfl) (by kernel_rfl) (by kernel_rfl) (fun _ _ _ h=> h) hH (Or.inl ⟨by kernel_rfl,?_⟩) ?_
          ·(intro x _;go_simp)
          try simp only [Act.put,List.setIfInBounds_toArray,List.set_cons_zero,List.set_cons_succ]
          refine wpAnyH_ready (rs:=[4]) (by kernel_rfl) (by simp) ?_
          refine AllReadyH.cons rfl (fun K hK=> ?_) AllReadyH.nil
          go_simp
          go_wp2_with fail
          refine (pi _).mono ?_
          rintro e w8 ⟨rfl,rfl⟩
          refine hK.out _ _ (HKC.out _ ATD) (fun hH2=> ?_)
          clear hK K hH
          have hH:=hH2
          clear hH2
          try simp only [Act.put,List.setIfInBounds_toArray,List.set_cons_zero,List.set_cons_succ]
          refine wpAnyH_ready (rs:=[10]) (by kernel_rfl) (by simp) ?_
          refine AllReadyH.cons rfl (fun K hK=> ?_) AllReadyH.nil
          go_simp
          go_wp2_with fail
          refine cb.mono ?_
          rintro e w9 ⟨d1,L1,f1,t1,m,qa,cap,heq,rfl,hm9,hev,hfr,hb9⟩
          simp only [Prod.mk.injEq] at heq
          obtain ⟨rfl,rfl,rfl,rfl⟩:=heq
          have HM:=Lib.hid hm9
          have AT3:=ATD.move hb9
          clear hm9 cb
          refine hK.out _ _ (HKC.out _ AT3) (fun hH2=> ?_)
          clear hK K hH
          have hH:=hH2
          clear hH2
          try simp only [Act.put,List.setIfInBounds_toArray,List.set_cons_zero,List.set_cons_succ]
          refine Yab 11 (some 125) (v:=?_) rfl rfl (by kernel_rfl) (by kernel_rfl) (by kernel_rfl) (fun _ _ _ h=> h) hH (Or.inl ⟨by kernel_rfl,?_⟩) ?_
          rotate_left
          ·(intro x _;go_simp;try with_reducible rfl)
          rotate_right
          try simp only [Act.put,List.setIfInBounds_toArray,List.set_cons_zero,List.set_cons_succ]
          refine Yab 12 (some 137) (v:=?_) rfl rfl (by kernel_rfl) (by kernel_rfl) (by kernel_rfl) (fun _ _ _ h=> h) hH (Or.inl ⟨by kernel_rfl,?_⟩) ?_
          rotate_left
          ·(intro x _;go_simp;try with_reducible rfl)
          rotate_right
          try simp only [Act.put,List.setIfInBounds_toArray,List.set_cons_zero,List.set_cons_succ]
          refine Yab 13 (some 138) (v:=?_) rfl rfl (by kernel_rfl) (by kernel_rfl) (by kernel_rfl) (fun _ _ _ h=> h) hH (Or.inl ⟨by kernel_rfl,?_⟩) ?_
          rotate_left
          ·(intro x _;go_simp;try with_reducible rfl)
          rotate_right
          try simp only [Act.put,List.setIfInBounds_toArray,List.set_cons_zero,List.set_cons_succ]
          refine Yab 14 (some 139) (v:=?_) rfl rfl (by kernel_rfl) (by kernel_rfl) (by kernel_rfl) (fun _ _ _ h=> h) hH (Or.inl ⟨by kernel_rfl,?_⟩) ?_
          rotate_left
          ·(intro x _;go_simp;try with_reducible rfl)
          rotate_right
          try simp only [Act.put,List.setIfInBounds_toArray,List.set_cons_zero,List.set_cons_succ]
          refine Yab 15 (some 140) (v:=?_) rfl rfl (by kernel_rfl) (by kernel_rfl) (by kernel_rfl) (fun _ _ _ h=> h) hH (Or.inl ⟨by kernel_rfl,?_⟩) ?_
          rotate_left
          ·(intro x _;go_simp;try with_reducible rfl)
          rotate_right
          try simp only [Act.put,List.setIfInBounds_toArray,List.set_cons_zero,List.set_cons_succ]
          refine Yab 16 (some 25) (v:=?_) rfl rfl (by kernel_rfl) (by kernel_rfl) (by kernel_rfl) (fun _ _ _ h=> h) hH (Or.inl ⟨by kernel_rfl,?_⟩) ?_
          rotate_left
          ·(intro x _;go_simp;try with_reducible rfl)
          rotate_right
          try simp only [Act.put,List.setIfInBounds_toArray,List.set_cons_zero,List.set_cons_succ]
          refine Yab 17 (some 26) (v:=?_) rfl rfl (by kernel_rfl) (by kernel_rfl) (by kernel_rfl) (fun _ _ _ h=> h) hH (Or.inl ⟨by kernel_rfl,?_⟩) ?_
          rotate_left
          ·(intro x _;go_simp;try with_reducible rfl)
          rotate_right
          try simp only [Act.put,List.setIfInBounds_toArray,List.set_cons_zero,List.set_cons_succ]
          refine Yab 18 (some 27) (v:=?_) rfl rfl (by kernel_rfl) (by kernel_rfl) (by kernel_rfl) (fun _ _ _ h=> h) hH (Or.inl ⟨by kernel_rfl,?_⟩) ?_
          rotate_left
          ·(intro x _;go_simp;try with_reducible rfl)
          rotate_right
          try simp only [Act.put,List.setIfInBounds_toArray,List.set_cons_zero,List.set_cons_succ]
          refine Yab 19 (some 28) (v:=?_) rfl rfl (by kernel_rfl) (by kernel_rfl) (by kernel_rfl) (fun _ _ _ h=> h) hH (Or.inl ⟨by kernel_rfl,?_⟩) ?_
          rotate_left
          ·(intro x _;go_simp;try with_reducible rfl)
          rotate_right
          try simp only [Act.put,List.setIfInBounds_toArray,List.set_cons_zero,List.set_cons_succ]
          refine wpAnyH_done (by kernel_rfl) ?_ _
          clear hH
          have HN9:=Lib.hid (And.intro AT3 (And.intro hev hfr))
          have hz9:=hb9.size
          have HB9:=Lib.hid hb9
          clear AT3 hev hfr hb9 qw qm qe
          by_cases hf5:f5=0
          ·subst hf5
           have AT6:=HN9.out.1
           have hev:=HN9.out.2.1
           have hfr:=HN9.out.2.2
           have hlt6:=AT6.lt
           have hsz:=HAT.out.1.lt
           have hm6:Yaw C C wr.drew w9:=Yaw.below HB9.out
           have e6:=Yaa (o:=6+i) AT6.cel (Ygz _ _ i hlt)
           have f6:=Yag (o:=6+i) AT6.cel
           have AT7:=AT6.set (6+i) (.int .i64 dv) (Ycy _ _ dv i hlt)
           rw [←HDV.out,Yeg] at AT7
           rw [HDV.out] at AT7
           have e7:=Yaa (o:=12+i) AT7.cel (Yfk _ _ i hlt)
           have f7:=Yag (o:=12+i) AT7.cel
           have AT8:=AT7.set (12+i) (.slice qa m cap) (Ycu _ _ _ i hlt)
           have hm8:Yaw C C w9 ((w9.setCell ⟨C,6+i,none⟩ (.int .i64 dv)).setCell ⟨C,12+i,none⟩ (.slice qa m cap)):=(Yaw.set (a:=C) (b:=C) (p:=⟨C,6+i,none⟩) _ (.inl rfl)).trans (Yaw.set (a:=C) (b:=C) (p:=⟨C,12+i,none⟩) _ (.inl rfl))
           have SL8:∀j,j<i+1→Yet ((w9.setCell ⟨C,6+i,none⟩ (.int .i64 dv)).setCell ⟨C,12+i,none⟩ (.slice qa m cap)) (C+1) (Yel sl i (.slice qa m cap) j) (D.ev j):=by
            intro j hj
            unfold Yel
            by_cases e:j=i
            ·rw [if_pos e,e,HEV.out]
             exact (show Yet w9 (C+1) _ _ from ⟨qa,cap,by rw [HM.out],hev,hfr.mono (show C+1≤wr.heap.size by omega)⟩).moved hm8 (by omega) (by omega)
            ·rw [if_neg e]
             exact (((HAT.out.2.1 j (by omega)).below ((Below.refl wr.heap.size wr).drew)).moved hm6 (by omega) (by omega)).moved hm8 (by omega) (by omega)
           have NL8:∀j,i+1≤j→Yel sl i (.slice qa m cap) j = .slice none 0 0:=fun j hj=> (if_neg (by omega)).trans (HAT.out.2.2 j (by omega))
           have N8:=Lib.hid (And.intro AT8 (And.intro SL8 NL8))
           rw [HAT.out.2.2 i (Nat.le_refl i)] at e7
           have qb:((B:Int)).tdiv 2=((B / 2:Nat):Int):=by rw [Int.tdiv_eq_ediv_of_nonneg (by omega)];simp
           clear AT6 AT7 AT8 hm8 hm6 SL8 NL8 hev hfr
           go_wp2
           go_roundw
           case rel=> exact ⟨i+1,t2,by omega,by omega,rfl,by rw [←HB2.out];go_num,by go_num,_,HNX,N8⟩
           case measure=> simp [intOf];omega
          ·have g5:(f5 != 0)=true:=by simpa using hf5
           have F:=Lib.hid (HCF.out (i+1) t2 f5 (by omega) HNX.out hf5)
           have AT6:=HN9.out.1
           clear hf5
           have hre:=AT6.res
           have hlt9:=AT6.lt
           have hbe:=AT6.below
           have HBE:=Lib.hid hbe
           clear hbe
           go_wp2_with (with_reducible refine Yae rfl 50 _ _ rfl (A+1) Y Y rfl rfl 50 hre HSY rfl HOY ?_;intro w5 hh5 hg5)
           refine bodyPost_ret (Yaf rfl _ _ (A+1) 50 _ (0,0) _ rfl hh5 Tryz.underlying50 rfl HSY) rfl ?_
           exact HWR.out f5 _ _ F.out HBE.out ((Yas hg5 (by omega)).mono (by omega))
         ·obtain rfl:i=6:=by omega
          have t0:decide ((6:Int)<6)=false:=by simp
          have hc6:=hat.out.1.cel
          rw [Yfd] at hc6
          have hl6:=hat.out.1.lt
          have hr6:=hat.out.1.res
          have one6:=Ycn D sl fun j hj=> (hat.out.2.1 j hj).one
          have siz6:=Ybx D sl
          have syz6:Y.size=(Ya5 D sl).toArray.size:=by rw [←HY.out];rfl
          obtain ⟨V,hV⟩:∃V,(Ya5 D sl).toArray=V:=⟨_,rfl⟩
          rw [hV] at hc6 one6 siz6 syz6
          have HV:=Lib.hid hV
          have hall:Yny inter S x y (p,0)=(D,t,0):=HALL.out.trans (Prod.ext rfl hst.out)
          have HRT:=Lib.hid (Yfp hall)
          have HAB:=Lib.hid (show w.heap.size≤C+1 by have:=HA.out;omega)
          clear hV hall
          go_wp2_with (first | (with_reducible refine wpList_load_row rfl 50 _ rfl C rfl 50 V (0,0) _ hc6 Tryz.underlying50 rfl siz6 ?_) | (with_reducible refine Yae rfl 50 _ _ rfl (A+1) V Y rfl rfl 50 hr6 siz6 syz6 one6 ?_;intro w5 hh5 hg5))
          have hb5:=Yas hg5 (by omega)
          refine bodyPost_ret (Yaf rfl _ _ (A+1) 50 _ (0,0) _ rfl hh5 Tryz.underlying50 rfl siz6) rfl ?_
          exact ⟨D,t,0,sl,HRT.out,by rw [HV.out];rfl,fun j hj=> ((hat.out.2.1 j hj).moved (Yaw.grown hg5 (.inl rfl):Yaw (A+1) (A+1) _ _) (by omega) (by omega)).from HAB.out,HA.out▸hat.out.1.below.trans (hb5.mono (by omega))⟩
     ·have g3:(f3 != 0)=true:=by simpa using hf3
      have F:=Lib.hid (Ycq 0 HBEG.out (by omega) (Yd6 (x:=x) (y:=y) HBEG.out (Yfl HBEG.out HST2.out HSTP.out) (Yfg hf3)) hf3)
      clear hf3
      go_wp2_with fail
      refine cs.mono ?_
      rintro e w4 ⟨rfl,hb4⟩
      have AT4:=AT3.move hb4
      clear cs hb4 AT3 d2
      have hre:=AT4.res
      have hlt9:=AT4.lt
      have hbe:=AT4.below
      have HBE:=Lib.hid hbe
      clear hbe
      go_wp2_with (with_reducible refine Yae rfl 50 _ _ rfl (A+1) Y Y rfl rfl 50 hre HSY rfl HOY ?_;intro w5 hh5 hg5)
      refine bodyPost_ret (Yaf rfl _ _ (A+1) 50 _ (0,0) _ rfl hh5 Tryz.underlying50 rfl HSY) rfl ?_
      exact HWR.out f3 _ _ F.out HBE.out ((Yas hg5 (by omega)).mono (by omega))
    ·have g0:(f2 != 0)=true:=by simpa using hf2
     have F:=Lib.hid (Ycq 0 HBEG.out (by omega) (Yd6 (x:=x) (y:=y) HBEG.out (Yfl HBEG.out HST2.out (Yhy hf2)) (Yfg hf2)) hf2)
     clear hf2
     go_wp2_with (with_reducible refine Yaj rfl 50 _ _ rfl Z Y 50 rfl rfl HSZ HYZ HONE ?_;rw [HW2.out,HC.out])
     refine (pi _).mono ?_
     rintro e w9 ⟨rfl,rfl⟩
     go_wp2_with fail
     refine cp.mono ?_
     rintro e w3 ⟨rfl,hb3⟩
     have AT3:=HAT.out.move hb3
     clear cp hb3 HAT hcel hres c1 c2 HSZ HYZ HONE hC2
     have hre:=AT3.res
     have hlt9:=AT3.lt
     have hbe:=AT3.below
     have HBE:=Lib.hid hbe
     clear hbe
     go_wp2_with (with_reducible refine Yae rfl 50 _ _ rfl (A+1) Y Y rfl rfl 50 hre HSY rfl HOY ?_;intro w5 hh5 hg5)
     refine bodyPost_ret (Yaf rfl _ _ (A+1) 50 _ (0,0) _ rfl hh5 Tryz.underlying50 rfl HSY) rfl ?_
     exact HWR.out f2 _ _ F.out HBE.out ((Yas hg5 (by omega)).mono (by omega))
   ·subst hk
    have pin:=Yj2 true (S.drop q1)
    have cp:=HPM.out true q1 w2 (by omega)
    have hpt:Yb7 (ptk true) S (q1,0)=_:=Yb6
    have hdl:(S.drop q1).length=S.length-q1:=List.length_drop
    generalize ptk true (S.drop q1)=z at cp pin hpt
    obtain ⟨pt,f2,n2⟩:=z
    simp only at cp pin hpt
    obtain ⟨b,rfl⟩:∃b:Nat,pt=(b:Int):=⟨pt.toNat,by omega⟩
    have HPT:Hid (Yb7 (ptk (Yak 3)) S (q1,0)=((b:Int),q1+n2,f2)):=Lib.hid hpt
    have pi:=Ycg 3
    rw [show Yak 3=true from rfl] at pi
    obtain ⟨cd,hcd⟩:∃cd,4*b+a=cd:=⟨_,rfl⟩
    have hcd2:4*(b:Int)+(a:Int)=(cd:Int):=by omega
    have HCD:=Lib.hid hcd
    clear hcd
    obtain ⟨q2,hq2⟩:∃q2,q1+n2=q2:=⟨_,rfl⟩
    have hqs2:q2≤s.size:=by omega
    rw [hq2] at HPT cp
    have hST2:st2 inter S (p,0)=(q2,f2):=Yqq HBEG.out HPT.out
    have HST2:=Lib.hid hST2
    have hb15:(b:Int)≤15:=by omega
    clear hpt hdl hq2 hST2
    by_cases hf2:f2=0
    ·subst hf2
     go_wp2_with (with_reducible refine Yaj rfl 50 _ _ rfl Z Y 50 rfl rfl HSZ HYZ HONE ?_;rw [HW2.out,HC.out])
     refine (pi _).mono ?_
     rintro e w9 ⟨rfl,rfl⟩
     go_wp2_with fail
     refine cp.mono ?_
     rintro e w3 ⟨rfl,hb3⟩
     have AT3:=HAT.out.move hb3
     have d2:w3.cell? ⟨C,2,none⟩=some (.int .i64 3):=Yaa (o:=2) AT3.cel rfl
     clear cp hb3 HAT hcel hres c1 c2 HSZ HYZ HONE hC2
     have HSTP:Hid (Yr5 S 3 (q2,0)=(0,q2,0)):=Lib.hid rfl
     have hST3:st3 inter S (p,0)=(q2,0):=Yfl HBEG.out HST2.out HSTP.out
     have HST3:=Lib.hid hST3
     clear hST3
     go_wp2
     have HVEC:Hid (Ypu S 3 x y (q2,0)=(0,0,(q2,0))):=Lib.hid rfl
     have HST4:Hid (st4 inter S x y (p,0)=(q2,0)):=Lib.hid (Yrd HBEG.out HST3.out HVEC.out)
     have HATV:=Lib.hid AT3
     clear AT3
     go_loopw [13,19] (fun u v wr=> v = .int .i64 0∧u = .int .i64 (q2:Int)∧Hid (Yiw w wr A (A+1) C x y Y {Yc1 with stuff:=n,skip:=false,kind:=3,step:=0,mx:=0,my:=0} nilS)) (fun _ _ _=> 0)
     case atStart=> exact ⟨rfl,rfl,HATV⟩
     case round=>
      clear HATV
      obtain ⟨rfl,rfl,hat⟩:=hrel
      have AT2:=hat.out
      have e2:wr.cell? ⟨C,2,none⟩=some (.int .i64 3):=Yaa (o:=2) AT2.cel rfl
      clear hat
      go_wp2
      generalize wr=wo at *
      have hq4s:q2≤s.size:=by omega
      have hall:=Ygd (inter:=inter) (x:=x) (y:=y) HBEG.out HPT.out HSTP.out HVEC.out
      have hcc:=Yqo HBEG.out HPT.out
      rw [show ((b:Int)).toNat=b from rfl,show ((a:Int)).toNat=a from rfl,HCD.out] at hall hcc
      obtain ⟨D,hD⟩:∃D:Cel,{stuff:=n,skip:=false,kind:=3,step:=0,mx:=0,my:=0,dc:=fun i=> (Yc0 (Yak 3) (Yb4 cd i) S (stB (Yak 3) cd S (q2,0) i)).1,ev:=fun i=> (Yc0 (Yak 3) (Yb4 cd i) S (stB (Yak 3) cd S (q2,0) i)).2.1}=D:=⟨_,rfl⟩
      rw [hD] at hall
      have hDc:∀i,D.dc i=(Yc0 true (Yb4 cd i) S (stB true cd S (q2,0) i)).1:=fun i=> by rw [←hD];rfl
      have hDe:∀i,D.ev i=(Yc0 true (Yb4 cd i) S (stB true cd S (q2,0) i)).2.1:=fun i=> by rw [←hD];rfl
      have ATD:Yiw w wo A (A+1) C x y Y (Yj5 D 0) nilS:=Yiw.same AT2 (by rw [←hD];rfl)
      have hfail:∀(i:Nat) (q f:Nat×Int),True:=fun _ _ _=> trivial
      have HCF:=Lib.hid (fun (i tq:Nat) (f:Int) (hi:i≤6) (h:stB true cd S (q2,0) i=(tq,f)) (hf:f≠0)=> Ycq (x:=x) (y:=y) i HBEG.out hi (by rw [hcc,HST4.out];exact h) hf)
      have HALL:=Lib.hid hall
      have HDK:Hid (D.kind=3):=Lib.hid (by rw [←hD])
      have HDC:=Lib.hid hDc
      have HDE:=Lib.hid hDe
      have HATD:=Lib.hid ATD
      clear hall hD hDc hDe ATD AT2 hcc hfail HST4 HVEC
      go_loopw [13,23,24] (fun u v z wr=>∃i t:Nat,i≤6∧t≤s.size∧u = .int .i64 (t:Int)∧v = .int .i64 ((32 / 2^i:Nat):Int)∧z = .int .i64 (i:Int)∧∃sl,Hid (stB true cd S (q2,0) i=(t,0))∧Hid (Yiw w wr A (A+1) C x y Y (Yj5 D i) sl∧(∀j,j<i→Yet wr (C+1) (sl j) (D.ev j))∧∀j,i≤j→sl j = .slice none 0 0)) (fun _ _ z _=> 6-(intOf z).toNat)
      case atStart=> exact ⟨0,q2,by omega,hq4s,rfl,rfl,rfl,nilS,Lib.hid rfl,Lib.hid ⟨HATD.out,fun j h=> absurd h (Nat.not_lt_zero j),fun _ _=> rfl⟩⟩
      case round=>
       clear HATD
       obtain ⟨i,t,hi6,ht,rfl,rfl,rfl,sl,hst,hat⟩:=hrel
       by_cases hlt:i<6
       ·have t0:decide ((i:Int)<6)=true:=by simp;omega
        have c2:wr.cell? ⟨C,2,none⟩=some (.int .i64 3):=Yaa (o:=2) hat.out.1.cel (by show some (Value.int .i64 D.kind)=_;rw [HDK.out])
        have cb:=HPB.out t true (Yb4 cd i) wr.drew ht
        have hbl:Yc0 true (Yb4 cd i) S (t,0)=_:=Ykg
        have hin:=(Yho S t true (Yb4 cd i) (by omega)).1
        have hnx:stB true cd S (q2,0) (i+1)=(Yc0 true (Yb4 cd i) S (stB true cd S (q2,0) i)).2.2:=rfl
        have hdv:=HDC.out i
        have hev:=HDE.out i
        rw [hst.out,hbl] at hnx hdv hev
        have q3:=Yjl cd i (by omega)
        generalize Yb4 cd i=cdb at cb hbl hin hnx hdv hev q3
        generalize btk S t true cdb=z at cb hbl hin hnx hdv hev
        obtain ⟨dv,L,t2,f5⟩:=z
        simp only at hin hnx hdv hev
        have HDV:=Lib.hid hdv
        have HEV:=Lib.hid hev
        have HNX:=Lib.hid hnx
        obtain ⟨B,hB⟩:∃B,32 / 2^i=B:=⟨_,rfl⟩
        have hB1:1≤B∧B≤32∧B / 2=32 / 2^(i+1):=by
         rw [←hB]
         match i,hlt with
         | 0,_=> decide
         | 1,_=> decide
         | 2,_=> decide
         | 3,_=> decide
         | 4,_=> decide
         | 5,_=> decide
        rw [hB] at q3 ⊢
        have HB2:=Lib.hid hB1.2.2
        obtain ⟨hBl,hBh,-⟩:=hB1
        have pi:=Ycg 3
        rw [show Yak 3=true from rfl] at pi
        clear hdv hev hnx hbl hB
        have qw:IntKind.i64.wrap ((cd:Int) / (B:Int))=(cd:Int) / (B:Int):=by rw [←Int.natCast_ediv];exact Yir (Nat.le_trans (Nat.div_le_self _ _) (by omega))
        have qm:((cd:Int) / (B:Int)).tmod 2=(cd:Int) / (B:Int)%2:=by rw [←Int.natCast_ediv];exact Int.tmod_eq_emod_of_nonneg (Int.natCast_nonneg _)
        have qe:(((cd:Int) / (B:Int)%2)==1)=cdb:=by rw [←q3,Bool.eq_iff_iff,beq_iff_eq,beq_iff_eq,←Int.natCast_ediv];omega
        have ATD:=hat.out.1.move ((Below.refl wr.heap.size wr).drew)
        have HKC:=Lib.hid (fun (z:World) (h:Yiw w z A (A+1) C x y Y (Yj5 D i) sl)=> (Yaa (o:=2) h.cel (by show some (Value.int .i64 D.kind)=_;rw [HDK.out]):z.cell? ⟨C,2,none⟩=some (.int .i64 3)))
        have HST:=Lib.hid hst.out
        have HAT:=Lib.hid hat.out
        clear q3 hst hat c2
        go_wp2
        refine wp_region_held_drew (S:=(fun z=> z.cell? ⟨C,2,none⟩=some (.int .i64 3))) (by kernel_rfl) (HKC.out _ ATD) (fun hH=> ?_)
        refine Yab 0 (some 126) (v:=?_) rfl rfl (by kernel_rfl) (by kernel_rfl) (by kernel_rfl) (fun _ _ _ h=> h) hH (Or.inl ⟨by kernel_rfl,?_⟩) ?_
        rotate_left
        ·(intro x _;go_simp;try with_reducible rfl)
        rotate_right
        try simp only [Act.put,List.setIfInBounds_toArray,List.set_cons_zero,List.set_cons_succ]
        refine Yab 1 (some 127) (v:=?_) rfl rfl (by kernel_rfl) (by kernel_rfl) (by kernel_rfl) (fun _ _ _ h=> h) hH (Or.inl ⟨by kernel_rfl,?_⟩) ?_
        rotate_left
        ·(intro x _;go_simp;try with_reducible rfl)
        rotate_right
        try simp only [Act.put,List.setIfInBounds_toArray,List.set_cons_zero,List.set_cons_succ]
        refine Yab 2 (some 128) (v:=?_) rfl rfl (by kernel_rfl) (by kernel_rfl) (by kernel_rfl) (fun _ _ _ h=> h) hH (Or.inl ⟨by kernel_rfl,?_⟩) ?_
        rotate_left
        ·(intro x _;go_simp;try with_reducible rfl)
        rotate_right
        try simp only [Act.put,List.setIfInBounds_toArray,List.set_cons_zero,List.set_cons_succ]
        refine Yab 3 (some 129) (v:=.int .i64 3) rfl rfl (by kernel_rfl) (by kernel_rfl) (by kernel_rfl) (fun _ _ _ h=> h) hH (Or.inl ⟨by kernel_rfl,?_⟩) ?_
        ·(intro x hx;have c0:=(show _ from hx);go_simp)
        try simp only [Act.put,List.setIfInBounds_toArray,List.set_cons_zero,List.set_cons_succ]
        refine Yab 5 (some 131) (v:=?_) rfl rfl (by kernel_rfl) (by kernel_rfl) (by kernel_rfl) (fun _ _ _ h=> h) hH (Or.inl ⟨by kernel_rfl,?_⟩) ?_
        rotate_left
        ·(intro x _;go_simp;try with_reducible rfl)
        rotate_right
        try simp only [Act.put,List.setIfInBounds_toArray,List.set_cons_zero,List.set_cons_succ]
        refine Yab 6 (some 132) (v:=?_) rfl rfl (by kernel_rfl) (by kernel_rfl) (by kernel_rfl) (fun _ _ _ h=> h) hH (Or.inl ⟨by kernel_rfl,?_⟩) ?_
        rotate_left
        ·(intro x _;go_simp;try with_reducible rfl)
        rotate_right
        try simp only [Act.put,List.setIfInBounds_toArray,List.set_cons_zero,List.set_cons_succ]
        refine Yab 7 (some 133) (v:=.int .i64 ((cd:Int) / (B:Int))) rfl rfl (by kernel_rfl) (by kernel_rfl) (by kernel_rfl) (fun _ _ _ h=> h) hH (Or.inl ⟨by kernel_rfl,?_⟩) ?_
        ·(intro x _;go_simp;omega)
        try simp only [Act.put,List.setIfInBounds_toArray,List.set_cons_zero,List.set_cons_succ]
        refine Yab 8 (some 134) (v:=.int .i64 ((cd:Int) / (B:Int)%2)) rfl rfl (by kernel_rfl) (by kernel_rfl) (by kernel_rfl) (fun _ _ _ h=> h) hH (Or.inl ⟨by kernel_rfl,?_⟩) ?_
        ·(intro x _;go_simp)
        try simp only [Act.put,List.setIfInBounds_toArray,List.set_cons_zero,List.set_cons_succ]
        refine Yab 9 (some 135) (v:=.bool cdb) rfl rfl (by kernel_rfl) (by kernel_rfl) (by kernel_rfl) (fun _ _ _ h=> h) hH (Or.inl ⟨by kernel_rfl,?_⟩) ?_
        ·(intro x _;go_simp)
        try simp only [Act.put,List.setIfInBounds_toArray,List.set_cons_zero,List.set_cons_succ]
        refine wpAnyH_ready (rs:=[4]) (by kernel_rfl) (by simp) ?_
        refine AllReadyH.cons rfl (fun K hK=> ?_) AllReadyH.nil
        go_simp
        go_wp2_with fail
        refine (pi _).mono ?_
        rintro e w8 ⟨rfl,rfl⟩
        refine hK.out _ _ (HKC.out _ ATD) (fun hH2=> ?_)
        clear hK K hH
        have hH:=hH2
        clear hH2
        try simp only [Act.put,List.setIfInBounds_toArray,List.set_cons_zero,List.set_cons_succ]
        refine wpAnyH_ready (rs:=[10]) (by kernel_rfl) (by simp) ?_
        refine AllReadyH.cons rfl (fun K hK=> ?_) AllReadyH.nil
        go_simp
        go_wp2_with fail
        refine cb.mono ?_
        rintro e w9 ⟨d1,L1,f1,t1,m,qa,cap,heq,rfl,hm9,hev,hfr,hb9⟩
        simp only [Prod.mk.injEq] at heq
        obtain ⟨rfl,rfl,rfl,rfl⟩:=heq
        have HM:=Lib.hid hm9
        have AT3:=ATD.move hb9
        clear hm9 cb
        refine hK.out _ _ (HKC.out _ AT3) (fun hH2=> ?_)
        clear hK K hH
        have hH:=hH2
        clear hH2
        try simp only [Act.put,List.setIfInBounds_toArray,List.set_cons_zero,List.set_cons_succ]
        refine Yab 11 (some 125) (v:=?_) rfl rfl (by kernel_rfl) (by kernel_rfl) (by kernel_rfl) (fun _ _ _ h=> h) hH (Or.inl ⟨by kernel_rfl,?_⟩) ?_
        rotate_left
        ·(intro x _;go_simp;try with_reducible rfl)
        rotate_right
        try simp only [Act.put,List.setIfInBounds_toArray,List.set_cons_zero,List.set_cons_succ]
        refine Yab 12 (some 137) (v:=?_) rfl rfl (by kernel_rfl) (by kernel_rfl) (by kernel_rfl) (fun _ _ _ h=> h) hH (Or.inl ⟨by kernel_rfl,?_⟩) ?_
        rotate_left
        ·(intro x _;go_simp;try with_reducible rfl)
        rotate_right
        try simp only [Act.put,List.setIfInBounds_toArray,List.set_cons_zero,List.set_cons_succ]
        refine Yab 13 (some 138) (v:=?_) rfl rfl (by kernel_rfl) (by kernel_rfl) (by kernel_rfl) (fun _ _ _ h=> h) hH (Or.inl ⟨by kernel_rfl,?_⟩) ?_
        rotate_left
        ·(intro x _;go_simp;try with_reducible rfl)
        rotate_right
        try simp only [Act.put,List.setIfInBounds_toArray,List.set_cons_zero,List.set_cons_succ]
        refine Yab 14 (some 139) (v:=?_) rfl rfl (by kernel_rfl) (by kernel_rfl) (by kernel_rfl) (fun _ _ _ h=> h) hH (Or.inl ⟨by kernel_rfl,?_⟩) ?_
        rotate_left
        ·(intro x _;go_simp;try with_reducible rfl)
        rotate_right
        try simp only [Act.put,List.setIfInBounds_toArray,List.set_cons_zero,List.set_cons_succ]
        refine Yab 15 (some 140) (v:=?_) rfl rfl (by kernel_rfl) (by kernel_rfl) (by kernel_rfl) (fun _ _ _ h=> h) hH (Or.inl ⟨by kernel_rfl,?_⟩) ?_
        rotate_left
        ·(intro x _;go_simp;try with_reducible rfl)
        rotate_right
        try simp only [Act.put,List.setIfInBounds_toArray,List.set_cons_zero,List.set_cons_succ]
        refine Yab 16 (some 25) (v:=?_) rfl rfl (by kernel_rfl) (by kernel_rfl) (by kernel_rfl) (fun _ _ _ h=> h) hH (Or.inl ⟨by kernel_rfl,?_⟩) ?_
        rotate_left
        ·(intro x _;go_simp;try with_reducible rfl)
        rotate_right
        try simp only [Act.put,List.setIfInBounds_toArray,List.set_cons_zero,List.set_cons_succ]
        refine Yab 17 (some 26) (v:=?_) rfl rfl (by kernel_rfl) (by kernel_rfl) (by kernel_rfl) (fun _ _ _ h=> h) hH (Or.inl ⟨by kernel_rfl,?_⟩) ?_
        rotate_left
        ·(intro x _;go_simp;try with_reducible rfl)
        rotate_right
        try simp only [Act.put,List.setIfInBounds_toArray,List.set_cons_zero,List.set_cons_succ]
        refine Yab 18 (some 27) (v:=?_) rfl rfl (by kernel_rfl) (by kernel_rfl) (by kernel_rfl) (fun _ _ _ h=> h) hH (Or.inl ⟨by kernel_rfl,?_⟩) ?_
        rotate_left
        ·(intro x _;go_simp;try with_reducible rfl)
        rotate_right
        try simp only [Act.put,List.setIfInBounds_toArray,List.set_cons_zero,List.set_cons_succ]
        refine Yab 19 (some 28) (v:=?_) rfl rfl (by kernel_rfl) (by kernel_rfl) (by kernel_rfl) (fun _ _ _ h=> h) hH (Or.inl ⟨by kernel_rfl,?_⟩) ?_
        rotate_left
        ·(intro x _;go_simp;try with_reducible rfl)
        rotate_right
        try simp only [Act.put,List.setIfInBounds_toArray,List.set_cons_zero,List.set_cons_succ]
        refine wpAnyH_done (by kernel_rfl) ?_ _
        clear hH
        have HN9:=Lib.hid (And.intro AT3 (And.intro hev hfr))
        have hz9:=hb9.size
        have HB9:=Lib.hid hb9
        clear AT3 hev hfr hb9 qw qm qe
        by_cases hf5:f5=0
        ·subst hf5
         have AT6:=HN9.out.1
         have hev:=HN9.out.2.1
         have hfr:=HN9.out.2.2
         have hlt6:=AT6.lt
         have hsz:=HAT.out.1.lt
         have hm6:Yaw C C wr.drew w9:=Yaw.below HB9.out
         have e6:=Yaa (o:=6+i) AT6.cel (Ygz _ _ i hlt)
         have f6:=Yag (o:=6+i) AT6.cel
         have AT7:=AT6.set (6+i) (.int .i64 dv) (Ycy _ _ dv i hlt)
         rw [←HDV.out,Yeg] at AT7
         rw [HDV.out] at AT7
         have e7:=Yaa (o:=12+i) AT7.cel (Yfk _ _ i hlt)
         have f7:=Yag (o:=12+i) AT7.cel
         have AT8:=AT7.set (12+i) (.slice qa m cap) (Ycu _ _ _ i hlt)
         have hm8:Yaw C C w9 ((w9.setCell ⟨C,6+i,none⟩ (.int .i64 dv)).setCell ⟨C,12+i,none⟩ (.slice qa m cap)):=(Yaw.set (a:=C) (b:=C) (p:=⟨C,6+i,none⟩) _ (.inl rfl)).trans (Yaw.set (a:=C) (b:=C) (p:=⟨C,12+i,none⟩) _ (.inl rfl))
         have SL8:∀j,j<i+1→Yet ((w9.setCell ⟨C,6+i,none⟩ (.int .i64 dv)).setCell ⟨C,12+i,none⟩ (.slice qa m cap)) (C+1) (Yel sl i (.slice qa m cap) j) (D.ev j):=by
          intro j hj
          unfold Yel
          by_cases e:j=i
          ·rw [if_pos e,e,HEV.out]
           exact (show Yet w9 (C+1) _ _ from ⟨qa,cap,by rw [HM.out],hev,hfr.mono (show C+1≤wr.heap.size by omega)⟩).moved hm8 (by omega) (by omega)
          ·rw [if_neg e]
           exact (((HAT.out.2.1 j (by omega)).below ((Below.refl wr.heap.size wr).drew)).moved hm6 (by omega) (by omega)).moved hm8 (by omega) (by omega)
         have NL8:∀j,i+1≤j→Yel sl i (.slice qa m cap) j = .slice none 0 0:=fun j hj=> (if_neg (by omega)).trans (HAT.out.2.2 j (by omega))
         have N8:=Lib.hid (And.intro AT8 (And.intro SL8 NL8))
         rw [HAT.out.2.2 i (Nat.le_refl i)] at e7
         have qb:((B:Int)).tdiv 2=((B / 2:Nat):Int):=by rw [Int.tdiv_eq_ediv_of_nonneg (by omega)];simp
         clear AT6 AT7 AT8 hm8 hm6 SL8 NL8 hev hfr
         go_wp2
         go_roundw
         case rel=> exact ⟨i+1,t2,by omega,by omega,rfl,by rw [←HB2.out];go_num,by go_num,_,HNX,N8⟩
         case measure=> simp [intOf];omega
        ·have g5:(f5 != 0)=true:=by simpa using hf5
         have F:=Lib.hid (HCF.out (i+1) t2 f5 (by omega) HNX.out hf5)
         have AT6:=HN9.out.1
         clear hf5
         have hre:=AT6.res
         have hlt9:=AT6.lt
         have hbe:=AT6.below
         have HBE:=Lib.hid hbe
         clear hbe
         go_wp2_with (with_reducible refine Yae rfl 50 _ _ rfl (A+1) Y Y rfl rfl 50 hre HSY rfl HOY ?_;intro w5 hh5 hg5)
         refine bodyPost_ret (Yaf rfl _ _ (A+1) 50 _ (0,0) _ rfl hh5 Tryz.underlying50 rfl HSY) rfl ?_
         exact HWR.out f5 _ _ F.out HBE.out ((Yas hg5 (by omega)).mono (by omega))
       ·obtain rfl:i=6:=by omega
        have t0:decide ((6:Int)<6)=false:=by simp
        have hc6:=hat.out.1.cel
        rw [Yfd] at hc6
        have hl6:=hat.out.1.lt
        have hr6:=hat.out.1.res
        have one6:=Ycn D sl fun j hj=> (hat.out.2.1 j hj).one
        have siz6:=Ybx D sl
        have syz6:Y.size=(Ya5 D sl).toArray.size:=by rw [←HY.out];rfl
        obtain ⟨V,hV⟩:∃V,(Ya5 D sl).toArray=V:=⟨_,rfl⟩
        rw [hV] at hc6 one6 siz6 syz6
        have HV:=Lib.hid hV
        have hall:Yny inter S x y (p,0)=(D,t,0):=HALL.out.trans (Prod.ext rfl hst.out)
        have HRT:=Lib.hid (Yfp hall)
        have HAB:=Lib.hid (show w.heap.size≤C+1 by have:=HA.out;omega)
        clear hV hall
        go_wp2_with (first | (with_reducible refine wpList_load_row rfl 50 _ rfl C rfl 50 V (0,0) _ hc6 Tryz.underlying50 rfl siz6 ?_) | (with_reducible refine Yae rfl 50 _ _ rfl (A+1) V Y rfl rfl 50 hr6 siz6 syz6 one6 ?_;intro w5 hh5 hg5))
        have hb5:=Yas hg5 (by omega)
        refine bodyPost_ret (Yaf rfl _ _ (A+1) 50 _ (0,0) _ rfl hh5 Tryz.underlying50 rfl siz6) rfl ?_
        exact ⟨D,t,0,sl,HRT.out,by rw [HV.out];rfl,fun j hj=> ((hat.out.2.1 j hj).moved (Yaw.grown hg5 (.inl rfl):Yaw (A+1) (A+1) _ _) (by omega) (by omega)).from HAB.out,HA.out▸hat.out.1.below.trans (hb5.mono (by omega))⟩
    ·have g0:(f2 != 0)=true:=by simpa using hf2
     have F:=Lib.hid (Ycq 0 HBEG.out (by omega) (Yd6 (x:=x) (y:=y) HBEG.out (Yfl HBEG.out HST2.out (Yhy hf2)) (Yfg hf2)) hf2)
     clear hf2
     go_wp2_with (with_reducible refine Yaj rfl 50 _ _ rfl Z Y 50 rfl rfl HSZ HYZ HONE ?_;rw [HW2.out,HC.out])
     refine (pi _).mono ?_
     rintro e w9 ⟨rfl,rfl⟩
     go_wp2_with fail
     refine cp.mono ?_
     rintro e w3 ⟨rfl,hb3⟩
     have AT3:=HAT.out.move hb3
     clear cp hb3 HAT hcel hres c1 c2 HSZ HYZ HONE hC2
     have hre:=AT3.res
     have hlt9:=AT3.lt
     have hbe:=AT3.below
     have HBE:=Lib.hid hbe
     clear hbe
     go_wp2_with (with_reducible refine Yae rfl 50 _ _ rfl (A+1) Y Y rfl rfl 50 hre HSY rfl HOY ?_;intro w5 hh5 hg5)
     refine bodyPost_ret (Yaf rfl _ _ (A+1) 50 _ (0,0) _ rfl hh5 Tryz.underlying50 rfl HSY) rfl ?_
     exact HWR.out f2 _ _ F.out HBE.out ((Yas hg5 (by omega)).mono (by omega))
   ·subst hk
    have pin:=Yj2 true (S.drop q1)
    have cp:=HPM.out true q1 w2 (by omega)
    have hpt:Yb7 (ptk true) S (q1,0)=_:=Yb6
    have hdl:(S.drop q1).length=S.length-q1:=List.length_drop
    generalize ptk true (S.drop q1)=z at cp pin hpt
    obtain ⟨pt,f2,n2⟩:=z
    simp only at cp pin hpt
    obtain ⟨b,rfl⟩:∃b:Nat,pt=(b:Int):=⟨pt.toNat,by omega⟩
    have HPT:Hid (Yb7 (ptk (Yak 4)) S (q1,0)=((b:Int),q1+n2,f2)):=Lib.hid hpt
    have pi:=Ycg 4
    rw [show Yak 4=true from rfl] at pi
    obtain ⟨cd,hcd⟩:∃cd,4*b+a=cd:=⟨_,rfl⟩
    have hcd2:4*(b:Int)+(a:Int)=(cd:Int):=by omega
    have HCD:=Lib.hid hcd
    clear hcd
    obtain ⟨q2,hq2⟩:∃q2,q1+n2=q2:=⟨_,rfl⟩
    have hqs2:q2≤s.size:=by omega
    rw [hq2] at HPT cp
    have hST2:st2 inter S (p,0)=(q2,f2):=Yqq HBEG.out HPT.out
    have HST2:=Lib.hid hST2
    have hb15:(b:Int)≤15:=by omega
    clear hpt hdl hq2 hST2
    by_cases hf2:f2=0
    ·subst hf2
     go_wp2_with (with_reducible refine Yaj rfl 50 _ _ rfl Z Y 50 rfl rfl HSZ HYZ HONE ?_;rw [HW2.out,HC.out])
     refine (pi _).mono ?_
     rintro e w9 ⟨rfl,rfl⟩
     go_wp2_with fail
     refine cp.mono ?_
     rintro e w3 ⟨rfl,hb3⟩
     have AT3:=HAT.out.move hb3
     have d2:w3.cell? ⟨C,2,none⟩=some (.int .i64 4):=Yaa (o:=2) AT3.cel rfl
     clear cp hb3 HAT hcel hres c1 c2 HSZ HYZ HONE hC2
     have cs:=HPS.out q2 w3 (by omega)
     have sal:=Y27 (S.drop q2)
     have hsp:Yb7 stk S (q2,0)=_:=Yb6
     have hdl:(S.drop q2).length=S.length-q2:=List.length_drop
     generalize stk (S.drop q2)=z at cs sal hsp
     obtain ⟨sp,f3,n3⟩:=z
     simp only at cs sal hsp
     obtain ⟨q3,hq3⟩:∃q3,q2+n3=q3:=⟨_,rfl⟩
     have hqs3:q3≤s.size:=by omega
     rw [hq3] at cs hsp
     have HSTP:Hid (Yr5 S 4 (q2,0)=(sp,q3,f3)):=Lib.hid hsp
     clear hsp hdl sal hq3
     by_cases hf3:f3=0
     ·subst hf3
      have hST3:st3 inter S (p,0)=(q3,0):=Yfl HBEG.out HST2.out HSTP.out
      have HST3:=Lib.hid hST3
      clear hST3
      go_wp2_with fail
      refine cs.mono ?_
      rintro e w4 ⟨rfl,hb4⟩
      have AT4:=AT3.move hb4
      have e3:=Yaa (o:=3) AT4.cel rfl
      have f3:=Yag (o:=3) AT4.cel
      have e2:w4.cell? ⟨C,2,none⟩=some (.int .i64 4):=Yaa (o:=2) AT4.cel rfl
      have AT5:=AT4.set 3 (.int .i64 sp) (c':={Yc1 with stuff:=n,skip:=false,kind:=4,step:=sp,mx:=0,my:=0}) (sl':=nilS) rfl
      obtain ⟨w5,hw5⟩:∃z,w4.setCell ⟨C,3,none⟩ (.int .i64 sp)=z:=⟨_,rfl⟩
      rw [hw5] at AT5
      have HW5:=Lib.hid hw5
      clear cs hb4 AT3 AT4 hw5 d2
      go_wp2
      rw [HW5.out]
      have HVEC:Hid (Ypu S 4 x y (q3,0)=(0,0,(q3,0))):=Lib.hid rfl
      have HST4:Hid (st4 inter S x y (p,0)=(q3,0)):=Lib.hid (Yrd HBEG.out HST3.out HVEC.out)
      have HATV:=Lib.hid AT5
      clear AT5
      go_loopw [13,19] (fun u v wr=> v = .int .i64 0∧u = .int .i64 (q3:Int)∧Hid (Yiw w wr A (A+1) C x y Y {Yc1 with stuff:=n,skip:=false,kind:=4,step:=sp,mx:=0,my:=0} nilS)) (fun _ _ _=> 0)
      case atStart=> exact ⟨rfl,rfl,HATV⟩
      case round=>
       clear HATV
       obtain ⟨rfl,rfl,hat⟩:=hrel
       have AT2:=hat.out
       have e2:wr.cell? ⟨C,2,none⟩=some (.int .i64 4):=Yaa (o:=2) AT2.cel rfl
       clear hat
       go_wp2
       generalize wr=wo at *
       have hq4s:q3≤s.size:=by omega
       have hall:=Ygd (inter:=inter) (x:=x) (y:=y) HBEG.out HPT.out HSTP.out HVEC.out
       have hcc:=Yqo HBEG.out HPT.out
       rw [show ((b:Int)).toNat=b from rfl,show ((a:Int)).toNat=a from rfl,HCD.out] at hall hcc
       obtain ⟨D,hD⟩:∃D:Cel,{stuff:=n,skip:=false,kind:=4,step:=sp,mx:=0,my:=0,dc:=fun i=> (Yc0 (Yak 4) (Yb4 cd i) S (stB (Yak 4) cd S (q3,0) i)).1,ev:=fun i=> (Yc0 (Yak 4) (Yb4 cd i) S (stB (Yak 4) cd S (q3,0) i)).2.1}=D:=⟨_,rfl⟩
       rw [hD] at hall
       have hDc:∀i,D.dc i=(Yc0 true (Yb4 cd i) S (stB true cd S (q3,0) i)).1:=fun i=> by rw [←hD];rfl
       have hDe:∀i,D.ev i=(Yc0 true (Yb4 cd i) S (stB true cd S (q3,0) i)).2.1:=fun i=> by rw [←hD];rfl
       have ATD:Yiw w wo A (A+1) C x y Y (Yj5 D 0) nilS:=Yiw.same AT2 (by rw [←hD];rfl)
       have hfail:∀(i:Nat) (q f:Nat×Int),True:=fun _ _ _=> trivial
       have HCF:=Lib.hid (fun (i tq:Nat) (f:Int) (hi:i≤6) (h:stB true cd S (q3,0) i=(tq,f)) (hf:f≠0)=> Ycq (x:=x) (y:=y) i HBEG.out hi (by rw [hcc,HST4.out];exact h) hf)
       have HALL:=Lib.hid hall
       have HDK:Hid (D.kind=4):=Lib.hid (by rw [←hD])
       have HDC:=Lib.hid hDc
       have HDE:=Lib.hid hDe
       have HATD:=Lib.hid ATD
       clear hall hD hDc hDe ATD AT2 hcc hfail HST4 HVEC
       go_loopw [13,23,24] (fun u v z wr=>∃i t:Nat,i≤6∧t≤s.size∧u = .int .i64 (t:Int)∧v = .int .i64 ((32 / 2^i:Nat):Int)∧z = .int .i64 (i:Int)∧∃sl,Hid (stB true cd S (q3,0) i=(t,0))∧Hid (Yiw w wr A (A+1) C x y Y (Yj5 D i) sl∧(∀j,j<i→Yet wr (C+1) (sl j) (D.ev j))∧∀j,i≤j→sl j = .slice none 0 0)) (fun _ _ z _=> 6-(intOf z).toNat)
       case atStart=> exact ⟨0,q3,by omega,hq4s,rfl,rfl,rfl,nilS,Lib.hid rfl,Lib.hid ⟨HATD.out,fun j h=> absurd h (Nat.not_lt_zero j),fun _ _=> rfl⟩⟩
       case round=>
        clear HATD
        obtain ⟨i,t,hi6,ht,rfl,rfl,rfl,sl,hst,hat⟩:=hrel
        by_cases hlt:i<6
        ·have t0:decide ((i:Int)<6)=true:=by simp;omega
         have c2:wr.cell? ⟨C,2,none⟩=some (.int .i64 4):=Yaa (o:=2) hat.out.1.cel (by show some (Value.int .i64 D.kind)=_;rw [HDK.out])
         have cb:=HPB.out t true (Yb4 cd i) wr.drew ht
         have hbl:Yc0 true (Yb4 cd i) S (t,0)=_:=Ykg
         have hin:=(Yho S t true (Yb4 cd i) (by omega)).1
         have hnx:stB true cd S (q3,0) (i+1)=(Yc0 true (Yb4 cd i) S (stB true cd S (q3,0) i)).2.2:=rfl
         have hdv:=HDC.out i
         have hev:=HDE.out i
         rw [hst.out,hbl] at hnx hdv hev
         have q3:=Yjl cd i (by omega)
         generalize Yb4 cd i=cdb at cb hbl hin hnx hdv hev q3
         generalize btk S t true cdb=z at cb hbl hin hnx hdv hev
         obtain ⟨dv,L,t2,f5⟩:=z
         simp only at hin hnx hdv hev
         have HDV:=Lib.hid hdv
         have HEV:=Lib.hid hev
         have HNX:=Lib.hid hnx
         obtain ⟨B,hB⟩:∃B,32 / 2^i=B:=⟨_,rfl⟩
         have hB1:1≤B∧B≤32∧B / 2=32 / 2^(i+1):=by
          rw [←hB]
          match i,hlt with
          | 0,_=> decide
          | 1,_=> decide
          | 2,_=> decide
          | 3,_=> decide
          | 4,_=> decide
          | 5,_=> decide
         rw [hB] at q3 ⊢
         have HB2:=Lib.hid hB1.2.2
         obtain ⟨hBl,hBh,-⟩:=hB1
         have pi:=Ycg 4
         rw [show Yak 4=true from rfl] at pi
         clear hdv hev hnx hbl hB
         have qw:IntKind.i64.wrap ((cd:Int) / (B:Int))=(cd:Int) / (B:Int):=by rw [←Int.natCast_ediv];exact Yir (Nat.le_trans (Nat.div_le_self _ _) (by omega))
         have qm:((cd:Int) / (B:Int)).tmod 2=(cd:Int) / (B:Int)%2:=by rw [←Int.natCast_ediv];exact Int.tmod_eq_emod_of_nonneg (Int.natCast_nonneg _)
         have qe:(((cd:Int) / (B:Int)%2)==1)=cdb:=by rw [←q3,Bool.eq_iff_iff,beq_iff_eq,beq_iff_eq,←Int.natCast_ediv];omega
         have ATD:=hat.out.1.move ((Below.refl wr.heap.size wr).drew)
         have HKC:=Lib.hid (fun (z:World) (h:Yiw w z A (A+1) C x y Y (Yj5 D i) sl)=> (Yaa (o:=2) h.cel (by show some (Value.int .i64 D.kind)=_;rw [HDK.out]):z.cell? ⟨C,2,none⟩=some (.int .i64 4)))
         have HST:=Lib.hid hst.out
         have HAT:=Lib.hid hat.out
         clear q3 hst hat c2
         go_wp2
         refine wp_region_held_drew (S:=(fun z=> z.cell? ⟨C,2,none⟩=some (.int .i64 4))) (by kernel_rfl) (HKC.out _ ATD) (fun hH=> ?_)
         refine Yab 0 (some 126) (v:=?_) rfl rfl (by kernel_rfl) (by kernel_rfl) (by kernel_rfl) (fun _ _ _ h=> h) hH (Or.inl ⟨by kernel_rfl,?_⟩) ?_
         rotate_left
         ·(intro x _;go_simp;try with_reducible rfl)
         rotate_right
         try simp only [Act.put,List.setIfInBounds_toArray,List.set_cons_zero,List.set_cons_succ]
         refine Yab 1 (some 127) (v:=?_) rfl rfl (by kernel_rfl) (by kernel_rfl) (by kernel_rfl) (fun _ _ _ h=> h) hH (Or.inl ⟨by kernel_rfl,?_⟩) ?_
         rotate_left
         ·(intro x _;go_simp;try with_reducible rfl)
         rotate_right
         try simp only [Act.put,List.setIfInBounds_toArray,List.set_cons_zero,List.set_cons_succ]
         refine Yab 2 (some 128) (v:=?_) rfl rfl (by kernel_rfl) (by kernel_rfl) (by kernel_rfl) (fun _ _ _ h=> h) hH (Or.inl ⟨by kernel_rfl,?_⟩) ?_
         rotate_left
         ·(intro x _;go_simp;try with_reducible rfl)
         rotate_right
         try simp only [Act.put,List.setIfInBounds_toArray,List.set_cons_zero,List.set_cons_succ]
         refine Yab 3 (some 129) (v:=.int .i64 4) rfl rfl (by kernel_rfl) (by kernel_rfl) (by kernel_rfl) (fun _ _ _ h=> h) hH (Or.inl ⟨by kernel_rfl,?_⟩) ?_
         ·(intro x hx;have c0:=(show _ from hx);go_simp)
         try simp only [Act.put,List.setIfInBounds_toArray,List.set_cons_zero,List.set_cons_succ]
         refine Yab 5 (some 131) (v:=?_) rfl rfl (by kernel_rfl) (by kernel_rfl) (by kernel_rfl) (fun _ _ _ h=> h) hH (Or.inl ⟨by kernel_rfl,?_⟩) ?_
         rotate_left
         ·(intro x _;go_simp;try with_reducible rfl)
         rotate_right
         try simp only [Act.put,List.setIfInBounds_toArray,List.set_cons_zero,List.set_cons_succ]
         refine Yab 6 (some 132) (v:=?_) rfl rfl (by kernel_rfl) (by kernel_rfl) (by kernel_rfl) (fun _ _ _ h=> h) hH (Or.inl ⟨by kernel_rfl,?_⟩) ?_
         rotate_left
         ·(intro x _;go_simp;try with_reducible rfl)
         rotate_right
         try simp only [Act.put,List.setIfInBounds_toArray,List.set_cons_zero,List.set_cons_succ]
         refine Yab 7 (some 133) (v:=.int .i64 ((cd:Int) / (B:Int))) rfl rfl (by kernel_rfl) (by kernel_rfl) (by kernel_rfl) (fun _ _ _ h=> h) hH (Or.inl ⟨by kernel_rfl,?_⟩) ?_
         ·(intro x _;go_simp;omega)
         try simp only [Act.put,List.setIfInBounds_toArray,List.set_cons_zero,List.set_cons_succ]
         refine Yab 8 (some 134) (v:=.int .i64 ((cd:Int) / (B:Int)%2)) rfl rfl (by kernel_rfl) (by kernel_rfl) (by kernel_rfl) (fun _ _ _ h=> h) hH (Or.inl ⟨by kernel_rfl,?_⟩) ?_
         ·(intro x _;go_simp)
         try simp only [Act.put,List.setIfInBounds_toArray,List.set_cons_zero,List.set_cons_succ]
         refine Yab 9 (some 135) (v:=.bool cdb) rfl rfl (by kernel_rfl) (by kernel_rfl) (by kernel_rfl) (fun _ _ _ h=> h) hH (Or.inl ⟨by kernel_rfl,?_⟩) ?_
         ·(intro x _;go_simp)
         try simp only [Act.put,List.setIfInBounds_toArray,List.set_cons_zero,List.set_cons_succ]
         refine wpAnyH_ready (rs:=[4]) (by kernel_rfl) (by simp) ?_
         refine AllReadyH.cons rfl (fun K hK=> ?_) AllReadyH.nil
         go_simp
         go_wp2_with fail
         refine (pi _).mono ?_
         rintro e w8 ⟨rfl,rfl⟩
         refine hK.out _ _ (HKC.out _ ATD) (fun hH2=> ?_)
         clear hK K hH
         have hH:=hH2
         clear hH2
         try simp only [Act.put,List.setIfInBounds_toArray,List.set_cons_zero,List.set_cons_succ]
         refine wpAnyH_ready (rs:=[10]) (by kernel_rfl) (by simp) ?_
         refine AllReadyH.cons rfl (fun K hK=> ?_) AllReadyH.nil
         go_simp
         go_wp2_with fail
         refine cb.mono ?_
         rintro e w9 ⟨d1,L1,f1,t1,m,qa,cap,heq,rfl,hm9,hev,hfr,hb9⟩
         simp only [Prod.mk.injEq] at heq
         obtain ⟨rfl,rfl,rfl,rfl⟩:=heq
         have HM:=Lib.hid hm9
         have AT3:=ATD.move hb9
         clear hm9 cb
         refine hK.out _ _ (HKC.out _ AT3) (fun hH2=> ?_)
         clear hK K hH
         have hH:=hH2
         clear hH2
         try simp only [Act.put,List.setIfInBounds_toArray,List.set_cons_zero,List.set_cons_succ]
         refine Yab 11 (some 125) (v:=?_) rfl rfl (by kernel_rfl) (by kernel_rfl) (by kernel_rfl) (fun _ _ _ h=> h) hH (Or.inl ⟨by kernel_rfl,?_⟩) ?_
         rotate_left
         ·(intro x _;go_simp;try with_reducible rfl)
         rotate_right
         try simp only [Act.put,List.setIfInBounds_toArray,List.set_cons_zero,List.set_cons_succ]
         refine Yab 12 (some 137) (v:=?_) rfl rfl (by kernel_rfl) (by kernel_rfl) (by kernel_rfl) (fun _ _ _ h=> h) hH (Or.inl ⟨by kernel_rfl,?_⟩) ?_
         rotate_left
         ·(intro x _;go_simp;try with_reducible rfl)
         rotate_right
         try simp only [Act.put,List.setIfInBounds_toArray,List.set_cons_zero,List.set_cons_succ]
         refine Yab 13 (some 138) (v:=?_) rfl rfl (by kernel_rfl) (by kernel_rfl) (by kernel_rfl) (fun _ _ _ h=> h) hH (Or.inl ⟨by kernel_rfl,?_⟩) ?_
         rotate_left
         ·(intro x _;go_simp;try with_reducible rfl)
         rotate_right
         try simp only [Act.put,List.setIfInBounds_toArray,List.set_cons_zero,List.set_cons_succ]
         refine Yab 14 (some 139) (v:=?_) rfl rfl (by kernel_rfl) (by kernel_rfl) (by kernel_rfl) (fun _ _ _ h=> h) hH (Or.inl ⟨by kernel_rfl,?_⟩) ?_
         rotate_left
         ·(intro x _;go_simp;try with_reducible rfl)
         rotate_right
         try simp only [Act.put,List.setIfInBounds_toArray,List.set_cons_zero,List.set_cons_succ]
         refine Yab 15 (some 140) (v:=?_) rfl rfl (by kernel_rfl) (by kernel_rfl) (by kernel_rfl) (fun _ _ _ h=> h) hH (Or.inl ⟨by kernel_rfl,?_⟩) ?_
         rotate_left
         ·(intro x _;go_simp;try with_reducible rfl)
         rotate_right
         try simp only [Act.put,List.setIfInBounds_toArray,List.set_cons_zero,List.set_cons_succ]
         refine Yab 16 (some 25) (v:=?_) rfl rfl (by kernel_rfl) (by kernel_rfl) (by kernel_rfl) (fun _ _ _ h=> h) hH (Or.inl ⟨by kernel_rfl,?_⟩) ?_
         rotate_left
         ·(intro x _;go_simp;try with_reducible rfl)
         rotate_right
         try simp only [Act.put,List.setIfInBounds_toArray,List.set_cons_zero,List.set_cons_succ]
         refine Yab 17 (some 26) (v:=?_) rfl rfl (by kernel_rfl) (by kernel_rfl) (by kernel_rfl) (fun _ _ _ h=> h) hH (Or.inl ⟨by kernel_rfl,?_⟩) ?_
         rotate_left
         ·(intro x _;go_simp;try with_reducible rfl)
         rotate_right
         try simp only [Act.put,List.setIfInBounds_toArray,List.set_cons_zero,List.set_cons_succ]
         refine Yab 18 (some 27) (v:=?_) rfl rfl (by kernel_rfl) (by kernel_rfl) (by kernel_rfl) (fun _ _ _ h=> h) hH (Or.inl ⟨by kernel_rfl,?_⟩) ?_
         rotate_left
         ·(intro x _;go_simp;try with_reducible rfl)
         rotate_right
         try simp only [Act.put,List.setIfInBounds_toArray,List.set_cons_zero,List.set_cons_succ]
         refine Yab 19 (some 28) (v:=?_) rfl rfl (by kernel_rfl) (by kernel_rfl) (by kernel_rfl) (fun _ _ _ h=> h) hH (Or.inl ⟨by kernel_rfl,?_⟩) ?_
         rotate_left
         ·(intro x _;go_simp;try with_reducible rfl)
         rotate_right
         try simp only [Act.put,List.setIfInBounds_toArray,List.set_cons_zero,List.set_cons_succ]
         refine wpAnyH_done (by kernel_rfl) ?_ _
         clear hH
         have HN9:=Lib.hid (And.intro AT3 (And.intro hev hfr))
         have hz9:=hb9.size
         have HB9:=Lib.hid hb9
         clear AT3 hev hfr hb9 qw qm qe
         by_cases hf5:f5=0
         ·subst hf5
          have AT6:=HN9.out.1
          have hev:=HN9.out.2.1
          have hfr:=HN9.out.2.2
          have hlt6:=AT6.lt
          have hsz:=HAT.out.1.lt
          have hm6:Yaw C C wr.drew w9:=Yaw.below HB9.out
          have e6:=Yaa (o:=6+i) AT6.cel (Ygz _ _ i hlt)
          have f6:=Yag (o:=6+i) AT6.cel
          have AT7:=AT6.set (6+i) (.int .i64 dv) (Ycy _ _ dv i hlt)
          rw [←HDV.out,Yeg] at AT7
          rw [HDV.out] at AT7
          have e7:=Yaa (o:=12+i) AT7.cel (Yfk _ _ i hlt)
          have f7:=Yag (o:=12+i) AT7.cel
          have AT8:=AT7.set (12+i) (.slice qa m cap) (Ycu _ _ _ i hlt)
          have hm8:Yaw C C w9 ((w9.setCell ⟨C,6+i,none⟩ (.int .i64 dv)).setCell ⟨C,12+i,none⟩ (.slice qa m cap)):=(Yaw.set (a:=C) (b:=C) (p:=⟨C,6+i,none⟩) _ (.inl rfl)).trans (Yaw.set (a:=C) (b:=C) (p:=⟨C,12+i,none⟩) _ (.inl rfl))
          have SL8:∀j,j<i+1→Yet ((w9.setCell ⟨C,6+i,none⟩ (.int .i64 dv)).setCell ⟨C,12+i,none⟩ (.slice qa m cap)) (C+1) (Yel sl i (.slice qa m cap) j) (D.ev j):=by
           intro j hj
           unfold Yel
           by_cases e:j=i
           ·rw [if_pos e,e,HEV.out]
            exact (show Yet w9 (C+1) _ _ from ⟨qa,cap,by rw [HM.out],hev,hfr.mono (show C+1≤wr.heap.size by omega)⟩).moved hm8 (by omega) (by omega)
           ·rw [if_neg e]
            exact (((HAT.out.2.1 j (by omega)).below ((Below.refl wr.heap.size wr).drew)).moved hm6 (by omega) (by omega)).moved hm8 (by omega) (by omega)
          have NL8:∀j,i+1≤j→Yel sl i (.slice qa m cap) j = .slice none 0 0:=fun j hj=> (if_neg (by omega)).trans (HAT.out.2.2 j (by omega))
          have N8:=Lib.hid (And.intro AT8 (And.intro SL8 NL8))
          rw [HAT.out.2.2 i (Nat.le_refl i)] at e7
          have qb:((B:Int)).tdiv 2=((B / 2:Nat):Int):=by rw [Int.tdiv_eq_ediv_of_nonneg (by omega)];simp
          clear AT6 AT7 AT8 hm8 hm6 SL8 NL8 hev hfr
          go_wp2
          go_roundw
          case rel=> exact ⟨i+1,t2,by omega,by omega,rfl,by rw [←HB2.out];go_num,by go_num,_,HNX,N8⟩
          case measure=> simp [intOf];omega
         ·have g5:(f5 != 0)=true:=by simpa using hf5
          have F:=Lib.hid (HCF.out (i+1) t2 f5 (by omega) HNX.out hf5)
          have AT6:=HN9.out.1
          clear hf5
          have hre:=AT6.res
          have hlt9:=AT6.lt
          have hbe:=AT6.below
          have HBE:=Lib.hid hbe
          clear hbe
          go_wp2_with (with_reducible refine Yae rfl 50 _ _ rfl (A+1) Y Y rfl rfl 50 hre HSY rfl HOY ?_;intro w5 hh5 hg5)
          refine bodyPost_ret (Yaf rfl _ _ (A+1) 50 _ (0,0) _ rfl hh5 Tryz.underlying50 rfl HSY) rfl ?_
          exact HWR.out f5 _ _ F.out HBE.out ((Yas hg5 (by omega)).mono (by omega))
        ·obtain rfl:i=6:=by omega
         have t0:decide ((6:Int)<6)=false:=by simp
         have hc6:=hat.out.1.cel
         rw [Yfd] at hc6
         have hl6:=hat.out.1.lt
         have hr6:=hat.out.1.res
         have one6:=Ycn D sl fun j hj=> (hat.out.2.1 j hj).one
         have siz6:=Ybx D sl
         have syz6:Y.size=(Ya5 D sl).toArray.size:=by rw [←HY.out];rfl
         obtain ⟨V,hV⟩:∃V,(Ya5 D sl).toArray=V:=⟨_,rfl⟩
         rw [hV] at hc6 one6 siz6 syz6
         have HV:=Lib.hid hV
         have hall:Yny inter S x y (p,0)=(D,t,0):=HALL.out.trans (Prod.ext rfl hst.out)
         have HRT:=Lib.hid (Yfp hall)
         have HAB:=Lib.hid (show w.heap.size≤C+1 by have:=HA.out;omega)
         clear hV hall
         go_wp2_with (first | (with_reducible refine wpList_load_row rfl 50 _ rfl C rfl 50 V (0,0) _ hc6 Tryz.underlying50 rfl siz6 ?_) | (with_reducible refine Yae rfl 50 _ _ rfl (A+1) V Y rfl rfl 50 hr6 siz6 syz6 one6 ?_;intro w5 hh5 hg5))
         have hb5:=Yas hg5 (by omega)
         refine bodyPost_ret (Yaf rfl _ _ (A+1) 50 _ (0,0) _ rfl hh5 Tryz.underlying50 rfl siz6) rfl ?_
         exact ⟨D,t,0,sl,HRT.out,by rw [HV.out];rfl,fun j hj=> ((hat.out.2.1 j hj).moved (Yaw.grown hg5 (.inl rfl):Yaw (A+1) (A+1) _ _) (by omega) (by omega)).from HAB.out,HA.out▸hat.out.1.below.trans (hb5.mono (by omega))⟩
     ·have g3:(f3 != 0)=true:=by simpa using hf3
      have F:=Lib.hid (Ycq 0 HBEG.out (by omega) (Yd6 (x:=x) (y:=y) HBEG.out (Yfl HBEG.out HST2.out HSTP.out) (Yfg hf3)) hf3)
      clear hf3
      go_wp2_with fail
      refine cs.mono ?_
      rintro e w4 ⟨rfl,hb4⟩
      have AT4:=AT3.move hb4
      clear cs hb4 AT3 d2
      have hre:=AT4.res
      have hlt9:=AT4.lt
      have hbe:=AT4.below
      have HBE:=Lib.hid hbe
      clear hbe
      go_wp2_with (with_reducible refine Yae rfl 50 _ _ rfl (A+1) Y Y rfl rfl 50 hre HSY rfl HOY ?_;intro w5 hh5 hg5)
      refine bodyPost_ret (Yaf rfl _ _ (A+1) 50 _ (0,0) _ rfl hh5 Tryz.underlying50 rfl HSY) rfl ?_
      exact HWR.out f3 _ _ F.out HBE.out ((Yas hg5 (by omega)).mono (by omega))
    ·have g0:(f2 != 0)=true:=by simpa using hf2
     have F:=Lib.hid (Ycq 0 HBEG.out (by omega) (Yd6 (x:=x) (y:=y) HBEG.out (Yfl HBEG.out HST2.out (Yhy hf2)) (Yfg hf2)) hf2)
     clear hf2
     go_wp2_with (with_reducible refine Yaj rfl 50 _ _ rfl Z Y 50 rfl rfl HSZ HYZ HONE ?_;rw [HW2.out,HC.out])
     refine (pi _).mono ?_
     rintro e w9 ⟨rfl,rfl⟩
     go_wp2_with fail
     refine cp.mono ?_
     rintro e w3 ⟨rfl,hb3⟩
     have AT3:=HAT.out.move hb3
     clear cp hb3 HAT hcel hres c1 c2 HSZ HYZ HONE hC2
     have hre:=AT3.res
     have hlt9:=AT3.lt
     have hbe:=AT3.below
     have HBE:=Lib.hid hbe
     clear hbe
     go_wp2_with (with_reducible refine Yae rfl 50 _ _ rfl (A+1) Y Y rfl rfl 50 hre HSY rfl HOY ?_;intro w5 hh5 hg5)
     refine bodyPost_ret (Yaf rfl _ _ (A+1) 50 _ (0,0) _ rfl hh5 Tryz.underlying50 rfl HSY) rfl ?_
     exact HWR.out f2 _ _ F.out HBE.out ((Yas hg5 (by omega)).mono (by omega))
end Go.Proofs.YtpgdngijmihafaaGreatDoor