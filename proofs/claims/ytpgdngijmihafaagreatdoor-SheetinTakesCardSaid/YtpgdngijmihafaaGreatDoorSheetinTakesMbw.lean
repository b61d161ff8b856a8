/- Texts that SheetinTakes's proof stands on, part 49 of 52. No condition of its own. -/
import Derived.Test.YtpgdngijmihafaaGreatDoorSheetinTakesMl
import Derived.Test.YtpgdngijmihafaaGreatDoorSheetinTakesMp
import Derived.Test.YtpgdngijmihafaaGreatDoorSheetinTakesMy
import Derived.Test.YtpgdngijmihafaaGreatDoorSheetinTakesMba
import Derived.Test.YtpgdngijmihafaaGreatDoorSheetinTakesMbb
import Derived.Test.YtpgdngijmihafaaGreatDoorSheetinTakesMbd
import Derived.Test.YtpgdngijmihafaaGreatDoorSheetinTakesMbe
import Derived.Test.YtpgdngijmihafaaGreatDoorSheetinTakesMbt
import Derived.Test.YtpgdngijmihafaaGreatDoorSheetinTakesMbu
import Derived.Deep.CutRange
import Derived.Deep.DeepCutAuto
namespace Go.Proofs.YtpgdngijmihafaaGreatDoor
open Go.RowKit Go.Lib
def Yxv (r:Cel×Nat×Int) (m:Nat) (w:World) (e:Ending) (w':World):Prop:=
 ∃sl:Nat→Value,e = .returned (.tuple #[.agg (Ya5 r.1 sl).toArray,.int .i64 (r.2.1:Int),.int .i64 r.2.2])∧(∀i,i<6→∃P cap,sl i = .slice P (r.1.ev i).length cap∧Yea w' P (r.1.ev i)∧Yc3 w.heap.size P)∧Below w.heap.size w w'∧
  (r.2.2=0→r.2.1≤m∧((Lit.int .i64 r.1.mx).wf=true∧(Lit.int .i64 r.1.my).wf=true)∧∀i,i<6→(r.1.ev i).length≤1048576)
def Yqr (ct:CelT) (s:ByteArray):Prop:=∀(inter:Bool) (p:Nat) (x y:Int) (w:World),p≤8*s.size→
 Calls Tryz.prog 20 #[.string ⟨(Yac s.data.toList).toArray⟩,.int .i64 (p:Int),.bool inter,.agg #[.int .i64 x,.int .i64 y]] w (Yxv (ct inter (Yac s.data.toList) x y p) (8*s.size) w)
def Y8w (ct:CelT) (l:List UInt8) (p:Nat) (w:World) (e:Ending) (w':World):Prop:=
 ∃vs,e = .returned (.tuple #[.agg vs.toArray,.int .i64 ((wtk ct l p).2.1:Int),.int .i64 (wtk ct l p).2.2])∧ShV w' (wtk ct l p).1 vs∧Below w.heap.size w w'
theorem Yhc {ct:CelT} {l:List UInt8} {p:Nat} {w w':World} {f:Int} {Y:Array Value} (hY:#[.int .i64 0,.int .i64 0,.int .i64 0,.bool false,.int .i64 0,.slice none 0 0,.slice none 0 0,.int .i64 0]=Y) (h:wtk ct l p=(Ywq,p,f)) (hb:Below w.heap.size w w'):Y8w ct l p w (.returned (.tuple #[.agg Y,.int .i64 (p:Int),.int .i64 f])) w':=by
 refine ⟨Ya8 Yl8 (.slice none 0 0) (.slice none 0 0) 0,?_,?_,hb⟩
 ·rw [h,←hY];rfl
 ·rw [h]
  exact ⟨none,none,0,0,rfl,Nat.zero_le _,Nat.zero_le _,Ycf.nil _ _,.inl rfl⟩
def Y12:List Value:=[.int .i64 0,.int .i64 0,.int .i64 0,.bool false,.int .i64 0,.slice none 0 0,.slice none 0 0,.int .i64 0]
section
variable {L:List (Option Nat)} {w:World} {A:Nat}
theorem Yjy.more {p:Option Addr} {l:List Ev} (h:Yjy L w p l) (hA:w.heap[A]? = some (.cells Y12.toArray 30 (0,0))):Yjy (some A::L) w p l:=by
 obtain ⟨h1,h2⟩:=h
 refine ⟨h1,?_⟩
 rcases h2 with h2 | ⟨b,o,rfl,hb⟩
 ·exact .inl h2
 ·rcases h1 with h1 | ⟨b',o',e,hlt,hc⟩
  ·exact .inl (by first | exact h1 | exact List.eq_nil_of_length_eq_zero h1)
  ·injection e with e
   injection e with e1 e2
   subst e1 e2
   by_cases hl:l = []
   ·exact .inl hl
   refine .inr ⟨b,o,rfl,fun hm=> ?_⟩
   rcases List.mem_cons.1 hm with e | e
   ·injection e with e
    subst e
    obtain ⟨a0,-,a2⟩:=hc 0 (List.length_pos_iff.2 hl)
    rw [Nat.zero_mul,Nat.add_zero] at a0 a2
    have k:∀j v,w.cell? ⟨b,j,none⟩=some v→Y12[j]? = some v:=fun j v hv=> by
     rcases Nat.lt_or_ge j 8 with h8 | h8
     ·have h9:Y12[j]? = some (Y12[j]'h8):=List.getElem?_eq_getElem h8
      have:=Yaa hA h9
      rw [this] at hv
      injection hv with hv
      rw [h9,hv]
     ·exfalso
      have:w.cell? ⟨b,j,none⟩=none:=by
       unfold World.cell?
       rw [hA]
       simp [Y12]
       omega
      rw [this] at hv
      cases hv
    have k0:=k _ _ a0
    have k2:=k _ _ a2
    rcases Nat.lt_or_ge o 8 with h8 | h8
    ·match o,h8 with
     | 0,_ | 1,_ | 2,_ | 4,_ | 5,_ | 6,_ | 7,_=> cases k0
     | 3,_=> cases k2
    ·rw [List.getElem?_eq_none (by show 8≤o;exact h8)] at k0
     cases k0
   ·exact hb e
theorem Yha.more {c:Cel} {vs:List Value} (h:Yha L w c vs) (hA:w.heap[A]? = some (.cells Y12.toArray 30 (0,0))):Yha (some A::L) w c vs:=by
 obtain ⟨p,cap,h1,h2,h3⟩:=h
 exact ⟨p,cap,h1,h2,fun i hi=> ⟨(h3 i hi).1,(h3 i hi).2.more hA⟩⟩
theorem Yhe.more {r:RowP} {vs:List Value} (h:Yhe L w r vs) (hA:w.heap[A]? = some (.cells Y12.toArray 30 (0,0))):Yhe (some A::L) w r vs:=by
 obtain ⟨sl,h1,h2,h3,h4⟩:=h
 refine ⟨sl,h1,Yc6.mono h2 fun _ _ hc=> hc.more hA,h3,fun k hk hm=> ?_⟩
 rcases List.mem_cons.1 hm with e | e
 ·injection e with e
  subst e
  obtain ⟨cur,hh⟩:=Yc6.typed h2 _ hk
  rw [hA] at hh
  injection hh with hh
  injection hh with _ hh _
  exact absurd hh (by decide)
 ·exact h4 k hk e
theorem Yek.more {v:Value} {l:List RowP} (h:Yek L w v l) (hA:w.heap[A]? = some (.cells Y12.toArray 30 (0,0))):Yek (some A::L) w v l∧∀k,v.ownBlock=some k→k≠A:=by
 refine ⟨Yc6.mono h fun _ _ hc=> hc.more hA,fun k hk e=> ?_⟩
 subst e
 obtain ⟨cur,hh⟩:=Yc6.typed h _ hk
 rw [hA] at hh
 injection hh with hh
 injection hh with _ hh _
 exact absurd hh (by decide)
end
theorem Y3y:∃Y:Array Value,Y12.toArray=Y∧Y.size=8∧∀w,(zeroValue 30).run Tryz.prog w = .ok (.agg Y) w:=⟨Y12.toArray,rfl,rfl,Yge (by kernel_rfl)⟩
set_option maxRecDepth 100000 in
set_option maxHeartbeats 16000000 in
theorem Yve (ct:CelT) (s:ByteArray) (hct:Yqr ct s) (p:Nat) (hp:p≤8*s.size) (hs:s.size≤100000) (w:World):
  Calls Tryz.prog 9 #[.string ⟨(Yac s.data.toList).toArray⟩,.int .i64 (p:Int)] w (Y8w ct s.data.toList p w):=by
 have hsl:s.data.toList.length=s.size:=rfl
 have hsz:=Ye3 s
 have hbit:=Ypx s
 have c24:=fun w=> Yvw s p hp hs w
 have c4:=fun (q:Int) w=> Yph s q (by omega) w
 have c23:=fun (q:Nat) (n:Int) hq w=> Yys s q n hq (by omega) w
 have cZ:=fun (q:Nat) hq h8 w=> Yvm s q hq h8 (by omega) w
 unfold Yqr at hct
 obtain ⟨l,hl⟩:∃l,s.data.toList=l:=⟨_,rfl⟩
 simp only [hl] at hsl hsz hbit c24 c4 c23 cZ hct ⊢
 obtain ⟨S,hS⟩:∃S:ByteArray,(⟨(Yac l).toArray⟩:ByteArray)=S:=⟨_,rfl⟩
 simp only [hS] at hsz c24 c4 c23 cZ hct ⊢
 have BT:Hid (∀i (h:i<S.size),(Yac l)[i]? = some S[i]):=Lib.hid (by subst hS;exact hbit)
 have HSS:=Lib.hid hsz
 have HSL:=Lib.hid hsl
 have C4:=Lib.hid c4
 have C23:=Lib.hid c23
 have CZ:=Lib.hid cZ
 have C21:=Lib.hid hct
 obtain ⟨Y,HYE,HYS,hzs⟩:=Y3y
 have HYQ:=Lib.hid HYE
 clear HYE
 obtain ⟨Y4,HY4,hz4⟩:=Y4x
 have hzr:=Yhz
 obtain ⟨Y0,hY0⟩:∃Z:Array Value,#[.int .i64 0,.int .i64 0,.int .i64 0,.bool false,.int .i64 0,.slice none 0 0,.slice none 0 0,.int .i64 0]=Z:=⟨_,rfl⟩
 have HSY0:(Tryz.prog.info? 30).map (·.size)=some Y0.size:=by rw [←hY0];kernel_rfl
 have HYY0:Y.size=Y0.size:=by rw [HYS,←hY0];rfl
 have HOY0:Y0.all (·.oneCell')=true:=by rw [←hY0];simp [Value.oneCell']
 have HY0:=Lib.hid hY0
 obtain ⟨A,hA⟩:∃A,w.heap.size=A:=⟨_,rfl⟩
 obtain ⟨wA,hwA⟩:∃wA,w.alloc (.cells Y 30 (0,0))=wA:=⟨_,rfl⟩
 have hhA:wA.heap[A]? = some (.cells Y 30 (0,0)):=by rw [←hwA,←hA];exact heap_alloc_new w _
 have hbA:Below w.heap.size w wA:=by rw [←hwA];exact (Below.refl _ w).alloc (Nat.le_refl _) _
 have hsA:wA.heap.size=A+1:=by rw [←hwA,←hA];simp
 have HWA:=Lib.hid hwA
 have HA:=Lib.hid hA
 unfold Y9x at c24
 obtain ⟨⟨hd,z0,f⟩,hk⟩:∃r,shk l p=r:=⟨_,rfl⟩
 rw [hk] at c24
 dsimp only at c24
 have HK:=Lib.hid hk
 clear hl hS hbit hsz hsl c4 c23 cZ hct hY0 hA hwA hk hp
 go_enter Tryz.func9,Tryz.ntmps9
 go_wp2_with fail
 rw [HWA.out,HA.out]
 refine (c24 wA).mono ?_
 rintro e w1 ⟨a,ca,rfl,hsup,hb1,hfa⟩
 have HFA:Hid (∀x,a=some x→A<x.block):=Lib.hid fun x hx=> by have:=hfa x hx;rw [hsA] at this;exact this
 clear hfa
 have hb1':Below w.heap.size w w1:=hbA.trans (hb1.mono (by have:=HA.out;omega))
 have hh1:=(hb1.block A (by omega)).trans hhA
 have hz1:A+1≤w1.heap.size:=by have:=hb1.size;omega
 clear c24 hbA hhA hsA hb1
 obtain ⟨X,hX⟩:∃X,w1.heap.size=X:=⟨_,rfl⟩
 obtain ⟨zs,hzl⟩:∃zs,Ya8 hd (.slice a hd.supp.length ca) (.slice none 0 0) 0=zs:=⟨_,rfl⟩
 obtain ⟨w2,hw2⟩:∃w2,w1.alloc (.cells zs.toArray 30 (0,0))=w2:=⟨_,rfl⟩
 have hb2:Below w1.heap.size w1 w2:=by rw [←hw2];exact (Below.refl _ w1).alloc (Nat.le_refl _) _
 have hs2:w2.heap.size=X+1:=by rw [←hw2,←hX];simp
 have hX2:w2.heap[X]? = some (.cells zs.toArray 30 (0,0)):=by rw [←hw2,←hX];exact heap_alloc_new w1 _
 have hA2:=(hb2.block A (by omega)).trans hh1
 have hlow2:Below w.heap.size w w2:=hb1'.trans (hb2.mono hb1'.size)
 have zf:zs[2]? = some (.int .i64 hd.fmt):=by rw [←hzl];rfl
 have HSX:(Tryz.prog.info? 30).map (·.size)=some zs.toArray.size:=by rw [show zs.toArray.size=8 by rw [←hzl];rfl];kernel_rfl
 have HYX:Y.size=zs.toArray.size:=by rw [HYS,←hzl];rfl
 have HOX:zs.toArray.all (·.oneCell')=true:=by rw [←hzl];exact Ydv ..
 have HX:=Lib.hid hX
 have HW2:=Lib.hid hw2
 have HZL:=Lib.hid hzl
 rw [hzl]
 clear hw2 hzl hb1' hX
 by_cases hf:f=0
 case neg=>
  have tf:(f != 0)=true:=by rw [bne_iff_ne];exact hf
  have FA:=Lib.hid (Yyb (ct:=ct) HK.out hf)
  clear hf
  go_wp2_with (first | (with_reducible refine Yaj rfl 30 _ _ rfl zs.toArray Y 30 rfl rfl HSX HYX HOX ?_;rw [HW2.out,HX.out]) | (with_reducible refine wpList_buildTo rfl 30 _ rfl (some 35) rfl #[.int .i64 0,.int .i64 0,.int .i64 0,.bool false,.int .i64 0,.slice none 0 0,.slice none 0 0,.int .i64 0] (by kernel_rfl) ?_;rw [HY0.out]) | (with_reducible refine Yae rfl 30 _ _ rfl A Y0 Y rfl rfl 30 hA2 HSY0 HYY0 HOY0 ?_;intro wz hhz hgz))
  refine bodyPost_ret (Yaf rfl _ _ A 30 _ (0,0) _ rfl hhz Tryz.underlying30 rfl HSY0) rfl ?_
  exact Yhc HY0.out FA.out (hlow2.grown hgz hlow2.size fun k hk=> by injection hk with hk;have:=HA.out;omega)
 subst hf
 have tf:((0:Int) != 0)=false:=rfl
 have c16:=fun w=> Yh2 hd.fmt w
 have cac:=fun w=> Ynb hd.fmt w
 unfold Y8m at c16
 have kf:=Yaa hX2 zf
 go_wp2_with (with_reducible refine Yaj rfl 30 _ _ rfl zs.toArray Y 30 rfl rfl HSX HYX HOX ?_;rw [HW2.out,HX.out])
 refine (c16 w2).mono ?_
 rintro e w3 ⟨rfl,hb3⟩
 have hX:=HX.out
 obtain ⟨SZ,hSZ⟩:∃SZ,[Value.int .i64 (Yix hd.fmt),.int .i64 (Yjx hd.fmt),.int .i64 (Yfo hd.fmt),.int .i64 (Yf6 hd.fmt)]=SZ:=⟨_,rfl⟩
 have sz2:SZ[2]? = some (.int .i64 (Yfo hd.fmt)):=by rw [←hSZ];rfl
 have sz3:SZ[3]? = some (.int .i64 (Yf6 hd.fmt)):=by rw [←hSZ];rfl
 have HSZ4:(Tryz.prog.info? 52).map (·.size)=some SZ.toArray.size:=by rw [show SZ.toArray.size=4 by rw [←hSZ];rfl];kernel_rfl
 have HYZ4:Y4.size=SZ.toArray.size:=by rw [HY4,←hSZ];rfl
 have HOZ4:SZ.toArray.all (·.oneCell')=true:=by rw [←hSZ];simp [Value.oneCell']
 rw [show (#[Value.int .i64 (Yix hd.fmt),.int .i64 (Yjx hd.fmt),.int .i64 (Yfo hd.fmt),.int .i64 (Yf6 hd.fmt)]:Array Value)=SZ.toArray by rw [←hSZ]]
 obtain ⟨Z,hZ⟩:∃Z,w3.heap.size=Z:=⟨_,rfl⟩
 obtain ⟨w4,hw4⟩:∃w4,w3.alloc (.cells SZ.toArray 52 (0,0))=w4:=⟨_,rfl⟩
 have hb4:Below w3.heap.size w3 w4:=by rw [←hw4];exact (Below.refl _ w3).alloc (Nat.le_refl _) _
 have hb24:Below w2.heap.size w2 w4:=hb3.trans (hb4.mono hb3.size)
 have hZ4:w4.heap[Z]? = some (.cells SZ.toArray 52 (0,0)):=by rw [←hw4,←hZ];exact heap_alloc_new w3 _
 have hs4:w4.heap.size=Z+1:=by rw [←hw4,←hZ];simp
 have hZX:X+1≤Z:=by have:=hb3.size;omega
 have hX4:=(hb24.block X (by omega)).trans hX2
 have kf4:=Yaa hX4 zf
 have hsi4:Ylb w w4 A X Z Y SZ.toArray hd a ca (.slice none 0 0) (.slice none 0 0) [] [] [some X]:={
  low:=hlow2.trans (hb24.mono hlow2.size)
  res:=(hb24.block A (by omega)).trans hA2
  sht:=by rw [HZL.out];exact hX4
  siz:=hZ4
  sup:=by
   refine ⟨(hsup.below hb2).below hb24,?_⟩
   rcases hsup with h | ⟨b,o,e,hlt,_⟩
   ·exact .inl (List.eq_nil_of_length_eq_zero h)
   ·refine .inr ⟨b,o,e,fun hm=> ?_⟩
    have e2:=List.mem_singleton.1 hm
    injection e2 with e2
    omega
  row:=Yek.nil _ _
  vec:=World.ownsRow_nil ..
  ord:=by have:=HA.out;omega
  inX:=List.mem_singleton.2 rfl
  inR:=fun k hk=> by cases hk
  inV:=fun k hk=> by cases hk
  ne:=fun k hk=> by cases hk
  off:=fun k hk=> by
   have e:=List.mem_singleton.1 hk
   injection e with e
   have:=HA.out
   omega}
 have HW4:=Lib.hid hw4
 have HZ:=Lib.hid hZ
 clear hsup hb3 hb4 hw4 hZ hSZ hX2 hA2 hlow2 hb2 hs2 hb24 hh1 hz1 kf
 go_wp2_with (with_reducible refine Yaj rfl 52 _ _ rfl SZ.toArray Y4 52 rfl rfl HSZ4 HYZ4 HOZ4 ?_;rw [HW4.out,HZ.out])
 refine (cac w4).mono ?_
 rintro e w5 ⟨rfl,hb5⟩
 have hsi5:=hsi4.move hb5
 have hlb5:∀k,some k∈[some X]→k<w5.heap.size:=fun k hk=> by
  have e:=List.mem_singleton.1 hk
  injection e with e
  have:=hsi5.ord
  omega
 have hz0:z0≤8*s.size:=by
  have h:=(Ylg HK.out).2.2.2.1
  rwa [Yah,HSL.out] at h
 clear hsi4 hb5 hX4 hZ4 hs4 kf4 hZX hX c16 cac
 obtain ⟨nr,hnr⟩:∃n:Nat,(Yfo hd.fmt).toNat=n:=⟨_,rfl⟩
 obtain ⟨B0,B1,B2,B3,B4⟩:=Ylv hd.fmt
 have hRn:Yfo hd.fmt=(nr:Int):=by omega
 obtain ⟨E,hE⟩:∃E,Ygu ct l hd.inter hd.fmt nr 0 z0 [] 0=E:=⟨_,rfl⟩
 have HE:=Lib.hid hE
 have T0:Hid (Ybo E [] (Ygu ct l hd.inter hd.fmt nr 0 z0 [] 0)):=Lib.hid (by rw [hE];exact Ybo.start E)
 have HN:=Lib.hid hnr
 have HLZ:=Lib.hid hzr
 obtain ⟨fl,hfl⟩:∃fl,Yf6 hd.fmt=fl:=⟨_,rfl⟩
 obtain ⟨fr,hfr⟩:∃fr,Yfo hd.fmt=fr:=⟨_,rfl⟩
 have HFL:=Lib.hid hfl
 have HFR:=Lib.hid hfr
 rw [hfl] at B2 B3 sz3
 rw [hfr] at B0 B1 hRn sz2
 clear hE hnr hfl hfr hzr
 subst hRn
 go_wp2
 go_loopw [8,10,11,14] (fun t v f iv wr=>∃(q i:Nat) (fs:Int) (rs:List RowP) (rv:Value) (vs:List (Int×Int)) (L:List (Option Nat)),t = .int .i64 (q:Int)∧f = .int .i64 fs∧iv = .int .i64 (i:Int)∧i≤nr∧q≤8*s.size∧Ylb w wr A X Z Y SZ.toArray hd a ca rv v rs vs L∧(∀k,some k∈L→k<wr.heap.size)∧rs.length=i∧vs.length≤i*10000∧(0≤fs∧fs≤10000)∧Hid (Ybo E rs (Ygu ct l hd.inter hd.fmt (nr-i) i q vs fs))) (fun _ _ _ i _=> nr-(intOf i).toNat)
 case atStart=> exact ⟨z0,0,0,[],_,[],_,rfl,rfl,rfl,Nat.zero_le _,hz0,hsi5,hlb5,rfl,Nat.zero_le _,by omega,T0⟩
 case round=>
  clear hsi5 hlb5 T0 hz0
  obtain ⟨q,i,fs,rs,rv,vs,L,rfl,rfl,rfl,hin,hq,hsi,hlb,hrl,hvl,hfs,hT⟩:=hrel
  have k2:=Yaa hsi.siz sz2
  have k3:=Yaa hsi.siz sz3
  by_cases hlt:i<nr
  ·have t1:decide ((i:Int)<(nr:Int))=true:=by simp;omega
   have hbe:=hsi.begins hlb
   obtain ⟨R,hR⟩:∃R,wr.heap.size=R:=⟨_,rfl⟩
   obtain ⟨wB,hwB⟩:∃wB,wr.alloc (.cells [.bool false,.int .i64 0,.int .i64 0,.slice none 0 0].toArray 44 (0,0))=wB:=⟨_,rfl⟩
   rw [hR,hwB] at hbe
   have HR:=Lib.hid hR
   have HWB:=Lib.hid hwB
   have HSI:=Lib.hid hsi
   have HLB:=Lib.hid hlb
   have cN:=C4.out (q:Int)
   have hzr:=HLZ.out
   have hrl':=Lib.hid hrl
   have hvl':=Lib.hid hvl
   obtain ⟨⟨m,g⟩,hm⟩:∃r,Ya4 l (q:Int)=r:=⟨_,rfl⟩
   rw [hm] at cN
   have HM:=Lib.hid hm
   have HIN:=Lib.hid hin
   clear hR hwB hsi hlb hrl hvl hm hin
   go_wp2_with fail
   rw [HWB.out,HR.out]
   refine (cN wB).mono ?_
   rintro e u ⟨rfl,rfl⟩
   clear cN hzr
   have hIs:Y3e l i q=(decide (0<i)&&(g&&(m != 0&&m != 31))):=by unfold Y3e;rw [HM.out]
   go_upto_region 13 with fail
   go_cut [68] (fun v wx=> v = .bool (decide (0<i)&&(g&&(m != 0&&m != 31)))∧wx=wB)
   case first=>
    clear hIs hbe
    by_cases hi0:0<i
    ·have d0:decide (0<(i:Int))=true:=by simp;omega
     have d0':decide (0<i)=true:=by simp;omega
     have d00:((i:Int) > 0)=True:=by simp;omega
     cases g with
     | true=>
      by_cases hm0:m=0
      ·have d1:(m != 0)=false:=by simp [hm0]
       clear hm0 hi0
       go_wp2
       go_meet
       case rel=> exact ⟨by rw [d0',d1];rfl,by trivial⟩
      ·have d1:(m != 0)=true:=by simp [hm0]
       clear hm0 hi0
       by_cases hm1:m=31
       ·have d2:(m != 31)=false:=by simp [hm1]
        clear hm1
        go_wp2
        go_meet
        case rel=> exact ⟨by rw [d0',d1,d2];rfl,by trivial⟩
       ·have d2:(m != 31)=true:=by simp [hm1]
        clear hm1
        go_wp2
        go_meet
        case rel=> exact ⟨by rw [d0',d1,d2];rfl,by trivial⟩
     | false=>
      clear hi0
      go_wp2
      go_meet
      case rel=> exact ⟨by rw [d0'];rfl,by trivial⟩
    ·have d0:decide (0<(i:Int))=false:=by simp;omega
     have d0':decide (0<i)=false:=by simp;omega
     clear hi0
     go_wp2
     go_meet
     case rel=> exact ⟨by rw [d0'];rfl,by trivial⟩
   case rest=>
    obtain ⟨rfl,hwc⟩:=hcut
    rw [hwc]
    clear hwc
    rw [←hIs]
    clear hIs
    have hdz:∀id qu z,hdk l q i=(id,qu,z,0)→z≤8*s.size:=fun id qu z h=> by
     have h1:=(Yxl h).2.2.1
     rwa [Yah,HSL.out] at h1
    have HDZ:=Lib.hid hdz
    clear hdz
    go_upto_if 68 with fail
    go_cut [8,11] (fun t f wx=>∃(b:Bool) (id qu f2:Int) (q2:Nat),t = .int .i64 (q2:Int)∧f = .int .i64 f2∧q2≤8*s.size∧(0≤f2∧f2≤10000)∧Hid (Ygk l hd.fmt i q fs=(b,id,qu,q2,f2,0))∧Ys7 w wx A X Z Y SZ.toArray hd a ca rv u10 rs vs R b id qu (.slice none 0 0) [] L (some R::L))
    case first=>
     cases hh:Y3e l i q with
     | false=>
      have e1:Ygk l hd.fmt i q fs=(false,0,0,q,fs,0):=by unfold Ygk;rw [if_neg (by rw [hh];decide)]
      have HE1:=Lib.hid e1
      clear e1 hh
      go_wp2
      go_meet
      case rel=> exact ⟨false,0,0,fs,q,rfl,rfl,hq,hfs,HE1,hbe⟩
     | true=>
      obtain ⟨⟨id,qu,z,f⟩,hk⟩:∃r,hdk l q i=r:=⟨_,rfl⟩
      have e1:Ygk l hd.fmt i q fs=(true,id,qu,z,(i:Int)*Yf6 hd.fmt,f):=by unfold Ygk;rw [if_pos hh,hk]
      have c:=C23.out q i hq
      rw [hk] at c
      dsimp only at c
      rw [HFL.out] at e1
      have HE1:=Lib.hid e1
      have HK2:=Lib.hid hk
      clear e1 hh hk
      go_wp2_with fail
      refine (c wB).mono ?_
      rintro e u ⟨rfl,rfl⟩
      clear c
      by_cases hf:f=0
      case neg=>
       have tf2:(f != 0)=true:=by rw [bne_iff_ne];exact hf
       have hA2:=hbe.out.res
       have FA:Hid (wtk ct l p=(Ywq,p,f)):=Lib.hid (by
        have h1:=hT.out
        rw [show nr-i=(nr-i-1)+1 by omega] at h1
        have h2:=Yuc h1 HE1.out hf
        refine Yq0 HK.out ?_ hf
        rw [HN.out,HE.out]
        exact h2)
       have hlow:=hbe.out.low
       have hord:=hbe.out.ord
       clear hf
       go_wp2_with (first | (with_reducible refine wpList_buildTo rfl 30 _ rfl (some 80) rfl #[.int .i64 0,.int .i64 0,.int .i64 0,.bool false,.int .i64 0,.slice none 0 0,.slice none 0 0,.int .i64 0] (by kernel_rfl) ?_;rw [HY0.out]) | (with_reducible refine Yae rfl 30 _ _ rfl A Y0 Y ?x1 ?x2 30 hA2 HSY0 HYY0 HOY0 ?_;(case x1=> kernel_rfl);(case x2=> kernel_rfl);intro wz hhz hgz))
       refine bodyPost_ret (Yaf rfl _ _ A 30 _ (0,0) _ rfl hhz Tryz.underlying30 rfl HSY0) rfl ?_
       exact Yhc HY0.out FA.out (hlow.grown hgz hlow.size fun k hk=> by injection hk with hk;have:=HA.out;omega)
      subst hf
      have tf2:((0:Int) != 0)=false:=rfl
      have hz:=HDZ.out id qu z HK2.out
      have p1:0≤(i:Int)*fl:=Int.mul_nonneg (by omega) B2
      have p2:(i:Int)*fl≤100*100:=Int.mul_le_mul (by omega) B3 B2 (by omega)
      have wv:IntKind.i64.wrap ((i:Int)*fl)=(i:Int)*fl:=Yeh (by omega)
      obtain ⟨Yr,hYr⟩:∃Y:Array Value,#[.bool true,.int .i64 id,.int .i64 qu,.slice none 0 0]=Y:=⟨_,rfl⟩
      have r1:(Tryz.prog.info? 44).map (·.size)=some Yr.size:=by rw [←hYr];kernel_rfl
      have r2:([Value.bool false,.int .i64 0,.int .i64 0,.slice none 0 0]:List Value).toArray.size=Yr.size:=by rw [←hYr];rfl
      have r3:Yr.all (·.oneCell')=true:=by rw [←hYr];simp [Value.oneCell']
      have hRo:=hbe.rowc
      have HYr:=Lib.hid hYr
      clear hYr HDZ HK2
      go_wp2_with (first | (with_reducible refine wpList_buildTo rfl 44 _ rfl (some 85) rfl #[.bool true,.int .i64 id,.int .i64 qu,.slice none 0 0] (by kernel_rfl) ?_;rw [HYr.out]) | (with_reducible refine Yae rfl 44 _ _ rfl R Yr _ rfl rfl 44 hRo r1 r2 r3 ?_;intro wz hhz hgz;rw [←HYr.out] at hhz;have hbz:=hbe.head hhz hgz;have kz:=Yaa hbz.out.siz sz3))
      go_meet
      case rel=> exact ⟨true,id,qu,_,z,rfl,rfl,hz,⟨p1,by omega⟩,HE1,hbz⟩
    case rest=>
     obtain ⟨b,id,qu,f2,q2,rfl,rfl,hq2,hf2,HRH,hin2⟩:=hcut
     clear hbe HDZ hq hfs
     obtain ⟨N,hN⟩:∃N:Nat,(Ylo hd.fmt).toNat=N:=⟨_,rfl⟩
     obtain ⟨E2,hE2⟩:∃E2,Yct ct l hd.inter hd.fmt f2 N q2 vs=E2:=⟨_,rfl⟩
     have hNm:Ylo hd.fmt=(N:Int)∧N≤10000:=by have:=Ymo hd.fmt;have:=(Ypq hd.fmt).1;omega
     have wm:IntKind.i64.wrap ((acr hd.fmt:Int)*fl)=(N:Int):=by
      have h1:=Y8z hd.fmt
      rw [HFL.out] at h1
      rw [←h1,hNm.1]
      exact Yeh (by omega)
     have hN4:=hNm.2
     have HN2:=Lib.hid hN
     have HE2:=Lib.hid hE2
     have T2:Hid (Ybo E2 [] (Yct ct l hd.inter hd.fmt f2 N q2 vs)):=Lib.hid (by rw [hE2];exact Ybo.start E2)
     clear hN hE2 hNm
     have HBAD:Hid (∀f:Int,f≠0→E2.2.2=f→wtk ct l p=(Ywq,p,f)):=Lib.hid (fun f hf h2=> by
      have h1:=hT.out
      rw [show nr-i=(nr-i-1)+1 by omega] at h1
      have h3:=Ytq (cs:=E2.1) (q:=E2.2.1) (g:=f) h1 HRH.out (by rw [HN2.out,HE2.out,←h2]) hf
      refine Yq0 HK.out ?_ hf
      rw [HN.out,HE.out]
      exact h3)
     have hcs:([]:List Cel).length=0:=rfl
     go_wp2
     go_loopw [8,10,22] (fun t v jv wx=>∃(y j:Nat) (cs:List Cel) (cv:Value) (vz:List (Int×Int)) (L1 L2:List (Option Nat)),t = .int .i64 (y:Int)∧jv = .int .i64 (j:Int)∧j≤N∧y≤8*s.size∧Ys7 w wx A X Z Y SZ.toArray hd a ca rv v rs vz R b id qu cv cs L1 L2∧Hid (cs.length=j)∧Hid (vz=vs++Yf0 cs)∧Hid (vz.length=vs.length+j)∧Hid (Ybo E2 cs (Yct ct l hd.inter hd.fmt f2 (N-j) y vz))) (fun _ _ jv _=> N-(intOf jv).toNat)
     case atStart=> exact ⟨q2,0,[],_,vs,_,_,rfl,rfl,Nat.zero_le _,hq2,hin2,Lib.hid rfl,Lib.hid (by simp [Yf0]),Lib.hid rfl,T2⟩
     case round=>
      clear hin2 T2 hq2 hcs k2 k3 HSI HLB HWB HR HM HIN t1
      obtain ⟨y,j,cs,cv,vz,L1,L2,rfl,rfl,hj,hy,hin3,hcl,hvz,hvn,hT2⟩:=hrel
      have kz3:=Yaa hin3.out.siz sz3
      by_cases hjn:j<N
      ·obtain ⟨vp,vcap,hvv,hVA⟩:=Yxj rfl hin3.out.vec
       have hvl2:vz.length≤1048576:=by
        have:=hvn.out
        have:=hvl'.out
        have:i*10000≤1000000:=by omega
        omega
       subst hvv
       obtain ⟨⟨mx0,my0⟩,hfo⟩:∃r,Yei vz (Yej hd.fmt) f2=r:=⟨_,rfl⟩
       have hAc:(acr hd.fmt:Int)=Yej hd.fmt:=(Yd2 _).1
       have cO:∀x,Below wr.heap.size wr x→Calls Tryz.prog 21 #[.slice vp vz.length vcap,.int .i64 (acr hd.fmt:Int),.int .i64 f2] x fun e w'=> e = .returned (.agg #[.int .i64 mx0,.int .i64 my0])∧Below x.heap.size x w':=fun x hx=> by
        refine (Yz3 (fun i=> vz.getD i (0,0)) vp vz.length vcap (acr hd.fmt:Int) f2 x (hVA.mono hx) (by unfold maxLen;omega) (by omega)).mono ?_
        rintro e w' ⟨rfl,hb⟩
        refine ⟨?_,hb⟩
        rw [hAc]
        have h9:Y6j (fun i=> vz.getD i (0,0)) vz.length (Yej hd.fmt) f2=(mx0,my0):=hfo
        rw [h9]
        rfl
       have CO:=Lib.hid cO
       have cT:=fun x=> C21.out hd.inter y mx0 my0 x hy
       obtain ⟨⟨c,q3,f3⟩,hct⟩:∃r,ct hd.inter (Yac l) mx0 my0 y=r:=⟨_,rfl⟩
       rw [hct] at cT
       unfold Yxv at cT
       dsimp only at cT
       have CT:=Lib.hid cT
       have HCT:=Lib.hid (show ct hd.inter (Yac l) (Yei vz (Yej hd.fmt) f2).1 (Yei vz (Yej hd.fmt) f2).2 y=(c,q3,f3) by rw [hfo];exact hct)
       have hXs:=hin3.out.sht
       have hXo:=hin3.out.ord.2.2.1
       have C3:Hid (∀x,Below wr.heap.size wr x→x.cell? ⟨X,3,none⟩=some (.bool hd.inter)):=Lib.hid fun x hx=> Yaa (o:=3) ((hx.block X hXo).trans hXs) rfl
       clear cO cT hfo hct hVA hAc hXs hXo
       have HI3:=Lib.hid hin3
       clear hin3
       go_upto_region 23 with fail
       go_cut [23,24,25] (fun u qv fv wx=>∃(C:Nat) (sl:Nat→Value),u = .pointer (some ⟨C,0,none⟩)∧qv = .int .i64 (q3:Int)∧fv = .int .i64 f3∧wx.heap[C]? = some (.cells (Ya5 c sl).toArray 50 (0,0))∧wr.heap.size≤C∧Below wr.heap.size wr wx∧(∀i,i<6→∃P cap,sl i = .slice P (c.ev i).length cap∧Yea wx P (c.ev i)∧Yc3 wr.heap.size P)∧(f3=0→q3≤8*s.size∧((Lit.int .i64 c.mx).wf=true∧(Lit.int .i64 c.my).wf=true)∧∀i,i<6→(c.ev i).length≤1048576))
       case first=>
        obtain ⟨Yc,HYc,hzc⟩:=Ym7
        have hk0:Below wr.heap.size wr wr.drew:=(Below.refl _ wr).drew
        refine wp_region_held_drew (S:=fun x=> Below wr.heap.size wr x) (by kernel_rfl) hk0 (fun hH=> ?_)
        refine Yab 0 (some 100) (v:=?_) rfl rfl (by kernel_rfl) (by kernel_rfl) (by kernel_rfl) (fun _ _ _ h=> h) hH (Or.inl ⟨by kernel_rfl,?_⟩) ?_
        rotate_left
        ·(intro x _;go_simp;try with_reducible rfl)
        rotate_right
        try simp only [Act.put,List.setIfInBounds_toArray,List.set_cons_zero,List.set_cons_succ]
        refine Yab 1 (some 101) (v:=?_) rfl rfl (by kernel_rfl) (by kernel_rfl) (by kernel_rfl) (fun _ _ _ h=> h) hH (Or.inl ⟨by kernel_rfl,?_⟩) ?_
        rotate_left
        ·(intro x _;go_simp;try with_reducible rfl)
        rotate_right
        try simp only [Act.put,List.setIfInBounds_toArray,List.set_cons_zero,List.set_cons_succ]
        refine Yab 2 (some 102) (v:=?_) rfl rfl (by kernel_rfl) (by kernel_rfl) (by kernel_rfl) (fun _ _ _ h=> h) hH (Or.inl ⟨by kernel_rfl,?_⟩) ?_
        rotate_left
        ·(intro x _;go_simp;try with_reducible rfl)
        rotate_right
        try simp only [Act.put,List.setIfInBounds_toArray,List.set_cons_zero,List.set_cons_succ]
        refine Yab 3 (some 103) (v:=.bool hd.inter) rfl rfl (by kernel_rfl) (by kernel_rfl) (by kernel_rfl) (fun _ _ _ h=> h) hH (Or.inl ⟨by kernel_rfl,?_⟩) ?_
        ·(intro x hx;have c0:=C3.out x hx;go_simp)
        try simp only [Act.put,List.setIfInBounds_toArray,List.set_cons_zero,List.set_cons_succ]
        refine Yab 4 (some 104) (v:=?_) rfl rfl (by kernel_rfl) (by kernel_rfl) (by kernel_rfl) (fun _ _ _ h=> h) hH (Or.inl ⟨by kernel_rfl,?_⟩) ?_
        rotate_left
        ·(intro x _;go_simp;try with_reducible rfl)
        rotate_right
        try simp only [Act.put,List.setIfInBounds_toArray,List.set_cons_zero,List.set_cons_succ]
        refine Yab 5 (some 105) (v:=?_) rfl rfl (by kernel_rfl) (by kernel_rfl) (by kernel_rfl) (fun _ _ _ h=> h) hH (Or.inl ⟨by kernel_rfl,?_⟩) ?_
        rotate_left
        ·(intro x _;go_simp;try with_reducible rfl)
        rotate_right
        try simp only [Act.put,List.setIfInBounds_toArray,List.set_cons_zero,List.set_cons_succ]
        refine Yab 6 (some 106) (v:=?_) rfl rfl (by kernel_rfl) (by kernel_rfl) (by kernel_rfl) (fun _ _ _ h=> h) hH (Or.inl ⟨by kernel_rfl,?_⟩) ?_
        rotate_left
        ·(intro x _;go_simp;try with_reducible rfl)
        rotate_right
        try simp only [Act.put,List.setIfInBounds_toArray,List.set_cons_zero,List.set_cons_succ]
        generalize wr.drew=v0 at hH hk0 ⊢
        refine wpAnyH_ready (rs:=[7,13]) (by kernel_rfl) (by simp) ?_
        refine AllReadyH.cons rfl (fun K hK=> ?_) (AllReadyH.cons rfl (fun K hK=> ?_) AllReadyH.nil)
        ·go_simp
         go_wp2_with fail
         refine (CO.out _ hk0).mono ?_
         rintro e v1 ⟨rfl,hb⟩
         have hk1:Below wr.heap.size wr v1:=hk0.trans (hb.mono hk0.size)
         clear hb
         refine hK.out _ _ hk1 (fun hH2=> ?_)
         clear hK K hH hH2
         have hH:=hk1
         try simp only [Act.put,List.setIfInBounds_toArray,List.set_cons_zero,List.set_cons_succ]
         refine wpAnyH_ready (rs:=[8,13]) (by kernel_rfl) (by simp) ?_
         refine AllReadyH.cons rfl (fun K hK=> ?_) (AllReadyH.cons rfl (fun K hK=> ?_) AllReadyH.nil)
         ·go_simp
          go_wp2_with fail
          refine (CT.out _).mono ?_
          rintro e v2 ⟨sl,rfl,hev0,hb,hgood⟩
          have hk2:Below wr.heap.size wr v2:=hk1.trans (hb.mono hk1.size)
          have hev:∀i,i<6→∃P cap,sl i = .slice P (c.ev i).length cap∧Yea v2 P (c.ev i)∧Yc3 wr.heap.size P:=fun i hi=> by
           obtain ⟨P,cap,h1,h2,h3⟩:=hev0 i hi
           exact ⟨P,cap,h1,h2,h3.mono hk1.size⟩
          clear hev0
          clear hb
          have hgood2:=Lib.hid hgood
          clear hgood
          refine hK.out _ _ hk2 (fun hH2=> ?_)
          clear hK K hH hH2
          have hH:=hk2
          try simp only [Act.put,List.setIfInBounds_toArray,List.set_cons_zero,List.set_cons_succ]
          refine Yab 9 (some 99) (v:=?_) rfl rfl (by kernel_rfl) (by kernel_rfl) (by kernel_rfl) (fun _ _ _ h=> h) hH (Or.inl ⟨by kernel_rfl,?_⟩) ?_
          rotate_left
          ·(intro x _;go_simp;try with_reducible rfl)
          rotate_right
          try simp only [Act.put,List.setIfInBounds_toArray,List.set_cons_zero,List.set_cons_succ]
          refine Yab 10 (some 109) (v:=?_) rfl rfl (by kernel_rfl) (by kernel_rfl) (by kernel_rfl) (fun _ _ _ h=> h) hH (Or.inl ⟨by kernel_rfl,?_⟩) ?_
          rotate_left
          ·(intro x _;go_simp;try with_reducible rfl)
          rotate_right
          try simp only [Act.put,List.setIfInBounds_toArray,List.set_cons_zero,List.set_cons_succ]
          refine Yab 11 (some 110) (v:=?_) rfl rfl (by kernel_rfl) (by kernel_rfl) (by kernel_rfl) (fun _ _ _ h=> h) hH (Or.inl ⟨by kernel_rfl,?_⟩) ?_
          rotate_left
          ·(intro x _;go_simp;try with_reducible rfl)
          rotate_right
          try simp only [Act.put,List.setIfInBounds_toArray,List.set_cons_zero,List.set_cons_succ]
          refine Yab 12 (some 111) (v:=?_) rfl rfl (by kernel_rfl) (by kernel_rfl) (by kernel_rfl) (fun _ _ _ h=> h) hH (Or.inl ⟨by kernel_rfl,?_⟩) ?_
          rotate_left
          ·(intro x _;go_simp;try with_reducible rfl)
          rotate_right
          try simp only [Act.put,List.setIfInBounds_toArray,List.set_cons_zero,List.set_cons_succ]
          refine wpAnyH_ready (rs:=[13]) (by kernel_rfl) (by simp) ?_
          refine AllReadyH.cons rfl (fun K hK=> ?_) AllReadyH.nil
          go_simp
          obtain ⟨C,hC⟩:∃C,v2.heap.size=C:=⟨_,rfl⟩
          obtain ⟨v3,hn3⟩:∃v,v2.alloc (.cells Yc 50 (0,0))=v:=⟨_,rfl⟩
          have gC:v3.heap[C]? = some (.cells Yc 50 (0,0)):=by rw [←hn3,←hC];exact heap_alloc_new v2 _
          have hCn:wr.heap.size≤C:=by rw [←hC];exact hk2.size
          have hk3:Below wr.heap.size wr v3:=by rw [←hn3];exact hk2.alloc hk2.size _
          have hbn:Below v2.heap.size v2 v3:=by rw [←hn3];exact (Below.refl _ v2).alloc (Nat.le_refl _) _
          have hevF:∀i,i<6→∃P cap,sl i = .slice P (c.ev i).length cap∧Yjy [some C] v3 P (c.ev i)∧Yc3 wr.heap.size P:=fun i hi=> by
           obtain ⟨P,cap,h1,h2,h3⟩:=hev i hi
           refine ⟨P,cap,h1,⟨h2.below hbn,?_⟩,h3⟩
           rcases h2 with h2 | ⟨b,o,h2,h4,-⟩
           ·exact .inl h2
           ·exact .inr ⟨b,o,h2,fun hm=> by have e:=List.mem_singleton.1 hm;injection e with e;omega⟩
          clear hev hbn
          rw [hn3,hC]
          clear hn3 hC
          refine hK.out _ _ hk3 (fun hH2=> ?_)
          clear hK K hH hH2
          have hH:=hk3
          try simp only [Act.put,List.setIfInBounds_toArray,List.set_cons_zero,List.set_cons_succ]
          refine wpAnyH_ready (rs:=[14]) (by kernel_rfl) (by simp) ?_
          refine AllReadyH.cons rfl (fun K hK=> ?_) AllReadyH.nil
          refine (if_pos (by kernel_rfl)).mpr ?_
          obtain ⟨vS,hvS,eS,hkS,hgS⟩:=Yki (Z:=(Ya5 c sl).toArray) gC hk3 hCn hk3.size
          have HSL:(Tryz.prog.info? 50).map (·.size)=some (Ya5 c sl).toArray.size:=by rw [show (Ya5 c sl).toArray.size=18 from rfl];kernel_rfl
          have HYL:Yc.size=(Ya5 c sl).toArray.size:=by rw [HYc];rfl
          have hc1:(Ya5 c sl).toArray.all (·.oneCell')=true:=Yfe _ _ fun i hi=> by obtain ⟨P,cap,h1,-,-⟩:=hevF i hi;rw [h1];rfl
          refine wp_store_row 50 _ _ rfl C (Ya5 c sl).toArray (by kernel_rfl) (by kernel_rfl) 50 Yc gC HSL HYL hc1 ?_
          rw [hvS]
          refine hK.out _ _ hkS (fun hH2=> ?_)
          clear hK K hH hH2
          have hH:=hkS
          try simp only [Act.put,List.setIfInBounds_toArray]
          refine Yab 15 (some 24) (v:=?_) rfl rfl (by kernel_rfl) (by kernel_rfl) (by kernel_rfl) (fun _ _ _ h=> h) hH (Or.inl ⟨by kernel_rfl,?_⟩) ?_
          rotate_left
          ·(intro x _;go_simp;try with_reducible rfl)
          rotate_right
          try simp only [Act.put]
          refine Yab 16 (some 25) (v:=?_) rfl rfl (by kernel_rfl) (by kernel_rfl) (by kernel_rfl) (fun _ _ _ h=> h) hH (Or.inl ⟨by kernel_rfl,?_⟩) ?_
          rotate_left
          ·(intro x _;go_simp;try with_reducible rfl)
          rotate_right
          try simp only [Act.put]
          refine wpAnyH_done (by kernel_rfl) ?_ _
          go_wp2
          go_meet
          case rel=>
           refine ⟨C,sl,rfl,rfl,rfl,eS,hCn,hkS,fun i hi=> ?_,hgood2.out⟩
           obtain ⟨P,cap,h1,h2,h3⟩:=hevF i hi
           exact ⟨P,cap,h1,(h2.kept hgS fun k hk=> by injection hk with hk;rw [hk];exact List.mem_singleton.2 rfl).1,h3⟩
         ·go_simp
          obtain ⟨C,hC⟩:∃C,v1.heap.size=C:=⟨_,rfl⟩
          obtain ⟨v2,hn2⟩:∃v,v1.alloc (.cells Yc 50 (0,0))=v:=⟨_,rfl⟩
          have gC:v2.heap[C]? = some (.cells Yc 50 (0,0)):=by rw [←hn2,←hC];exact heap_alloc_new v1 _
          have hCn:wr.heap.size≤C:=by rw [←hC];exact hk1.size
          have hk2:Below wr.heap.size wr v2:=by rw [←hn2];exact hk1.alloc hk1.size _
          rw [hn2,hC]
          clear hn2 hC
          refine hK.out _ _ hk2 (fun hH2=> ?_)
          clear hK K hH hH2
          have hH:=hk2
          try simp only [Act.put,List.setIfInBounds_toArray,List.set_cons_zero,List.set_cons_succ]
          refine wpAnyH_ready (rs:=[8]) (by kernel_rfl) (by simp) ?_
          refine AllReadyH.cons rfl (fun K hK=> ?_) AllReadyH.nil
          go_simp
          go_wp2_with fail
          refine (CT.out _).mono ?_
          rintro e v3 ⟨sl,rfl,hev0,hb,hgood⟩
          have hk3:Below wr.heap.size wr v3:=hk2.trans (hb.mono hk2.size)
          have ltC:=(Array.getElem?_eq_some_iff.1 gC).1
          have gC:=(hb.block C ltC).trans gC
          have hevF:∀i,i<6→∃P cap,sl i = .slice P (c.ev i).length cap∧Yjy [some C] v3 P (c.ev i)∧Yc3 wr.heap.size P:=fun i hi=> by
           obtain ⟨P,cap,h1,h2,h3⟩:=hev0 i hi
           refine ⟨P,cap,h1,⟨h2,?_⟩,h3.mono hk2.size⟩
           rcases h2 with h2 | ⟨b,o,h2,h4,-⟩
           ·exact .inl h2
           ·exact .inr ⟨b,o,h2,fun hm=> by have e:=List.mem_singleton.1 hm;injection e with e;have h5:=h3 _ h2;simp only at h5;omega⟩
          clear hev0 ltC
          clear hb
          have hgood2:=Lib.hid hgood
          clear hgood
          refine hK.out _ _ hk3 (fun hH2=> ?_)
          clear hK K hH hH2
          have hH:=hk3
          try simp only [Act.put,List.setIfInBounds_toArray,List.set_cons_zero,List.set_cons_succ]
          refine Yab 9 (some 99) (v:=?_) rfl rfl (by kernel_rfl) (by kernel_rfl) (by kernel_rfl) (fun _ _ _ h=> h) hH (Or.inl ⟨by kernel_rfl,?_⟩) ?_
          rotate_left
          ·(intro x _;go_simp;try with_reducible rfl)
          rotate_right
          try simp only [Act.put,List.setIfInBounds_toArray,List.set_cons_zero,List.set_cons_succ]
          refine Yab 10 (some 109) (v:=?_) rfl rfl (by kernel_rfl) (by kernel_rfl) (by kernel_rfl) (fun _ _ _ h=> h) hH (Or.inl ⟨by kernel_rfl,?_⟩) ?_
          rotate_left
          ·(intro x _;go_simp;try with_reducible rfl)
          rotate_right
          try simp only [Act.put,List.setIfInBounds_toArray,List.set_cons_zero,List.set_cons_succ]
          refine Yab 11 (some 110) (v:=?_) rfl rfl (by kernel_rfl) (by kernel_rfl) (by kernel_rfl) (fun _ _ _ h=> h) hH (Or.inl ⟨by kernel_rfl,?_⟩) ?_
          rotate_left
          ·(intro x _;go_simp;try with_reducible rfl)
          rotate_right
          try simp only [Act.put,List.setIfInBounds_toArray,List.set_cons_zero,List.set_cons_succ]
          refine Yab 12 (some 111) (v:=?_) rfl rfl (by kernel_rfl) (by kernel_rfl) (by kernel_rfl) (fun _ _ _ h=> h) hH (Or.inl ⟨by kernel_rfl,?_⟩) ?_
          rotate_left
          ·(intro x _;go_simp;try with_reducible rfl)
          rotate_right
          try simp only [Act.put,List.setIfInBounds_toArray,List.set_cons_zero,List.set_cons_succ]
          refine wpAnyH_ready (rs:=[14]) (by kernel_rfl) (by simp) ?_
          refine AllReadyH.cons rfl (fun K hK=> ?_) AllReadyH.nil
          refine (if_pos (by kernel_rfl)).mpr ?_
          obtain ⟨vS,hvS,eS,hkS,hgS⟩:=Yki (Z:=(Ya5 c sl).toArray) gC hk3 hCn hk3.size
          have HSL:(Tryz.prog.info? 50).map (·.size)=some (Ya5 c sl).toArray.size:=by rw [show (Ya5 c sl).toArray.size=18 from rfl];kernel_rfl
          have HYL:Yc.size=(Ya5 c sl).toArray.size:=by rw [HYc];rfl
          have hc1:(Ya5 c sl).toArray.all (·.oneCell')=true:=Yfe _ _ fun i hi=> by obtain ⟨P,cap,h1,-,-⟩:=hevF i hi;rw [h1];rfl
          refine wp_store_row 50 _ _ rfl C (Ya5 c sl).toArray (by kernel_rfl) (by kernel_rfl) 50 Yc gC HSL HYL hc1 ?_
          rw [hvS]
          refine hK.out _ _ hkS (fun hH2=> ?_)
          clear hK K hH hH2
          have hH:=hkS
          try simp only [Act.put,List.setIfInBounds_toArray]
          refine Yab 15 (some 24) (v:=?_) rfl rfl (by kernel_rfl) (by kernel_rfl) (by kernel_rfl) (fun _ _ _ h=> h) hH (Or.inl ⟨by kernel_rfl,?_⟩) ?_
          rotate_left
          ·(intro x _;go_simp;try with_reducible rfl)
          rotate_right
          try simp only [Act.put]
          refine Yab 16 (some 25) (v:=?_) rfl rfl (by kernel_rfl) (by kernel_rfl) (by kernel_rfl) (fun _ _ _ h=> h) hH (Or.inl ⟨by kernel_rfl,?_⟩) ?_
          rotate_left
          ·(intro x _;go_simp;try with_reducible rfl)
          rotate_right
          try simp only [Act.put]
          refine wpAnyH_done (by kernel_rfl) ?_ _
          go_wp2
          go_meet
          case rel=>
           refine ⟨C,sl,rfl,rfl,rfl,eS,hCn,hkS,fun i hi=> ?_,hgood2.out⟩
           obtain ⟨P,cap,h1,h2,h3⟩:=hevF i hi
           exact ⟨P,cap,h1,(h2.kept hgS fun k hk=> by injection hk with hk;rw [hk];exact List.mem_singleton.2 rfl).1,h3⟩
        ·go_simp
         obtain ⟨C,hC⟩:∃C,v0.heap.size=C:=⟨_,rfl⟩
         obtain ⟨v1,hn1⟩:∃v,v0.alloc (.cells Yc 50 (0,0))=v:=⟨_,rfl⟩
         have gC:v1.heap[C]? = some (.cells Yc 50 (0,0)):=by rw [←hn1,←hC];exact heap_alloc_new v0 _
         have hCn:wr.heap.size≤C:=by rw [←hC];exact hk0.size
         have hk1:Below wr.heap.size wr v1:=by rw [←hn1];exact hk0.alloc hk0.size _
         rw [hn1,hC]
         clear hn1 hC
         refine hK.out _ _ hk1 (fun hH2=> ?_)
         clear hK K hH hH2
         have hH:=hk1
         try simp only [Act.put,List.setIfInBounds_toArray,List.set_cons_zero,List.set_cons_succ]
         refine wpAnyH_ready (rs:=[7]) (by kernel_rfl) (by simp) ?_
         refine AllReadyH.cons rfl (fun K hK=> ?_) AllReadyH.nil
         go_simp
         go_wp2_with fail
         refine (CO.out _ hk1).mono ?_
         rintro e v2 ⟨rfl,hb⟩
         have hk2:Below wr.heap.size wr v2:=hk1.trans (hb.mono hk1.size)
         have gC:=(hb.block C (Array.getElem?_eq_some_iff.1 gC).1).trans gC
         clear hb
         refine hK.out _ _ hk2 (fun hH2=> ?_)
         clear hK K hH hH2
         have hH:=hk2
         try simp only [Act.put,List.setIfInBounds_toArray,List.set_cons_zero,List.set_cons_succ]
         refine wpAnyH_ready (rs:=[8]) (by kernel_rfl) (by simp) ?_
         refine AllReadyH.cons rfl (fun K hK=> ?_) AllReadyH.nil
         go_simp
         go_wp2_with fail
         refine (CT.out _).mono ?_
         rintro e v3 ⟨sl,rfl,hev0,hb,hgood⟩
         have hk3:Below wr.heap.size wr v3:=hk2.trans (hb.mono hk2.size)
         have ltC:=(Array.getElem?_eq_some_iff.1 gC).1
         have gC:=(hb.block C ltC).trans gC
         have hevF:∀i,i<6→∃P cap,sl i = .slice P (c.ev i).length cap∧Yjy [some C] v3 P (c.ev i)∧Yc3 wr.heap.size P:=fun i hi=> by
          obtain ⟨P,cap,h1,h2,h3⟩:=hev0 i hi
          refine ⟨P,cap,h1,⟨h2,?_⟩,h3.mono hk2.size⟩
          rcases h2 with h2 | ⟨b,o,h2,h4,-⟩
          ·exact .inl h2
          ·exact .inr ⟨b,o,h2,fun hm=> by have e:=List.mem_singleton.1 hm;injection e with e;have h5:=h3 _ h2;simp only at h5;omega⟩
         clear hev0 ltC
         clear hb
         have hgood2:=Lib.hid hgood
         clear hgood
         refine hK.out _ _ hk3 (fun hH2=> ?_)
         clear hK K hH hH2
         have hH:=hk3
         try simp only [Act.put,List.setIfInBounds_toArray,List.set_cons_zero,List.set_cons_succ]
         refine Yab 9 (some 99) (v:=?_) rfl rfl (by kernel_rfl) (by kernel_rfl) (by kernel_rfl) (fun _ _ _ h=> h) hH (Or.inl ⟨by kernel_rfl,?_⟩) ?_
         rotate_left
         ·(intro x _;go_simp;try with_reducible rfl)
         rotate_right
         try simp only [Act.put,List.setIfInBounds_toArray,List.set_cons_zero,List.set_cons_succ]
         refine Yab 10 (some 109) (v:=?_) rfl rfl (by kernel_rfl) (by kernel_rfl) (by kernel_rfl) (fun _ _ _ h=> h) hH (Or.inl ⟨by kernel_rfl,?_⟩) ?_
         rotate_left
         ·(intro x _;go_simp;try with_reducible rfl)
         rotate_right
         try simp only [Act.put,List.setIfInBounds_toArray,List.set_cons_zero,List.set_cons_succ]
         refine Yab 11 (some 110) (v:=?_) rfl rfl (by kernel_rfl) (by kernel_rfl) (by kernel_rfl) (fun _ _ _ h=> h) hH (Or.inl ⟨by kernel_rfl,?_⟩) ?_
         rotate_left
         ·(intro x _;go_simp;try with_reducible rfl)
         rotate_right
         try simp only [Act.put,List.setIfInBounds_toArray,List.set_cons_zero,List.set_cons_succ]
         refine Yab 12 (some 111) (v:=?_) rfl rfl (by kernel_rfl) (by kernel_rfl) (by kernel_rfl) (fun _ _ _ h=> h) hH (Or.inl ⟨by kernel_rfl,?_⟩) ?_
         rotate_left
         ·(intro x _;go_simp;try with_reducible rfl)
         rotate_right
         try simp only [Act.put,List.setIfInBounds_toArray,List.set_cons_zero,List.set_cons_succ]
         refine wpAnyH_ready (rs:=[14]) (by kernel_rfl) (by simp) ?_
         refine AllReadyH.cons rfl (fun K hK=> ?_) AllReadyH.nil
         refine (if_pos (by kernel_rfl)).mpr ?_
         obtain ⟨vS,hvS,eS,hkS,hgS⟩:=Yki (Z:=(Ya5 c sl).toArray) gC hk3 hCn hk3.size
         have HSL:(Tryz.prog.info? 50).map (·.size)=some (Ya5 c sl).toArray.size:=by rw [show (Ya5 c sl).toArray.size=18 from rfl];kernel_rfl
         have HYL:Yc.size=(Ya5 c sl).toArray.size:=by rw [HYc];rfl
         have hc1:(Ya5 c sl).toArray.all (·.oneCell')=true:=Yfe _ _ fun i hi=> by obtain ⟨P,cap,h1,-,-⟩:=hevF i hi;rw [h1];rfl
         refine wp_store_row 50 _ _ rfl C (Ya5 c sl).toArray (by kernel_rfl) (by kernel_rfl) 50 Yc gC HSL HYL hc1 ?_
         rw [hvS]
         refine hK.out _ _ hkS (fun hH2=> ?_)
         clear hK K hH hH2
         have hH:=hkS
         try simp only [Act.put,List.setIfInBounds_toArray]
         refine Yab 15 (some 24) (v:=?_) rfl rfl (by kernel_rfl) (by kernel_rfl) (by kernel_rfl) (fun _ _ _ h=> h) hH (Or.inl ⟨by kernel_rfl,?_⟩) ?_
         rotate_left
         ·(intro x _;go_simp;try with_reducible rfl)
         rotate_right
         try simp only [Act.put]
         refine Yab 16 (some 25) (v:=?_) rfl rfl (by kernel_rfl) (by kernel_rfl) (by kernel_rfl) (fun _ _ _ h=> h) hH (Or.inl ⟨by kernel_rfl,?_⟩) ?_
         rotate_left
         ·(intro x _;go_simp;try with_reducible rfl)
         rotate_right
         try simp only [Act.put]
         refine wpAnyH_done (by kernel_rfl) ?_ _
         go_wp2
         go_meet
         case rel=>
          refine ⟨C,sl,rfl,rfl,rfl,eS,hCn,hkS,fun i hi=> ?_,hgood2.out⟩
          obtain ⟨P,cap,h1,h2,h3⟩:=hevF i hi
          exact ⟨P,cap,h1,(h2.kept hgS fun k hk=> by injection hk with hk;rw [hk];exact List.mem_singleton.2 rfl).1,h3⟩
       case rest=>
        clear C3 CT CO
        obtain ⟨C,sl,rfl,rfl,rfl,hC,hCn,hbc,hev,hgood⟩:=hcut
        obtain ⟨wk,rfl⟩:∃x,x=wc:=⟨_,rfl⟩
        obtain ⟨pf,cf,hpc⟩:=Yyl hev
        rw [Yx7 (c:=c) fun i hi=> (hpc i hi).1] at hC
        clear hev
        have hin:=HI3.out.move hbc
        have hl3:=HI3.out.lb
        by_cases hf:f3=0
        case neg=>
         have tf3:(f3 != 0)=true:=by rw [bne_iff_ne];exact hf
         have hA3:=hin.out.res
         have hlow:=hin.out.low
         have FA:Hid (wtk ct l p=(Ywq,p,f3)):=Lib.hid (HBAD.out f3 hf (by
          have h1:=hT2.out
          rw [show N-j=(N-j-1)+1 by omega] at h1
          exact Ys2 h1 HCT.out hf))
         clear hf hgood hpc hC hin hl3
         go_wp2_with (first | (with_reducible refine wpList_buildTo rfl 30 _ rfl (some 114) rfl #[.int .i64 0,.int .i64 0,.int .i64 0,.bool false,.int .i64 0,.slice none 0 0,.slice none 0 0,.int .i64 0] (by kernel_rfl) ?_;rw [HY0.out]) | (with_reducible refine Yae rfl 30 _ _ rfl A Y0 Y ?x1 ?x2 30 hA3 HSY0 HYY0 HOY0 ?_;(case x1=> kernel_rfl);(case x2=> kernel_rfl);intro wz hhz hgz))
         refine bodyPost_ret (Yaf rfl _ _ A 30 _ (0,0) _ rfl hhz Tryz.underlying30 rfl HSY0) rfl ?_
         exact Yhc HY0.out FA.out (hlow.grown hgz hlow.size fun k hk=> by injection hk with hk;have:=HA.out;omega)
        subst hf
        have tf3:((0:Int) != 0)=false:=rfl
        obtain ⟨hq3,hwf,hel⟩:=hgood rfl
        have HEL:=Lib.hid hel
        have HPC:=Lib.hid hpc
        have HWF:=Lib.hid hwf
        have HQ3:=Lib.hid hq3
        clear hgood hel hpc hwf hq3
        have ck:=Yaa (o:=2) hC rfl
        have cfm:=Yaa (o:=2) hin.out.sht rfl
        have hr2:wk.rangeAt C 4 [.int .i64 c.mx,.int .i64 c.my]:=fun k v hk=> by
         match k,hk with
         | 0,hk=> injection hk with hk;subst hk;exact Yaa (o:=4) hC rfl
         | 1,hk=> injection hk with hk;subst hk;exact Yaa (o:=5) hC rfl
        go_upto_region 26 with fail
        go_cut [130] (fun v wx=> v = .bool (!Ydw hd.fmt vz.length c)∧Below wk.heap.size wk wx)
        case first=>
         have cI:=fun w=> Ycg c.kind w
         have cM:=fun w=> Y5p hd.fmt (vz.length:Int) c.mx c.my w
         have hvm:Ydw hd.fmt vz.length c=(Yak c.kind || Y02 hd.fmt (vz.length:Int) c.mx c.my):=rfl
         have hb0:=Below.refl wk.heap.size wk
         cases hik:Yak c.kind with
         | true=>
          rw [hik] at cI hvm
          have HVM:Hid (Ydw hd.fmt vz.length c=true):=Lib.hid (by rw [hvm];rfl)
          clear hik cM hvm
          go_wp2_with fail
          refine (cI _).mono ?_
          rintro e u ⟨rfl,rfl⟩
          clear cI
          go_wp2
          go_meet
          case rel=> exact ⟨(by rw [HVM.out];first | done | rfl),hb0⟩
         | false=>
          rw [hik] at cI hvm
          have HVM:=Lib.hid (hvm.trans (Bool.false_or _))
          clear hik hvm
          generalize Y02 hd.fmt (vz.length:Int) c.mx c.my=mv at *
          go_wp2_with fail
          refine (cI _).mono ?_
          rintro e u ⟨rfl,rfl⟩
          clear cI
          go_wp2_with (with_reducible refine Ynm (by kernel_rfl) _ rfl C 4 (by kernel_rfl) c.mx c.my hr2 ?_)
          refine (cM _).mono ?_
          rintro e u ⟨rfl,hb9⟩
          clear cM
          go_wp2
          go_meet
          case rel=> exact ⟨(by rw [HVM.out];first | done | rfl),hb9⟩
        case rest=>
         obtain ⟨rfl,hb9⟩:=hcut
         clear ck cfm hr2
         have hinV:=hin.move hb9
         have hCv:=(hb9.block C (Array.getElem?_eq_some_iff.1 hC).1).trans hC
         have HEV:Hid (∀i,i<6→Yea wc (pf i) (c.ev i)∧Yc3 wr.heap.size (pf i)):=Lib.hid fun i hi=> ⟨(HPC.out i hi).2.1.below hb9,(HPC.out i hi).2.2⟩
         clear HPC hin hC hb9 hbc HI3
         cases hvy:Ydw hd.fmt vz.length c with
         | false=>
          have hA3:=hinV.out.res
          have hlow:=hinV.out.low
          have FA:Hid (wtk ct l p=(Ywq,p,8)):=Lib.hid (HBAD.out 8 (by decide) (by
           have h1:=hT2.out
           rw [show N-j=(N-j-1)+1 by omega] at h1
           exact Ysr h1 HCT.out hvy))
          clear hvy hinV
          go_wp2_with (first | (with_reducible refine wpList_buildTo rfl 30 _ rfl (some 131) rfl #[.int .i64 0,.int .i64 0,.int .i64 0,.bool false,.int .i64 0,.slice none 0 0,.slice none 0 0,.int .i64 0] (by kernel_rfl) ?_;rw [HY0.out]) | (with_reducible refine Yae rfl 30 _ _ rfl A Y0 Y ?x1 ?x2 30 hA3 HSY0 HYY0 HOY0 ?_;(case x1=> kernel_rfl);(case x2=> kernel_rfl);intro wz hhz hgz))
          refine bodyPost_ret (Yaf rfl _ _ A 30 _ (0,0) _ rfl hhz Tryz.underlying30 rfl HSY0) rfl ?_
          exact Yhc HY0.out FA.out (hlow.grown hgz hlow.size fun k hk=> by injection hk with hk;have:=HA.out;omega)
         | true=>
          have hT5:Hid (Ybo E2 (cs ++ [c]) (Yct ct l hd.inter hd.fmt f2 (N-(j+1)) q3 (vz ++ [(c.mx,c.my)]))):=Lib.hid (by
           have h1:=hT2.out
           rw [show N-j=(N-(j+1))+1 by omega] at h1
           exact Ypk h1 HCT.out hvy)
          clear hvy hT2 HCT HBAD
          obtain ⟨slf,hslf⟩:∃f:Nat→Value,(fun i=> Value.slice (pf i) (c.ev i).length (cf i))=f:=⟨_,rfl⟩
          rw [hslf] at hCv
          have HSF:=Lib.hid hslf
          clear hslf
          have hr2:wc.rangeAt C 4 [.int .i64 c.mx,.int .i64 c.my]:=fun k v hk=> by
           match k,hk with
           | 0,hk=> injection hk with hk;subst hk;exact Yaa (o:=4) hCv rfl
           | 1,hk=> injection hk with hk;subst hk;exact Yaa (o:=5) hCv rfl
          obtain ⟨wP,hwP⟩:∃wP,wc.alloc (.cells #[.int .i64 c.mx,.int .i64 c.my] 45 (0,0))=wP:=⟨_,rfl⟩
          obtain ⟨PB,hPB⟩:∃Q,wc.heap.size=Q:=⟨_,rfl⟩
          have hbP:Below wc.heap.size wc wP:=by rw [←hwP];exact (Below.refl _ wc).alloc (Nat.le_refl _) _
          have hinP:=hinV.move hbP
          have hCP:=(hbP.block C (Array.getElem?_eq_some_iff.1 hCv).1).trans hCv
          have hPP:wP.heap[PB]? = some (.cells ([Value.int .i64 c.mx,.int .i64 c.my]:List Value).toArray 45 (0,0)):=by rw [←hwP,←hPB];exact heap_alloc_new wc _
          have HP0:=Lib.hid (Yaa (o:=0) hPP rfl)
          have HP1:=Lib.hid (Yaa (o:=1) hPP rfl)
          have HWP:=Lib.hid hwP
          have HPB:=Lib.hid hPB
          clear hwP hPB hPP
          have hEP:∀i,i<6→Yjy L2 wP (pf i) (c.ev i):=fun i hi=> by
           obtain ⟨h1,h2⟩:=HEV.out i hi
           refine ⟨h1.below hbP,?_⟩
           rcases h1 with h1 | ⟨b',o,e,-,-⟩
           ·exact .inl h1
           ·refine .inr ⟨b',o,e,fun hm=> ?_⟩
            have h3:=hl3 b' hm
            have h4:=h2 _ e
            simp only at h4
            omega
          have HEP:=Lib.hid hEP
          have HINP:=Lib.hid hinP
          have HCP:=Lib.hid hCP
          have HL3:=Lib.hid hl3
          obtain ⟨ti,j0,j1,j2,j3⟩:=Yxc
          clear hinV hCv hEP hinP hCP hl3 hbP HEV
          go_upto_region 29 with (first | (with_reducible refine Yy9 rfl _ rfl C 4 (by kernel_rfl) c.mx c.my hr2 ?_) | (at_builtin;rw [HWP.out,HPB.out];refine Yn8 (w:=wP) (K:=PB) (cap:=1) (v:=.slice vp vz.length vcap) (n:=vz.length) (y0:=c.mx) (y1:=c.my) rfl rfl Tryz.underlying51 j0 j1 rfl j2 j3 ?c5 HINP.out.out.vec ?c0 HP0.out HP1.out hvl2 ?_;(case c5=> kernel_rfl);(case c0=> kernel_rfl);intro q8 cap8 w8 ho8 hg8 hw8))
          have hinP:=HINP.out
          have hin8:=hinP.vecs (v:=(c.mx,c.my)) hg8 ho8 hw8
          have hC8:=(hg8.block C (Array.getElem?_eq_some_iff.1 HCP.out).1 fun e=> by have:=HL3.out C (hinP.out.inV C e.symm).1;omega).trans HCP.out
          have hE8:∀i,i<6→Yjy ((Value.slice q8 (vz.length+1) cap8).ownBlock::L2) w8 (pf i) (c.ev i):=fun i hi=> by
           refine Yjy.kept ((HEP.out i hi).mono fun k hk hn hm=> ?_) hg8 fun k hk=> List.mem_cons_of_mem _ (hinP.out.inV k hk).1
           rcases List.mem_cons.1 hm with e | e
           ·rcases hw8 k e.symm with h2 | h2
            ·exact hn (hinP.out.inV k h2).1
            ·omega
           ·exact hn e
          obtain ⟨L8,hL8⟩:∃L8,(Value.slice q8 (vz.length+1) cap8).ownBlock::L2=L8:=⟨_,rfl⟩
          rw [hL8] at hin8 hE8
          clear hinP HINP HCP HEP hL8 ho8 hg8 hw8 hr2 j0 j1 j2 j3
          obtain ⟨wQ,hwQ⟩:∃wQ,w8.alloc (.cells (Ya5 c slf).toArray 50 (0,0))=wQ:=⟨_,rfl⟩
          obtain ⟨Q,hQ⟩:∃Q,w8.heap.size=Q:=⟨_,rfl⟩
          have hbQ:Below w8.heap.size w8 wQ:=by rw [←hwQ];exact (Below.refl _ w8).alloc (Nat.le_refl _) _
          have hQQ:wQ.heap[Q]? = some (.cells (Ya5 c slf).toArray 50 (0,0)):=by rw [←hwQ,←hQ];exact heap_alloc_new w8 _
          have hinQ:=hin8.move hbQ
          have hcelQ:Yha L8 wQ c (Ya5 c slf):=⟨pf,cf,by rw [HSF.out],HWF.out,fun i hi=> ⟨by have:=HEL.out i hi;unfold maxLen;omega,(hE8 i hi).kept (Yal hbQ none) fun k hk=> by cases hk⟩⟩
          have h1c:=(Yha.shape hcelQ).2
          have h18:=(Yha.shape hcelQ).1
          have hcD:∀(j:Nat) u,(Ya5 c slf)[j]? = some u→wQ.cell? ⟨Q,j,none⟩=some u:=fun j u hu=> Yaa hQQ hu
          have c30:=Yaa (o:=3) hin8.rowc rfl
          have HSL:(Tryz.prog.info? 50).map (·.size)=some (Ya5 c slf).toArray.size:=by rw [show (Ya5 c slf).toArray.size=18 from rfl];kernel_rfl
          obtain ⟨ri,rz,j0,j1,j2,j3,j4⟩:=Ywy
          have hcn:cs.length≤10000:=by have:=hcl.out;omega
          have HWQ:=Lib.hid hwQ
          have HQ:=Lib.hid hQ
          have HCD:=Lib.hid hcD
          clear hwQ hQ hcD hbQ hQQ hin8 hE8
          go_wp2_with (first | (with_reducible refine wpList_load_row rfl 50 _ rfl C (by kernel_rfl) 50 (Ya5 c slf).toArray (0,0) _ hC8 Tryz.underlying50 rfl HSL ?_) | (with_reducible refine Yh8 rfl _ rfl c slf (by kernel_rfl) ?_;rw [HWQ.out,HQ.out]) | (at_builtin;refine Yer (V:=Yha L8 wQ) (w:=wQ) (c:=18) (bytes:=240) (base:=0) (v:=cv) (l:=cs) (y:=c) (vs:=Ya5 c slf) (K:=Q) (cap:=1) rfl rfl Tryz.underlying42 j0 j1 j2 j3 j4 (by decide) ?d1 ?d2 hinQ.cel hcelQ h18 h1c HCD.out ?d3 ?d4 (Nat.zero_le _) ?_;(case d1=> kernel_rfl);(case d2=> kernel_rfl);(case d3=> (unfold maxLen;omega));(case d4=> omega);intro q9 cap9 w9 ho9 hg9 hw9;have hin9:=hinQ.cels hg9 ho9 hw9;have hR9:=(hg9.block R hinQ.rin.2.2.2.2 fun e=> (hinQ.cin R e.symm).2.2.1 rfl).trans hinQ.rowc;have c6:=Yaa (o:=3) hR9 rfl;have c7:=Yag (o:=3) hR9))
          go_roundw
          case rel=> exact ⟨q3,j+1,cs ++ [c],_,vz ++ [(c.mx,c.my)],_,_,rfl,by go_num,by omega,HQ3.out,hin9,Lib.hid (by rw [List.length_append,hcl.out];rfl),Lib.hid (by rw [hvz.out];simp [Yf0]),Lib.hid (by rw [List.length_append,hvn.out];rfl),hT5⟩
          case measure=> simp [intOf];omega
      ·obtain rfl:N=j:=by omega
       obtain ⟨hs9,hr9,hl9⟩:=hin3.done (by have:=hcl.out;unfold maxLen;omega)
       have hrow9:=hin3.rowc
       have hT3:Hid (Yct ct l hd.inter hd.fmt f2 (Ylo hd.fmt).toNat q2 vs=(cs,y,0)):=Lib.hid (by
        have h1:=hT2.out
        rw [Nat.sub_self] at h1
        rw [HN2.out,HE2.out]
        exact h1.done)
       have hT4:Hid (Ybo E (rs ++ [⟨b,id,qu,cs⟩]) (Ygu ct l hd.inter hd.fmt (nr-(i+1)) (i+1) y vz f2)):=Lib.hid (by
        have h1:=hT.out
        rw [show nr-i=(nr-(i+1))+1 by omega] at h1
        rw [hvz.out]
        exact Ytv h1 HRH.out hT3.out)
       have hvm:vz.length≤(i+1)*10000:=by have:=hvn.out;have:=hvl'.out;omega
       clear hin3 hT2 hT3 hjn hj hT HRH HE2 HN2 hcl hvz hvn
       obtain ⟨wD,hwD⟩:∃wD,wr.alloc (.cells #[.bool b,.int .i64 id,.int .i64 qu,cv] 44 (0,0))=wD:=⟨_,rfl⟩
       obtain ⟨D,hD⟩:∃D,wr.heap.size=D:=⟨_,rfl⟩
       have hbD:Below wr.heap.size wr wD:=by rw [←hwD];exact (Below.refl _ wr).alloc (Nat.le_refl _) _
       have hDD:wD.heap[D]? = some (.cells ([Value.bool b,.int .i64 id,.int .i64 qu,cv]:List Value).toArray 44 (0,0)):=by rw [←hwD,←hD];exact heap_alloc_new wr _
       have hsD:=hs9.move hbD
       have hrD:=hr9.kept (Yal hbD none) (fun k hk=> by cases hk)
       have hlD:∀k,some k∈L1→k<wD.heap.size:=fun k hk=> Nat.lt_of_lt_of_le (hl9 k hk) hbD.size
       have hcD:∀(j:Nat) u,([Value.bool b,.int .i64 id,.int .i64 qu,cv]:List Value)[j]? = some u→wD.cell? ⟨D,j,none⟩=some u:=fun j u hu=> Yaa hDD hu
       have c60:=Yaa (o:=6) hs9.sht rfl
       have HSR:(Tryz.prog.info? 44).map (·.size)=some ([Value.bool b,.int .i64 id,.int .i64 qu,cv]:List Value).toArray.size:=by kernel_rfl
       obtain ⟨ri,rz,j0,j1,j2,j3,j4⟩:=Yxt
       have hrln:rs.length≤100:=by have:=hrl'.out;omega
       have h1c:∀u∈([Value.bool b,.int .i64 id,.int .i64 qu,cv]:List Value),u.oneCell'=true:=Yhe.shape hrD |>.2
       have HWD:=Lib.hid hwD
       have HD:=Lib.hid hD
       clear hwD hD hs9 hr9 hl9 hbD hDD
       have HCD:=Lib.hid hcD
       have HLD:=Lib.hid hlD
       clear hcD hlD
       go_wp2_with (first | (with_reducible refine wpList_load_row rfl 44 _ rfl R rfl 44 ([Value.bool b,.int .i64 id,.int .i64 qu,cv]:List Value).toArray (0,0) _ hrow9 Tryz.underlying44 rfl HSR ?_) | (with_reducible refine Yi0 rfl _ rfl (.bool b) (.int .i64 id) (.int .i64 qu) cv rfl ?_;rw [HWD.out,HD.out]) | (at_builtin;refine Yer (V:=Yhe L1 wD) (w:=wD) (c:=4) (bytes:=48) (base:=0) (v:=rv) (l:=rs) (y:=⟨b,id,qu,cs⟩) (vs:=[Value.bool b,.int .i64 id,.int .i64 qu,cv]) (K:=D) (cap:=1) rfl rfl Tryz.underlying28 j0 j1 j2 j3 j4 (by decide) ?d1 ?d2 hsD.row hrD rfl h1c HCD.out ?d3 ?d4 (Nat.zero_le _) ?_;(case d1=> kernel_rfl);(case d2=> kernel_rfl);(case d3=> (unfold maxLen;omega));(case d4=> omega);intro q9 cap9 w9 ho9 hg9 hw9;have hsZ:=hsD.rows hg9 ho9 hw9;have hX9:=(hg9.block X hsD.ord.2.2.1 fun e=> (hsD.inR X e.symm).2 rfl).trans hsD.sht;have c6:=Yaa (o:=6) hX9 rfl;have c7:=Yag (o:=6) hX9))
       go_roundw
       case rel=>
        refine ⟨y,i+1,f2,_,_,vz,_,rfl,rfl,by go_num,by omega,hy,hsZ,fun k hk=> ?_,by rw [List.length_append,hrl'.out];rfl,hvm,hf2,hT4⟩
        rcases List.mem_cons.1 hk with e | e
        ·exact Yc6.lt hsZ.row k e.symm
        ·have h1:=HLD.out k e
         have h2:=hg9.size
         have h3:=(Yam w9 ⟨X,6,none⟩ (Value.slice q9 (rs.length+1) cap9)).size
         omega
       case measure=> simp [intOf];omega
  ·have t1:decide ((i:Int)<(nr:Int))=false:=by simp;omega
   obtain rfl:nr=i:=by omega
   have hR:Ygu ct l hd.inter hd.fmt (Yfo hd.fmt).toNat 0 z0 [] 0=(rs,q,0):=by
    have h1:=hT.out
    rw [Nat.sub_self] at h1
    rw [HN.out,HE.out]
    exact h1.done
   have HRW:=Lib.hid hR
   clear hR hT HE hvl hfs hlb k3
   obtain ⟨g,hg⟩:∃g,gap q=g:=⟨_,rfl⟩
   have hgf:=Ylr hq
   have htn:=Ycx l q (gap q) (by rw [HSL.out];exact hgf)
   have hgd:∀j:Nat,j≤g→(((q:Int)+j)%8 != 0)=decide (j<g):=by
    intro j hj
    rw [←hg] at hj ⊢
    unfold gap at hj ⊢
    rw [Bool.eq_iff_iff,bne_iff_ne,decide_eq_true_iff]
    omega
   have hg8:(q+g)%8=0:=by rw [←hg];unfold gap;omega
   rw [hg] at hgf htn
   have hsz:=HSS.out
   have GD:=Lib.hid hgd
   have TN:=Lib.hid htn
   have HG:=Lib.hid hg
   have HG8:=Lib.hid hg8
   clear hgd htn hg hg8
   go_wp2
   go_loop [8] (fun t=>∃j:Nat,j≤g∧t = .int .i64 ((q:Int)+j)∧Hid (∀k,k<j→(Yac l)[q+k]? = some 48)) (fun t=> q+g-(intOf t).toNat)
   case atStart=> exact ⟨0,Nat.zero_le _,by simp,Lib.hid fun k hk=> absurd hk (Nat.not_lt_zero k)⟩
   case round=>
    obtain ⟨j,hj,rfl,H⟩:=hrel
    have hd0:=GD.out j hj
    by_cases hlt:j<g
    ·have d0:(((q:Int)+j)%8 != 0)=true:=by rw [hd0];simpa using hlt
     have hin2:q+j<S.size:=by omega
     have hb:=BT.out (q+j) hin2
     by_cases hc:S[q+j].toNat=48
     ·have c0:((S[q+j].toNat:Int) != 48)=false:=by rw [hc];rfl
      have he:S[q+j]=48:=UInt8.toNat_inj.1 hc
      rw [he] at hb
      have N:=Lib.hid (fun k (hk:k<j+1)=> (by
       rcases Nat.lt_or_ge k j with h | h
       ·exact H.out k h
       ·obtain rfl:k=j:=by omega
        exact hb:(Yac l)[q+k]? = some 48))
      clear hb he hc hd0
      go_wp2
      go_round
      case rel=> exact ⟨j+1,by omega,by go_num,N⟩
      case measure=> simp [intOf];omega
     ·have c0:((S[q+j].toNat:Int) != 48)=true:=by rw [bne_iff_ne];omega
      have FA:Hid (wtk ct l p=(Ywq,p,5)):=Lib.hid (Yyf HK.out HRW.out (fun h0=> by
       rw [HG.out] at h0
       have h1:=TN.out.1 h0 j hlt
       rw [h1] at hb
       injection hb with hb
       exact hc (by rw [←hb];rfl)))
      have hA3:=hsi.res
      have hlow:=hsi.low
      clear hb hd0 hc
      go_wp2_with (first | (with_reducible refine wpList_buildTo rfl 30 _ rfl (some 158) rfl #[.int .i64 0,.int .i64 0,.int .i64 0,.bool false,.int .i64 0,.slice none 0 0,.slice none 0 0,.int .i64 0] (by kernel_rfl) ?_;rw [HY0.out]) | (with_reducible refine Yae rfl 30 _ _ rfl A Y0 Y ?x1 ?x2 30 hA3 HSY0 HYY0 HOY0 ?_;(case x1=> kernel_rfl);(case x2=> kernel_rfl);intro wz hhz hgz))
      refine bodyPost_ret (Yaf rfl _ _ A 30 _ (0,0) _ rfl hhz Tryz.underlying30 rfl HSY0) rfl ?_
      exact Yhc HY0.out FA.out (hlow.grown hgz hlow.size fun k hk=> by injection hk with hk;have:=HA.out;omega)
    ·have d0:(((q:Int)+j)%8 != 0)=false:=by rw [hd0];simpa using hlt
     obtain rfl:g=j:=by omega
     have H0:Hid (Ya0 l q (gap q)=0):=Lib.hid (by rw [HG.out];exact TN.out.2 H.out)
     clear H hd0 hlt hj TN GD
     have eqg:(q:Int)+(g:Int)=((q+g:Nat):Int):=by omega
     rw [eqg] at d0 ⊢
     obtain ⟨q2,hq2⟩:∃q2,q+g=q2:=⟨_,rfl⟩
     rw [hq2] at d0 ⊢
     rw [hq2] at hgf
     have HG8':q2%8=0:=by rw [←hq2];exact HG8.out
     have HQ2:=Lib.hid hq2
     have cz:=CZ.out q2 (by omega) HG8'
     clear hq2 eqg HG8' HG8
     go_wp2_with fail
     refine (cz _).mono ?_
     rintro e u ⟨rfl,rfl⟩
     obtain ⟨n,hn⟩:∃n,Ys5 l q2=n:=⟨_,rfl⟩
     rw [hn]
     have HZN:=Lib.hid hn
     have hXr:=hsi.sht
     have c7:=Yaa (o:=7) hXr rfl
     have f7:=Yag (o:=7) hXr
     have hgs:=Yam wr ⟨X,7,none⟩ (.int .i64 (n:Int))
     have hX7:(wr.setCell ⟨X,7,none⟩ (.int .i64 (n:Int))).heap[X]? = some (.cells (Ya8 hd (.slice a hd.supp.length ca) rv (n:Int)).toArray 30 (0,0)):=Yau (o:=7) _ hXr
     clear cz hn hXr hq hin k2
     go_upto_region 37 with fail
     generalize wr.setCell ⟨X,7,none⟩ (.int .i64 (n:Int))=w7 at *
     clear c7 f7
     have hA7:=(hgs.block A hsi.ord.2.1 fun e=> by injection e with e;exact hsi.ord.2.2.2.2.1 e).trans hsi.res
     obtain ⟨zs7,hz7⟩:∃l,Ya8 hd (.slice a hd.supp.length ca) rv (n:Int)=l:=⟨_,rfl⟩
     rw [hz7] at hX7
     have z7:zs7[7]? = some (.int .i64 (n:Int)):=by rw [←hz7];rfl
     have HSX7:(Tryz.prog.info? 30).map (·.size)=some zs7.toArray.size:=by rw [show zs7.toArray.size=8 by rw [←hz7];rfl];kernel_rfl
     have HYX7:Y.size=zs7.toArray.size:=by rw [HYS,←hz7];rfl
     have HOX7:zs7.toArray.all (·.oneCell')=true:=by
      obtain ⟨qv,cv,hv,-⟩:=hsi.row.rows
      rw [←hz7,hv]
      exact Ydv ..
     have hzo:=(Yma (l:=l) (p:=q2) (by rw [HSL.out];exact hgf)).2.1
     rw [Yah,HSL.out,HZN.out] at hzo
     have w8n:IntKind.i64.wrap (8*(n:Int))=((8*n:Nat):Int):=by rw [Yeh (by omega)];omega
     have wqn:IntKind.i64.wrap ((q2:Int)+((8*n:Nat):Int))=((q2+8*n:Nat):Int):=by rw [Yeh (by omega)];omega
     have FA:Hid (wtk ct l p=(⟨hd,rs,(n:Int)⟩,q2+8*n,0)):=Lib.hid (by
      have h1:=Y8n (ct:=ct) HK.out HRW.out H0.out
      rw [HG.out,HQ2.out,HZN.out] at h1
      exact h1)
     have HZ7:=Lib.hid hz7
     have hneA:=hsi.ord.2.2.2.2.1
     have hX7s:X<w7.heap.size:=(Array.getElem?_eq_some_iff.1 hX7).1
     generalize hn8:8*n=n8 at *
     clear hz7 hzo H0 HRW hn8
     refine wp_region_held_drew (S:=fun x=> x.heap[X]? = some (.cells zs7.toArray 30 (0,0))) (by kernel_rfl) hX7 (fun hH=> ?_)
     refine Yab 0 (some 166) (v:=.agg zs7.toArray) rfl rfl (by kernel_rfl) (by kernel_rfl) (by kernel_rfl) (fun _ _ _ h=> h) hH (Or.inl ⟨by kernel_rfl,fun x hx=> Ym2 (ty:=30) (x:=.tmp 7) (ad:=⟨X,0,none⟩) (by kernel_rfl) (by kernel_rfl) (run_loadVar_row x (X) _ _ zs7.toArray (0,0) _ (hx) Tryz.underlying30 rfl HSX7)⟩) ?_
     try simp only [Act.put,List.setIfInBounds_toArray,List.set_cons_zero,List.set_cons_succ]
     refine Yab 1 (some 167) (v:=?_) rfl rfl (by kernel_rfl) (by kernel_rfl) (by kernel_rfl) (fun _ _ _ h=> h) hH (Or.inl ⟨by kernel_rfl,?_⟩) ?_
     rotate_left
     ·(intro x _;go_simp;try with_reducible rfl)
     rotate_right
     try simp only [Act.put,List.setIfInBounds_toArray,List.set_cons_zero,List.set_cons_succ]
     refine Yab 2 (some 168) (v:=?_) rfl rfl (by kernel_rfl) (by kernel_rfl) (by kernel_rfl) (fun _ _ _ h=> h) hH (Or.inl ⟨by kernel_rfl,?_⟩) ?_
     rotate_left
     ·(intro x _;go_simp;try with_reducible rfl)
     rotate_right
     try simp only [Act.put,List.setIfInBounds_toArray,List.set_cons_zero,List.set_cons_succ]
     refine Yab 3 (some 169) (v:=.int .i64 (n:Int)) rfl rfl (by kernel_rfl) (by kernel_rfl) (by kernel_rfl) (fun _ _ _ h=> h) hH (Or.inl ⟨by kernel_rfl,?_⟩) ?_
     ·(intro x hx;have c0:=Yaa hx z7;go_simp)
     try simp only [Act.put,List.setIfInBounds_toArray,List.set_cons_zero,List.set_cons_succ]
     refine Yab 4 (some 170) (v:=?_) rfl rfl (by kernel_rfl) (by kernel_rfl) (by kernel_rfl) (fun _ _ _ h=> h) hH (Or.inl ⟨by kernel_rfl,?_⟩) ?_
     rotate_left
     ·(intro x _;go_simp;try with_reducible rfl)
     rotate_right
     try simp only [Act.put,List.setIfInBounds_toArray,List.set_cons_zero,List.set_cons_succ]
     refine Yab 5 (some 171) (v:=?_) rfl rfl (by kernel_rfl) (by kernel_rfl) (by kernel_rfl) (fun _ _ _ h=> h) hH (Or.inl ⟨by kernel_rfl,?_⟩) ?_
     rotate_left
     ·(intro x _;go_simp;try with_reducible rfl)
     rotate_right
     try simp only [Act.put,List.setIfInBounds_toArray,List.set_cons_zero,List.set_cons_succ]
     refine wpAnyH_ready (rs:=[6]) (by kernel_rfl) (by simp) ?_
     refine AllReadyH.cons rfl (fun K hK=> ?_) AllReadyH.nil
     refine (if_pos (by kernel_rfl)).mpr ?_
     have hA8:w7.drew.heap[A]? = some (.cells Y 30 (0,0)):=hA7
     refine wp_store_row 30 _ _ rfl A zs7.toArray (by kernel_rfl) (by kernel_rfl) 30 Y hA8 HSX7 HYX7 HOX7 ?_
     obtain ⟨w8,hw8⟩:∃w8,w7.drew.setRow A zs7.toArray=w8:=⟨_,rfl⟩
     have hh8:w8.heap[A]? = some (.cells zs7.toArray 30 (0,0)):=by rw [←hw8];exact setRow_heap _ _ _ _ _ _ hA8
     have hg8:w7.drew.grownBy w8 (some A):=by rw [←hw8];exact ⟨rfl,rfl,rfl,by simp,fun k _ hk=> setRow_other _ _ _ _ (by intro e;exact hk (by rw [e]))⟩
     rw [hw8]
     have hX8:=(hg8.block X (show X<w7.heap.size from hX7s) fun e=> by injection e with e;exact hneA e.symm).trans hX7
     refine hK.out _ _ hX8 (fun hH2=> ?_)
     clear hK K hH hw8
     have hH:=hH2
     clear hH2
     try simp only [Act.put,List.setIfInBounds_toArray]
     refine Yab 7 (some 5) (v:=?_) rfl rfl (by kernel_rfl) (by kernel_rfl) (by kernel_rfl) (fun _ _ _ h=> h) hH (Or.inl ⟨by kernel_rfl,?_⟩) ?_
     rotate_left
     ·(intro x _;go_simp;try with_reducible rfl)
     rotate_right
     try simp only [Act.put]
     refine Yab 8 (some 6) (v:=?_) rfl rfl (by kernel_rfl) (by kernel_rfl) (by kernel_rfl) (fun _ _ _ h=> h) hH (Or.inl ⟨by kernel_rfl,?_⟩) ?_
     rotate_left
     ·(intro x _;go_simp;try with_reducible rfl)
     rotate_right
     try simp only [Act.put]
     refine wpAnyH_done (by kernel_rfl) ?_ _
     go_wp2
     refine bodyPost_ret (Yaf rfl _ _ A 30 _ (0,0) _ rfl hh8 Tryz.underlying30 rfl HSX7) rfl ?_
     have hAr:wr.heap[A]? = some (.cells Y12.toArray 30 (0,0)):=by rw [HYQ.out];exact hsi.res
     obtain ⟨hrow,hrA⟩:=hsi.row.more hAr
     have hgl:Yai [some X,some A] wr w8:=by
      have g1:Yai [some X,some A] wr w7:=Yai.one hgs fun k _ e=> by rw [e];exact List.mem_cons_self ..
      refine g1.trans (M:=[some A]) ⟨hg8.os,hg8.tape,hg8.output,hg8.size,fun k hk hn=> hg8.block k hk fun e=> hn (by rw [e];exact List.mem_singleton.2 rfl)⟩ fun j _ hm=> by rw [List.mem_singleton.1 hm];exact List.mem_cons_of_mem _ (List.mem_singleton.2 rfl)
     have hrow8:Yek (some A::L) w8 rv rs:=Yek.keptL hrow hgl (fun k hk=> by
      rcases List.mem_cons.1 hk with e | e
      ·rw [e];exact List.mem_cons_of_mem _ hsi.inX
      ·rw [List.mem_singleton.1 e];exact List.mem_cons_self ..) fun k hk hm=> by
      rcases List.mem_cons.1 hm with e | e
      ·injection e with e;exact (hsi.inR k hk).2 e
      ·have e:=List.mem_singleton.1 e;injection e with e;exact hrA k hk e
     have hsup8:Ycf w8 a hd.supp:=by
      rcases hsi.sup.2 with h2 | ⟨b,o,e,hb⟩
      ·rw [h2];exact Ycf.nil _ _
      ·refine hsi.sup.1.keptL (fun y hy hm=> ?_) hgl
       rw [e] at hy
       injection hy with hy
       have hfa:=HFA.out _ e
       subst hy
       rcases List.mem_cons.1 hm with e1 | e1
       ·injection e1 with e1;exact hb (by rw [show b=X from e1];exact hsi.inX)
       ·have e1:=List.mem_singleton.1 e1;injection e1 with e1;have:A<b:=hfa;have:b=A:=e1;omega
     obtain ⟨qv,cv,hv,hin8⟩:=hrow8.rows
     refine ⟨zs7,?_,?_,?_⟩
     ·rw [FA.out]
      first | rfl | kernel_rfl
     ·rw [FA.out]
      have hl8:=(Yj8.1 (Ylg HK.out).2.1).2.2.1
      refine ⟨a,qv,ca,cv,by rw [←HZ7.out,hv],?_,?_,hsup8,hin8⟩
      ·show hd.supp.length≤maxLen;unfold maxLen;omega
      ·show rs.length≤maxLen;unfold maxLen;omega
     ·exact hgl.under (N:=w.heap.size) (by have:=hsi.low.size;omega) (fun k hk=> by
       rcases List.mem_cons.1 hk with e | e
       ·injection e with e;rw [e];exact (hsi.off X hsi.inX).1
       ·have e:=List.mem_singleton.1 e;injection e with e;rw [e];exact hsi.ord.1) |> hsi.low.trans
end Go.Proofs.YtpgdngijmihafaaGreatDoor