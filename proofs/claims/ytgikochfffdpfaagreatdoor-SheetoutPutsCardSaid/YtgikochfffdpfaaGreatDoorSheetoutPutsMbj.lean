/- Texts that SheetoutPuts's proof stands on, part 36 of 47. No condition of its own. -/
import Derived.Test.YtgikochfffdpfaaGreatDoorSheetoutPutsMo
import Derived.Test.YtgikochfffdpfaaGreatDoorSheetoutPutsMz
import Derived.Test.YtgikochfffdpfaaGreatDoorSheetoutPutsMbb
import Derived.Test.YtgikochfffdpfaaGreatDoorSheetoutPutsMbf
import Derived.Test.YtgikochfffdpfaaGreatDoorSheetoutPutsMbh
import Derived.Test.YtgikochfffdpfaaGreatDoorSheetoutPutsMbi
namespace Go.Proofs.YtgikochfffdpfaaGreatDoor
open Go.RowKit Go.Lib
theorem Yp1 (i:Bool) (d:Int) (w:World) (h:Ys0 i d=true):Calls Tryz.prog 181 #[.bool i,.int .i64 d] w fun e w'=> e = .returned (.tuple #[.string ⟨(dcB i d).toArray⟩,.int .i64 0])∧Below w.heap.size w w':=by
 cases i with
 | false=>
  have h0:d=0:=by simpa [Ys0] using h
  subst h0
  go_enter Tryz.func181,Tryz.ntmps181
  go_wp2
  go_ret2
  exact ⟨rfl,Below.refl _ _⟩
 | true=>
  have h0:1≤d∧d≤254:=by simpa [Ys0] using h
  obtain ⟨h1,h2⟩:=h0
  have t0:decide (d<1)=false:=by simp;omega
  have t1:decide (254<d)=false:=by simp;omega
  by_cases h128:d=128
  ·subst h128
   have hrow:=fun x=> Yhk 255 8 x (by decide) (by decide +kernel)
   have F:=Lib.hid (show (⟨(dcB true 128).toArray⟩:ByteArray)=⟨(Yak (255:Int).toNat (8:Int).toNat).toArray⟩ from rfl)
   rw [F.out]
   generalize (⟨(Yak (255:Int).toNat (8:Int).toNat).toArray⟩:ByteArray)=y at hrow ⊢
   go_enter Tryz.func181,Tryz.ntmps181
   go_wp2_with fail
   refine (hrow _).mono ?_
   rintro e w1 ⟨rfl,hb⟩
   go_wp2
   go_ret2
   exact ⟨rfl,hb⟩
  ·have g0:(d==128)=false:=by rw [beq_eq_false_iff_ne];exact h128
   have hrow:=fun x=> Yhk d 8 x (by omega) (by
    unfold Yca
    rw [decide_eq_true_iff]
    refine ⟨by omega,by omega,by omega,?_⟩
    rw [show (2:Int)^(8:Int).toNat=256 from rfl]
    omega)
   have F:=Lib.hid (show (⟨(dcB true d).toArray⟩:ByteArray)=⟨(Yak d.toNat (8:Int).toNat).toArray⟩ by unfold dcB;rw [if_pos rfl,if_neg h128];rfl)
   rw [F.out]
   generalize (⟨(Yak d.toNat (8:Int).toNat).toArray⟩:ByteArray)=y at hrow ⊢
   clear h128 h h1 h2 F
   go_enter Tryz.func181,Tryz.ntmps181
   go_wp2_with fail
   refine (hrow _).mono ?_
   rintro e w1 ⟨rfl,hb⟩
   go_wp2
   go_ret2
   exact ⟨rfl,hb⟩
theorem Ytn (i:Bool) (d:Int) (w:World) (h:Ys0 i d=false):Calls Tryz.prog 181 #[.bool i,.int .i64 d] w fun e w'=> e = .returned (.tuple #[.string ⟨#[]⟩,.int .i64 7])∧w=w':=by
 cases i with
 | false=>
  have g0:(d==0)=false:=h
  clear h
  go_enter Tryz.func181,Tryz.ntmps181
  go_wp2
  go_ret2
  exact ⟨rfl,rfl⟩
 | true=>
  by_cases h1:d<1
  ·have t0:decide (d<1)=true:=by simpa using h1
   clear h
   go_enter Tryz.func181,Tryz.ntmps181
   go_wp2
   go_ret2
   exact ⟨rfl,rfl⟩
  ·have t0:decide (d<1)=false:=by simpa using h1
   have t1:decide (254<d)=true:=by
    have h2:(decide (1≤d)&&decide (d≤254))=false:=h
    rw [decide_eq_true (by omega:1≤d),Bool.true_and,decide_eq_false_iff_not] at h2
    simp;omega
   clear h h1
   go_enter Tryz.func181,Tryz.ntmps181
   go_wp2
   go_ret2
   exact ⟨rfl,rfl⟩
def Yfy (i:Bool) (d:Int) (l:List Ev):List ByteArray:=⟨(dcB i d).toArray⟩::l.map Ymb
theorem Yu8 (i:Bool) (d:Int) (l:List Ev):Yyv (Yfy i d l)=Yez i d l:=by
 unfold Yyv Yfy Yez Yke
 rw [List.map_cons,List.flatten_cons,List.map_map,List.flatMap]
 rfl
theorem Yu9 (i:Bool) (d:Int) (l:List Ev):(Yfy i d l).length=l.length+1:=by simp [Yfy]
theorem Ysb (i:Bool) (d:Int) (l:List Ev) (x:Ev):Yfy i d (l ++ [x])=Yfy i d l ++ [Ymb x]:=by simp [Yfy]
theorem Yu1 (x:Ev) (h:Yci x.2.1 x.2.2=true):(!(Ybe x.1 x.2.1 x.2.2).data.toList.isEmpty)=true:=by
 obtain ⟨r0,r1,_⟩:=Ycj.1 h
 have h3:=Yl7 x.1 x.2.1.toNat x.2.2 (by omega)
 unfold Ybe
 rw [if_pos h]
 show (!(Yak _ _).isEmpty)=true
 cases hl:Yak (Ynb x.1 x.2.1.toNat x.2.2) (Ylt x.1 x.2.1.toNat x.2.2) with
 | nil=>
  have e:=Yag (Ynb x.1 x.2.1.toNat x.2.2) (Ylt x.1 x.2.1.toNat x.2.2)
  rw [hl,List.length_nil] at e
  omega
 | cons a l=> rfl
set_option maxRecDepth 100000 in
set_option maxHeartbeats 2000000 in
theorem Yxu (i:Bool) (d:Int) (p:Option Addr) (l:List Ev) (c:Nat) (w:World) (hp:Yd2 w p l) (hT:Yhp w) (hm:Yh4 i d l=true):
  Calls Tryz.prog 164 #[.bool i,.int .i64 d,.slice p l.length c] w fun e w'=> e = .returned (.tuple #[.string ⟨(Yez i d l).toArray⟩,.int .i64 0])∧Below w.heap.size w w':=by
 obtain ⟨hd,hbv⟩:=Ydk hm
 have hl64:=Yfk hbv
 obtain ⟨i0,hi,jz0,jz1,jz2⟩:=info_parts Yp4
 obtain ⟨B,hB⟩:∃B,w.heap.size=B:=⟨_,rfl⟩
 have hfr:=fun x=> Ykl i x
 have hlv:=fun (x:World) (hx:Below w.heap.size w x)=> Yi7 p l c ((Yby i:Nat):Int) x (hp.below hx) (by omega)
 unfold Yga at hlv
 rw [Yxm hbv] at hlv
 have HONE:=Yej (lvG l ((Yby i:Nat):Int)).1
 have HSZ:(Tryz.prog.info? 144).map (·.size)=some (Yf1 (lvG l ((Yby i:Nat):Int)).1).size:=Ydm _
 obtain ⟨Y,hY⟩:∃Y,Yf1 (fun _=> 0)=Y:=⟨_,rfl⟩
 have hzv:∀w,(zeroValue 144).run Tryz.prog w = .ok (.agg Y) w:=by rw [←hY];exact Ygw
 have hYZ:Y.size=(Yf1 (lvG l ((Yby i:Nat):Int)).1).size:=by rw [←hY,Yb2,Yb2]
 generalize Yf1 (lvG l ((Yby i:Nat):Int)).1=Z at hlv HONE HSZ hYZ
 generalize ((Yby i:Nat):Int)=fr at hfr hlv
 have hdc:=fun x=> Yp1 i d x hd
 obtain ⟨y0,hy0⟩:∃y0:ByteArray,⟨(dcB i d).toArray⟩=y0:=⟨_,rfl⟩
 rw [hy0] at hdc
 have HLV:=Lib.hid hlv
 have HP:=Lib.hid (fun (x:World) (hx:Below B w x)=> (hp.below (by rw [hB];exact hx):Yd2 x p l))
 have HT:=Lib.hid (fun (x:World) (hx:Below B w x)=> (hT.below (by rw [hB];exact hx):Yhp x))
 have ROW:=Lib.hid (show∀j,(h:j<l.length)→(!(Ybe l[j].1 l[j].2.1 l[j].2.2).data.toList.isEmpty)=true from fun j h=> Yu1 _ (Yq0 hbv h))
 have CAT:=Lib.hid (Yu8 i d l)
 have CLN:=Lib.hid (Yik i d l)
 have FST:=Lib.hid (show Yfy i d [] = [y0] by rw [←hy0];rfl)
 have NXT:=Lib.hid (fun (j:Nat) (h:j<l.length)=> (by rw [List.take_succ_eq_append_getElem h,Ysb]:Yfy i d (l.take (j+1))=Yfy i d (l.take j) ++ [Ymb l[j]]))
 have HB:=Lib.hid hB
 obtain ⟨n,hn⟩:∃n,l.length=n:=⟨_,rfl⟩
 have HN:=Lib.hid hn
 have LEN:=Lib.hid (fun (j:Nat) (h:j≤n)=> (by rw [Yu9,List.length_take];omega:(Yfy i d (l.take j)).length=j+1))
 rw [hn] at hl64 ⊢
 generalize hRB:(⟨(Yez i d l).toArray⟩:ByteArray)=RB
 have HRB:=Lib.hid hRB
 clear hp hT hlv hY hd hbv hm hy0 hB hn hRB
 go_enter Tryz.func164,Tryz.ntmps164
 go_wp2_with fail
 refine (hdc _).mono ?_
 rintro e w1 ⟨rfl,hb1⟩
 go_wp2_with fail
 refine (hfr _).mono ?_
 rintro e w2 ⟨rfl,rfl⟩
 go_wp2_with fail
 have hlv1:=HLV.out _ hb1
 rw [HN.out] at hlv1
 refine hlv1.mono ?_
 rintro e w2 ⟨rfl,hb2⟩
 rw [HB.out] at hb1
 have hbz1:B≤w1.heap.size:=by rw [←HB.out];exact hb1.size
 have hb3:=hb1.trans (hb2.mono hbz1)
 have hz3:B≤w2.heap.size:=Nat.le_trans hbz1 hb2.size
 obtain ⟨X,hX⟩:∃X,w2.heap.size=X:=⟨_,rfl⟩
 have hh4:=heap_alloc_new w2 (.cells Y 144 (0,0))
 have hb4:=hb3.alloc hz3 (.cells Y 144 (0,0))
 have hsz4:(w2.alloc (.cells Y 144 (0,0))).heap.size=X+1:=by simp;omega
 rw [hX] at hh4
 generalize hw4:w2.alloc (.cells Y 144 (0,0))=w4 at hh4 hb4 hsz4
 have HW4:=Lib.hid hw4
 have HX:=Lib.hid hX
 have HXB:=Lib.hid (show B≤X by omega)
 clear hw4 hX hb1 hb2 hb3 hz3 hbz1 hlv1 hdc hfr
 go_wp2_with (rw [HW4.out,HX.out];with_reducible refine Yao rfl 144 _ _ rfl X Z Y rfl rfl 144 hh4 HSZ hYZ HONE ?_;intro w5 hh5 hg5;clear hzv)
 have hb6:=hb4.grown hg5 (by have:=HXB.out;omega) (fun k hk=> by injection hk with hk;have:=HXB.out;omega)
 have hz6:B≤w5.heap.size:=by have:=HXB.out;have:=hg5.size;omega
 have hown0:(w5.alloc (.cells #[.string y0] 9 (0,0))).ownsRow B 9 1 (.slice (some ⟨w5.heap.size,0,none⟩) 1 1) 1 (Ybd [y0]):=World.ownsRow_lit w5 #[.string y0] 1 hz6 (by unfold maxLen;omega) rfl
 have hb7:=hb6.alloc hz6 (.cells #[.string y0] 9 (0,0))
 have hz7:B≤(w5.alloc (.cells #[.string y0] 9 (0,0))).heap.size:=by simp;omega
 generalize w5.alloc (.cells #[.string y0] 9 (0,0))=w7 at hown0 hb7 hz7 ⊢
 generalize w5.heap.size=X5 at hown0 ⊢
 clear hh4 hb4 hsz4 hh5 hg5 hb6 hz6 HSZ HONE hYZ
 go_loopw [12,40] (fun v z wr=>∃j:Nat,j≤n∧z = .int .i64 j∧wr.ownsRow B 9 1 v (j+1) (Ybd (Yfy i d (l.take j)))∧Below B w wr∧B≤wr.heap.size) (fun _ z _=> n-(RowKit.intOf z).toNat)
 case atStart=> exact ⟨0,Nat.zero_le _,rfl,by rw [List.take_zero,FST.out];exact hown0,hb7,hz7⟩
 case round=>
  clear hown0 hb7 hz7
  obtain ⟨j,hj,rfl,hown,hb,hz⟩:=hrel
  by_cases hlt:j<n
  ·have t0:decide ((j:Int)<(n:Int))=true:=by simp;omega
   have t1:decide (j<n)=true:=by simpa using hlt
   have hjl:j<l.length:=by rw [HN.out];exact hlt
   obtain ⟨b,o,rfl,hbb,hc⟩:=(HP.out _ hb).at (by omega)
   obtain ⟨c0,c1,c2⟩:=hc j hjl
   have hne:=ROW.out j hjl
   have hnx:=NXT.out j hjl
   obtain ⟨⟨x0,x1,x2⟩,hxe⟩:∃x,l[j]=x:=⟨_,rfl⟩
   rw [hxe] at c0 c1 c2 hne hnx
   simp only at c0 c1 c2 hne
   rw [show Ymb (x0,x1,x2)=Ybe x0 x1 x2 from rfl] at hnx
   have hrow:=fun x hx=> Ytv x0 x1 x2 x hx
   rw [hne] at hrow
   generalize Ybe x0 x1 x2=y at hrow hnx
   have N:=Lib.hid (show Ybd (Yfy i d (l.take (j+1)))=Ybd (Yfy i d (l.take j)) ++ [.string y] by rw [hnx,Yet])
   obtain ⟨X,hX⟩:∃X,wr.heap.size=X:=⟨_,rfl⟩
   obtain ⟨wx,hwx⟩:∃wx,wr.alloc (.cells #[.bool x0,.int .i64 x1,.int .i64 x2] 130 (0,0))=wx:=⟨_,rfl⟩
   have hzx:wx.heap.size=X+1:=by rw [←hwx,←hX];simp
   have hbx:Below B w wx:=by rw [←hwx];exact hb.alloc (by omega) _
   have hox:wx.ownsRow B 9 1 u12 (j+1) (Ybd (Yfy i d (l.take j))):=by rw [←hwx];exact hown.alloc _
   have HX:=Lib.hid hX
   have HWX:=Lib.hid hwx
   have HXB:=Lib.hid (show B≤X by omega)
   clear hX hwx hc hbb hxe hnx hne hjl hown hb
   go_wp2_with fail
   rw [HWX.out,HX.out]
   refine (hrow _ (HT.out _ hbx)).mono ?_
   rintro e w1 ⟨rfl,hb1⟩
   have hb2:=hbx.trans (hb1.mono (by have:=HXB.out;omega))
   have hz2:B≤w1.heap.size:=by have:=hb1.size;have:=HXB.out;omega
   have ho2:=hox.kept (Yaq hb1 none) (Classical.em _)
   clear hbx hox hb1 hrow hzx
   go_wp2_with (at_builtin;refine Yho (y0:=y) rfl rfl Tryz.underlying125 hi jz0 rfl jz1 jz2 rfl (ho2.alloc _) rfl ?d1 ?d2 ?d3 ?_;(case d1=> go_cell);(case d2=> omega);(case d3=> (simp;omega));intro v2 w2 ho3 hgrow;have hg3:World.grownBy _ w2 (Value.ownBlock u12):=hgrow;have hb4:=(hb2.alloc hz2 _).grown hg3 (by simp;omega) (fun q hq=> (ho2.lt q hq).1);have hz4:B≤w2.heap.size:=Nat.le_trans (by simp;omega) hg3.size;clear hgrow)
   go_roundw
   case rel=> exact ⟨j+1,by omega,by go_num,by rw [N.out];exact ho3,hb4,hz4⟩
   case measure=> simp [RowKit.intOf];omega
  ·obtain rfl:j=n:=by omega
   have t0:decide ((j:Int)<(j:Int))=false:=by simp
   have t1:decide (j<j)=false:=by simp
   have hlen:=LEN.out j (Nat.le_refl _)
   rw [←hlen] at hown
   obtain ⟨g,cap,rfl,hcap,hg,hcs⟩:=Yuk hown (by omega)
   have htk:l.take j=l:=by rw [←HN.out];exact List.take_length
   rw [htk] at hcs hcap hlen
   have hj:=Ywf g cap (Yfy i d l) wr hcs hg hcap (by omega) (by rw [CAT.out];have:=CLN.out;rw [HN.out] at this;omega)
   rw [CAT.out,HRB.out] at hj
   rw [htk]
   rw [hlen] at hj ⊢
   clear hown hcs hcap htk
   go_wp2_with fail
   refine hj.mono ?_
   rintro e w1 ⟨rfl,hb1⟩
   have hb2:=hb.trans (hb1.mono hz)
   go_wp2
   go_ret2
   exact ⟨rfl,by rw [HB.out];exact hb2⟩
set_option maxRecDepth 100000 in
set_option maxHeartbeats 2000000 in
theorem Yv3 (i:Bool) (d:Int) (p:Option Addr) (l:List Ev) (c:Nat) (w:World) (hp:Yd2 w p l) (hln:l.length≤140737488355328) (hm:Yh4 i d l=false):
  Calls Tryz.prog 164 #[.bool i,.int .i64 d,.slice p l.length c] w fun e w'=> e = .returned (.tuple #[.string ⟨#[]⟩,.int .i64 7])∧Below w.heap.size w w':=by
 cases hd:Ys0 i d with
 | false=>
  have hdc:=fun x=> Ytn i d x hd
  generalize l.length=n
  clear hp hm hd hln
  go_enter Tryz.func164,Tryz.ntmps164
  go_wp2_with fail
  refine (hdc _).mono ?_
  rintro e w1 ⟨rfl,rfl⟩
  go_wp2
  go_ret2
  exact ⟨rfl,Below.refl _ _⟩
 | true=>
  have hbv:Yib (Yby i) l l.length=true:=by
   unfold Yh4 at hm
   rw [hd,Bool.true_and,Bool.not_eq_false'] at hm
   exact hm
  obtain ⟨B,hB⟩:∃B,w.heap.size=B:=⟨_,rfl⟩
  have hfr:=fun x=> Ykl i x
  have hlv:=fun (x:World) (hx:Below w.heap.size w x)=> Yi7 p l c ((Yby i:Nat):Int) x (hp.below hx) (by omega)
  unfold Yga at hlv
  rw [Yt8 hbv] at hlv
  have HONE:=Yej (lvG l ((Yby i:Nat):Int)).1
  have HSZ:(Tryz.prog.info? 144).map (·.size)=some (Yf1 (lvG l ((Yby i:Nat):Int)).1).size:=Ydm _
  obtain ⟨Y,hY⟩:∃Y,Yf1 (fun _=> 0)=Y:=⟨_,rfl⟩
  have hzv:∀w,(zeroValue 144).run Tryz.prog w = .ok (.agg Y) w:=by rw [←hY];exact Ygw
  have hYZ:Y.size=(Yf1 (lvG l ((Yby i:Nat):Int)).1).size:=by rw [←hY,Yb2,Yb2]
  generalize Yf1 (lvG l ((Yby i:Nat):Int)).1=Z at hlv HONE HSZ hYZ
  generalize ((Yby i:Nat):Int)=fr at hfr hlv
  have hdc:=fun x=> Yp1 i d x hd
  obtain ⟨y0,hy0⟩:∃y0:ByteArray,⟨(dcB i d).toArray⟩=y0:=⟨_,rfl⟩
  rw [hy0] at hdc
  have HLV:=Lib.hid hlv
  have HB:=Lib.hid hB
  obtain ⟨n,hn⟩:∃n,l.length=n:=⟨_,rfl⟩
  have HN:=Lib.hid hn
  rw [hn]
  clear hp hlv hY hd hbv hm hy0 hB hn hln
  go_enter Tryz.func164,Tryz.ntmps164
  go_wp2_with fail
  refine (hdc _).mono ?_
  rintro e w1 ⟨rfl,hb1⟩
  go_wp2_with fail
  refine (hfr _).mono ?_
  rintro e w2 ⟨rfl,rfl⟩
  go_wp2_with fail
  have hlv1:=HLV.out _ hb1
  rw [HN.out] at hlv1
  refine hlv1.mono ?_
  rintro e w2 ⟨rfl,hb2⟩
  rw [HB.out] at hb1
  have hbz1:B≤w1.heap.size:=by rw [←HB.out];exact hb1.size
  have hb3:=hb1.trans (hb2.mono hbz1)
  have hz3:B≤w2.heap.size:=Nat.le_trans hbz1 hb2.size
  obtain ⟨X,hX⟩:∃X,w2.heap.size=X:=⟨_,rfl⟩
  have hh4:=heap_alloc_new w2 (.cells Y 144 (0,0))
  have hb4:=hb3.alloc hz3 (.cells Y 144 (0,0))
  have hsz4:(w2.alloc (.cells Y 144 (0,0))).heap.size=X+1:=by simp;omega
  rw [hX] at hh4
  generalize hw4:w2.alloc (.cells Y 144 (0,0))=w4 at hh4 hb4 hsz4
  have HW4:=Lib.hid hw4
  have HX:=Lib.hid hX
  have HXB:=Lib.hid (show B≤X by omega)
  clear hw4 hX hb1 hb2 hb3 hz3 hbz1 hlv1 hdc hfr
  go_wp2_with (rw [HW4.out,HX.out];with_reducible refine Yao rfl 144 _ _ rfl X Z Y rfl rfl 144 hh4 HSZ hYZ HONE ?_;intro w5 hh5 hg5;clear hzv)
  have hb6:=hb4.grown hg5 (by have:=HXB.out;omega) (fun k hk=> by injection hk with hk;have:=HXB.out;omega)
  go_ret2
  exact ⟨rfl,by rw [HB.out];exact hb6⟩
set_option maxHeartbeats 1000000 in
theorem Yv2 (i:Bool) (d:Int) (p:Option Addr) (l:List Ev) (c b:Nat) (w:World) (hp:Yd2 w p l) (hln:l.length≤140737488355328) (hm:Yh4 i d l=false):
  Calls Tryz.prog 145 #[.pointer (some ⟨b,0,none⟩),.bool i,.int .i64 d,.slice p l.length c] w fun e w'=> e = .returned (.int .i64 7)∧Below w.heap.size w w':=by
 have h:=Yv3 i d p l c w hp hln hm
 generalize l.length=n at h ⊢
 go_enter Tryz.func145,Tryz.ntmps145
 go_wp2_with fail
 refine h.mono ?_
 rintro e w1 ⟨rfl,hb1⟩
 go_wp2
 go_ret
 exact ⟨rfl,hb1⟩
set_option maxHeartbeats 1000000 in
theorem Yxt (i:Bool) (d:Int) (p:Option Addr) (l:List Ev) (c B b:Nat) (r:List UInt8) (w:World) (hw:Ybm w B b r) (hn:r.length≤274877906944) (hB:B≤w.heap.size) (hp:Yd2 w p l) (hT:Yhp w) (hm:Yh4 i d l=true):
  Calls Tryz.prog 145 #[.pointer (some ⟨b,0,none⟩),.bool i,.int .i64 d,.slice p l.length c] w fun e w'=> e = .returned (.int .i64 0)∧Ybm w' B b (r++Yez i d l)∧w.grownBy w' (some b):=by
 have h:=Yxu i d p l c w hp hT hm
 have hl64:=Yfk (Ydk hm).2
 have hsz:=Yik i d l
 have hrw:=Yqj i d l
 have ROW:=Lib.hid hrw
 have hadd:=fun (x:World) (hx:Ybm x B b r) (hz:B≤x.heap.size)=> Yig x B b r ⟨(Yez i d l).toArray⟩ hx (by simpa using ROW.out) (by show r.length+(Yez i d l).toArray.size≤_;simp;omega) hz
 have hlist:(⟨(Yez i d l).toArray⟩:ByteArray).data.toList=Yez i d l:=by simp
 rw [hlist] at hadd
 have HA:=Lib.hid hadd
 have HWR:=Lib.hid (fun (x:World) (hx:Below w.heap.size w x)=> (⟨hw.below hx,Nat.le_trans hB hx.size⟩:Ybm x B b r∧B≤x.heap.size))
 generalize (⟨(Yez i d l).toArray⟩:ByteArray)=RB at h hadd HA
 generalize l.length=n at h ⊢
 clear hadd hw hn hB hp hT hm hl64 hsz hrw hlist
 go_enter Tryz.func145,Tryz.ntmps145
 go_wp2_with fail
 refine h.mono ?_
 rintro e w1 ⟨rfl,hb1⟩
 obtain ⟨hw1,hz1⟩:=HWR.out _ hb1
 go_wp2_with fail
 refine (HA.out _ hw1 hz1).mono ?_
 rintro e w2 ⟨rfl,hw2,hg2⟩
 go_wp2
 go_ret
 exact ⟨rfl,hw2,Yai (Yaq hb1 _) hg2⟩
set_option maxRecDepth 100000 in
theorem Ykd (c:Cel) (sl:Nat→Value) (w:World) (hs:Ycl w):Calls Tryz.prog 101 #[.agg (Ycs c sl).toArray] w fun e w'=> e = .returned (.bool (Yfg c.kind c.step))∧Below w.heap.size w w':=by
 have hrow:=fun x (hx:Below w.heap.size w x)=> Yn2 c.step x (hs.below hx)
 obtain ⟨A,hA,f0,f1,f2,f3,f4,f5,-,-⟩:=Ycg c sl
 rw [hA]
 have hb0:=(Below.refl _ w).alloc (Nat.le_refl _) (.cells A 56 (0,0))
 have H:=hrow _ hb0
 have ZC:Hid (Yfg c.kind c.step=if (c.kind==1 || c.kind==4) then !(Yax c.step).data.toList.isEmpty else c.step==0):=Lib.hid rfl
 clear hA hrow hs
 generalize Yfg c.kind c.step=z at *
 generalize (!(Yax c.step).data.toList.isEmpty)=ne at *
 generalize c.kind=kd at *
 generalize c.step=sp at *
 cases t0:(kd==1) with
 | true=>
  rw [t0] at ZC
  go_enter Tryz.func101,Tryz.ntmps101
  go_wp2_with fail
  refine H.mono ?_
  rintro e w1 ⟨rfl,hb1⟩
  go_wp2
  go_ret
  exact ⟨Yad (by rw [ZC.out];rfl),hb0.trans (hb1.mono hb0.size)⟩
 | false=>
  cases t1:(kd==4) with
  | true=>
   rw [t0,t1] at ZC
   go_enter Tryz.func101,Tryz.ntmps101
   go_wp2_with fail
   refine H.mono ?_
   rintro e w1 ⟨rfl,hb1⟩
   go_wp2
   go_ret
   exact ⟨Yad (by rw [ZC.out];rfl),hb0.trans (hb1.mono hb0.size)⟩
  | false=>
   rw [t0,t1] at ZC
   go_enter Tryz.func101,Tryz.ntmps101
   go_wp2
   go_ret
   exact ⟨Yad (by rw [ZC.out];rfl),hb0⟩
set_option maxRecDepth 100000 in
theorem Yie (c:Cel) (sl:Nat→Value) (w:World):Calls Tryz.prog 102 #[.agg (Ycs c sl).toArray] w fun e w'=> e = .returned (.bool (Ykg c.kind c.mx c.my))∧Below w.heap.size w w':=by
 have hin:=fun x=> Ye6 c sl x
 have hno:=fun x=> Yi6 c.mx c.my x
 have hwr:=fun x=> Yfi c.mx c.my x
 have E2:=Yn9 c.mx c.my (Ya5 c.mx) (Ya5 c.my)
 have ZC:Hid (Ykg c.kind c.mx c.my=if Yaj c.kind then c.mx==0&&c.my==0 else c.mx==Ya5 c.mx&&c.my==Ya5 c.my):=Lib.hid rfl
 obtain ⟨A,hA,f0,f1,f2,f3,f4,f5,-,-⟩:=Ycg c sl
 obtain ⟨R,w0,hR,hw0,hz0,hb0,HSZ,hbx⟩:=Ydo w hA
 simp only [hA] at hin
 have HBX:=Lib.hid hbx
 rw [hA]
 have HW:=Lib.hid hw0
 have HR:=Lib.hid hR
 clear hA hw0 hbx hR
 generalize Ykg c.kind c.mx c.my=z at *
 generalize (c.mx==0&&c.my==0)=nb at *
 generalize (c.mx==Ya5 c.mx&&c.my==Ya5 c.my)=eb at *
 generalize Ya5 c.mx=u at *
 generalize Ya5 c.my=v at *
 go_enter Tryz.func102,Tryz.ntmps102
 go_wp2_with (with_reducible refine wpList_load_row rfl 56 _ rfl w.heap.size rfl 56 A (0,0) _ (heap_alloc_new w _) Tryz.underlying56 rfl HSZ ?_)
 rw [HW.out,HR.out]
 refine (hin _).mono ?_
 rintro e w1 ⟨rfl,hb1⟩
 rw [hz0] at hb1
 obtain ⟨c0,c1,c2,c3,c4,c5⟩:=Yaz (HBX.out w1 hb1).2
 have hz1:=hb1.size
 have hb2:=hb0.trans (hb1.mono (by omega))
 cases hik:Yaj c.kind with
 | true=>
  rw [hik] at ZC
  go_wp2_with fail
  refine (hno _).mono ?_
  rintro e w2 ⟨rfl,hb3⟩
  have hb4:=hb2.trans (hb3.mono (by omega))
  go_wp2
  go_ret
  exact ⟨Yad (by rw [ZC.out];rfl),by rw [HR.out];exact hb4⟩
 | false=>
  rw [hik] at ZC
  have CF:=Lib.hid (fun x (hx:Below w1.heap.size w1 x)=> Yaz (c:=c) (sl:=sl) (HBX.out x (hb1.trans (hx.mono (by omega)))).2)
  have WR:=Lib.hid (fun x (hx:Below w1.heap.size w1 x)=> ((hwr x).mono fun e y h=> ⟨h.1,hx.trans (h.2.mono hx.size)⟩:Calls Tryz.prog 129 #[.agg #[.int .i64 c.mx,.int .i64 c.my]] x fun e y=> e = .returned (.agg #[.int .i64 u,.int .i64 v])∧Below w1.heap.size w1 y))
  have hbd:=(Below.refl w1.heap.size w1).drew
  clear c0 c1 c2 c3 c4 c5
  go_wp2
  refine Yah (S:=fun x=> Below w1.heap.size w1 x) 6 (by kernel_rfl) (by kernel_rfl) hbd ?_
  simp only [List.take_succ_cons,List.take_zero,List.drop_succ_cons,List.drop_zero]
  refine Yaa (by kernel_rfl) (fun x _=> by go_simp;try with_reducible rfl) ?_;simp only [Act.put,List.setIfInBounds_toArray,List.set_cons_zero,List.set_cons_succ]
  refine Yaa (v:=.agg #[.int .i64 c.mx,.int .i64 c.my]) (by kernel_rfl) (fun x hx=> by obtain ⟨-,-,-,-,c4,c5⟩:=CF.out x hx;go_simp) ?_;simp only [Act.put,List.setIfInBounds_toArray,List.set_cons_zero,List.set_cons_succ]
  refine Yaa (by kernel_rfl) (fun x _=> by go_simp;try with_reducible rfl) ?_;simp only [Act.put,List.setIfInBounds_toArray,List.set_cons_zero,List.set_cons_succ]
  refine Yaa (v:=.agg #[.int .i64 c.mx,.int .i64 c.my]) (by kernel_rfl) (fun x hx=> by obtain ⟨-,-,-,-,c4,c5⟩:=CF.out x hx;go_simp) ?_;simp only [Act.put,List.setIfInBounds_toArray,List.set_cons_zero,List.set_cons_succ]
  refine Yaf (by kernel_rfl) WR.out (fun _=> by kernel_rfl) ?_;simp only [Act.put,List.setIfInBounds_toArray,List.set_cons_zero,List.set_cons_succ]
  refine Yaa (by kernel_rfl) (fun x _=> by go_simp;try with_reducible rfl) ?_;simp only [Act.put,List.setIfInBounds_toArray,List.set_cons_zero,List.set_cons_succ]
  refine Yas fun x hx=> ?_
  go_wp2
  go_ret
  exact ⟨Yad (by rw [ZC.out];rfl),by rw [HR.out];exact hb2.trans (hx.mono (by omega))⟩
set_option maxRecDepth 100000 in
set_option maxHeartbeats 1000000 in
theorem Yf6 (c:Cel) (p:Nat→Option Addr) (n k:Nat→Nat) (B b:Nat) (r:List UInt8) (w:World) (hw:Ybm w B b r) (hr:r.length≤137438953472) (hB:B≤w.heap.size) (hfar:∀x,w.grownBy x (some b)→Yhp x∧Yfu x c p n):
  Calls Tryz.prog 116 #[.pointer (some ⟨b,0,none⟩),.agg (Ycs c fun i=> .slice (p i) (n i) (k i)).toArray] w fun e w'=>∃i,i≤6∧Ybm w' B b (r++Ydw c i)∧w.grownBy w' (some b)∧((i=6∧Ydx c=true∧e = .returned (.int .i64 0))∨(Ydx c=false∧e = .returned (.int .i64 7))):=by
 have hin:=fun x=> Ye6 c (fun i=> .slice (p i) (n i) (k i)) x
 obtain ⟨A,hA,f0,f1,f2,f3,f4,f5,⟨f6,f7,f8,f9,f10,f11⟩,f12,f13,f14,f15,f16,f17⟩:=Ycg c fun i=> .slice (p i) (n i) (k i)
 obtain ⟨R,w0,hR,hw0,hz0,hb0,HSZ,hbx⟩:=Ydo w hA
 simp only [hA] at hin
 have HBX:=Lib.hid hbx
 rw [hA]
 have HW:=Lib.hid hw0
 have HR:=Lib.hid hR
 have HA:=Lib.hid hA
 have hRb:b≠R:=by have h1:=hw.lt;omega
 have hRb2:some R≠some b:=fun h=> by injection h with h;exact hRb h.symm
 have IDX:=Lib.hid (fun i hi x=> Yqq (fun i=> .slice (p i) (n i) (k i)) x i hi)
 have FAR:=Lib.hid hfar
 have INT:=Lib.hid hin
 have MAYS:=Lib.hid (show Ydx c=true↔_ from Ye2)
 obtain ⟨ik,hik⟩:∃ik,Yaj c.kind=ik:=⟨_,rfl⟩
 have HIK:=Lib.hid hik
 rw [hik] at INT
 have hg0:w.grownBy w0 (some b):=Yaq (hR▸hb0) _
 have hw1:Ybm w0 B b (r++Ydw c 0):=by rw [show r++Ydw c 0=r from List.append_nil _];exact hw.below (hR▸hb0)
 have hbx0:=(hbx w0 (Below.refl _ _)).1
 clear hA hw0 hbx hR hw hfar hin hik
 go_enter Tryz.func116,Tryz.ntmps116
 go_wp2
 rw [HW.out,HR.out]
 go_loopw [10] (fun z wr=>∃i:Nat,i≤6∧z = .int .i64 i∧Ybm wr B b (r++Ydw c i)∧w.grownBy wr (some b)∧wr.heap[R]? = some (.cells A 56 (0,0))∧Hid (∀j,j<i→Yh4 ik (c.dc j) (c.ev j)=true)) (fun z _=> 6-(RowKit.intOf z).toNat)
 case atStart=> exact ⟨0,by omega,rfl,hw1,hg0,hbx0,Lib.hid fun j h=> absurd h (Nat.not_lt_zero j)⟩
 case round=>
  clear hw1 hg0 hbx0
  obtain ⟨i,hi6,rfl,hw,hg,hbx,may⟩:=hrel
  by_cases hlt:i<6
  ·have t0:decide ((i:Int)<6)=true:=by simp;omega
   have i0:=IDX.out i hlt
   obtain ⟨hT,hc⟩:=FAR.out _ hg
   obtain ⟨e1,e2,e3⟩:=hc i hlt
   have hzw:B≤wr.heap.size:=Nat.le_trans hB hg.size
   have hzR:R<wr.heap.size:=by have:=(Array.getElem?_eq_some_iff.1 hbx).1;exact this
   have hln:(r++Ydw c i).length≤274877906944:=by
    have h1:=Yih (c:=c) (n:=64) i fun j hj=> Yfk (Ydk (may.out j hj)).2
    have h2:(8+22*64)*i≤(8+22*64)*6:=Nat.mul_le_mul_left _ hi6
    rw [List.length_append]
    omega
   have LB:=Lib.hid (fun x (hx:Below wr.heap.size wr x)=> (hx.block R hzR).trans hbx)
   have HSQ:(Ycs c fun i=> .slice (p i) (n i) (k i)).toArray=A:=HA.out
   have DC:=Lib.hid (fun x (hx:Below wr.heap.size wr x)=> Yab (o:=6+i) (show x.heap[R]? = some (.cells (Ycs c fun i=> .slice (p i) (n i) (k i)).toArray 56 (0,0)) by rw [HSQ];exact LB.out x hx) (Ydn c _ i hlt))
   have IN:=Lib.hid (fun x (hx:Below wr.heap.size wr x)=> (INT.out x).mono fun e y h=> (⟨h.1,hx.trans (h.2.mono hx.size)⟩:e = .returned (.bool ik)∧Below wr.heap.size wr y))
   have hbd:=(Below.refl wr.heap.size wr).drew
   have hput:∀x,Below wr.heap.size wr x→Ybm x B b (r++Ydw c i)∧B≤x.heap.size∧Yd2 x (p i) (c.ev i)∧Yhp x:=fun x hx=> ⟨hw.below hx,Nat.le_trans hzw hx.size,e3.below hx,hT.below hx⟩
   have HPUT:=Lib.hid hput
   have HG:=Lib.hid hg
   have HLN:=Lib.hid hln
   have HE:=Lib.hid e1
   have HE2:=Lib.hid e2
   clear hT hc e1 e2 e3 hput hw hg hln HSQ
   go_wp2
   refine Yah (S:=fun x=> Below wr.heap.size wr x) 8 (by kernel_rfl) (by kernel_rfl) hbd ?_
   simp only [List.take_succ_cons,List.take_zero,List.drop_succ_cons,List.drop_zero]
   refine Yaa (by kernel_rfl) (fun x _=> by go_simp;try with_reducible rfl) ?_;simp only [Act.put,List.setIfInBounds_toArray,List.set_cons_zero,List.set_cons_succ]
   refine Ycn 56 _ R 56 A (0,0) _ (by kernel_rfl) rfl rfl (fun x hx=> LB.out x hx) Tryz.underlying56 rfl HSZ ?_;simp only [Act.put,List.setIfInBounds_toArray,List.set_cons_zero,List.set_cons_succ]
   refine Yaf (by kernel_rfl) IN.out (fun _=> by kernel_rfl) ?_;simp only [Act.put,List.setIfInBounds_toArray,List.set_cons_zero,List.set_cons_succ]
   iterate 2 (refine Yaa (by kernel_rfl) (fun x _=> by go_simp;try with_reducible rfl) ?_;simp only [Act.put,List.setIfInBounds_toArray,List.set_cons_zero,List.set_cons_succ])
   refine Yaa (by kernel_rfl) (fun x _=> by go_simp;rw [if_pos (by omega)]) ?_;simp only [Act.put,List.setIfInBounds_toArray,List.set_cons_zero,List.set_cons_succ]
   refine Yae 3 _ ⟨R,6+i,none⟩ (.int .i64 (c.dc i)) (by kernel_rfl) rfl rfl (fun x hx=> by have c0:=DC.out x hx;go_simp) ?_;simp only [Act.put,List.setIfInBounds_toArray,List.set_cons_zero,List.set_cons_succ]
   refine Yaa (by kernel_rfl) (fun x _=> by go_simp;try with_reducible rfl) ?_;simp only [Act.put,List.setIfInBounds_toArray,List.set_cons_zero,List.set_cons_succ]
   refine Yas fun x hx=> ?_
   obtain ⟨hw,hzx,hp,hT⟩:=HPUT.out x hx
   by_cases hm:Yh4 ik (c.dc i) (c.ev i)=true
   ·have hp2:=Yxt ik (c.dc i) (p i) (c.ev i) (k i) B b (r++Ydw c i) x hw HLN.out hzx hp hT hm
    rw [←HE.out] at hp2
    have HM:=Lib.hid hm
    clear hm hw hp hT
    go_wp2_with fail
    refine hp2.mono ?_
    rintro e w2 ⟨rfl,hw2,hg2⟩
    have HN:=Lib.hid (show Ydw c (i+1)=Ydw c i++Yez ik (c.dc i) (c.ev i) by rw [←HIK.out];rfl)
    rw [List.append_assoc,←HN.out] at hw2
    have hbx2:=(hg2.block R (Nat.lt_of_lt_of_le hzR hx.size) hRb2).trans (LB.out x hx)
    have hg3:=Yai HG.out (Yai (Yaq hx (some b)) hg2)
    go_wp2
    go_roundw
    case rel=> exact ⟨i+1,by omega,by go_num,hw2,hg3,hbx2,Lib.hid fun j hj=> (Nat.lt_succ_iff_lt_or_eq.1 hj).elim (may.out j) fun h=> h▸HM.out⟩
    case measure=> simp [RowKit.intOf];omega
   ·have hp2:=Yv2 ik (c.dc i) (p i) (c.ev i) (k i) b x hp (by rw [←HE.out];have:=HE2.out;omega) (by simpa using hm)
    rw [←HE.out] at hp2
    have HM:=Lib.hid hm
    have HWX:=Lib.hid hw
    clear hm hw hp hT
    go_wp2_with fail
    refine hp2.mono ?_
    rintro e w2 ⟨rfl,hb2⟩
    have hw2:=HWX.out.below hb2
    have hg3:=Yai HG.out (Yai (Yaq hx (some b)) (Yaq hb2 _))
    go_wp2
    go_ret
    refine ⟨i,hi6,hw2,hg3,.inr ⟨?_,rfl⟩⟩
    refine Bool.eq_false_iff.2 fun h=> HM.out ?_
    rw [←HIK.out]
    exact MAYS.out.1 h i hlt
  ·obtain rfl:i=6:=by omega
   go_wp2
   go_ret
   refine ⟨6,by omega,hw,hg,.inl ⟨rfl,?_,rfl⟩⟩
   rw [MAYS.out,HIK.out]
   exact may.out
end Go.Proofs.YtgikochfffdpfaaGreatDoor