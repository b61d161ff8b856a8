/- No condition. -/
import Derived.Test.YtnamlooifcpoaaaGreatDoorScreensStillMr
import Derived.Test.YtnamlooifcpoaaaGreatDoorScreensStillMbd
import Derived.Test.YtnamlooifcpoaaaGreatDoorScreensStillMbi
import Derived.Test.YtnamlooifcpoaaaGreatDoorScreensStillMbr
namespace Go.Proofs.YtnamlooifcpoaaaGreatDoor
open Go.RowKit Go.Lib
theorem Yop (i:Bool)(d:Int)(w:World)(h:Yyn i d=true):Calls Tryz.prog 163 #[.bool i,.int .i64 d] w fun e w'=>e=.returned (.tuple #[.string ⟨(dcB i d).toArray⟩,.int .i64 0])∧Below w.heap.size w w':=by
 cases i with
 |false=>
  have h0:d=0:=by simpa [Yyn] using h
  subst h0
  go_enter Tryz.func163,Tryz.ntmps163
  go_wp2
  go_ret2
  exact⟨rfl,Below.refl _ _⟩
 |true=>
  have h0:1≤d∧d≤254:=by simpa [Yyn] using h
  obtain⟨h1,h2⟩:=h0;have t0:decide (d<1)=false:=by simp;omega
  have t1:decide (254<d)=false:=by simp;omega
  by_cases h128:d=128
  ·subst h128;have hrow:=fun x=>Yg2 255 8 x (by decide) (by decide +kernel);have F:=Lib.hid (show (⟨(dcB true 128).toArray⟩:ByteArray)=⟨(Yav (255:Int).toNat (8:Int).toNat).toArray⟩ from rfl);rw[F.out];generalize (⟨(Yav (255:Int).toNat (8:Int).toNat).toArray⟩:ByteArray)=y at hrow ⊢
   go_enter Tryz.func163,Tryz.ntmps163
   go_wp2_with fail
   refine(hrow _).mono ?_;rintro e w1 ⟨rfl,hb⟩
   go_wp2
   go_ret2
   exact⟨rfl,hb⟩
  ·have g0:(d==128)=false:=by rw[beq_eq_false_iff_ne];exact h128
   have hrow:=fun x=>Yg2 d 8 x (by omega) (by
    unfold Yce;rw[decide_eq_true_iff];refine⟨by omega,by omega,by omega,?_⟩;rw[show (2:Int)^(8:Int).toNat=256 from rfl];omega)
   have F:=Lib.hid (show (⟨(dcB true d).toArray⟩:ByteArray)=⟨(Yav d.toNat (8:Int).toNat).toArray⟩ by unfold dcB;rw[if_pos rfl,if_neg h128];rfl);rw[F.out];generalize (⟨(Yav d.toNat (8:Int).toNat).toArray⟩:ByteArray)=y at hrow ⊢;clear h128 h h1 h2 F
   go_enter Tryz.func163,Tryz.ntmps163
   go_wp2_with fail
   refine(hrow _).mono ?_;rintro e w1 ⟨rfl,hb⟩
   go_wp2
   go_ret2
   exact⟨rfl,hb⟩
theorem Ysl (i:Bool)(d:Int)(w:World)(h:Yyn i d=false):Calls Tryz.prog 163 #[.bool i,.int .i64 d] w fun e w'=>e=.returned (.tuple #[.string ⟨#[]⟩,.int .i64 7])∧w=w':=by
 cases i with
 |false=>
  have g0:(d==0)=false:=h;clear h
  go_enter Tryz.func163,Tryz.ntmps163
  go_wp2
  go_ret2
  exact⟨rfl,rfl⟩
 |true=>
  by_cases h1:d<1
  ·have t0:decide (d<1)=true:=by simpa using h1
   clear h
   go_enter Tryz.func163,Tryz.ntmps163
   go_wp2
   go_ret2
   exact⟨rfl,rfl⟩
  ·have t0:decide (d<1)=false:=by simpa using h1
   have t1:decide (254<d)=true:=by
    have h2:(decide (1≤d)&&decide (d≤254))=false:=h;rw[decide_eq_true (by omega:1≤d),Bool.true_and,decide_eq_false_iff_not] at h2;simp;omega
   clear h h1
   go_enter Tryz.func163,Tryz.ntmps163
   go_wp2
   go_ret2
   exact⟨rfl,rfl⟩
def Yey (i:Bool)(d:Int)(l:List Ev):List ByteArray:=⟨(dcB i d).toArray⟩::l.map Yub
theorem Yug (i:Bool)(d:Int)(l:List Ev):Yz5 (Yey i d l)=Ymd i d l:=by
 unfold Yz5 Yey Ymd Yqn;rw[List.map_cons,List.flatten_cons,List.map_map,List.flatMap]
 rfl
theorem Yuh (i:Bool)(d:Int)(l:List Ev):(Yey i d l).length=l.length+1:=by simp[Yey]
theorem Yqo (i:Bool)(d:Int)(l:List Ev)(x:Ev):Yey i d (l++[x])=Yey i d l++[Yub x]:=by simp[Yey]
theorem Yuc (x:Ev)(h:Yd8 x.2.1 x.2.2=true):(!(Yb8 x.1 x.2.1 x.2.2).data.toList.isEmpty)=true:=by
 obtain⟨r0,r1,_⟩:=Yes.1 h;have h3:=Ykj x.1 x.2.1.toNat x.2.2 (by omega);unfold Yb8;rw[if_pos h];show (!(Yav _ _).isEmpty)=true;cases hl:Yav (Ynq x.1 x.2.1.toNat x.2.2) (Yln x.1 x.2.1.toNat x.2.2) with
 |nil=>
  have e:=Yap (Ynq x.1 x.2.1.toNat x.2.2) (Yln x.1 x.2.1.toNat x.2.2);rw[hl,List.length_nil] at e;omega
 |cons a l=>rfl
set_option maxRecDepth 100000 in
set_option maxHeartbeats 2000000 in
theorem Yyf (i:Bool)(d:Int)(p:Option Addr)(l:List Ev)(c:Nat)(w:World)(hp:Yex w p l)(hT:Yfd w)(hm:Ytb i d l=true):
  Calls Tryz.prog 162 #[.bool i,.int .i64 d,.slice p l.length c] w fun e w'=>e=.returned (.tuple #[.string ⟨(Ymd i d l).toArray⟩,.int .i64 0])∧Below w.heap.size w w':=by
 obtain⟨hd,hbv⟩:=Yga hm;have hl64:=Yj4 hbv;obtain⟨i0,hi,jz0,jz1,jz2⟩:=info_parts Yv7;obtain⟨B,hB⟩:∃B,w.heap.size=B:=⟨_,rfl⟩;have hfr:=fun x=>Yit i x;have hlv:=fun(x:World) (hx:Below w.heap.size w x)=>Ye8 p l c ((Yda i:Nat):Int) x (hp.below hx) (by omega);unfold Yf3 at hlv;rw[Y0b hbv] at hlv;have HONE:=Ybd (lvG l ((Yda i:Nat):Int)).1
 have HSZ:(Tryz.prog.info? 60).map (·.size)=some (Ya7 (lvG l ((Yda i:Nat):Int)).1).size:=Yau _;obtain⟨Y,hY⟩:∃Y,Ya7 (fun _=>0)=Y:=⟨_,rfl⟩;have hzv:∀w,(zeroValue 60).run Tryz.prog w=.ok (.agg Y) w:=by rw[←hY];exact Yb5
 have hYZ:Y.size=(Ya7 (lvG l ((Yda i:Nat):Int)).1).size:=by rw[←hY,Yam,Yam]
 generalize Ya7 (lvG l ((Yda i:Nat):Int)).1=Z at hlv HONE HSZ hYZ;generalize ((Yda i:Nat):Int)=fr at hfr hlv;have hdc:=fun x=>Yop i d x hd;obtain⟨y0,hy0⟩:∃y0:ByteArray,⟨(dcB i d).toArray⟩=y0:=⟨_,rfl⟩;rw[hy0] at hdc;have HLV:=Lib.hid hlv;have HP:=Lib.hid (fun(x:World) (hx:Below B w x)=>(hp.below (by rw[hB];exact hx):Yex x p l))
 have HT:=Lib.hid (fun(x:World) (hx:Below B w x)=>(hT.below (by rw[hB];exact hx):Yfd x));have ROW:=Lib.hid (show∀j,(h:j<l.length)→(!(Yb8 l[j].1 l[j].2.1 l[j].2.2).data.toList.isEmpty)=true from fun j h=>Yuc _ (Ypm hbv h));have CAT:=Lib.hid (Yug i d l);have CLN:=Lib.hid (Ykp i d l);have FST:=Lib.hid (show Yey i d []=[y0] by rw[←hy0];rfl)
 have NXT:=Lib.hid (fun(j:Nat) (h:j<l.length)=>(by rw[List.take_succ_eq_append_getElem h,Yqo]:Yey i d (l.take (j+1))=Yey i d (l.take j)++[Yub l[j]]));have HB:=Lib.hid hB;obtain⟨n,hn⟩:∃n,l.length=n:=⟨_,rfl⟩;have HN:=Lib.hid hn;have LEN:=Lib.hid (fun(j:Nat) (h:j≤n)=>(by rw[Yuh,List.length_take];omega:(Yey i d (l.take j)).length=j+1));rw[hn] at hl64 ⊢
 generalize hRB:(⟨(Ymd i d l).toArray⟩:ByteArray)=RB;have HRB:=Lib.hid hRB;clear hp hT hlv hY hd hbv hm hy0 hB hn hRB
 go_enter Tryz.func162,Tryz.ntmps162
 go_wp2_with fail
 refine(hdc _).mono ?_;rintro e w1 ⟨rfl,hb1⟩
 go_wp2_with fail
 refine(hfr _).mono ?_;rintro e w2 ⟨rfl,rfl⟩
 go_wp2_with fail
 have hlv1:=HLV.out _ hb1;rw[HN.out] at hlv1;refine hlv1.mono ?_;rintro e w2 ⟨rfl,hb2⟩;rw[HB.out] at hb1;have hbz1:B≤w1.heap.size:=by rw[←HB.out];exact hb1.size
 have hb3:=hb1.trans (hb2.mono hbz1);have hz3:B≤w2.heap.size:=Nat.le_trans hbz1 hb2.size;obtain⟨X,hX⟩:∃X,w2.heap.size=X:=⟨_,rfl⟩;have hh4:=heap_alloc_new w2 (.cells Y 60 (0,0));have hb4:=hb3.alloc hz3 (.cells Y 60 (0,0));have hsz4:(w2.alloc (.cells Y 60 (0,0))).heap.size=X+1:=by simp;omega
 rw[hX] at hh4;generalize hw4:w2.alloc (.cells Y 60 (0,0))=w4 at hh4 hb4 hsz4;have HW4:=Lib.hid hw4;have HX:=Lib.hid hX;have HXB:=Lib.hid (show B≤X by omega);clear hw4 hX hb1 hb2 hb3 hz3 hbz1 hlv1 hdc hfr
 go_wp2_with (rw[HW4.out,HX.out];with_reducible refine Yad rfl 60 _ _ rfl X Z Y rfl rfl 60 hh4 HSZ hYZ HONE ?_;intro w5 hh5 hg5;clear hzv)
 have hb6:=hb4.grown hg5 (by have:=HXB.out;omega) (fun k hk=>by injection hk with hk;have:=HXB.out;omega);have hz6:B≤w5.heap.size:=by have:=HXB.out;have:=hg5.size;omega
 have hown0:(w5.alloc (.cells #[.string y0] 9 (0,0))).ownsRow B 9 1 (.slice (some ⟨w5.heap.size,0,none⟩) 1 1) 1 (Ycr [y0]):=World.ownsRow_lit w5 #[.string y0] 1 hz6 (by unfold maxLen;omega) rfl;have hb7:=hb6.alloc hz6 (.cells #[.string y0] 9 (0,0));have hz7:B≤(w5.alloc (.cells #[.string y0] 9 (0,0))).heap.size:=by simp;omega
 generalize w5.alloc (.cells #[.string y0] 9 (0,0))=w7 at hown0 hb7 hz7 ⊢;generalize w5.heap.size=X5 at hown0 ⊢;clear hh4 hb4 hsz4 hh5 hg5 hb6 hz6 HSZ HONE hYZ
 go_loopw [12,40] (fun v z wr=>∃j:Nat,j≤n∧z=.int .i64 j∧wr.ownsRow B 9 1 v (j+1) (Ycr (Yey i d (l.take j)))∧Below B w wr∧B≤wr.heap.size) (fun _ z _=>n-(RowKit.intOf z).toNat)
 case atStart=>exact⟨0,Nat.zero_le _,rfl,by rw[List.take_zero,FST.out];exact hown0,hb7,hz7⟩
 case round=>
  clear hown0 hb7 hz7;obtain⟨j,hj,rfl,hown,hb,hz⟩:=hrel;by_cases hlt:j<n
  ·have t0:decide ((j:Int)<(n:Int))=true:=by simp;omega
   have t1:decide (j<n)=true:=by simpa using hlt
   have hjl:j<l.length:=by rw[HN.out];exact hlt
   obtain⟨b,o,rfl,hbb,hc⟩:=(HP.out _ hb).at (by omega);obtain⟨c0,c1,c2⟩:=hc j hjl;have hne:=ROW.out j hjl;have hnx:=NXT.out j hjl;obtain⟨⟨x0,x1,x2⟩,hxe⟩:∃x,l[j]=x:=⟨_,rfl⟩;rw[hxe] at c0 c1 c2 hne hnx;simp only at c0 c1 c2 hne;rw[show Yub (x0,x1,x2)=Yb8 x0 x1 x2 from rfl] at hnx;have hrow:=fun x hx=>Yso x0 x1 x2 x hx;rw[hne] at hrow;generalize Yb8 x0 x1 x2=y at hrow hnx
   have N:=Lib.hid (show Ycr (Yey i d (l.take (j+1)))=Ycr (Yey i d (l.take j))++[.string y] by rw[hnx,Yku]);obtain⟨X,hX⟩:∃X,wr.heap.size=X:=⟨_,rfl⟩;obtain⟨wx,hwx⟩:∃wx,wr.alloc (.cells #[.bool x0,.int .i64 x1,.int .i64 x2] 169 (0,0))=wx:=⟨_,rfl⟩;have hzx:wx.heap.size=X+1:=by rw[←hwx,←hX];simp
   have hbx:Below B w wx:=by rw[←hwx];exact hb.alloc (by omega) _
   have hox:wx.ownsRow B 9 1 u12 (j+1) (Ycr (Yey i d (l.take j))):=by rw[←hwx];exact hown.alloc _
   have HX:=Lib.hid hX;have HWX:=Lib.hid hwx;have HXB:=Lib.hid (show B≤X by omega);clear hX hwx hc hbb hxe hnx hne hjl hown hb
   go_wp2_with fail
   rw[HWX.out,HX.out];refine(hrow _ (HT.out _ hbx)).mono ?_;rintro e w1 ⟨rfl,hb1⟩;have hb2:=hbx.trans (hb1.mono (by have:=HXB.out;omega));have hz2:B≤w1.heap.size:=by have:=hb1.size;have:=HXB.out;omega
   have ho2:=hox.kept (Yao hb1 none) (Classical.em _);clear hbx hox hb1 hrow hzx
   go_wp2_with (at_builtin;refine Yky (y0:=y) rfl rfl Tryz.underlying144 hi jz0 rfl jz1 jz2 rfl (ho2.alloc _) rfl ?d1 ?d2 ?d3 ?_;(case d1=>go_cell);(case d2=>omega);(case d3=>(simp;omega));intro v2 w2 ho3 hgrow;have hg3:World.grownBy _ w2 (Value.ownBlock u12):=hgrow;have hb4:=(hb2.alloc hz2 _).grown hg3 (by simp;omega) (fun q hq=>(ho2.lt q hq).1);have hz4:B≤w2.heap.size:=Nat.le_trans (by simp;omega) hg3.size;clear hgrow)
   go_roundw
   case rel=>exact⟨j+1,by omega,by go_num,by rw[N.out];exact ho3,hb4,hz4⟩
   case measure=>simp[RowKit.intOf];omega
  ·obtain rfl:j=n:=by omega
   have t0:decide ((j:Int)<(j:Int))=false:=by simp
   have t1:decide (j<j)=false:=by simp
   have hlen:=LEN.out j (Nat.le_refl _);rw[←hlen] at hown;obtain⟨g,cap,rfl,hcap,hg,hcs⟩:=Yto hown (by omega);have htk:l.take j=l:=by rw[←HN.out];exact List.take_length
   rw[htk] at hcs hcap hlen;have hj:=Yv9 g cap (Yey i d l) wr hcs hg hcap (by omega) (by rw[CAT.out];have:=CLN.out;rw[HN.out] at this;omega);rw[CAT.out,HRB.out] at hj;rw[htk];rw[hlen] at hj ⊢;clear hown hcs hcap htk
   go_wp2_with fail
   refine hj.mono ?_;rintro e w1 ⟨rfl,hb1⟩;have hb2:=hb.trans (hb1.mono hz)
   go_wp2
   go_ret2
   exact⟨rfl,by rw[HB.out];exact hb2⟩
set_option maxRecDepth 100000 in
set_option maxHeartbeats 2000000 in
theorem Yvq (i:Bool)(d:Int)(p:Option Addr)(l:List Ev)(c:Nat)(w:World)(hp:Yex w p l)(hln:l.length≤140737488355328)(hm:Ytb i d l=false):
  Calls Tryz.prog 162 #[.bool i,.int .i64 d,.slice p l.length c] w fun e w'=>e=.returned (.tuple #[.string ⟨#[]⟩,.int .i64 7])∧Below w.heap.size w w':=by
 cases hd:Yyn i d with
 |false=>
  have hdc:=fun x=>Ysl i d x hd;generalize l.length=n;clear hp hm hd hln
  go_enter Tryz.func162,Tryz.ntmps162
  go_wp2_with fail
  refine(hdc _).mono ?_;rintro e w1 ⟨rfl,rfl⟩
  go_wp2
  go_ret2
  exact⟨rfl,Below.refl _ _⟩
 |true=>
  have hbv:Yj3 (Yda i) l l.length=true:=by
   unfold Ytb at hm;rw[hd,Bool.true_and,Bool.not_eq_false'] at hm;exact hm
  obtain⟨B,hB⟩:∃B,w.heap.size=B:=⟨_,rfl⟩;have hfr:=fun x=>Yit i x;have hlv:=fun(x:World) (hx:Below w.heap.size w x)=>Ye8 p l c ((Yda i:Nat):Int) x (hp.below hx) (by omega);unfold Yf3 at hlv;rw[Yy3 hbv] at hlv;have HONE:=Ybd (lvG l ((Yda i:Nat):Int)).1;have HSZ:(Tryz.prog.info? 60).map (·.size)=some (Ya7 (lvG l ((Yda i:Nat):Int)).1).size:=Yau _;obtain⟨Y,hY⟩:∃Y,Ya7 (fun _=>0)=Y:=⟨_,rfl⟩
  have hzv:∀w,(zeroValue 60).run Tryz.prog w=.ok (.agg Y) w:=by rw[←hY];exact Yb5
  have hYZ:Y.size=(Ya7 (lvG l ((Yda i:Nat):Int)).1).size:=by rw[←hY,Yam,Yam]
  generalize Ya7 (lvG l ((Yda i:Nat):Int)).1=Z at hlv HONE HSZ hYZ;generalize ((Yda i:Nat):Int)=fr at hfr hlv;have hdc:=fun x=>Yop i d x hd;obtain⟨y0,hy0⟩:∃y0:ByteArray,⟨(dcB i d).toArray⟩=y0:=⟨_,rfl⟩;rw[hy0] at hdc;have HLV:=Lib.hid hlv;have HB:=Lib.hid hB;obtain⟨n,hn⟩:∃n,l.length=n:=⟨_,rfl⟩;have HN:=Lib.hid hn;rw[hn];clear hp hlv hY hd hbv hm hy0 hB hn hln
  go_enter Tryz.func162,Tryz.ntmps162
  go_wp2_with fail
  refine(hdc _).mono ?_;rintro e w1 ⟨rfl,hb1⟩
  go_wp2_with fail
  refine(hfr _).mono ?_;rintro e w2 ⟨rfl,rfl⟩
  go_wp2_with fail
  have hlv1:=HLV.out _ hb1;rw[HN.out] at hlv1;refine hlv1.mono ?_;rintro e w2 ⟨rfl,hb2⟩;rw[HB.out] at hb1;have hbz1:B≤w1.heap.size:=by rw[←HB.out];exact hb1.size
  have hb3:=hb1.trans (hb2.mono hbz1);have hz3:B≤w2.heap.size:=Nat.le_trans hbz1 hb2.size;obtain⟨X,hX⟩:∃X,w2.heap.size=X:=⟨_,rfl⟩;have hh4:=heap_alloc_new w2 (.cells Y 60 (0,0));have hb4:=hb3.alloc hz3 (.cells Y 60 (0,0));have hsz4:(w2.alloc (.cells Y 60 (0,0))).heap.size=X+1:=by simp;omega
  rw[hX] at hh4;generalize hw4:w2.alloc (.cells Y 60 (0,0))=w4 at hh4 hb4 hsz4;have HW4:=Lib.hid hw4;have HX:=Lib.hid hX;have HXB:=Lib.hid (show B≤X by omega);clear hw4 hX hb1 hb2 hb3 hz3 hbz1 hlv1 hdc hfr
  go_wp2_with (rw[HW4.out,HX.out];with_reducible refine Yad rfl 60 _ _ rfl X Z Y rfl rfl 60 hh4 HSZ hYZ HONE ?_;intro w5 hh5 hg5;clear hzv)
  have hb6:=hb4.grown hg5 (by have:=HXB.out;omega) (fun k hk=>by injection hk with hk;have:=HXB.out;omega)
  go_ret2
  exact⟨rfl,by rw[HB.out];exact hb6⟩
set_option maxHeartbeats 1000000 in
theorem Yvp (i:Bool)(d:Int)(p:Option Addr)(l:List Ev)(c b:Nat)(w:World)(hp:Yex w p l)(hln:l.length≤140737488355328)(hm:Ytb i d l=false):
  Calls Tryz.prog 158 #[.pointer (some ⟨b,0,none⟩),.bool i,.int .i64 d,.slice p l.length c] w fun e w'=>e=.returned (.int .i64 7)∧Below w.heap.size w w':=by
 have h:=Yvq i d p l c w hp hln hm;generalize l.length=n at h ⊢
 go_enter Tryz.func158,Tryz.ntmps158
 go_wp2_with fail
 refine h.mono ?_;rintro e w1 ⟨rfl,hb1⟩
 go_wp2
 go_ret
 exact⟨rfl,hb1⟩
set_option maxHeartbeats 1000000 in
theorem Yye (i:Bool)(d:Int)(p:Option Addr)(l:List Ev)(c B b:Nat)(r:List UInt8)(w:World)(hw:Ydd w B b r)(hn:r.length≤274877906944)(hB:B≤w.heap.size)(hp:Yex w p l)(hT:Yfd w)(hm:Ytb i d l=true):
  Calls Tryz.prog 158 #[.pointer (some ⟨b,0,none⟩),.bool i,.int .i64 d,.slice p l.length c] w fun e w'=>e=.returned (.int .i64 0)∧Ydd w' B b (r++Ymd i d l)∧w.grownBy w' (some b):=by
 have h:=Yyf i d p l c w hp hT hm;have hl64:=Yj4 (Yga hm).2;have hsz:=Ykp i d l;have hrw:=Yw1 i d l;have ROW:=Lib.hid hrw;have hadd:=fun(x:World) (hx:Ydd x B b r) (hz:B≤x.heap.size)=>Yoe x B b r ⟨(Ymd i d l).toArray⟩ hx (by simpa using ROW.out) (by show r.length+(Ymd i d l).toArray.size≤_;simp;omega) hz;have hlist:(⟨(Ymd i d l).toArray⟩:ByteArray).data.toList=Ymd i d l:=by simp
 rw[hlist] at hadd;have HA:=Lib.hid hadd;have HWR:=Lib.hid (fun(x:World) (hx:Below w.heap.size w x)=>(⟨hw.below hx,Nat.le_trans hB hx.size⟩:Ydd x B b r∧B≤x.heap.size));generalize (⟨(Ymd i d l).toArray⟩:ByteArray)=RB at h hadd HA;generalize l.length=n at h ⊢;clear hadd hw hn hB hp hT hm hl64 hsz hrw hlist
 go_enter Tryz.func158,Tryz.ntmps158
 go_wp2_with fail
 refine h.mono ?_;rintro e w1 ⟨rfl,hb1⟩;obtain⟨hw1,hz1⟩:=HWR.out _ hb1
 go_wp2_with fail
 refine(HA.out _ hw1 hz1).mono ?_;rintro e w2 ⟨rfl,hw2,hg2⟩
 go_wp2
 go_ret
 exact⟨rfl,hw2,Yag (Yao hb1 _) hg2⟩
end Go.Proofs.YtnamlooifcpoaaaGreatDoor