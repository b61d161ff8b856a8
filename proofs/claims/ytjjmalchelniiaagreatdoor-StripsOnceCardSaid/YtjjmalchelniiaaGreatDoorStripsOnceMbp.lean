/- Part 42 of StripsOnce. No condition. -/
import Derived.Test.YtjjmalchelniiaaGreatDoorStripsOnceMa
import Derived.Test.YtjjmalchelniiaaGreatDoorStripsOnceMm
import Derived.Test.YtjjmalchelniiaaGreatDoorStripsOnceMu
import Derived.Test.YtjjmalchelniiaaGreatDoorStripsOnceMw
import Derived.Test.YtjjmalchelniiaaGreatDoorStripsOnceMx
import Derived.Test.YtjjmalchelniiaaGreatDoorStripsOnceMbb
import Derived.Test.YtjjmalchelniiaaGreatDoorStripsOnceMbn
import Derived.Test.YtjjmalchelniiaaGreatDoorStripsOnceMbo
namespace Go.Proofs.YtjjmalchelniiaaGreatDoor
open Go.RowKit Go.Lib Go.Shelf
theorem Y4j:Builder.Extra Tryz.prog Tryz.lJoin_ren where
 sizeBuilder:=by kernel_rfl
 liesBuilder:=by kernel_rfl
 t5:=Tryz.underlying5
 a5:=Tryz.isAgg5
 z5:=Tryz.sizeOf5
 v5:=Tryz.zeroValue5
 infoByte:=by kernel_rfl
 cellsByte:=by kernel_rfl
 sizeByte:=by kernel_rfl
 neB5:=by decide
def Qjb (l:List ByteArray):List UInt8:=(l.map (·.data.toList)).flatten
theorem Y80:∀l:List (List UInt8),Lib.join l []=l.flatten
 |[]=>rfl
 |[x]=>by rw[Lib.join_one];simp
 |x::y::r=>by
  rw[Lib.join_cons];simp[Lib.joinTail]
theorem Y9v {w:World}{base e:Nat}{v:Value}{l:List ByteArray}(h:w.ownsRow base e 1 v l.length (Yet l))(h0:0<l.length):
  ∃(b cap:Nat),v=.slice (some ⟨b,0,none⟩) l.length cap∧l.length≤cap∧b<w.heap.size∧∀(j:Nat) x,l[j]? =some x→w.cell? ⟨b,j,none⟩=some (.string x):=by
 have h0:=h;rcases h.2 with ⟨rfl,h1⟩|⟨g,cap,cur,rfl,_,hg,hrest⟩
 ·omega
 ·refine⟨g,cap,rfl,by first|exact hrest.1|exact hrest.2.1|omega,(Array.getElem?_eq_some_iff.1 hg).1,fun i x hi=>?_⟩;have:=World.ownsRow.cells (g:=g) h0 rfl i (.string x) (by simp[Yet,hi]);rwa [Addr.add_mid,Nat.zero_add] at this
theorem Qd2 (b c:Nat)(l:List ByteArray)(w:World)(hcells:∀(j:Nat) x,l[j]? =some x→w.cell? ⟨b,j,none⟩=some (.string x))(hb:b<w.heap.size)(hc:l.length≤c)(hn:l.length≤1048576)(hl:(Qjb l).length≤1048576):
  Calls Tryz.prog 208 #[.slice (some ⟨b,0,none⟩) l.length c,.string ⟨#[]⟩] w fun e w'=>e=.returned (.string ⟨(Qjb l).toArray⟩)∧Below w.heap.size w w':=by
 have h:=Any.strings_Join Tryz.lJoin Y4j b 0 c l ⟨#[]⟩ w (fun j x hj=>by rw[Nat.zero_add];exact hcells j x hj) hb (by omega) hc;rw[show (⟨#[]⟩:ByteArray).data.toList=[] from rfl,Y80] at h;exact h (by have:(Qjb l).length=(l.map (·.data.toList)).flatten.length:=rfl;omega)
end Go.Proofs.YtjjmalchelniiaaGreatDoor
namespace Go.Proofs.YtjjmalchelniiaaGreatDoor
open Go.RowKit Go.Lib
theorem Y1h (i:Bool)(d:Int)(w:World)(h:Y76 i d=true):Calls Tryz.prog 204 #[.bool i,.int .i64 d] w fun e w'=>e=.returned (.tuple #[.string ⟨(dcB i d).toArray⟩,.int .i64 0])∧Below w.heap.size w w':=by
 cases i with
 |false=>
  have h0:d=0:=by simpa [Y76] using h
  subst h0
  go_enter Tryz.func204,Tryz.ntmps204
  go_wp2
  go_ret2
  exact⟨rfl,Below.refl _ _⟩
 |true=>
  have h0:1≤d∧d≤254:=by simpa [Y76] using h
  obtain⟨h1,h2⟩:=h0;have t0:decide (d<1)=false:=by simp;omega
  have t1:decide (254<d)=false:=by simp;omega
  by_cases h128:d=128
  ·subst h128;have hrow:=fun x=>Yks 255 8 x (by decide) (by decide +kernel);have F:=Lib.hid (show (⟨(dcB true 128).toArray⟩:ByteArray)=⟨(Yav (255:Int).toNat (8:Int).toNat).toArray⟩ from rfl);rw[F.out];generalize (⟨(Yav (255:Int).toNat (8:Int).toNat).toArray⟩:ByteArray)=y at hrow ⊢
   go_enter Tryz.func204,Tryz.ntmps204
   go_wp2_with fail
   refine(hrow _).mono ?_;rintro e w1 ⟨rfl,hb⟩
   go_wp2
   go_ret2
   exact⟨rfl,hb⟩
  ·have g0:(d==128)=false:=by rw[beq_eq_false_iff_ne];exact h128
   have hrow:=fun x=>Yks d 8 x (by omega) (by
    unfold Ydh;rw[decide_eq_true_iff];refine⟨by omega,by omega,by omega,?_⟩;rw[show (2:Int)^(8:Int).toNat=256 from rfl];omega)
   have F:=Lib.hid (show (⟨(dcB true d).toArray⟩:ByteArray)=⟨(Yav d.toNat (8:Int).toNat).toArray⟩ by unfold dcB;rw[if_pos rfl,if_neg h128];rfl);rw[F.out];generalize (⟨(Yav d.toNat (8:Int).toNat).toArray⟩:ByteArray)=y at hrow ⊢;clear h128 h h1 h2 F
   go_enter Tryz.func204,Tryz.ntmps204
   go_wp2_with fail
   refine(hrow _).mono ?_;rintro e w1 ⟨rfl,hb⟩
   go_wp2
   go_ret2
   exact⟨rfl,hb⟩
theorem Y79 (i:Bool)(d:Int)(w:World)(h:Y76 i d=false):Calls Tryz.prog 204 #[.bool i,.int .i64 d] w fun e w'=>e=.returned (.tuple #[.string ⟨#[]⟩,.int .i64 7])∧w=w':=by
 cases i with
 |false=>
  have g0:(d==0)=false:=h;clear h
  go_enter Tryz.func204,Tryz.ntmps204
  go_wp2
  go_ret2
  exact⟨rfl,rfl⟩
 |true=>
  by_cases h1:d<1
  ·have t0:decide (d<1)=true:=by simpa using h1
   clear h
   go_enter Tryz.func204,Tryz.ntmps204
   go_wp2
   go_ret2
   exact⟨rfl,rfl⟩
  ·have t0:decide (d<1)=false:=by simpa using h1
   have t1:decide (254<d)=true:=by
    have h2:(decide (1≤d)&&decide (d≤254))=false:=h;rw[decide_eq_true (by omega:1≤d),Bool.true_and,decide_eq_false_iff_not] at h2;simp;omega
   clear h h1
   go_enter Tryz.func204,Tryz.ntmps204
   go_wp2
   go_ret2
   exact⟨rfl,rfl⟩
def Yi3 (i:Bool)(d:Int)(l:List Ev):List ByteArray:=⟨(dcB i d).toArray⟩::l.map Ymh
theorem Qak (i:Bool)(d:Int)(l:List Ev):Qjb (Yi3 i d l)=Yhj i d l:=by
 unfold Qjb Yi3 Yhj Ycl;rw[List.map_cons,List.flatten_cons,List.map_map,List.flatMap]
 rfl
theorem Qal (i:Bool)(d:Int)(l:List Ev):(Yi3 i d l).length=l.length+1:=by simp[Yi3]
theorem Y5d (i:Bool)(d:Int)(l:List Ev)(x:Ev):Yi3 i d (l++[x])=Yi3 i d l++[Ymh x]:=by simp[Yi3]
theorem Qaf (x:Ev)(h:Yec x.2.1 x.2.2=true):(!(Ycr x.1 x.2.1 x.2.2).data.toList.isEmpty)=true:=by
 obtain⟨r0,r1,_⟩:=Yd1.1 h;have h3:=Ynf x.1 x.2.1.toNat x.2.2 (by omega);unfold Ycr;rw[if_pos h];show (!(Yav _ _).isEmpty)=true;cases hl:Yav (Yk7 x.1 x.2.1.toNat x.2.2) (Ykf x.1 x.2.1.toNat x.2.2) with
 |nil=>
  have e:=Yal (Yk7 x.1 x.2.1.toNat x.2.2) (Ykf x.1 x.2.1.toNat x.2.2);rw[hl,List.length_nil] at e;omega
 |cons a l=>rfl
set_option maxRecDepth 100000 in
set_option maxHeartbeats 2000000 in
theorem Qhb (i:Bool)(d:Int)(p:Option Addr)(l:List Ev)(c:Nat)(w:World)(hp:Ye2 w p l)(hT:Ye6 w)(hm:Ytv i d l=true):
  Calls Tryz.prog 189 #[.bool i,.int .i64 d,.slice p l.length c] w fun e w'=>e=.returned (.tuple #[.string ⟨(Yhj i d l).toArray⟩,.int .i64 0])∧Below w.heap.size w w':=by
 obtain⟨hd,hbv⟩:=Yin hm;have hl64:=Ym9 hbv;obtain⟨i0,hi,jz0,jz1,jz2⟩:=info_parts Qd1;obtain⟨B,hB⟩:∃B,w.heap.size=B:=⟨_,rfl⟩;have hfr:=fun x=>Ylf i x;have hlv:=fun(x:World) (hx:Below w.heap.size w x)=>Yos p l c ((Ycf i:Nat):Int) x (hp.below hx) (by omega);unfold Yno at hlv;rw[Qjh hbv] at hlv;have HONE:=Ym7 (lvG l ((Ycf i:Nat):Int)).1
 have HSZ:(Tryz.prog.info? 180).map (·.size)=some (Yl8 (lvG l ((Ycf i:Nat):Int)).1).size:=Yj4 _;obtain⟨Y,hY⟩:∃Y,Yl8 (fun _=>0)=Y:=⟨_,rfl⟩;have hzv:∀w,(zeroValue 180).run Tryz.prog w=.ok (.agg Y) w:=by rw[←hY];exact Ys2
 have hYZ:Y.size=(Yl8 (lvG l ((Ycf i:Nat):Int)).1).size:=by rw[←hY,Yfj,Yfj]
 generalize Yl8 (lvG l ((Ycf i:Nat):Int)).1=Z at hlv HONE HSZ hYZ;generalize ((Ycf i:Nat):Int)=fr at hfr hlv;have hdc:=fun x=>Y1h i d x hd;obtain⟨y0,hy0⟩:∃y0:ByteArray,⟨(dcB i d).toArray⟩=y0:=⟨_,rfl⟩;rw[hy0] at hdc;have HLV:=Lib.hid hlv;have HP:=Lib.hid (fun(x:World) (hx:Below B w x)=>(hp.below (by rw[hB];exact hx):Ye2 x p l))
 have HT:=Lib.hid (fun(x:World) (hx:Below B w x)=>(hT.below (by rw[hB];exact hx):Ye6 x));have ROW:=Lib.hid (show∀j,(h:j<l.length)→(!(Ycr l[j].1 l[j].2.1 l[j].2.2).data.toList.isEmpty)=true from fun j h=>Qaf _ (Y3c hbv h));have CAT:=Lib.hid (Qak i d l);have CLN:=Lib.hid (Yt5 i d l);have FST:=Lib.hid (show Yi3 i d []=[y0] by rw[←hy0];rfl)
 have NXT:=Lib.hid (fun(j:Nat) (h:j<l.length)=>(by rw[List.take_succ_eq_append_getElem h,Y5d]:Yi3 i d (l.take (j+1))=Yi3 i d (l.take j)++[Ymh l[j]]));have HB:=Lib.hid hB;obtain⟨n,hn⟩:∃n,l.length=n:=⟨_,rfl⟩;have HN:=Lib.hid hn;have LEN:=Lib.hid (fun(j:Nat) (h:j≤n)=>(by rw[Qal,List.length_take];omega:(Yi3 i d (l.take j)).length=j+1));rw[hn] at hl64 ⊢
 generalize hRB:(⟨(Yhj i d l).toArray⟩:ByteArray)=RB;have HRB:=Lib.hid hRB;clear hp hT hlv hY hd hbv hm hy0 hB hn hRB
 go_enter Tryz.func189,Tryz.ntmps189
 go_wp2_with fail
 refine(hdc _).mono ?_;rintro e w1 ⟨rfl,hb1⟩
 go_wp2_with fail
 refine(hfr _).mono ?_;rintro e w2 ⟨rfl,rfl⟩
 go_wp2_with fail
 have hlv1:=HLV.out _ hb1;rw[HN.out] at hlv1;refine hlv1.mono ?_;rintro e w2 ⟨rfl,hb2⟩;rw[HB.out] at hb1;have hbz1:B≤w1.heap.size:=by rw[←HB.out];exact hb1.size
 have hb3:=hb1.trans (hb2.mono hbz1);have hz3:B≤w2.heap.size:=Nat.le_trans hbz1 hb2.size;obtain⟨X,hX⟩:∃X,w2.heap.size=X:=⟨_,rfl⟩;have hh4:=heap_alloc_new w2 (.cells Y 180 (0,0));have hb4:=hb3.alloc hz3 (.cells Y 180 (0,0));have hsz4:(w2.alloc (.cells Y 180 (0,0))).heap.size=X+1:=by simp;omega
 rw[hX] at hh4;generalize hw4:w2.alloc (.cells Y 180 (0,0))=w4 at hh4 hb4 hsz4;have HW4:=Lib.hid hw4;have HX:=Lib.hid hX;have HXB:=Lib.hid (show B≤X by omega);clear hw4 hX hb1 hb2 hb3 hz3 hbz1 hlv1 hdc hfr
 go_wp2_with (rw[HW4.out,HX.out];with_reducible refine Yaj rfl 180 _ _ rfl X Z Y rfl rfl 180 hh4 HSZ hYZ HONE ?_;intro w5 hh5 hg5;clear hzv)
 have hb6:=hb4.grown hg5 (by have:=HXB.out;omega) (fun k hk=>by injection hk with hk;have:=HXB.out;omega);have hz6:B≤w5.heap.size:=by have:=HXB.out;have:=hg5.size;omega
 have hown0:(w5.alloc (.cells #[.string y0] 9 (0,0))).ownsRow B 9 1 (.slice (some ⟨w5.heap.size,0,none⟩) 1 1) 1 (Yet [y0]):=World.ownsRow_lit w5 #[.string y0] 1 hz6 (by unfold maxLen;omega) rfl;have hb7:=hb6.alloc hz6 (.cells #[.string y0] 9 (0,0));have hz7:B≤(w5.alloc (.cells #[.string y0] 9 (0,0))).heap.size:=by simp;omega
 generalize w5.alloc (.cells #[.string y0] 9 (0,0))=w7 at hown0 hb7 hz7 ⊢;generalize w5.heap.size=X5 at hown0 ⊢;clear hh4 hb4 hsz4 hh5 hg5 hb6 hz6 HSZ HONE hYZ
 go_loopw [12,40] (fun v z wr=>∃j:Nat,j≤n∧z=.int .i64 j∧wr.ownsRow B 9 1 v (j+1) (Yet (Yi3 i d (l.take j)))∧Below B w wr∧B≤wr.heap.size) (fun _ z _=>n-(RowKit.intOf z).toNat)
 case atStart=>exact⟨0,Nat.zero_le _,rfl,by rw[List.take_zero,FST.out];exact hown0,hb7,hz7⟩
 case round=>
  clear hown0 hb7 hz7;obtain⟨j,hj,rfl,hown,hb,hz⟩:=hrel;by_cases hlt:j<n
  ·have t0:decide ((j:Int)<(n:Int))=true:=by simp;omega
   have t1:decide (j<n)=true:=by simpa using hlt
   have hjl:j<l.length:=by rw[HN.out];exact hlt
   obtain⟨b,o,rfl,hbb,hc⟩:=(HP.out _ hb).at (by omega);obtain⟨c0,c1,c2⟩:=hc j hjl;have hne:=ROW.out j hjl;have hnx:=NXT.out j hjl;obtain⟨⟨x0,x1,x2⟩,hxe⟩:∃x,l[j]=x:=⟨_,rfl⟩;rw[hxe] at c0 c1 c2 hne hnx;simp only at c0 c1 c2 hne;rw[show Ymh (x0,x1,x2)=Ycr x0 x1 x2 from rfl] at hnx;have hrow:=fun x hx=>Y8l x0 x1 x2 x hx;rw[hne] at hrow;generalize Ycr x0 x1 x2=y at hrow hnx
   have N:=Lib.hid (show Yet (Yi3 i d (l.take (j+1)))=Yet (Yi3 i d (l.take j))++[.string y] by rw[hnx,Yug]);obtain⟨X,hX⟩:∃X,wr.heap.size=X:=⟨_,rfl⟩;obtain⟨wx,hwx⟩:∃wx,wr.alloc (.cells #[.bool x0,.int .i64 x1,.int .i64 x2] 153 (0,0))=wx:=⟨_,rfl⟩;have hzx:wx.heap.size=X+1:=by rw[←hwx,←hX];simp
   have hbx:Below B w wx:=by rw[←hwx];exact hb.alloc (by omega) _
   have hox:wx.ownsRow B 9 1 u12 (j+1) (Yet (Yi3 i d (l.take j))):=by rw[←hwx];exact hown.alloc _
   have HX:=Lib.hid hX;have HWX:=Lib.hid hwx;have HXB:=Lib.hid (show B≤X by omega);clear hX hwx hc hbb hxe hnx hne hjl hown hb
   go_wp2_with fail
   rw[HWX.out,HX.out];refine(hrow _ (HT.out _ hbx)).mono ?_;rintro e w1 ⟨rfl,hb1⟩;have hb2:=hbx.trans (hb1.mono (by have:=HXB.out;omega));have hz2:B≤w1.heap.size:=by have:=hb1.size;have:=HXB.out;omega
   have ho2:=hox.kept (Yak hb1 none) (Classical.em _);clear hbx hox hb1 hrow hzx
   go_wp2_with (at_builtin;refine Yuz (y0:=y) rfl rfl Tryz.underlying163 hi jz0 rfl jz1 jz2 rfl (ho2.alloc _) rfl ?d1 ?d2 ?d3 ?_;(case d1=>go_cell);(case d2=>omega);(case d3=>(simp;omega));intro v2 w2 ho3 hgrow;have hg3:World.grownBy _ w2 (Value.ownBlock u12):=hgrow;have hb4:=(hb2.alloc hz2 _).grown hg3 (by simp;omega) (fun q hq=>(ho2.lt q hq).1);have hz4:B≤w2.heap.size:=Nat.le_trans (by simp;omega) hg3.size;clear hgrow)
   go_roundw
   case rel=>exact⟨j+1,by omega,by go_num,by rw[N.out];exact ho3,hb4,hz4⟩
   case measure=>simp[RowKit.intOf];omega
  ·obtain rfl:j=n:=by omega
   have t0:decide ((j:Int)<(j:Int))=false:=by simp
   have t1:decide (j<j)=false:=by simp
   have hlen:=LEN.out j (Nat.le_refl _);rw[←hlen] at hown;obtain⟨g,cap,rfl,hcap,hg,hcs⟩:=Y9v hown (by omega);have htk:l.take j=l:=by rw[←HN.out];exact List.take_length
   rw[htk] at hcs hcap hlen;have hj:=Qd2 g cap (Yi3 i d l) wr hcs hg hcap (by omega) (by rw[CAT.out];have:=CLN.out;rw[HN.out] at this;omega);rw[CAT.out,HRB.out] at hj;rw[htk];rw[hlen] at hj ⊢;clear hown hcs hcap htk
   go_wp2_with fail
   refine hj.mono ?_;rintro e w1 ⟨rfl,hb1⟩;have hb2:=hb.trans (hb1.mono hz)
   go_wp2
   go_ret2
   exact⟨rfl,by rw[HB.out];exact hb2⟩
set_option maxRecDepth 100000 in
set_option maxHeartbeats 2000000 in
theorem Qcz (i:Bool)(d:Int)(p:Option Addr)(l:List Ev)(c:Nat)(w:World)(hp:Ye2 w p l)(hln:l.length≤140737488355328)(hm:Ytv i d l=false):
  Calls Tryz.prog 189 #[.bool i,.int .i64 d,.slice p l.length c] w fun e w'=>e=.returned (.tuple #[.string ⟨#[]⟩,.int .i64 7])∧Below w.heap.size w w':=by
 cases hd:Y76 i d with
 |false=>
  have hdc:=fun x=>Y79 i d x hd;generalize l.length=n;clear hp hm hd hln
  go_enter Tryz.func189,Tryz.ntmps189
  go_wp2_with fail
  refine(hdc _).mono ?_;rintro e w1 ⟨rfl,rfl⟩
  go_wp2
  go_ret2
  exact⟨rfl,Below.refl _ _⟩
 |true=>
  have hbv:Yp9 (Ycf i) l l.length=true:=by
   unfold Ytv at hm;rw[hd,Bool.true_and,Bool.not_eq_false'] at hm;exact hm
  obtain⟨B,hB⟩:∃B,w.heap.size=B:=⟨_,rfl⟩;have hfr:=fun x=>Ylf i x;have hlv:=fun(x:World) (hx:Below w.heap.size w x)=>Yos p l c ((Ycf i:Nat):Int) x (hp.below hx) (by omega);unfold Yno at hlv;rw[Qh4 hbv] at hlv;have HONE:=Ym7 (lvG l ((Ycf i:Nat):Int)).1;have HSZ:(Tryz.prog.info? 180).map (·.size)=some (Yl8 (lvG l ((Ycf i:Nat):Int)).1).size:=Yj4 _;obtain⟨Y,hY⟩:∃Y,Yl8 (fun _=>0)=Y:=⟨_,rfl⟩
  have hzv:∀w,(zeroValue 180).run Tryz.prog w=.ok (.agg Y) w:=by rw[←hY];exact Ys2
  have hYZ:Y.size=(Yl8 (lvG l ((Ycf i:Nat):Int)).1).size:=by rw[←hY,Yfj,Yfj]
  generalize Yl8 (lvG l ((Ycf i:Nat):Int)).1=Z at hlv HONE HSZ hYZ;generalize ((Ycf i:Nat):Int)=fr at hfr hlv;have hdc:=fun x=>Y1h i d x hd;obtain⟨y0,hy0⟩:∃y0:ByteArray,⟨(dcB i d).toArray⟩=y0:=⟨_,rfl⟩;rw[hy0] at hdc;have HLV:=Lib.hid hlv;have HB:=Lib.hid hB;obtain⟨n,hn⟩:∃n,l.length=n:=⟨_,rfl⟩;have HN:=Lib.hid hn;rw[hn];clear hp hlv hY hd hbv hm hy0 hB hn hln
  go_enter Tryz.func189,Tryz.ntmps189
  go_wp2_with fail
  refine(hdc _).mono ?_;rintro e w1 ⟨rfl,hb1⟩
  go_wp2_with fail
  refine(hfr _).mono ?_;rintro e w2 ⟨rfl,rfl⟩
  go_wp2_with fail
  have hlv1:=HLV.out _ hb1;rw[HN.out] at hlv1;refine hlv1.mono ?_;rintro e w2 ⟨rfl,hb2⟩;rw[HB.out] at hb1;have hbz1:B≤w1.heap.size:=by rw[←HB.out];exact hb1.size
  have hb3:=hb1.trans (hb2.mono hbz1);have hz3:B≤w2.heap.size:=Nat.le_trans hbz1 hb2.size;obtain⟨X,hX⟩:∃X,w2.heap.size=X:=⟨_,rfl⟩;have hh4:=heap_alloc_new w2 (.cells Y 180 (0,0));have hb4:=hb3.alloc hz3 (.cells Y 180 (0,0));have hsz4:(w2.alloc (.cells Y 180 (0,0))).heap.size=X+1:=by simp;omega
  rw[hX] at hh4;generalize hw4:w2.alloc (.cells Y 180 (0,0))=w4 at hh4 hb4 hsz4;have HW4:=Lib.hid hw4;have HX:=Lib.hid hX;have HXB:=Lib.hid (show B≤X by omega);clear hw4 hX hb1 hb2 hb3 hz3 hbz1 hlv1 hdc hfr
  go_wp2_with (rw[HW4.out,HX.out];with_reducible refine Yaj rfl 180 _ _ rfl X Z Y rfl rfl 180 hh4 HSZ hYZ HONE ?_;intro w5 hh5 hg5;clear hzv)
  have hb6:=hb4.grown hg5 (by have:=HXB.out;omega) (fun k hk=>by injection hk with hk;have:=HXB.out;omega)
  go_ret2
  exact⟨rfl,by rw[HB.out];exact hb6⟩
set_option maxHeartbeats 1000000 in
theorem Qcy (i:Bool)(d:Int)(p:Option Addr)(l:List Ev)(c b:Nat)(w:World)(hp:Ye2 w p l)(hln:l.length≤140737488355328)(hm:Ytv i d l=false):
  Calls Tryz.prog 172 #[.pointer (some ⟨b,0,none⟩),.bool i,.int .i64 d,.slice p l.length c] w fun e w'=>e=.returned (.int .i64 7)∧Below w.heap.size w w':=by
 have h:=Qcz i d p l c w hp hln hm;generalize l.length=n at h ⊢
 go_enter Tryz.func172,Tryz.ntmps172
 go_wp2_with fail
 refine h.mono ?_;rintro e w1 ⟨rfl,hb1⟩
 go_wp2
 go_ret
 exact⟨rfl,hb1⟩
set_option maxHeartbeats 1000000 in
theorem Qha (i:Bool)(d:Int)(p:Option Addr)(l:List Ev)(c B b:Nat)(r:List UInt8)(w:World)(hw:Ycj w B b r)(hn:r.length≤274877906944)(hB:B≤w.heap.size)(hp:Ye2 w p l)(hT:Ye6 w)(hm:Ytv i d l=true):
  Calls Tryz.prog 172 #[.pointer (some ⟨b,0,none⟩),.bool i,.int .i64 d,.slice p l.length c] w fun e w'=>e=.returned (.int .i64 0)∧Ycj w' B b (r++Yhj i d l)∧w.grownBy w' (some b):=by
 have h:=Qhb i d p l c w hp hT hm;have hl64:=Ym9 (Yin hm).2;have hsz:=Yt5 i d l;have hrw:=Y19 i d l;have ROW:=Lib.hid hrw;have hadd:=fun(x:World) (hx:Ycj x B b r) (hz:B≤x.heap.size)=>Ysy x B b r ⟨(Yhj i d l).toArray⟩ hx (by simpa using ROW.out) (by show r.length+(Yhj i d l).toArray.size≤_;simp;omega) hz;have hlist:(⟨(Yhj i d l).toArray⟩:ByteArray).data.toList=Yhj i d l:=by simp
 rw[hlist] at hadd;have HA:=Lib.hid hadd;have HWR:=Lib.hid (fun(x:World) (hx:Below w.heap.size w x)=>(⟨hw.below hx,Nat.le_trans hB hx.size⟩:Ycj x B b r∧B≤x.heap.size));generalize (⟨(Yhj i d l).toArray⟩:ByteArray)=RB at h hadd HA;generalize l.length=n at h ⊢;clear hadd hw hn hB hp hT hm hl64 hsz hrw hlist
 go_enter Tryz.func172,Tryz.ntmps172
 go_wp2_with fail
 refine h.mono ?_;rintro e w1 ⟨rfl,hb1⟩;obtain⟨hw1,hz1⟩:=HWR.out _ hb1
 go_wp2_with fail
 refine(HA.out _ hw1 hz1).mono ?_;rintro e w2 ⟨rfl,hw2,hg2⟩
 go_wp2
 go_ret
 exact⟨rfl,hw2,Yac (Yak hb1 _) hg2⟩
set_option maxRecDepth 100000 in
theorem Yqs (c:Cel)(sl:Nat→Value)(w:World)(hs:Ycn w):Calls Tryz.prog 117 #[.agg (Ybd c sl).toArray] w fun e w'=>e=.returned (.bool (Yqt c.kind c.step))∧Below w.heap.size w w':=by
 have hrow:=fun x (hx:Below w.heap.size w x)=>Yxn c.step x (hs.below hx);obtain⟨A,hA,f0,f1,f2,f3,f4,f5,-,-⟩:=Yeq c sl;rw[hA];have hb0:=(Below.refl _ w).alloc (Nat.le_refl _) (.cells A 77 (0,0));have H:=hrow _ hb0;have ZC:Hid (Yqt c.kind c.step=if (c.kind==1 || c.kind==4) then !(Yb8 c.step).data.toList.isEmpty else c.step==0):=Lib.hid rfl;clear hA hrow hs;generalize Yqt c.kind c.step=z at *
 generalize (!(Yb8 c.step).data.toList.isEmpty)=ne at *;generalize c.kind=kd at *;generalize c.step=sp at *;cases t0:(kd==1) with
 |true=>
  rw[t0] at ZC
  go_enter Tryz.func117,Tryz.ntmps117
  go_wp2_with fail
  refine H.mono ?_;rintro e w1 ⟨rfl,hb1⟩
  go_wp2
  go_ret
  exact⟨Yan (by rw[ZC.out];rfl),hb0.trans (hb1.mono hb0.size)⟩
 |false=>
  cases t1:(kd==4) with
  |true=>
   rw[t0,t1] at ZC
   go_enter Tryz.func117,Tryz.ntmps117
   go_wp2_with fail
   refine H.mono ?_;rintro e w1 ⟨rfl,hb1⟩
   go_wp2
   go_ret
   exact⟨Yan (by rw[ZC.out];rfl),hb0.trans (hb1.mono hb0.size)⟩
  |false=>
   rw[t0,t1] at ZC
   go_enter Tryz.func117,Tryz.ntmps117
   go_wp2
   go_ret
   exact⟨Yan (by rw[ZC.out];rfl),hb0⟩
set_option maxRecDepth 100000 in
theorem Ym1 (c:Cel)(sl:Nat→Value)(w:World):Calls Tryz.prog 118 #[.agg (Ybd c sl).toArray] w fun e w'=>e=.returned (.bool (Ym4 c.kind c.mx c.my))∧Below w.heap.size w w':=by
 have hin:=fun x=>Yhy c sl x;have hno:=fun x=>Yop c.mx c.my x;have hwr:=fun x=>Yig c.mx c.my x;have E2:=Yx7 c.mx c.my (Yca c.mx) (Yca c.my);have ZC:Hid (Ym4 c.kind c.mx c.my=if Yas c.kind then c.mx==0&&c.my==0 else c.mx==Yca c.mx&&c.my==Yca c.my):=Lib.hid rfl;obtain⟨A,hA,f0,f1,f2,f3,f4,f5,-,-⟩:=Yeq c sl;obtain⟨R,w0,hR,hw0,hz0,hb0,HSZ,hbx⟩:=Yhq w hA;simp only[hA] at hin;have HBX:=Lib.hid hbx;rw[hA]
 have HW:=Lib.hid hw0;have HR:=Lib.hid hR;clear hA hw0 hbx hR;generalize Ym4 c.kind c.mx c.my=z at *;generalize (c.mx==0&&c.my==0)=nb at *;generalize (c.mx==Yca c.mx&&c.my==Yca c.my)=eb at *;generalize Yca c.mx=u at *;generalize Yca c.my=v at *
 go_enter Tryz.func118,Tryz.ntmps118
 go_wp2_with (with_reducible refine wpList_load_row rfl 77 _ rfl w.heap.size rfl 77 A (0,0) _ (heap_alloc_new w _) Tryz.underlying77 rfl HSZ ?_)
 rw[HW.out,HR.out];refine(hin _).mono ?_;rintro e w1 ⟨rfl,hb1⟩;rw[hz0] at hb1;obtain⟨c0,c1,c2,c3,c4,c5⟩:=Ylg (HBX.out w1 hb1).2;have hz1:=hb1.size;have hb2:=hb0.trans (hb1.mono (by omega));cases hik:Yas c.kind with
 |true=>
  rw[hik] at ZC
  go_wp2_with fail
  refine(hno _).mono ?_;rintro e w2 ⟨rfl,hb3⟩;have hb4:=hb2.trans (hb3.mono (by omega))
  go_wp2
  go_ret
  exact⟨Yan (by rw[ZC.out];rfl),by rw[HR.out];exact hb4⟩
 |false=>
  rw[hik] at ZC;have CF:=Lib.hid (fun x (hx:Below w1.heap.size w1 x)=>Ylg (c:=c) (sl:=sl) (HBX.out x (hb1.trans (hx.mono (by omega)))).2);have WR:=Lib.hid (fun x (hx:Below w1.heap.size w1 x)=>((hwr x).mono fun e y h=>⟨h.1,hx.trans (h.2.mono hx.size)⟩:Calls Tryz.prog 152 #[.agg #[.int .i64 c.mx,.int .i64 c.my]] x fun e y=>e=.returned (.agg #[.int .i64 u,.int .i64 v])∧Below w1.heap.size w1 y))
  have hbd:=(Below.refl w1.heap.size w1).drew;clear c0 c1 c2 c3 c4 c5
  go_wp2
  refine Ya0 (S:=fun x=>Below w1.heap.size w1 x) 6 (by kernel_rfl) (by kernel_rfl) hbd ?_;simp only[List.take_succ_cons,List.take_zero,List.drop_succ_cons,List.drop_zero];refine Yaf (by kernel_rfl) (fun x _=>by go_simp;try with_reducible rfl) ?_;simp only[Yaa]
  refine Yaf (v:=.agg #[.int .i64 c.mx,.int .i64 c.my]) (by kernel_rfl) (fun x hx=>by obtain⟨-,-,-,-,c4,c5⟩:=CF.out x hx;go_simp) ?_;simp only[Yaa];refine Yaf (by kernel_rfl) (fun x _=>by go_simp;try with_reducible rfl) ?_;simp only[Yaa];refine Yaf (v:=.agg #[.int .i64 c.mx,.int .i64 c.my]) (by kernel_rfl) (fun x hx=>by obtain⟨-,-,-,-,c4,c5⟩:=CF.out x hx;go_simp) ?_;simp only[Yaa]
  refine Ya9 (by kernel_rfl) WR.out (fun _=>by kernel_rfl) ?_;simp only[Yaa];refine Yaf (by kernel_rfl) (fun x _=>by go_simp;try with_reducible rfl) ?_;simp only[Yaa];refine Ych fun x hx=>?_
  go_wp2
  go_ret
  exact⟨Yan (by rw[ZC.out];rfl),by rw[HR.out];exact hb2.trans (hx.mono (by omega))⟩
set_option maxRecDepth 100000 in
set_option maxHeartbeats 1000000 in
theorem Yi7 (c:Cel)(p:Nat→Option Addr)(n k:Nat→Nat)(B b:Nat)(r:List UInt8)(w:World)(hw:Ycj w B b r)(hr:r.length≤137438953472)(hB:B≤w.heap.size)(hfar:∀x,w.grownBy x (some b)→Ye6 x∧Ymt x c p n):
  Calls Tryz.prog 153 #[.pointer (some ⟨b,0,none⟩),.agg (Ybd c fun i=>.slice (p i) (n i) (k i)).toArray] w fun e w'=>∃i,i≤6∧Ycj w' B b (r++Yjf c i)∧w.grownBy w' (some b)∧((i=6∧Yjg c=true∧e=.returned (.int .i64 0))∨(Yjg c=false∧e=.returned (.int .i64 7))):=by
 have hin:=fun x=>Yhy c (fun i=>.slice (p i) (n i) (k i)) x;obtain⟨A,hA,f0,f1,f2,f3,f4,f5,⟨f6,f7,f8,f9,f10,f11⟩,f12,f13,f14,f15,f16,f17⟩:=Yeq c fun i=>.slice (p i) (n i) (k i);obtain⟨R,w0,hR,hw0,hz0,hb0,HSZ,hbx⟩:=Yhq w hA;simp only[hA] at hin;have HBX:=Lib.hid hbx;rw[hA];have HW:=Lib.hid hw0;have HR:=Lib.hid hR;have HA:=Lib.hid hA;have hRb:b≠R:=by have h1:=hw.lt;omega
 have hRb2:some R≠some b:=fun h=>by injection h with h;exact hRb h.symm
 have IDX:=Lib.hid (fun i hi x=>Y2l (fun i=>.slice (p i) (n i) (k i)) x i hi);have FAR:=Lib.hid hfar;have INT:=Lib.hid hin;have MAYS:=Lib.hid (show Yjg c=true↔_ from Yho);obtain⟨ik,hik⟩:∃ik,Yas c.kind=ik:=⟨_,rfl⟩;have HIK:=Lib.hid hik;rw[hik] at INT;have hg0:w.grownBy w0 (some b):=Yak (hR▸hb0) _
 have hw1:Ycj w0 B b (r++Yjf c 0):=by rw[show r++Yjf c 0=r from List.append_nil _];exact hw.below (hR▸hb0)
 have hbx0:=(hbx w0 (Below.refl _ _)).1;clear hA hw0 hbx hR hw hfar hin hik
 go_enter Tryz.func153,Tryz.ntmps153
 go_wp2
 rw[HW.out,HR.out]
 go_loopw [10] (fun z wr=>∃i:Nat,i≤6∧z=.int .i64 i∧Ycj wr B b (r++Yjf c i)∧w.grownBy wr (some b)∧wr.heap[R]? =some (.cells A 77 (0,0))∧Hid (∀j,j<i→Ytv ik (c.dc j) (c.ev j)=true)) (fun z _=>6-(RowKit.intOf z).toNat)
 case atStart=>exact⟨0,by omega,rfl,hw1,hg0,hbx0,Lib.hid fun j h=>absurd h (Nat.not_lt_zero j)⟩
 case round=>
  clear hw1 hg0 hbx0;obtain⟨i,hi6,rfl,hw,hg,hbx,may⟩:=hrel;by_cases hlt:i<6
  ·have t0:decide ((i:Int)<6)=true:=by simp;omega
   have i0:=IDX.out i hlt;obtain⟨hT,hc⟩:=FAR.out _ hg;obtain⟨e1,e2,e3⟩:=hc i hlt;have hzw:B≤wr.heap.size:=Nat.le_trans hB hg.size;have hzR:R<wr.heap.size:=by have:=(Array.getElem?_eq_some_iff.1 hbx).1;exact this
   have hln:(r++Yjf c i).length≤274877906944:=by
    have h1:=Ys6 (c:=c) (n:=64) i fun j hj=>Ym9 (Yin (may.out j hj)).2;have h2:(8+22*64)*i≤(8+22*64)*6:=Nat.mul_le_mul_left _ hi6;rw[List.length_append];omega
   have LB:=Lib.hid (fun x (hx:Below wr.heap.size wr x)=>(hx.block R hzR).trans hbx);have HSQ:(Ybd c fun i=>.slice (p i) (n i) (k i)).toArray=A:=HA.out;have DC:=Lib.hid (fun x (hx:Below wr.heap.size wr x)=>Yab (o:=6+i) (show x.heap[R]? =some (.cells (Ybd c fun i=>.slice (p i) (n i) (k i)).toArray 77 (0,0)) by rw[HSQ];exact LB.out x hx) (Y7j c _ i hlt))
   have IN:=Lib.hid (fun x (hx:Below wr.heap.size wr x)=>(INT.out x).mono fun e y h=>(⟨h.1,hx.trans (h.2.mono hx.size)⟩:e=.returned (.bool ik)∧Below wr.heap.size wr y));have hbd:=(Below.refl wr.heap.size wr).drew;have hput:∀x,Below wr.heap.size wr x→Ycj x B b (r++Yjf c i)∧B≤x.heap.size∧Ye2 x (p i) (c.ev i)∧Ye6 x:=fun x hx=>⟨hw.below hx,Nat.le_trans hzw hx.size,e3.below hx,hT.below hx⟩
   have HPUT:=Lib.hid hput;have HG:=Lib.hid hg;have HLN:=Lib.hid hln;have HE:=Lib.hid e1;have HE2:=Lib.hid e2;clear hT hc e1 e2 e3 hput hw hg hln HSQ
   go_wp2
   refine Ya0 (S:=fun x=>Below wr.heap.size wr x) 8 (by kernel_rfl) (by kernel_rfl) hbd ?_;simp only[List.take_succ_cons,List.take_zero,List.drop_succ_cons,List.drop_zero];refine Yaf (by kernel_rfl) (fun x _=>by go_simp;try with_reducible rfl) ?_;simp only[Yaa];refine Yev 77 _ R 77 A (0,0) _ (by kernel_rfl) rfl rfl (fun x hx=>LB.out x hx) Tryz.underlying77 rfl HSZ ?_;simp only[Yaa]
   refine Ya9 (by kernel_rfl) IN.out (fun _=>by kernel_rfl) ?_;simp only[Yaa]
   iterate 2 (refine Yaf (by kernel_rfl) (fun x _=>by go_simp;try with_reducible rfl) ?_;simp only[Yaa])
   refine Yaf (by kernel_rfl) (fun x _=>by go_simp;rw[if_pos (by omega)]) ?_;simp only[Yaa];refine Ya7 3 _ ⟨R,6+i,none⟩ (.int .i64 (c.dc i)) (by kernel_rfl) rfl rfl (fun x hx=>by have c0:=DC.out x hx;go_simp) ?_;simp only[Yaa];refine Yaf (by kernel_rfl) (fun x _=>by go_simp;try with_reducible rfl) ?_;simp only[Yaa];refine Ych fun x hx=>?_;obtain⟨hw,hzx,hp,hT⟩:=HPUT.out x hx
   by_cases hm:Ytv ik (c.dc i) (c.ev i)=true
   ·have hp2:=Qha ik (c.dc i) (p i) (c.ev i) (k i) B b (r++Yjf c i) x hw HLN.out hzx hp hT hm;rw[←HE.out] at hp2;have HM:=Lib.hid hm;clear hm hw hp hT
    go_wp2_with fail
    refine hp2.mono ?_;rintro e w2 ⟨rfl,hw2,hg2⟩;have HN:=Lib.hid (show Yjf c (i+1)=Yjf c i++Yhj ik (c.dc i) (c.ev i) by rw[←HIK.out];rfl);rw[List.append_assoc,←HN.out] at hw2;have hbx2:=(hg2.block R (Nat.lt_of_lt_of_le hzR hx.size) hRb2).trans (LB.out x hx);have hg3:=Yac HG.out (Yac (Yak hx (some b)) hg2)
    go_wp2
    go_roundw
    case rel=>exact⟨i+1,by omega,by go_num,hw2,hg3,hbx2,Lib.hid fun j hj=>(Nat.lt_succ_iff_lt_or_eq.1 hj).elim (may.out j) fun h=>h▸HM.out⟩
    case measure=>simp[RowKit.intOf];omega
   ·have hp2:=Qcy ik (c.dc i) (p i) (c.ev i) (k i) b x hp (by rw[←HE.out];have:=HE2.out;omega) (by simpa using hm);rw[←HE.out] at hp2;have HM:=Lib.hid hm;have HWX:=Lib.hid hw;clear hm hw hp hT
    go_wp2_with fail
    refine hp2.mono ?_;rintro e w2 ⟨rfl,hb2⟩;have hw2:=HWX.out.below hb2;have hg3:=Yac HG.out (Yac (Yak hx (some b)) (Yak hb2 _))
    go_wp2
    go_ret
    refine⟨i,hi6,hw2,hg3,.inr ⟨?_,rfl⟩⟩;refine Bool.eq_false_iff.2 fun h=>HM.out ?_;rw[←HIK.out];exact MAYS.out.1 h i hlt
  ·obtain rfl:i=6:=by omega
   go_wp2
   go_ret
   refine⟨6,by omega,hw,hg,.inl ⟨rfl,?_,rfl⟩⟩;rw[MAYS.out,HIK.out];exact may.out
end Go.Proofs.YtjjmalchelniiaaGreatDoor
namespace Go.Proofs.YtjjmalchelniiaaGreatDoor
open Go.RowKit Go.Lib Go.Shelf
theorem Qac:Builder.Extra Tryz.prog Tryz.lRepeat_ren where
 sizeBuilder:=by kernel_rfl
 liesBuilder:=by kernel_rfl
 t5:=Tryz.underlying5
 a5:=Tryz.isAgg5
 z5:=Tryz.sizeOf5
 v5:=Tryz.zeroValue5
 infoByte:=by kernel_rfl
 cellsByte:=by kernel_rfl
 sizeByte:=by kernel_rfl
 neB5:=by decide
theorem Yxc (inter:Bool):∀n,Lib.repeatL (Yi9 inter) n=Yfz inter n
 |0=>rfl
 |n+1=>by rw[Ydd,←Yxc inter n];rfl
theorem Qez (inter:Bool)(n:Nat)(s:ByteArray)(w:World)(hs:s.data.toList=Yi9 inter)(hn:n≤64):
  Calls Tryz.prog 185 #[.string s,.int .i64 (n:Nat)] w fun e w'=>e=.returned (.string ⟨(Yfz inter n).toArray⟩)∧Below w.heap.size w w':=by
 have hz:s.size≤10:=by
  have h:=(Ysc inter).2;rw[←hs] at h;exact h
 have h:=Any.strings_Repeat Tryz.lRepeat Qac s n w (by omega) (Nat.le_trans (Nat.mul_le_mul hz hn) (by decide));rw[hs,Yxc] at h;exact h
end Go.Proofs.YtjjmalchelniiaaGreatDoor