/- Texts that SheetoutPuts's proof stands on, part 17 of 47. No condition of its own. -/
import Derived.Test.YtgikochfffdpfaaGreatDoorSheetoutPutsMf
import Derived.Test.YtgikochfffdpfaaGreatDoorSheetoutPutsMo
import Derived.Test.YtgikochfffdpfaaGreatDoorSheetoutPutsMp
import Derived.Deep.RegionLaw
import Derived.Laws.CopyOwn
import Derived.WalkMore
import Derived.RegionTactic
import Derived.Deep.RegionWith
namespace Go.Proofs.YtgikochfffdpfaaGreatDoor
open Go.RowKit
set_option maxHeartbeats 1000000 in
theorem Yb1 (w:World) (B b:Nat) (r:List UInt8) (v n:Int) (hw:Ybm w B b r) (h2:v≤9223372036854775807) (hf:Yca v n=true) (hn:r.length+32≤1099511627776) (hB:B≤w.heap.size):
  Calls Tryz.prog 32 #[.pointer (some ⟨b,0,none⟩),.int .i64 v,.int .i64 n] w fun e w'=> e = .returned (.int .i64 0)∧Ybm w' B b (r++Yak v.toNat n.toNat)∧w.grownBy w' (some b):=by
 have hrow:Yat (Yak v.toNat n.toNat)=true:=Yb5 _ _
 have hlen:(Yak v.toNat n.toNat).length≤32:=by rw [Yag];have:=(Yks hf).2.1;omega
 have HR:=Lib.hid hrow
 have HF:=Lib.hid hf
 clear hrow hf
 go_enter Tryz.func32,Tryz.ntmps32
 go_wp2_with fail
 refine (Yhk v n _ h2 HF.out).mono ?_
 rintro e w1 ⟨rfl,hb⟩
 have hw1:=hw.below hb
 have hg1:w.grownBy w1 (some b):=⟨hb.os,hb.tape,hb.output,hb.size,fun k hk _=> hb.block k hk⟩
 have hsz:=hb.size
 clear hb
 go_wp2_with fail
 refine (Yig _ B b r _ hw1 HR.out (by rw [Yds];omega) (by omega)).mono ?_
 rintro e w2 ⟨rfl,hw2,hg2⟩
 go_wp2
 go_ret
 exact ⟨rfl,hw2,Yai hg1 hg2⟩
def Ybi (r:List UInt8) (m k:Nat):List Value:=(List.range m).map fun i=> Value.int .u8 ((if i<256*k then 0 else Ya6 r i:Nat):Int)
theorem Ybz (r:List UInt8) (m k:Nat):(Ybi r m k).length=m:=by simp [Ybi]
theorem Yev (r:List UInt8) (m k i:Nat) (h:i<m):(Ybi r m k)[i]? = some (.int .u8 ((if i<256*k then 0 else Ya6 r i:Nat):Int)):=by
 simp [Ybi,h]
theorem Yd9 (r:List UInt8) (m k i:Nat) (h:¬ i<m):(Ybi r m k)[i]? = none:=List.getElem?_eq_none (by rw [Ybz];omega)
theorem Ylb {α:Type} (L:List α) (o:Nat) (cs:List α) (i:Nat) (h:o+cs.length≤L.length):(splice L o cs)[i]? = if i<o then L[i]? else if i<o+cs.length then cs[i-o]? else L[i]?:=by
 unfold splice
 by_cases h1:i<o
 ·rw [if_pos h1,List.getElem?_append_left (by rw [List.length_take];omega),List.getElem?_take,if_pos h1]
 ·rw [if_neg h1,List.getElem?_append_right (by rw [List.length_take];omega),List.length_take,show min o L.length=o by omega]
  by_cases h2:i<o+cs.length
  ·rw [if_pos h2,List.getElem?_append_left (by omega)]
  ·rw [if_neg h2,List.getElem?_append_right (by omega),List.getElem?_drop]
   congr 1
   omega
theorem Ysu (r:List UInt8) (m k:Nat) (h:256*(k+1)≤m):splice (Ybi r m (k+1)) (256*k) (Yar r k)=Ybi r m k:=by
 apply List.ext_getElem?
 intro i
 rw [Ylb _ _ _ _ (by rw [Ybz,Yal];omega),Yal]
 by_cases hm:i<m
 ·rw [Yev r m k i hm,Yev r m (k+1) i hm]
  by_cases h1:i<256*k
  ·rw [if_pos h1,if_pos h1,if_pos (by omega)]
  ·rw [if_neg h1,if_neg h1]
   by_cases h2:i<256*k+256
   ·rw [if_pos h2,Yce r k (i-256*k) (by omega),show 256*k+(i-256*k)=i by omega]
   ·rw [if_neg h2,if_neg (by omega)]
 ·rw [Yd9 r m k i hm,Yd9 r m (k+1) i hm,if_neg (by omega),if_neg (by omega)]
theorem Yvn (r:List UInt8) (m q c:Nat) (hc:c=min 256 (m-256*q)) (h:256*q≤m) (h2:m≤256*q+256):
  splice (List.replicate m (Value.int .u8 0)) (256*q) ((Yar r q).take c)=Ybi r m q:=by
 apply List.ext_getElem?
 intro i
 have hl:((Yar r q).take c).length=c:=by rw [List.length_take,Yal];omega
 rw [Ylb _ _ _ _ (by rw [List.length_replicate,hl];omega),hl]
 by_cases hm:i<m
 ·rw [Yev r m q i hm]
  by_cases h1:i<256*q
  ·rw [if_pos h1,if_pos h1,List.getElem?_replicate,if_pos hm];rfl
  ·rw [if_neg h1,if_neg h1,if_pos (by omega),List.getElem?_take,if_pos (by omega),Yce r q _ (by omega),show 256*q+(i-256*q)=i by omega]
 ·rw [Yd9 r m q i hm,List.getElem?_replicate,if_neg hm,if_neg (by omega),if_neg (by omega)]
theorem Ysv (r:List UInt8) (hr:Yat r=true):Ybi r ((r.length+7) / 8) 0=Ya1 (Ykb r):=by
 rw [Yng]
 unfold Ybi Ya1
 rw [List.map_map]
 apply List.map_congr_left
 intro i _
 have:=Ymp r i hr
 simp [UInt8.toNat_ofNat']
 omega
theorem Yrt (m:Nat):(madeCells (Value.int .u8 0).cells (m*1)).toList=List.replicate m (Value.int .u8 0):=by
 apply List.ext_getElem?
 intro i
 simp only [Array.getElem?_toList,List.getElem?_replicate,Nat.mul_one]
 by_cases h:i<m
 ·rw [if_pos h,Array.getElem?_eq_getElem (by rw [size_madeCells];exact h)]
  simp [madeCells,Value.cells,Nat.mod_one]
 ·rw [if_neg h,Array.getElem?_eq_none (by rw [size_madeCells];omega)]
theorem Yuj {w:World} {base e g n:Nat} {xs:List Value} (h:w.ownsRow base e 1 (.slice (some ⟨g,0,none⟩) n n) n xs):w.heap[g]? = some (.cells xs.toArray e (0,0)):=by
 rcases h.2 with ⟨h1,_⟩ | ⟨g',cap,cur,h1,_,h2,_,_,h3,h4⟩
 ·cases h1
 ·injection h1 with h1 _ h1'
  injection h1 with h1
  injection h1 with h1
  subst h1 h1'
  rw [h2,←h4,List.take_of_length_le (by rw [Array.length_toList];omega),Array.toArray_toList]
set_option maxHeartbeats 1000000 in
theorem Yvm (w:World) (B b:Nat) (r:List UInt8) (hw:Ybm w B b r) (hn:r.length≤1099511627776):
  Calls Tryz.prog 16 #[.pointer (some ⟨b,0,none⟩)] w fun e w'=> e = .returned (.string ⟨(Ykb r).toArray⟩)∧Below w.heap.size w w':=by
 obtain ⟨i0,hi,hz0,hz1,hz2⟩:=info_parts Yoy
 obtain ⟨hr,hbB,v,hh,hc⟩:=hw
 have hlt:b<w.heap.size:=(Array.getElem?_eq_some_iff.1 hh).1
 have hbits:=Yab hh (Ybu r v _)
 obtain ⟨m,hm⟩:∃m,(r.length+7) / 8=m:=⟨_,rfl⟩
 obtain ⟨q,hq⟩:∃q,r.length / 2048=q:=⟨_,rfl⟩
 have em:((r.length:Int)+7) / 8=((m:Nat):Int):=by omega
 have eq2:(r.length:Int) / 2048=((q:Nat):Int):=by omega
 have m1:m≤137438953473:=by omega
 go_enter Tryz.func16,Tryz.ntmps16
 have EM:=Lib.hid em
 have HM:=Lib.hid hm
 have HQ:=Lib.hid hq
 clear em hm hq
 go_wp2_with (at_make;refine wpList_make_full _ rfl _ _ 78 rfl w.heap.size 5 i0 (.int .u8 0) 1 Tryz.underlying78 hi hz0 hz1 _ _ _ _ m rfl rfl EM.out EM.out ?b2 ?b3 ?b4 ?_;(case b2=> (rw [hz2];omega));(case b3=> (unfold maxLen;omega));(case b4=> exact Nat.le_refl _);intro w1 hown hgrow;have hh1:=(hgrow.block b hlt (by simp)).trans hh;have hbits1:=Yab hh1 (Ybu r v _))
 obtain ⟨o,ho⟩:∃o,256*q=o:=⟨_,rfl⟩
 have eo:(q:Int)*256=((o:Nat):Int):=by omega
 have o1:o≤m:=by have:=HM.out;have:=HQ.out;omega
 have o2:m≤o+256:=by have:=HM.out;have:=HQ.out;omega
 have o3:(0:Int)≤(o:Int):=by omega
 have o4:(o:Int)≤(m:Int):=by omega
 rw [eo]
 have HO:=Lib.hid ho
 have EQ:=Lib.hid eq2
 clear eo ho eq2
 obtain ⟨Z0,hZ0⟩:∃Z0,List.replicate m (Value.int .u8 0)=Z0:=⟨_,rfl⟩
 have hg0:=Yuj hown
 rw [Yrt,hZ0] at hg0
 obtain ⟨CS,hCS⟩:∃CS,(Yar r q).take (min 256 (m-o))=CS:=⟨_,rfl⟩
 have hcl:CS.length=min 256 (m-o):=by rw [←hCS,List.length_take,Yal];omega
 have hc1:∀v∈CS,v.oneCell'=true:=by rw [←hCS];exact fun v hv=> Yc1 _ _ v (List.mem_of_mem_take hv)
 have hsrc:∀j v,CS[j]? = some v→w1.cell? ((⟨b,1,none⟩:Addr).add j)=some v:=by
  intro j x hx
  have hj:j<CS.length:=(List.getElem?_eq_some_iff.1 hx).1
  rw [Addr.add_mid]
  refine Yab hh1 ?_
  rw [←hCS,List.getElem?_take,if_pos (by omega)] at hx
  unfold Ycr Ya2
  rw [Nat.add_comm,List.getElem?_cons_succ,List.getElem?_append_left (by rw [Yal];omega),HQ.out,hx]
 have hb1:Below w.heap.size w w1:=⟨hgrow.os,hgrow.tape,hgrow.output,hgrow.size,fun k hk=> hgrow.block k hk (by simp)⟩
 have hzl:Z0.length=m:=by rw [←hZ0];simp
 have Z0H:=Lib.hid hZ0
 have CSH:=Lib.hid hCS
 have CL:=Lib.hid hcl
 have ZL:=Lib.hid hzl
 have u8:(Tryz.prog.info? 5).map (·.size)=some 1:=by kernel_rfl
 clear hZ0 hCS hcl hzl hown hgrow
 refine wp_region_any (by kernel_rfl) ?_
 change wpAny _ _ _ _ _ _ _ (World.drew _)
 refine Yb0 0 (some 21) (v:=?_) rfl rfl (by kernel_rfl) (by kernel_rfl) (by kernel_rfl) (fun _ _ _ h=> h) (Or.inl ⟨by rfl,?_⟩) ?_
 rotate_left
 ·(intro w;go_simp;try with_reducible rfl)
 rotate_right
 refine Yb0 1 (some 22) (v:=?_) rfl rfl (by kernel_rfl) (by kernel_rfl) (by kernel_rfl) (fun _ _ _ h=> h) (Or.inl ⟨by rfl,?_⟩) ?_
 rotate_left
 ·(intro w;go_simp;try with_reducible rfl)
 rotate_right
 refine Yb0 2 (some 23) (v:=?_) rfl rfl (by kernel_rfl) (by kernel_rfl) (by kernel_rfl) (fun _ _ _ h=> h) (Or.inl ⟨by rfl,?_⟩) ?_
 rotate_left
 ·(intro w;go_simp;try with_reducible rfl)
 rotate_right
 refine Yb0 3 (some 24) (v:=?_) rfl rfl (by kernel_rfl) (by kernel_rfl) (by kernel_rfl) (fun _ _ _ h=> h) (Or.inl ⟨by rfl,?_⟩) ?_
 rotate_left
 ·(intro w;go_simp;try with_reducible rfl)
 rotate_right
 refine Yb0 4 (some 25) (v:=?_) rfl rfl (by kernel_rfl) (by kernel_rfl) (by kernel_rfl) (fun _ _ _ h=> h) (Or.inl ⟨by rfl,?_⟩) ?_
 rotate_left
 ·(intro w;go_simp;try with_reducible rfl)
 rotate_right
 refine Yb0 5 (some 26) (v:=?_) rfl rfl (by kernel_rfl) (by kernel_rfl) (by kernel_rfl) (fun _ _ _ h=> h) (Or.inl ⟨by rfl,?_⟩) ?_
 rotate_left
 ·(intro w;go_simp;try with_reducible rfl)
 rotate_right
 refine Yb0 6 (some 27) (v:=?_) rfl rfl (by kernel_rfl) (by kernel_rfl) (by kernel_rfl) (fun _ _ _ h=> h) (Or.inl ⟨by rfl,?_⟩) ?_
 rotate_left
 ·(intro w;go_simp;try with_reducible rfl)
 rotate_right
 refine Yft 7 (by kernel_rfl) (by kernel_rfl) ?_
 simp only [List.drop_succ_cons,List.drop_zero,Act.put,List.setIfInBounds_toArray,List.set_cons_zero,List.set_cons_succ]
 refine wpList_copy_splice rfl (.tmp 23) (.tmp 27) 78 78 rfl 5 Tryz.underlying78 u8 _ _ _ _ _ _ rfl rfl w.heap.size o Z0 5 (show w1.drew.heap[w.heap.size]? = _ from hg0) CS ?hn ?hpos ?hfit hc1 w.heap.size w hb1.drew (Nat.le_refl _) ?_
 case hn=> rw [CL.out]
 case hpos=>
  intro h0
  rw [CL.out] at h0
  rw [if_neg (by omega)]
  exact ⟨rfl,_,rfl,hsrc⟩
 case hfit=> rw [CL.out,ZL.out];omega
 intro w2 HG2 hb2
 obtain ⟨p0,rfl⟩:=hc.pointer
 have hh2:=(hb2.block b hlt).trans hh
 have hfst:w2.cell? ⟨b,0,none⟩=some (.pointer p0):=Yab hh2 rfl
 have HT:Hid (w2.heap[w.heap.size]? = some (.cells (Ybi r m q).toArray 5 (0,0))):=by
  have e:=HG2.out
  have e2:=Yvn r m q (min 256 (m-o)) (by rw [HO.out]) (by rw [HO.out];exact o1) (by rw [HO.out];exact o2)
  rw [HO.out,Z0H.out,CSH.out] at e2
  rw [e2] at e
  exact Lib.hid e
 have HC:Hid (Yfv w B r q (.pointer p0)):=by have e:=hc;rw [HQ.out] at e;exact Lib.hid e
 clear hc hh1 hh2 hbits1 HG2 hg0 hsrc hb1 Z0H CSH CL ZL hc1 hh hbits EQ
 generalize (if m=o then (some ({block:=w.heap.size,off:=0}:Addr)) else some {block:=w.heap.size,off:=o})=dx
 go_wp2
 go_loopw [4,5] (fun x p wr=>∃(k:Nat) (pv:Option Addr),x = .int .i64 ((256*k:Nat):Int)∧p = .pointer pv∧256*k≤m∧Hid (Yfv w B r k (.pointer pv))∧Hid (wr.heap[w.heap.size]? = some (.cells (Ybi r m k).toArray 5 (0,0)))∧Below w.heap.size w wr) (fun x _ _=> (intOf x).toNat)
 case atStart=> exact ⟨q,p0,by rw [HO.out],rfl,by rw [HO.out];exact o1,HC,HT,hb2⟩
 case round=>
  clear HC HT hb2 hfst
  obtain ⟨k,pv,rfl,rfl,hk,HC,HT,hb⟩:=hrel
  cases k with
  | zero=>
   have e:=HC.out
   obtain rfl:pv=none:=by injection e
   have hown:Yay wr 0 5 (.slice (some ⟨w.heap.size,0,none⟩) m m) (Ykb r):=by
    refine ⟨by rw [Ygf];omega,.inr ⟨w.heap.size,m,(Ybi r m 0).toArray,by rw [Yfb,HM.out],Nat.zero_le _,HT.out,by rw [Yfb,HM.out];exact Nat.le_refl _,by unfold maxLen;omega,by simp [Ybz],?_⟩⟩
    have e:=Ysv r hr
    rw [HM.out] at e
    rw [←e,List.toList_toArray]
    exact List.take_of_length_le (by rw [Ybz,Yfb,HM.out];omega)
   have ht:=Yay.text Tryz.underlying78 Tryz.underlying5 Tryz.underlying9 hown
   clear e hown
   go_wp2
   go_ret
   exact ⟨rfl,hb⟩
  | succ k=>
   obtain ⟨g,v',e,hgB,hg,hc'⟩:=HC.out
   obtain rfl:pv=some ⟨g,0,none⟩:=by injection e
   obtain ⟨p1,rfl⟩:=hc'.pointer
   have HC':=Lib.hid hc'
   clear e hc'
   have hglt:g<w.heap.size:=(Array.getElem?_eq_some_iff.1 hg).1
   have hgr:=(hb.block g hglt).trans hg
   go_wp2
   obtain ⟨y,hy⟩:∃y,256*k=y:=⟨_,rfl⟩
   have ey:256*((k:Int)+1)-256=((y:Nat):Int):=by omega
   have y1:y+256≤m:=by omega
   have y2:(0:Int)≤(y:Int):=by omega
   have y3:(y:Int)≤(m:Int):=by omega
   rw [ey]
   have HY:=Lib.hid hy
   clear ey hy
   obtain ⟨PC,hPC⟩:∃PC,Yar r k=PC:=⟨_,rfl⟩
   have hpl:PC.length=256:=by rw [←hPC];exact Yal _ _
   have hp1:∀v∈PC,v.oneCell'=true:=by rw [←hPC];exact Yc1 _ _
   rw [hPC] at hg hgr
   have hsrc:∀j v,PC[j]? = some v→wr.cell? ((⟨g,1,none⟩:Addr).add j)=some v:=by
    intro j x hx
    rw [Addr.add_mid]
    refine Yab hgr ?_
    rw [Nat.add_comm,List.getElem?_cons_succ,hx]
   have PCH:=Lib.hid hPC
   have PL:=Lib.hid hpl
   clear hPC hpl
   refine wp_region_any (by kernel_rfl) ?_
   change wpAny _ _ _ _ _ _ _ (World.drew _)
   refine Yb0 0 (some 41) (v:=?_) rfl rfl (by kernel_rfl) (by kernel_rfl) (by kernel_rfl) (fun _ _ _ h=> h) (Or.inl ⟨by rfl,?_⟩) ?_
   rotate_left
   ·(intro w;go_simp;try with_reducible rfl)
   rotate_right
   refine Yb0 1 (some 42) (v:=?_) rfl rfl (by kernel_rfl) (by kernel_rfl) (by kernel_rfl) (fun _ _ _ h=> h) (Or.inl ⟨by rfl,?_⟩) ?_
   rotate_left
   ·(intro w;go_simp;try with_reducible rfl)
   rotate_right
   refine Yb0 2 (some 43) (v:=?_) rfl rfl (by kernel_rfl) (by kernel_rfl) (by kernel_rfl) (fun _ _ _ h=> h) (Or.inl ⟨by rfl,?_⟩) ?_
   rotate_left
   ·(intro w;go_simp;try with_reducible rfl)
   rotate_right
   refine Yb0 3 (some 44) (v:=?_) rfl rfl (by kernel_rfl) (by kernel_rfl) (by kernel_rfl) (fun _ _ _ h=> h) (Or.inl ⟨by rfl,?_⟩) ?_
   rotate_left
   ·(intro w;go_simp;try with_reducible rfl)
   rotate_right
   refine Yb0 4 (some 45) (v:=?_) rfl rfl (by kernel_rfl) (by kernel_rfl) (by kernel_rfl) (fun _ _ _ h=> h) (Or.inl ⟨by rfl,?_⟩) ?_
   rotate_left
   ·(intro w;go_simp;try with_reducible rfl)
   rotate_right
   refine Yb0 5 (some 46) (v:=?_) rfl rfl (by kernel_rfl) (by kernel_rfl) (by kernel_rfl) (fun _ _ _ h=> h) (Or.inl ⟨by rfl,?_⟩) ?_
   rotate_left
   ·(intro w;go_simp;try with_reducible rfl)
   rotate_right
   refine Yb0 6 (some 47) (v:=?_) rfl rfl (by kernel_rfl) (by kernel_rfl) (by kernel_rfl) (fun _ _ _ h=> h) (Or.inl ⟨by rfl,?_⟩) ?_
   rotate_left
   ·(intro w;go_simp;try with_reducible rfl)
   rotate_right
   refine Yft 7 (by kernel_rfl) (by kernel_rfl) ?_
   simp only [List.drop_succ_cons,List.drop_zero,Act.put,List.setIfInBounds_toArray,List.set_cons_zero,List.set_cons_succ]
   refine wpList_copy_splice rfl (.tmp 43) (.tmp 47) 78 78 rfl 5 Tryz.underlying78 u8 _ _ _ _ _ _ rfl rfl w.heap.size y (Ybi r m (k+1)) 5 (show wr.drew.heap[w.heap.size]? = _ from HT.out) PC ?hn2 ?hpos2 ?hfit2 hp1 w.heap.size w hb.drew (Nat.le_refl _) ?_
   case hn2=> rw [PL.out];show 256=min 256 (m-y);omega
   case hpos2=>
    intro _
    rw [if_neg (by omega)]
    exact ⟨rfl,_,rfl,hsrc⟩
   case hfit2=> rw [PL.out,Ybz];exact y1
   intro w3 HG3 hb3
   have HT3:Hid (w3.heap[w.heap.size]? = some (.cells (Ybi r m k).toArray 5 (0,0))):=by
    have e:=HG3.out
    rw [←PCH.out,←HY.out,Ysu r m k (by omega)] at e
    exact Lib.hid e
   have hnx:w3.cell? ⟨g,0,none⟩=some (.pointer p1):=Yab ((hb3.block g hglt).trans hg) rfl
   generalize (if m=y then (some ({block:=w.heap.size,off:=0}:Addr)) else some {block:=w.heap.size,off:=y})=dy
   clear HG3 hgr hg hsrc HT HC hb
   go_wp2
   go_roundw
   case rel=> exact ⟨k,p1,by rw [HY.out],rfl,by omega,HC',HT3,hb3⟩
   case measure=> simp [intOf];have:=HY.out;omega
theorem Yza:∀n:Fin 32,bits .or .i64 32 ((n.val:Nat):Int)=((32+n.val:Nat):Int):=by decide +kernel
theorem Yua (n:Nat) (h:n<32):Yca ((32+n:Nat):Int) 22=true:=by
 unfold Yca
 rw [decide_eq_true_iff]
 refine ⟨by omega,by omega,by omega,?_⟩
 show ((32+n:Nat):Int)<2^22
 omega
set_option maxHeartbeats 1000000 in
theorem Ym7 (w:World) (B b:Nat) (r:List UInt8) (n:Nat) (h:n<32) (hw:Ybm w B b r) (hn:r.length+40≤1099511627776) (hB:B≤w.heap.size):
  Calls Tryz.prog 54 #[.pointer (some ⟨b,0,none⟩),.int .i64 (n:Int)] w fun e w'=> e = .returned (.int .i64 0)∧Ybm w' B b (r++List.replicate (gap r.length) 48++Ybb n)∧w.grownBy w' (some b):=by
 have O:Hid (bits .or .i64 32 (n:Int)=((32+n:Nat):Int)):=Lib.hid (Yza ⟨n,h⟩)
 have hf:=Yua n h
 have F:=Lib.hid hf
 have G:=Lib.hid (Ym2 r.length)
 have d1:decide ((n:Int)<0)=false:=by simp
 have d2:decide (31<(n:Int))=false:=by simp;omega
 have V:Hid (((32+n:Nat):Int)≤9223372036854775807):=Lib.hid (by omega)
 clear hf h
 go_enter Tryz.func54,Tryz.ntmps54
 go_wp2_with fail
 refine (Ymy _ B b r hw (by omega) hB).mono ?_
 rintro e w1 ⟨rfl,hw1,hg1⟩
 have hB1:B≤w1.heap.size:=Nat.le_trans hB hg1.size
 go_wp2_with fail
 rw [O.out]
 refine (Yb1 _ B b _ _ _ hw1 V.out F.out (by have:=G.out;rw [List.length_append,List.length_replicate];omega) hB1).mono ?_
 rintro e w2 ⟨rfl,hw2,hg2⟩
 rw [Yru] at hw2
 go_wp2
 go_ret
 exact ⟨rfl,hw2,Yai hg1 hg2⟩
def Yl2 (n id q:Int):Bool:=decide (1≤n∧n≤17∧0≤id∧id≤3∧1≤q∧q≤31)
theorem Yi1 {n id q:Int} (h:1≤n∧n≤17∧0≤id∧id≤3∧1≤q∧q≤31):Yl2 n id q=true:=decide_eq_true h
theorem Yrl {n id q:Int} (h:¬ (1≤n∧n≤17∧0≤id∧id≤3∧1≤q∧q≤31)):Yl2 n id q=false:=decide_eq_false h
theorem Yug:∀(i:Fin 4) (q:Fin 32),bits .or .i64 (((i.val:Nat):Int)*32) ((q.val:Nat):Int)=((32*i.val+q.val:Nat):Int):=by decide +kernel
theorem Yrj:∀(i:Fin 4) (q:Fin 32),Yak (32*i.val+q.val) 7=Yd8 i.val q.val:=by decide +kernel
theorem Yri (n:Nat) (h:n<128):Yca (n:Int) 7=true:=by
 unfold Yca
 rw [decide_eq_true_iff]
 refine ⟨by omega,by omega,by omega,?_⟩
 show (n:Int)<2^7
 omega
theorem Yt5 {q:Int} {b:Bool} (h1:q≤31→b=true) (h2:¬ q≤31→b=false):decide (q≤31)=b:=by
 by_cases h:q≤31
 ·rw [h1 h,decide_eq_true h]
 ·rw [h2 h,decide_eq_false h]
set_option maxHeartbeats 1000000 in
theorem Yox (n id q:Int) (w:World):
  Calls Tryz.prog 91 #[.int .i64 n,.int .i64 id,.int .i64 q] w fun e w'=> e = .returned (.bool (Yl2 n id q))∧w=w':=by
 obtain ⟨b,hb⟩:∃b,Yl2 n id q=b:=⟨_,rfl⟩
 rw [hb]
 have HB:=Lib.hid hb
 clear hb
 have NO:Hid ((¬ (1≤n∧n≤17∧0≤id∧id≤3∧1≤q∧q≤31))→b=false):=Lib.hid fun h=> HB.out.symm.trans (Yrl h)
 have YES:Hid ((1≤n∧n≤17∧0≤id∧id≤3∧1≤q∧q≤31)→b=true):=Lib.hid fun h=> HB.out.symm.trans (Yi1 h)
 go_enter Tryz.func91,Tryz.ntmps91
 go_wp2
 all_goals
  go_ret
  refine ⟨congrArg (fun x=> Ending.returned (Value.bool x)) ?_,rfl⟩
  first
   | exact (NO.out (by omega)).symm
   | exact Yt5 (fun h=> YES.out (by omega)) (fun h=> NO.out (by omega))
set_option maxHeartbeats 1000000 in
theorem Yx6 (w:World) (B b:Nat) (r:List UInt8) (n id q:Nat) (h:1≤n∧n≤17∧id≤3∧1≤q∧q≤31) (hw:Ybm w B b r) (hn:r.length+80≤1099511627776) (hB:B≤w.heap.size):
  Calls Tryz.prog 58 #[.pointer (some ⟨b,0,none⟩),.int .i64 (n:Int),.int .i64 (id:Int),.int .i64 (q:Int)] w fun e w'=> e = .returned (.int .i64 0)∧Ybm w' B b (Ydy r n++Yd8 id q)∧w.grownBy w' (some b):=by
 have c:=fun w=> Yox n id q w
 rw [Yi1 (by omega)] at c
 have O:Hid (bits .or .i64 ((id:Int)*32) (q:Int)=((32*id+q:Nat):Int)):=Lib.hid (Yug ⟨id,by omega⟩ ⟨q,by omega⟩)
 have FR:Hid (Yak (32*id+q) 7=Yd8 id q):=Lib.hid (Yrj ⟨id,by omega⟩ ⟨q,by omega⟩)
 have F:=Lib.hid (Yri (32*id+q) (by omega))
 have V:Hid (((32*id+q:Nat):Int)≤9223372036854775807):=Lib.hid (by omega)
 have W1:IntKind.i64.wrap ((id:Int)*32)=(id:Int)*32:=by rw [IntKind.wrap_i64];omega
 have BL:=Lib.hid (Yek r n)
 have G:=Lib.hid (Ym2 r.length)
 have c2:=Ym7 w B b r n (by omega) hw (by omega) hB
 clear h
 go_enter Tryz.func58,Tryz.ntmps58
 go_wp2_with fail
 refine (c _).mono ?_
 rintro e w1 ⟨rfl,rfl⟩
 go_wp2_with fail
 refine c2.mono ?_
 rintro e w1 ⟨rfl,hw1,hg1⟩
 have hB1:B≤w1.heap.size:=Nat.le_trans hB hg1.size
 have hw1:Ybm w1 B b (Ydy r n):=hw1
 go_wp2_with fail
 rw [O.out]
 refine (Yb1 _ B b _ _ _ hw1 V.out F.out (by have:=BL.out;have:=G.out;omega) hB1).mono ?_
 rintro e w2 ⟨rfl,hw2,hg2⟩
 rw [show (((32*id+q:Nat):Int)).toNat=32*id+q from rfl,show (7:Int).toNat=7 from rfl,FR.out] at hw2
 go_wp2
 go_ret
 exact ⟨rfl,hw2,Yai hg1 hg2⟩
end Go.Proofs.YtgikochfffdpfaaGreatDoor
namespace Go.Proofs.YtgikochfffdpfaaGreatDoor
open Go.RowKit Go.Lib
set_option maxHeartbeats 1000000 in
theorem Ytz (a n id q:Nat) (ha:a≤1099511627776) (h:n<32∧id≤3∧q≤31) (w:World):
  Calls Tryz.prog 40 #[.int .i64 (a:Int),.int .i64 (n:Int),.int .i64 (id:Int),.int .i64 (q:Int)] w fun e w'=> e = .returned (.string (Ybj (Ycc a n id q)))∧Below w.heap.size w w':=by
 have c1:=fun w=> Ym9 n h.1 w
 have c2:=fun w=> Ycp (id:Int) 2 (by omega) (by omega) (by decide) (by decide) w
 have c3:=fun w=> Ycp (q:Int) 5 (by omega) (by omega) (by decide) (by decide) w
 simp only [Int.toNat_natCast,show (5:Int).toNat=5 from rfl,show (2:Int).toNat=2 from rfl] at c2 c3
 have E:Hid (((Ybj (List.replicate (gap a) 48)++Ybj (Ybb n))++Ybj (Yak id 2))++Ybj (Yak q 5)=Ybj (Ycc a n id q)):=Lib.hid (by
  unfold Ycc Yd8
  simp only [Yd0,List.append_assoc])
 have z1:(Ybj (Ybb n)).size=22:=by rw [Ybl,Ya9]
 have z2:(Ybj (Yak id 2)).size=2:=by rw [Ybl,Yag]
 have z3:(Ybj (Yak q 5)).size=5:=by rw [Ybl,Yag]
 rw [show (⟨(Yak id 2).toArray⟩:ByteArray)=Ybj (Yak id 2) from rfl] at c2
 rw [show (⟨(Yak q 5).toArray⟩:ByteArray)=Ybj (Yak q 5) from rfl] at c3
 generalize Ybj (Ybb n)=R1 at c1 E z1
 generalize Ybj (Yak id 2)=R2 at c2 E z2
 generalize Ybj (Yak q 5)=R3 at c3 E z3
 have hg:=Ym2 a
 have hgd:∀j:Nat,j≤gap a→(((a:Int)+j)%8 != 0)=decide (j<gap a):=by
  intro j hj
  unfold gap at hj ⊢
  rw [Bool.eq_iff_iff,bne_iff_ne,decide_eq_true_iff]
  omega
 have NX:=Lib.hid (fun j=> (by rw [show (⟨#[48]⟩:ByteArray)=Ybj [48] from rfl,Yd0,List.replicate_succ']:Ybj (List.replicate j 48)++(⟨#[48]⟩:ByteArray)=Ybj (List.replicate (j+1) 48)))
 have SZ:=Lib.hid (fun j=> (by rw [Ybl,List.length_replicate]:(Ybj (List.replicate j 48)).size=j))
 have R0:Hid ((⟨#[]⟩:ByteArray)=Ybj (List.replicate 0 48)):=Lib.hid rfl
 obtain ⟨R,hR⟩:∃R:Nat→ByteArray,(fun j=> Ybj (List.replicate j 48))=R:=⟨_,rfl⟩
 have eR:∀j,Ybj (List.replicate j 48)=R j:=fun j=> by rw [←hR]
 simp only [eR] at E NX SZ R0
 clear eR hR
 have GD:=Lib.hid hgd
 clear hgd h
 generalize gap a=g at *
 go_enter Tryz.func40,Tryz.ntmps40
 go_wp2
 go_loop [9] (fun v=>∃j:Nat,j≤g∧v = .string (R j)) (fun v=> g-(match v with | .string x=> x.size | _=> 0))
 case atStart=> exact ⟨0,Nat.zero_le _,by rw [R0.out]⟩
 case round=>
  obtain ⟨j,hj,rfl⟩:=hrel
  have hd:=GD.out j hj
  have hs:=SZ.out j
  have hn:=NX.out j
  have hs2:=SZ.out (j+1)
  by_cases hlt:j<g
  ·obtain ⟨Y,hY⟩:∃Y,R (j+1)=Y:=⟨_,rfl⟩
   rw [hY] at hn hs2
   have NY:=Lib.hid hn
   have NJ:=Lib.hid hY
   clear hn hY
   obtain ⟨X,hX⟩:∃X,R j=X:=⟨_,rfl⟩
   rw [hX] at hs NY ⊢
   have d0:(((a:Int)+(X.size:Int))%8 != 0)=true:=by rw [hs,hd];simpa using hlt
   have hx8:X.size≤8:=by omega
   have HY:=Lib.hid hX
   have SY:=Lib.hid hs2
   clear hd hX hs2 E
   go_wp2
   go_round
   case rel=> exact ⟨j+1,by omega,by rw [NY.out,NJ.out]⟩
   case measure=> rw [NY.out];have:=SY.out;simp only;omega
  ·obtain rfl:j=g:=by omega
   have e1:=E.out
   obtain ⟨X,hX⟩:∃X,R j=X:=⟨_,rfl⟩
   rw [hX] at hs e1 ⊢
   have d0:(((a:Int)+(X.size:Int))%8 != 0)=false:=by rw [hs,hd];simp
   have hx8:X.size≤8:=by omega
   have E1:=Lib.hid e1
   clear hd e1 hs hX hs2 hn E
   go_wp2_with fail
   refine (c1 _).mono ?_
   rintro e w1 ⟨rfl,rfl⟩
   go_wp2_with fail
   refine (c2 _).mono ?_
   rintro e w1 ⟨rfl,rfl⟩
   go_wp2_with fail
   refine (c3 _).mono ?_
   rintro e w1 ⟨rfl,rfl⟩
   go_wp2
   go_ret
   rw [E1.out]
   exact ⟨rfl,Below.refl _ _⟩
end Go.Proofs.YtgikochfffdpfaaGreatDoor