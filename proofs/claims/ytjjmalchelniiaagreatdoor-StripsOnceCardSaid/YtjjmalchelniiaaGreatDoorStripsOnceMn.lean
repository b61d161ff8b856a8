/- Part 14 of StripsOnce. No condition. -/
import Derived.Test.YtjjmalchelniiaaGreatDoorStripsOnceMg
import Derived.Test.YtjjmalchelniiaaGreatDoorStripsOnceMm
import Derived.Deep.RegionLaw
import Derived.Laws.CopyOwn
import Derived.WalkMore
namespace Go.Proofs.YtjjmalchelniiaaGreatDoor
open Go.RowKit
set_option maxHeartbeats 1000000 in
theorem Yc6 (w:World)(B b:Nat)(r:List UInt8)(v n:Int)(hw:Ycj w B b r)(h2:v≤9223372036854775807)(hf:Ydh v n=true)(hn:r.length+32≤1099511627776)(hB:B≤w.heap.size):
  Calls Tryz.prog 74 #[.pointer (some ⟨b,0,none⟩),.int .i64 v,.int .i64 n] w fun e w'=>e=.returned (.int .i64 0)∧Ycj w' B b (r++Yav v.toNat n.toNat)∧w.grownBy w' (some b):=by
 have hrow:Yax (Yav v.toNat n.toNat)=true:=Ycx _ _;have hlen:(Yav v.toNat n.toNat).length≤32:=by rw[Yal];have:=(Yrc hf).2.1;omega
 have HR:=Lib.hid hrow;have HF:=Lib.hid hf;clear hrow hf
 go_enter Tryz.func74,Tryz.ntmps74
 go_wp2_with fail
 refine(Yks v n _ h2 HF.out).mono ?_;rintro e w1 ⟨rfl,hb⟩;have hw1:=hw.below hb;have hg1:w.grownBy w1 (some b):=⟨hb.os,hb.tape,hb.output,hb.size,fun k hk _=>hb.block k hk⟩;have hsz:=hb.size;clear hb
 go_wp2_with fail
 refine(Ysy _ B b r _ hw1 HR.out (by rw[Qa3];omega) (by omega)).mono ?_;rintro e w2 ⟨rfl,hw2,hg2⟩
 go_wp2
 go_ret
 exact⟨rfl,hw2,Yac hg1 hg2⟩
def Ycd (r:List UInt8)(m k:Nat):List Value:=(List.range m).map fun i=>Value.int .u8 ((if i<256*k then 0 else Ybs r i:Nat):Int)
theorem Yc0 (r:List UInt8)(m k:Nat):(Ycd r m k).length=m:=by simp[Ycd]
theorem Yg6 (r:List UInt8)(m k i:Nat)(h:i<m):(Ycd r m k)[i]? =some (.int .u8 ((if i<256*k then 0 else Ybs r i:Nat):Int)):=by
 simp[Ycd,h]
theorem Yf5 (r:List UInt8)(m k i:Nat)(h:¬ i<m):(Ycd r m k)[i]? =none:=List.getElem?_eq_none (by rw[Yc0];omega)
theorem Yr9 {α:Type}(L:List α)(o:Nat)(cs:List α)(i:Nat)(h:o+cs.length≤L.length):(splice L o cs)[i]? =if i<o then L[i]? else if i<o+cs.length then cs[i-o]? else L[i]?:=by
 unfold splice;by_cases h1:i<o
 ·rw[if_pos h1,List.getElem?_append_left (by rw[List.length_take];omega),List.getElem?_take,if_pos h1]
 ·rw[if_neg h1,List.getElem?_append_right (by rw[List.length_take];omega),List.length_take,show min o L.length=o by omega];by_cases h2:i<o+cs.length
  ·rw[if_pos h2,List.getElem?_append_left (by omega)]
  ·rw[if_neg h2,List.getElem?_append_right (by omega),List.getElem?_drop]
   congr 1
   omega
theorem Y58 (r:List UInt8)(m k:Nat)(h:256*(k+1)≤m):splice (Ycd r m (k+1)) (256*k) (Ya2 r k)=Ycd r m k:=by
 apply List.ext_getElem?;intro i;rw[Yr9 _ _ _ _ (by rw[Yc0,Yaq];omega),Yaq];by_cases hm:i<m
 ·rw[Yg6 r m k i hm,Yg6 r m (k+1) i hm];by_cases h1:i<256*k
  ·rw[if_pos h1,if_pos h1,if_pos (by omega)]
  ·rw[if_neg h1,if_neg h1];by_cases h2:i<256*k+256
   ·rw[if_pos h2,Ydr r k (i-256*k) (by omega),show 256*k+(i-256*k)=i by omega]
   ·rw[if_neg h2,if_neg (by omega)]
 ·rw[Yf5 r m k i hm,Yf5 r m (k+1) i hm,if_neg (by omega),if_neg (by omega)]
theorem Qbl (r:List UInt8)(m q c:Nat)(hc:c=min 256 (m-256*q))(h:256*q≤m)(h2:m≤256*q+256):
  splice (List.replicate m (Value.int .u8 0)) (256*q) ((Ya2 r q).take c)=Ycd r m q:=by
 apply List.ext_getElem?;intro i;have hl:((Ya2 r q).take c).length=c:=by rw[List.length_take,Yaq];omega
 rw[Yr9 _ _ _ _ (by rw[List.length_replicate,hl];omega),hl];by_cases hm:i<m
 ·rw[Yg6 r m q i hm];by_cases h1:i<256*q
  ·rw[if_pos h1,if_pos h1,List.getElem?_replicate,if_pos hm];rfl
  ·rw[if_neg h1,if_neg h1,if_pos (by omega),List.getElem?_take,if_pos (by omega),Ydr r q _ (by omega),show 256*q+(i-256*q)=i by omega]
 ·rw[Yf5 r m q i hm,List.getElem?_replicate,if_neg hm,if_neg (by omega),if_neg (by omega)]
theorem Y59 (r:List UInt8)(hr:Yax r=true):Ycd r ((r.length+7) / 8) 0=Ybt (Ygg r):=by
 rw[Yw6];unfold Ycd Ybt;rw[List.map_map];apply List.map_congr_left;intro i _;have:=Yvj r i hr;simp[UInt8.toNat_ofNat'];omega
theorem Y4n (m:Nat):(madeCells (Value.int .u8 0).cells (m*1)).toList=List.replicate m (Value.int .u8 0):=by
 apply List.ext_getElem?;intro i;simp only[Array.getElem?_toList,List.getElem?_replicate,Nat.mul_one];by_cases h:i<m
 ·rw[if_pos h,Array.getElem?_eq_getElem (by rw[size_madeCells];exact h)];simp[madeCells,Value.cells,Nat.mod_one]
 ·rw[if_neg h,Array.getElem?_eq_none (by rw[size_madeCells];omega)]
theorem Y9t {w:World}{base e g n:Nat}{xs:List Value}(h:w.ownsRow base e 1 (.slice (some ⟨g,0,none⟩) n n) n xs):w.heap[g]? =some (.cells xs.toArray e (0,0)):=by
 rcases h.2 with ⟨h1,_⟩|⟨g',cap,cur,h1,_,h2,_,_,h3,h4⟩
 ·cases h1
 ·injection h1 with h1 _ h1';injection h1 with h1;injection h1 with h1;subst h1 h1';rw[h2,←h4,List.take_of_length_le (by rw[Array.length_toList];omega),Array.toArray_toList]
set_option maxHeartbeats 1000000 in
theorem Yxy (w:World)(B b:Nat)(r:List UInt8)(hw:Ycj w B b r)(hn:r.length≤1099511627776):
  Calls Tryz.prog 40 #[.pointer (some ⟨b,0,none⟩)] w fun e w'=>e=.returned (.string ⟨(Ygg r).toArray⟩)∧Below w.heap.size w w':=by
 obtain⟨i0,hi,hz0,hz1,hz2⟩:=info_parts Y8z;obtain⟨hr,hbB,v,hh,hc⟩:=hw;have hlt:b<w.heap.size:=(Array.getElem?_eq_some_iff.1 hh).1;have hbits:=Yab hh (Yct r v _);obtain⟨m,hm⟩:∃m,(r.length+7) / 8=m:=⟨_,rfl⟩;obtain⟨q,hq⟩:∃q,r.length / 2048=q:=⟨_,rfl⟩;have em:((r.length:Int)+7) / 8=((m:Nat):Int):=by omega
 have eq2:(r.length:Int) / 2048=((q:Nat):Int):=by omega
 have m1:m≤137438953473:=by omega
 go_enter Tryz.func40,Tryz.ntmps40
 have EM:=Lib.hid em;have HM:=Lib.hid hm;have HQ:=Lib.hid hq;clear em hm hq
 go_wp2_with (at_make;refine wpList_make_full _ rfl _ _ 95 rfl w.heap.size 5 i0 (.int .u8 0) 1 Tryz.underlying95 hi hz0 hz1 _ _ _ _ m rfl rfl EM.out EM.out ?b2 ?b3 ?b4 ?_;(case b2=>(rw[hz2];omega));(case b3=>(unfold maxLen;omega));(case b4=>exact Nat.le_refl _);intro w1 hown hgrow;have hh1:=(hgrow.block b hlt (by simp)).trans hh;have hbits1:=Yab hh1 (Yct r v _))
 obtain⟨o,ho⟩:∃o,256*q=o:=⟨_,rfl⟩;have eo:(q:Int)*256=((o:Nat):Int):=by omega
 have o1:o≤m:=by have:=HM.out;have:=HQ.out;omega
 have o2:m≤o+256:=by have:=HM.out;have:=HQ.out;omega
 have o3:(0:Int)≤(o:Int):=by omega
 have o4:(o:Int)≤(m:Int):=by omega
 rw[eo];have HO:=Lib.hid ho;have EQ:=Lib.hid eq2;clear eo ho eq2;obtain⟨Z0,hZ0⟩:∃Z0,List.replicate m (Value.int .u8 0)=Z0:=⟨_,rfl⟩;have hg0:=Y9t hown;rw[Y4n,hZ0] at hg0;obtain⟨CS,hCS⟩:∃CS,(Ya2 r q).take (min 256 (m-o))=CS:=⟨_,rfl⟩;have hcl:CS.length=min 256 (m-o):=by rw[←hCS,List.length_take,Yaq];omega
 have hc1:∀v∈CS,v.oneCell'=true:=by rw[←hCS];exact fun v hv=>Yer _ _ v (List.mem_of_mem_take hv)
 have hsrc:∀j v,CS[j]? =some v→w1.cell? ((⟨b,1,none⟩:Addr).add j)=some v:=by
  intro j x hx;have hj:j<CS.length:=(List.getElem?_eq_some_iff.1 hx).1;rw[Addr.add_mid];refine Yab hh1 ?_;rw[←hCS,List.getElem?_take,if_pos (by omega)] at hx;unfold Yef Ybe;rw[Nat.add_comm,List.getElem?_cons_succ,List.getElem?_append_left (by rw[Yaq];omega),HQ.out,hx]
 have hb1:Below w.heap.size w w1:=⟨hgrow.os,hgrow.tape,hgrow.output,hgrow.size,fun k hk=>hgrow.block k hk (by simp)⟩;have hzl:Z0.length=m:=by rw[←hZ0];simp
 have Z0H:=Lib.hid hZ0;have CSH:=Lib.hid hCS;have CL:=Lib.hid hcl;have ZL:=Lib.hid hzl;have u8:(Tryz.prog.info? 5).map (·.size)=some 1:=by kernel_rfl
 clear hZ0 hCS hcl hzl hown hgrow;refine wp_region_any (by kernel_rfl) ?_;change wpAny _ _ _ _ _ _ _ (World.drew _);refine Ybk 0 (some 21) (v:=?_) rfl rfl (by kernel_rfl) (by kernel_rfl) (by kernel_rfl) (fun _ _ _ h=>h) (Or.inl ⟨by rfl,?_⟩) ?_
 rotate_left
 ·(intro w;go_simp;try with_reducible rfl)
 rotate_right
 refine Ybk 1 (some 22) (v:=?_) rfl rfl (by kernel_rfl) (by kernel_rfl) (by kernel_rfl) (fun _ _ _ h=>h) (Or.inl ⟨by rfl,?_⟩) ?_
 rotate_left
 ·(intro w;go_simp;try with_reducible rfl)
 rotate_right
 refine Ybk 2 (some 23) (v:=?_) rfl rfl (by kernel_rfl) (by kernel_rfl) (by kernel_rfl) (fun _ _ _ h=>h) (Or.inl ⟨by rfl,?_⟩) ?_
 rotate_left
 ·(intro w;go_simp;try with_reducible rfl)
 rotate_right
 refine Ybk 3 (some 24) (v:=?_) rfl rfl (by kernel_rfl) (by kernel_rfl) (by kernel_rfl) (fun _ _ _ h=>h) (Or.inl ⟨by rfl,?_⟩) ?_
 rotate_left
 ·(intro w;go_simp;try with_reducible rfl)
 rotate_right
 refine Ybk 4 (some 25) (v:=?_) rfl rfl (by kernel_rfl) (by kernel_rfl) (by kernel_rfl) (fun _ _ _ h=>h) (Or.inl ⟨by rfl,?_⟩) ?_
 rotate_left
 ·(intro w;go_simp;try with_reducible rfl)
 rotate_right
 refine Ybk 5 (some 26) (v:=?_) rfl rfl (by kernel_rfl) (by kernel_rfl) (by kernel_rfl) (fun _ _ _ h=>h) (Or.inl ⟨by rfl,?_⟩) ?_
 rotate_left
 ·(intro w;go_simp;try with_reducible rfl)
 rotate_right
 refine Ybk 6 (some 27) (v:=?_) rfl rfl (by kernel_rfl) (by kernel_rfl) (by kernel_rfl) (fun _ _ _ h=>h) (Or.inl ⟨by rfl,?_⟩) ?_
 rotate_left
 ·(intro w;go_simp;try with_reducible rfl)
 rotate_right
 refine Yix 7 (by kernel_rfl) (by kernel_rfl) ?_;simp only[List.drop_succ_cons,List.drop_zero,Act.put,List.setIfInBounds_toArray,List.set_cons_zero,List.set_cons_succ];refine wpList_copy_splice rfl (.tmp 23) (.tmp 27) 95 95 rfl 5 Tryz.underlying95 u8 _ _ _ _ _ _ rfl rfl w.heap.size o Z0 5 (show w1.drew.heap[w.heap.size]? =_ from hg0) CS ?hn ?hpos ?hfit hc1 w.heap.size w hb1.drew (Nat.le_refl _) ?_
 case hn=>rw[CL.out]
 case hpos=>
  intro h0;rw[CL.out] at h0;rw[if_neg (by omega)];exact⟨rfl,_,rfl,hsrc⟩
 case hfit=>rw[CL.out,ZL.out];omega
 intro w2 HG2 hb2;obtain⟨p0,rfl⟩:=hc.pointer;have hh2:=(hb2.block b hlt).trans hh;have hfst:w2.cell? ⟨b,0,none⟩=some (.pointer p0):=Yab hh2 rfl;have HT:Hid (w2.heap[w.heap.size]? =some (.cells (Ycd r m q).toArray 5 (0,0))):=by
  have e:=HG2.out;have e2:=Qbl r m q (min 256 (m-o)) (by rw[HO.out]) (by rw[HO.out];exact o1) (by rw[HO.out];exact o2);rw[HO.out,Z0H.out,CSH.out] at e2;rw[e2] at e;exact Lib.hid e
 have HC:Hid (Yiy w B r q (.pointer p0)):=by have e:=hc;rw[HQ.out] at e;exact Lib.hid e
 clear hc hh1 hh2 hbits1 HG2 hg0 hsrc hb1 Z0H CSH CL ZL hc1 hh hbits EQ;generalize (if m=o then (some ({block:=w.heap.size,off:=0}:Addr)) else some {block:=w.heap.size,off:=o})=dx
 go_wp2
 go_loopw [4,5] (fun x p wr=>∃(k:Nat) (pv:Option Addr),x=.int .i64 ((256*k:Nat):Int)∧p=.pointer pv∧256*k≤m∧Hid (Yiy w B r k (.pointer pv))∧Hid (wr.heap[w.heap.size]? =some (.cells (Ycd r m k).toArray 5 (0,0)))∧Below w.heap.size w wr) (fun x _ _=>(intOf x).toNat)
 case atStart=>exact⟨q,p0,by rw[HO.out],rfl,by rw[HO.out];exact o1,HC,HT,hb2⟩
 case round=>
  clear HC HT hb2 hfst;obtain⟨k,pv,rfl,rfl,hk,HC,HT,hb⟩:=hrel;cases k with
  |zero=>
   have e:=HC.out;obtain rfl:pv=none:=by injection e
   have hown:Yb0 wr 0 5 (.slice (some ⟨w.heap.size,0,none⟩) m m) (Ygg r):=by
    refine⟨by rw[Yjk];omega,.inr ⟨w.heap.size,m,(Ycd r m 0).toArray,by rw[Yh5,HM.out],Nat.zero_le _,HT.out,by rw[Yh5,HM.out];exact Nat.le_refl _,by unfold maxLen;omega,by simp[Yc0],?_⟩⟩;have e:=Y59 r hr;rw[HM.out] at e;rw[←e,List.toList_toArray];exact List.take_of_length_le (by rw[Yc0,Yh5,HM.out];omega)
   have ht:=Yb0.text Tryz.underlying95 Tryz.underlying5 Tryz.underlying9 hown;clear e hown
   go_wp2
   go_ret
   exact⟨rfl,hb⟩
  |succ k=>
   obtain⟨g,v',e,hgB,hg,hc'⟩:=HC.out;obtain rfl:pv=some ⟨g,0,none⟩:=by injection e
   obtain⟨p1,rfl⟩:=hc'.pointer;have HC':=Lib.hid hc';clear e hc';have hglt:g<w.heap.size:=(Array.getElem?_eq_some_iff.1 hg).1;have hgr:=(hb.block g hglt).trans hg
   go_wp2
   obtain⟨y,hy⟩:∃y,256*k=y:=⟨_,rfl⟩;have ey:256*((k:Int)+1)-256=((y:Nat):Int):=by omega
   have y1:y+256≤m:=by omega
   have y2:(0:Int)≤(y:Int):=by omega
   have y3:(y:Int)≤(m:Int):=by omega
   rw[ey];have HY:=Lib.hid hy;clear ey hy;obtain⟨PC,hPC⟩:∃PC,Ya2 r k=PC:=⟨_,rfl⟩;have hpl:PC.length=256:=by rw[←hPC];exact Yaq _ _
   have hp1:∀v∈PC,v.oneCell'=true:=by rw[←hPC];exact Yer _ _
   rw[hPC] at hg hgr;have hsrc:∀j v,PC[j]? =some v→wr.cell? ((⟨g,1,none⟩:Addr).add j)=some v:=by
    intro j x hx;rw[Addr.add_mid];refine Yab hgr ?_;rw[Nat.add_comm,List.getElem?_cons_succ,hx]
   have PCH:=Lib.hid hPC;have PL:=Lib.hid hpl;clear hPC hpl;refine wp_region_any (by kernel_rfl) ?_;change wpAny _ _ _ _ _ _ _ (World.drew _);refine Ybk 0 (some 41) (v:=?_) rfl rfl (by kernel_rfl) (by kernel_rfl) (by kernel_rfl) (fun _ _ _ h=>h) (Or.inl ⟨by rfl,?_⟩) ?_
   rotate_left
   ·(intro w;go_simp;try with_reducible rfl)
   rotate_right
   refine Ybk 1 (some 42) (v:=?_) rfl rfl (by kernel_rfl) (by kernel_rfl) (by kernel_rfl) (fun _ _ _ h=>h) (Or.inl ⟨by rfl,?_⟩) ?_
   rotate_left
   ·(intro w;go_simp;try with_reducible rfl)
   rotate_right
   refine Ybk 2 (some 43) (v:=?_) rfl rfl (by kernel_rfl) (by kernel_rfl) (by kernel_rfl) (fun _ _ _ h=>h) (Or.inl ⟨by rfl,?_⟩) ?_
   rotate_left
   ·(intro w;go_simp;try with_reducible rfl)
   rotate_right
   refine Ybk 3 (some 44) (v:=?_) rfl rfl (by kernel_rfl) (by kernel_rfl) (by kernel_rfl) (fun _ _ _ h=>h) (Or.inl ⟨by rfl,?_⟩) ?_
   rotate_left
   ·(intro w;go_simp;try with_reducible rfl)
   rotate_right
   refine Ybk 4 (some 45) (v:=?_) rfl rfl (by kernel_rfl) (by kernel_rfl) (by kernel_rfl) (fun _ _ _ h=>h) (Or.inl ⟨by rfl,?_⟩) ?_
   rotate_left
   ·(intro w;go_simp;try with_reducible rfl)
   rotate_right
   refine Ybk 5 (some 46) (v:=?_) rfl rfl (by kernel_rfl) (by kernel_rfl) (by kernel_rfl) (fun _ _ _ h=>h) (Or.inl ⟨by rfl,?_⟩) ?_
   rotate_left
   ·(intro w;go_simp;try with_reducible rfl)
   rotate_right
   refine Ybk 6 (some 47) (v:=?_) rfl rfl (by kernel_rfl) (by kernel_rfl) (by kernel_rfl) (fun _ _ _ h=>h) (Or.inl ⟨by rfl,?_⟩) ?_
   rotate_left
   ·(intro w;go_simp;try with_reducible rfl)
   rotate_right
   refine Yix 7 (by kernel_rfl) (by kernel_rfl) ?_;simp only[List.drop_succ_cons,List.drop_zero,Act.put,List.setIfInBounds_toArray,List.set_cons_zero,List.set_cons_succ]
   refine wpList_copy_splice rfl (.tmp 43) (.tmp 47) 95 95 rfl 5 Tryz.underlying95 u8 _ _ _ _ _ _ rfl rfl w.heap.size y (Ycd r m (k+1)) 5 (show wr.drew.heap[w.heap.size]? =_ from HT.out) PC ?hn2 ?hpos2 ?hfit2 hp1 w.heap.size w hb.drew (Nat.le_refl _) ?_
   case hn2=>rw[PL.out];show 256=min 256 (m-y);omega
   case hpos2=>
    intro _;rw[if_neg (by omega)];exact⟨rfl,_,rfl,hsrc⟩
   case hfit2=>rw[PL.out,Yc0];exact y1
   intro w3 HG3 hb3;have HT3:Hid (w3.heap[w.heap.size]? =some (.cells (Ycd r m k).toArray 5 (0,0))):=by
    have e:=HG3.out;rw[←PCH.out,←HY.out,Y58 r m k (by omega)] at e;exact Lib.hid e
   have hnx:w3.cell? ⟨g,0,none⟩=some (.pointer p1):=Yab ((hb3.block g hglt).trans hg) rfl;generalize (if m=y then (some ({block:=w.heap.size,off:=0}:Addr)) else some {block:=w.heap.size,off:=y})=dy;clear HG3 hgr hg hsrc HT HC hb
   go_wp2
   go_roundw
   case rel=>exact⟨k,p1,by rw[HY.out],rfl,by omega,HC',HT3,hb3⟩
   case measure=>simp[intOf];have:=HY.out;omega
theorem Qgs (y:Nat):(y:Int) / 2^5=((y / 32:Nat):Int):=by simp
theorem low5 (y:Nat):bits .and .i64 (y:Int) 31=((y%32:Nat):Int):=by
 have:=Ygt (y:Int) 5 (by omega);rw[show (2:Int)^5-1=31 from rfl] at this;rw[this];simp
theorem Ykp {l:List UInt8}{bit:Int}{v c:Int}(h:Yaz l bit=(v,c)){k k':IntKind}:Ending.returned (.tuple #[.int k v,.int k' c])=.returned (.tuple #[.int k (Yaz l bit).1,.int k' (Yaz l bit).2]):=by rw[h]
set_option maxHeartbeats 1000000 in
theorem Ytu (w:World)(s:ByteArray)(bit:Int)(hs:s.size≤1099511627776):
  Calls Tryz.prog 59 #[.string s,.int .i64 bit] w fun e w'=>e=.returned (.tuple #[.int .i64 (Yaz s.data.toList bit).1,.int .i64 (Yaz s.data.toList bit).2])∧Below w.heap.size w w':=by
 have hsl:s.data.toList.length=s.size:=rfl;obtain⟨b,hb⟩:∃b,w.heap.size=b:=⟨_,rfl⟩;have hr0:Yba (w.alloc (Yqq s 0)) b s 0:=Yba.fresh hb (Nat.le_trans hs (by decide));have hb0:Below w.heap.size w (w.alloc (Yqq s 0)):=(Below.refl _ w).alloc (Nat.le_refl _) _;have hz0:(w.alloc (Yqq s 0)).heap.size=b+1:=by simp;exact hb
 rw[hb] at hb0;have HB:=Lib.hid hb;rw[hb];by_cases h1:bit<0∨8*(s.size:Int)<bit
 ·have A:=Lib.hid (Ytt (l:=s.data.toList) (bit:=bit) (by rw[hsl];exact h1))
  go_enter Tryz.func59,Tryz.ntmps59
  go_wp2_with fail
  refine(Ygh _ _).mono ?_;rintro e w1 ⟨rfl,rfl⟩;rw[HB.out]
  go_wp2_with fail
  refine(Y2f _ _ _ _ bit hr0 h1).mono ?_;rintro e w1 ⟨rfl,rfl⟩;clear h1
  go_wp2
  go_ret2
  exact⟨Ykp A.out,hb0⟩
 ·obtain⟨p,rfl⟩:=Int.eq_ofNat_of_zero_le (by omega:0≤bit);have hp:p≤8*s.size:=by omega
  clear h1;by_cases h2:8*s.size<p+22
  ·have A:=Lib.hid (Yen (l:=s.data.toList) (p:=p) (by rw[hsl];exact hp) (by rw[hsl];exact h2));have K:=Lib.hid (Ybo (l:=s.data.toList) (p:=p) (n:=22) (by omega) (by rw[hsl];omega))
   go_enter Tryz.func59,Tryz.ntmps59
   go_wp2_with fail
   refine(Ygh _ _).mono ?_;rintro e w1 ⟨rfl,rfl⟩;rw[HB.out]
   go_wp2_with fail
   refine(Yb2 _ _ _ _ (p:Int) hr0 (by omega) (by omega)).mono ?_;rintro e w1 ⟨rfl,hr1,hg1⟩;rw[Int.toNat_natCast] at hr1;have hb1:Below b w w1:=hb0.grown hg1 (by omega) (by intro k hk;injection hk with hk;omega);have hz1:=hg1.size
   go_wp2_with fail
   refine(Ycz _ _ _ _ _ hr1).mono ?_;rintro e w2 ⟨rfl,hr2,hg2⟩;rw[K.out];have hb2:Below b w w2:=hb1.grown hg2 (by omega) (by intro k hk;injection hk with hk;omega)
   go_wp2
   go_ret2
   exact⟨Ykp A.out,hb2⟩
  ·have A:=Lib.hid (Ye4 (l:=s.data.toList) (p:=p) (by rw[hsl];omega));have K:=Lib.hid (Yc8 (l:=s.data.toList) (p:=p) (n:=22) (by omega) (by rw[hsl];omega));have hlt:Ya3 s.data.toList p (22:Int).toNat<4194304:=Ycg s.data.toList p 22;have hne:Ya3 s.data.toList p (22:Int).toNat=Ya3 s.data.toList p 22:=rfl;rw[←hne] at A;generalize Ya3 s.data.toList p (22:Int).toNat=y at A K hlt;clear hne
   have S5:=Lib.hid (Qgs y);have L5:=Lib.hid (low5 y)
   go_enter Tryz.func59,Tryz.ntmps59
   go_wp2_with fail
   refine(Ygh _ _).mono ?_;rintro e w1 ⟨rfl,rfl⟩;rw[HB.out]
   go_wp2_with fail
   refine(Yb2 _ _ _ _ (p:Int) hr0 (by omega) (by omega)).mono ?_;rintro e w1 ⟨rfl,hr1,hg1⟩;rw[Int.toNat_natCast] at hr1;have hb1:Below b w w1:=hb0.grown hg1 (by omega) (by intro k hk;injection hk with hk;omega);have hz1:=hg1.size
   go_wp2_with fail
   refine(Ycz _ _ _ _ _ hr1).mono ?_;rintro e w2 ⟨rfl,hr2,hg2⟩;rw[K.out];have hb2:Below b w w2:=hb1.grown hg2 (by omega) (by intro k hk;injection hk with hk;omega);clear hr0 hb0 hz0 hr1 hg1 hr2 hg2 hb1 hz1 K;by_cases h3:y / 32=1
   ·have d3:((y:Int) / 32 != 1)=false:=by rw[bne_eq_false_iff_eq];omega
    have A2:=Lib.hid (A.out.trans (if_pos h3));clear A h3
    go_wp2
    go_ret2
    rw[L5.out];exact⟨Ykp A2.out,hb2⟩
   ·have d3:((y:Int) / 32 != 1)=true:=by rw[bne_iff_ne];omega
    have A2:=Lib.hid (A.out.trans (if_neg h3));clear A h3
    go_wp2
    go_ret2
    exact⟨Ykp A2.out,hb2⟩
theorem Yoy {l:List UInt8}{bit:Int}{v:Int}{c:Bool}(h:Ya6 l bit=(v,c)){k:IntKind}:Ending.returned (.tuple #[.int k v,.bool c])=.returned (.tuple #[.int k (Ya6 l bit).1,.bool (Ya6 l bit).2]):=by rw[h]
set_option maxHeartbeats 1000000 in
theorem Yrk (w:World)(s:ByteArray)(bit:Int)(hs:s.size≤1099511627776):
  Calls Tryz.prog 190 #[.string s,.int .i64 bit] w fun e w'=>e=.returned (.tuple #[.int .i64 (Ya6 s.data.toList bit).1,.bool (Ya6 s.data.toList bit).2])∧Below w.heap.size w w':=by
 have hsl:s.data.toList.length=s.size:=rfl;obtain⟨b,hb⟩:∃b,w.heap.size=b:=⟨_,rfl⟩;have hr0:Yba (w.alloc (Yqq s 0)) b s 0:=Yba.fresh hb (Nat.le_trans hs (by decide));have hb0:Below w.heap.size w (w.alloc (Yqq s 0)):=(Below.refl _ w).alloc (Nat.le_refl _) _;have hz0:(w.alloc (Yqq s 0)).heap.size=b+1:=by simp;exact hb
 rw[hb] at hb0;have HB:=Lib.hid hb;rw[hb];by_cases h1:bit<0∨8*(s.size:Int)<bit
 ·have A:=Lib.hid (Yty (l:=s.data.toList) (bit:=bit) (by rw[hsl];exact h1))
  go_enter Tryz.func190,Tryz.ntmps190
  go_wp2_with fail
  refine(Ygh _ _).mono ?_;rintro e w1 ⟨rfl,rfl⟩;rw[HB.out]
  go_wp2_with fail
  refine(Y2f _ _ _ _ bit hr0 h1).mono ?_;rintro e w1 ⟨rfl,rfl⟩;clear h1
  go_wp2
  go_ret2
  exact⟨Yoy A.out,hb0⟩
 ·obtain⟨p,rfl⟩:=Int.eq_ofNat_of_zero_le (by omega:0≤bit);have hp:p≤8*s.size:=by omega
  clear h1
  go_enter Tryz.func190,Tryz.ntmps190
  go_wp2_with fail
  refine(Ygh _ _).mono ?_;rintro e w1 ⟨rfl,rfl⟩;rw[HB.out]
  go_wp2_with fail
  refine(Yb2 _ _ _ _ (p:Int) hr0 (by omega) (by omega)).mono ?_;rintro e w1 ⟨rfl,hr1,hg1⟩;rw[Int.toNat_natCast] at hr1;have hb1:Below b w w1:=hb0.grown hg1 (by omega) (by intro k hk;injection hk with hk;omega);have hz1:=hg1.size
  go_wp2_with fail
  refine(Ylt _ _ _ _ hr1).mono ?_;rintro e w2 ⟨rfl,hr2,hg2⟩;have hb2:Below b w w2:=hb1.grown hg2 (by omega) (by intro k hk;injection hk with hk;omega);have hz2:=hg2.size;have hz:b≤w2.heap.size:=by omega
  clear hr0 hb0 hz0 hr1 hg1 hg2 hb1 hz1 hz2;by_cases h3:Ya3 s.data.toList p (gap p)=0
  ·have A:=Lib.hid (Yow (l:=s.data.toList) (p:=p) (by rw[hsl];exact hp) h3);have e1:Yhw s.data.toList p=(((gap p:Nat):Int),0):=if_pos h3;have e2:Yme s.data.toList p=p+gap p:=if_pos h3;rw[e2] at hr2;rw[e1];generalize p+gap p=q at A hr2;generalize gap p=g;clear h3 e1 e2
   go_wp2_with fail
   refine(Yb7 _ _ _ _ hr2).mono ?_;rintro e w3 ⟨rfl,rfl⟩
   go_wp2_with fail
   refine(Ytu _ _ _ hs).mono ?_;rintro e w4 ⟨rfl,hb4⟩
   go_wp2
   go_ret2
   exact⟨Yoy A.out,hb2.trans (hb4.mono hz)⟩
  ·have A:=Lib.hid (Yt0 (l:=s.data.toList) (p:=p) (by rw[hsl];exact hp) h3);have e1:Yhw s.data.toList p=(0,5):=if_neg h3;rw[e1];clear h3 e1 hr2
   go_wp2
   go_ret2
   exact⟨Yoy A.out,hb2⟩
theorem Qj7:∀n:Fin 32,bits .or .i64 32 ((n.val:Nat):Int)=((32+n.val:Nat):Int):=by decide +kernel
theorem Y9b (n:Nat)(h:n<32):Ydh ((32+n:Nat):Int) 22=true:=by
 unfold Ydh;rw[decide_eq_true_iff];refine⟨by omega,by omega,by omega,?_⟩;show ((32+n:Nat):Int)<2^22;omega
set_option maxHeartbeats 1000000 in
theorem Yov (w:World)(B b:Nat)(r:List UInt8)(n:Nat)(h:n<32)(hw:Ycj w B b r)(hn:r.length+40≤1099511627776)(hB:B≤w.heap.size):
  Calls Tryz.prog 75 #[.pointer (some ⟨b,0,none⟩),.int .i64 (n:Int)] w fun e w'=>e=.returned (.int .i64 0)∧Ycj w' B b (r++List.replicate (gap r.length) 48++Ybq n)∧w.grownBy w' (some b):=by
 have O:Hid (bits .or .i64 32 (n:Int)=((32+n:Nat):Int)):=Lib.hid (Qj7 ⟨n,h⟩);have hf:=Y9b n h;have F:=Lib.hid hf;have G:=Lib.hid (Y1o r.length);have d1:decide ((n:Int)<0)=false:=by simp
 have d2:decide (31<(n:Int))=false:=by simp;omega
 have V:Hid (((32+n:Nat):Int)≤9223372036854775807):=Lib.hid (by omega);clear hf h
 go_enter Tryz.func75,Tryz.ntmps75
 go_wp2_with fail
 refine(Yof _ B b r hw (by omega) hB).mono ?_;rintro e w1 ⟨rfl,hw1,hg1⟩;have hB1:B≤w1.heap.size:=Nat.le_trans hB hg1.size
 go_wp2_with fail
 rw[O.out];refine(Yc6 _ B b _ _ _ hw1 V.out F.out (by have:=G.out;rw[List.length_append,List.length_replicate];omega) hB1).mono ?_;rintro e w2 ⟨rfl,hw2,hg2⟩;rw[Y4r] at hw2
 go_wp2
 go_ret
 exact⟨rfl,hw2,Yac hg1 hg2⟩
def Ytm (n id q:Int):Bool:=decide (1≤n∧n≤17∧0≤id∧id≤3∧1≤q∧q≤31)
theorem Yol {n id q:Int}(h:1≤n∧n≤17∧0≤id∧id≤3∧1≤q∧q≤31):Ytm n id q=true:=decide_eq_true h
theorem Y4d {n id q:Int}(h:¬ (1≤n∧n≤17∧0≤id∧id≤3∧1≤q∧q≤31)):Ytm n id q=false:=decide_eq_false h
theorem Y9n:∀(i:Fin 4) (q:Fin 32),bits .or .i64 (((i.val:Nat):Int)*32) ((q.val:Nat):Int)=((32*i.val+q.val:Nat):Int):=by decide +kernel
theorem Y4a:∀(i:Fin 4) (q:Fin 32),Yav (32*i.val+q.val) 7=Yfo i.val q.val:=by decide +kernel
theorem Y39 (n:Nat)(h:n<128):Ydh (n:Int) 7=true:=by
 unfold Ydh;rw[decide_eq_true_iff];refine⟨by omega,by omega,by omega,?_⟩;show (n:Int)<2^7;omega
theorem Y0r (l:List UInt8)(p:Nat)(h:p+7≤8*l.length):Ya3 l p 7 / 32=Ya3 l p 2∧Ya3 l p 7%32=Ya3 l (p+2) 5:=by
 have e:=Yee l p 2 5 (by omega);have h5:=Ycg l (p+2) 5;have e2:Ya3 l p 7=Ya3 l p (2+5):=rfl;omega
theorem Y83 {q:Int}{b:Bool}(h1:q≤31→b=true)(h2:¬ q≤31→b=false):decide (q≤31)=b:=by
 by_cases h:q≤31
 ·rw[h1 h,decide_eq_true h]
 ·rw[h2 h,decide_eq_false h]
set_option maxHeartbeats 1000000 in
theorem Yzr (n id q:Int)(w:World):
  Calls Tryz.prog 141 #[.int .i64 n,.int .i64 id,.int .i64 q] w fun e w'=>e=.returned (.bool (Ytm n id q))∧w=w':=by
 obtain⟨b,hb⟩:∃b,Ytm n id q=b:=⟨_,rfl⟩;rw[hb];have HB:=Lib.hid hb;clear hb;have NO:Hid ((¬ (1≤n∧n≤17∧0≤id∧id≤3∧1≤q∧q≤31))→b=false):=Lib.hid fun h=>HB.out.symm.trans (Y4d h);have YES:Hid ((1≤n∧n≤17∧0≤id∧id≤3∧1≤q∧q≤31)→b=true):=Lib.hid fun h=>HB.out.symm.trans (Yol h)
 go_enter Tryz.func141,Tryz.ntmps141
 go_wp2
 all_goals
  go_ret
  refine⟨congrArg (fun x=>Ending.returned (Value.bool x)) ?_,rfl⟩
  first
   |exact(NO.out (by omega)).symm
   |exact Y83 (fun h=>YES.out (by omega)) (fun h=>NO.out (by omega))
set_option maxHeartbeats 1000000 in
theorem Qhv (w:World)(B b:Nat)(r:List UInt8)(n id q:Nat)(h:1≤n∧n≤17∧id≤3∧1≤q∧q≤31)(hw:Ycj w B b r)(hn:r.length+80≤1099511627776)(hB:B≤w.heap.size):
  Calls Tryz.prog 105 #[.pointer (some ⟨b,0,none⟩),.int .i64 (n:Int),.int .i64 (id:Int),.int .i64 (q:Int)] w fun e w'=>e=.returned (.int .i64 0)∧Ycj w' B b (Yc3 r n++Yfo id q)∧w.grownBy w' (some b):=by
 have c:=fun w=>Yzr n id q w;rw[Yol (by omega)] at c;have O:Hid (bits .or .i64 ((id:Int)*32) (q:Int)=((32*id+q:Nat):Int)):=Lib.hid (Y9n ⟨id,by omega⟩ ⟨q,by omega⟩);have FR:Hid (Yav (32*id+q) 7=Yfo id q):=Lib.hid (Y4a ⟨id,by omega⟩ ⟨q,by omega⟩);have F:=Lib.hid (Y39 (32*id+q) (by omega));have V:Hid (((32*id+q:Nat):Int)≤9223372036854775807):=Lib.hid (by omega)
 have W1:IntKind.i64.wrap ((id:Int)*32)=(id:Int)*32:=by rw[IntKind.wrap_i64];omega
 have BL:=Lib.hid (Ygu r n);have G:=Lib.hid (Y1o r.length);have c2:=Yov w B b r n (by omega) hw (by omega) hB;clear h
 go_enter Tryz.func105,Tryz.ntmps105
 go_wp2_with fail
 refine(c _).mono ?_;rintro e w1 ⟨rfl,rfl⟩
 go_wp2_with fail
 refine c2.mono ?_;rintro e w1 ⟨rfl,hw1,hg1⟩;have hB1:B≤w1.heap.size:=Nat.le_trans hB hg1.size;have hw1:Ycj w1 B b (Yc3 r n):=hw1
 go_wp2_with fail
 rw[O.out];refine(Yc6 _ B b _ _ _ hw1 V.out F.out (by have:=BL.out;have:=G.out;omega) hB1).mono ?_;rintro e w2 ⟨rfl,hw2,hg2⟩;rw[show (((32*id+q:Nat):Int)).toNat=32*id+q from rfl,show (7:Int).toNat=7 from rfl,FR.out] at hw2
 go_wp2
 go_ret
 exact⟨rfl,hw2,Yac hg1 hg2⟩
def Ye7 (l:List UInt8)(p:Nat)(n:Int):Int×Nat:=
 if (Ya6 l p).2=false then (4,p) else if (Ya6 l p).1≠n then (10,p) else (0,p+gap p+22)
theorem Yw9 {l:List UInt8}{p:Nat}{n:Int}(h:(Ya6 l p).2=false):Ye7 l p n=(4,p):=if_pos h
theorem Yrt {l:List UInt8}{p:Nat}{n:Int}(h:(Ya6 l p).2=true)(h1:(Ya6 l p).1≠n):Ye7 l p n=(10,p):=by
 unfold Ye7;rw[if_neg (by rw[h];decide),if_pos h1]
theorem Y9z {l:List UInt8}{p:Nat}{n:Int}(h:(Ya6 l p).2=true)(h1:(Ya6 l p).1=n):Ye7 l p n=(0,p+gap p+22):=by
 unfold Ye7;rw[if_neg (by rw[h];decide),if_neg (fun k=>k h1)]
set_option maxHeartbeats 1000000 in
theorem Y9y (w:World)(b:Nat)(s:ByteArray)(p:Nat)(n:Int)(hr:Yba w b s p)(hs:s.size≤1099511627776):
  Calls Tryz.prog 191 #[.pointer (some ⟨b,0,none⟩),.int .i64 n] w fun e w'=>e=.returned (.int .i64 (Ye7 s.data.toList p n).1)∧Yba w' b s (Ye7 s.data.toList p n).2∧w.grownBy w' (some b):=by
 have c1:=fun w=>Yrk w s (p:Int) hs;have hsl:s.data.toList.length=s.size:=rfl;have pM:=fun h=>Yw9 (l:=s.data.toList) (p:=p) (n:=n) h;have pO:=fun h h1=>Yrt (l:=s.data.toList) (p:=p) (n:=n) h h1;have pK:=fun h h1=>Y9z (l:=s.data.toList) (p:=p) (n:=n) h h1;have hin:=fun h=>Yox (l:=s.data.toList) (p:=p) h;have hgp:=fun h=>Ytz (l:=s.data.toList) (p:=p) h
 obtain⟨m,hm⟩:∃m,(Ya6 s.data.toList p).1=m:=⟨_,rfl⟩;obtain⟨ok,hok⟩:∃ok,(Ya6 s.data.toList p).2=ok:=⟨_,rfl⟩;rw[hm,hok] at c1;rw[hok] at hin hgp pM pO pK;rw[hm] at pO pK;clear hm hok;obtain⟨P,hP⟩:∃P,Ye7 s.data.toList p n=P:=⟨_,rfl⟩;rw[hP] at pM pO pK ⊢;clear hP;cases ok with
 |false=>
  obtain rfl:=pM rfl;clear pM pO pK hin hgp
  go_enter Tryz.func191,Tryz.ntmps191
  go_wp2_with fail
  refine(Ydg _ _ _ _ hr).mono ?_;rintro e w1 ⟨rfl,rfl⟩
  go_wp2_with fail
  refine(Yb7 _ _ _ _ hr).mono ?_;rintro e w1 ⟨rfl,rfl⟩
  go_wp2_with fail
  refine(c1 _).mono ?_;rintro e w1 ⟨rfl,hb1⟩
  go_wp2
  go_ret
  exact⟨rfl,hr.below hb1,Yak hb1 _⟩
 |true=>
  by_cases hmn:m=n
  ·obtain rfl:=pK rfl hmn;have d1:(m != n)=false:=by rw[hmn];simp
   have hz:=hgp rfl;have hi:=hin rfl;have e1:Yme s.data.toList p=p+gap p:=if_pos hz;have K:=Lib.hid (Yc8 (l:=s.data.toList) (p:=p+gap p) (n:=22) (by omega) (by omega));have T:Hid (Yc1 s.data.toList (p+gap p) 22=p+gap p+22):=Lib.hid (by unfold Yc1;rw[K.out];rfl);clear pM pO pK hin hgp hmn hz hi
   go_enter Tryz.func191,Tryz.ntmps191
   go_wp2_with fail
   refine(Ydg _ _ _ _ hr).mono ?_;rintro e w1 ⟨rfl,rfl⟩
   go_wp2_with fail
   refine(Yb7 _ _ _ _ hr).mono ?_;rintro e w1 ⟨rfl,rfl⟩
   go_wp2_with fail
   refine(c1 _).mono ?_;rintro e w1 ⟨rfl,hb1⟩;have hr1:=hr.below hb1;have hg1:=Yak hb1 (some b)
   go_wp2_with fail
   refine(Ylt _ _ _ _ hr1).mono ?_;rintro e w2 ⟨rfl,hr2,hg2⟩;rw[e1] at hr2;have hg3:=Yac hg1 hg2;clear hr hr1 hg1 hg2 hb1 e1
   go_wp2_with fail
   refine(Ycz _ _ _ _ 22 hr2).mono ?_;rintro e w3 ⟨rfl,hr3,hg4⟩;rw[T.out] at hr3;rw[K.out]
   go_wp2
   go_ret
   exact⟨rfl,hr3,Yac hg3 hg4⟩
  ·obtain rfl:=pO rfl hmn;have d1:(m != n)=true:=by rw[bne_iff_ne];exact hmn
   clear pM pO pK hin hgp hmn
   go_enter Tryz.func191,Tryz.ntmps191
   go_wp2_with fail
   refine(Ydg _ _ _ _ hr).mono ?_;rintro e w1 ⟨rfl,rfl⟩
   go_wp2_with fail
   refine(Yb7 _ _ _ _ hr).mono ?_;rintro e w1 ⟨rfl,rfl⟩
   go_wp2_with fail
   refine(c1 _).mono ?_;rintro e w1 ⟨rfl,hb1⟩
   go_wp2
   go_ret
   exact⟨rfl,hr.below hb1,Yak hb1 _⟩
def Yb3 (l:List UInt8)(p:Nat):(Int×Int×Int)×Nat:=
 if 8*l.length<p+7 then ((0,0,2),p) else if Ya3 l (p+2) 5=0 then ((0,0,9),p+7)
 else ((((Ya3 l p 2:Nat):Int),((Ya3 l (p+2) 5:Nat):Int),0),p+7)
theorem Ymd {l:List UInt8}{p:Nat}(h:8*l.length<p+7):Yb3 l p=((0,0,2),p):=if_pos h
theorem Ymc {l:List UInt8}{p:Nat}(h:p+7≤8*l.length)(h1:Ya3 l (p+2) 5=0):Yb3 l p=((0,0,9),p+7):=by
 unfold Yb3;rw[if_neg (by omega),if_pos h1]
theorem Yv8 {l:List UInt8}{p:Nat}(h:p+7≤8*l.length)(h1:Ya3 l (p+2) 5≠0):Yb3 l p=((((Ya3 l p 2:Nat):Int),((Ya3 l (p+2) 5:Nat):Int),0),p+7):=by
 unfold Yb3;rw[if_neg (by omega),if_neg h1]
set_option maxHeartbeats 1000000 in
theorem Yzj (w:World)(b:Nat)(s:ByteArray)(p:Nat)(hr:Yba w b s p):
  Calls Tryz.prog 192 #[.pointer (some ⟨b,0,none⟩)] w fun e w'=>e=.returned (.tuple #[.int .i64 (Yb3 s.data.toList p).1.1,.int .i64 (Yb3 s.data.toList p).1.2.1,.int .i64 (Yb3 s.data.toList p).1.2.2])∧Yba w' b s (Yb3 s.data.toList p).2∧w.grownBy w' (some b):=by
 have hsl:s.data.toList.length=s.size:=rfl;have hp:=hr.2.1;by_cases h:8*s.size<p+7
 ·have K:=Lib.hid (Ybo (l:=s.data.toList) (p:=p) (n:=7) (by omega) (by omega));have T:Hid (Yc1 s.data.toList p 7=p):=Lib.hid (by unfold Yc1;rw[K.out];rfl);rw[Ymd (by omega)];clear h hp hsl
  go_enter Tryz.func192,Tryz.ntmps192
  go_wp2_with fail
  refine(Ycz _ _ _ _ 7 hr).mono ?_;rintro e w3 ⟨rfl,hr3,hg4⟩;rw[T.out] at hr3;rw[K.out]
  go_wp2
  go_ret3
  exact⟨rfl,hr3,hg4⟩
 ·have K:=Lib.hid (Yc8 (l:=s.data.toList) (p:=p) (n:=7) (by omega) (by omega));have T:Hid (Yc1 s.data.toList p 7=p+7):=Lib.hid (by unfold Yc1;rw[K.out];rfl);obtain⟨k1,k2⟩:=Y0r s.data.toList p (by omega);have hlt:=Ycg s.data.toList p 7;have fQ:=fun h1=>Ymc (l:=s.data.toList) (p:=p) (by omega) h1;have fK:=fun h1=>Yv8 (l:=s.data.toList) (p:=p) (by omega) h1;rw[show (7:Int).toNat=7 from rfl] at K
  obtain⟨y,hy⟩:∃y,Ya3 s.data.toList p 7=y:=⟨_,rfl⟩;rw[hy] at K k1 k2 hlt;rw[←k1,←k2] at fK;rw[←k2] at fQ;clear h hp hsl hy k1 k2;have S5:=Lib.hid (Qgs y);have L5:=Lib.hid (low5 y);by_cases h1:y%32=0
  ·have d1:decide (bits .and .i64 (y:Int) 31<1)=true:=by rw[L5.out];simp;omega
   rw[fQ h1];clear fQ fK
   go_enter Tryz.func192,Tryz.ntmps192
   go_wp2_with fail
   refine(Ycz _ _ _ _ 7 hr).mono ?_;rintro e w3 ⟨rfl,hr3,hg4⟩;rw[T.out] at hr3;rw[K.out]
   go_wp2
   go_ret3
   exact⟨rfl,hr3,hg4⟩
  ·have d1:decide (bits .and .i64 (y:Int) 31<1)=false:=by rw[L5.out];simp;omega
   rw[fK h1];have e1:(y:Int) / 32=((y / 32:Nat):Int):=S5.out;have E1:=Lib.hid e1;clear fQ fK e1 S5
   go_enter Tryz.func192,Tryz.ntmps192
   go_wp2_with fail
   refine(Ycz _ _ _ _ 7 hr).mono ?_;rintro e w3 ⟨rfl,hr3,hg4⟩;rw[T.out] at hr3;rw[K.out]
   go_wp2
   go_ret3
   rw[←L5.out,←E1.out];exact⟨rfl,hr3,hg4⟩
theorem Y8x (l:List UInt8)(p:Nat)(n:Int):
  hdk l p n=if (Ye7 l p n).1=0 then (if (Yb3 l (Ye7 l p n).2).1.2.2=0 then ((Yb3 l (Ye7 l p n).2).1.1,(Yb3 l (Ye7 l p n).2).1.2.1,(Yb3 l (Ye7 l p n).2).2,0) else (0,0,p,(Yb3 l (Ye7 l p n).2).1.2.2)) else (0,0,p,(Ye7 l p n).1):=by
 by_cases h:(Ya6 l p).2=false
 ·rw[Yw9 h,Y1p h];rfl
 ·have h':(Ya6 l p).2=true:=by simpa using h
  by_cases h1:(Ya6 l p).1=n
  ·rw[Y9z h' h1];show _=if (Yb3 l (p+gap p+22)).1.2.2=0 then _ else _
   by_cases h2:8*l.length<p+gap p+22+7
   ·rw[Ywj h' h1 h2,Ymd h2];rfl
   ·by_cases h3:Ya3 l (p+gap p+22+2) 5=0
    ·rw[Ywi h' h1 (by omega) h3,Ymc (by omega) h3];rfl
    ·rw[Y8w h' h1 (by omega) h3,Yv8 (by omega) h3];rfl
  ·rw[Yrt h' h1,Ywh h' h1];rfl
theorem Yth {l:List UInt8}{p:Nat}(h:(Yb3 l p).1.2.2≠0):(Yb3 l p).1.1=0∧(Yb3 l p).1.2.1=0:=by
 revert h;unfold Yb3
 split
 ·exact fun _=>⟨rfl,rfl⟩
 ·split
  ·exact fun _=>⟨rfl,rfl⟩
  ·exact fun h=>absurd rfl h
def Qgv (s:ByteArray)(p:Nat)(n:Int)(b:Nat)(w:World)(e:Ending)(w':World):Prop:=
 e=.returned (.tuple #[.int .i64 (hdk s.data.toList p n).1,.int .i64 (hdk s.data.toList p n).2.1,.int .i64 (hdk s.data.toList p n).2.2.2])∧Yba w' b s (hdk s.data.toList p n).2.2.1∧w.grownBy w' (some b)
set_option maxHeartbeats 1000000 in
theorem Y4e (w:World)(b:Nat)(s:ByteArray)(p:Nat)(n:Int)(hr:Yba w b s p)(hs:s.size≤1099511627776):
  Calls Tryz.prog 177 #[.pointer (some ⟨b,0,none⟩),.int .i64 n] w (Qgv s p n b w):=by
 have c1:=Y9y w b s p n hr hs;have c2:=fun w q hr=>Yzj w b s q hr;have hd:=Y8x s.data.toList p n;have hp:=hr.2.1;unfold Qgv;obtain⟨P,hP⟩:∃P,hdk s.data.toList p n=P:=⟨_,rfl⟩;rw[hP] at hd ⊢;clear hP;generalize Ye7 s.data.toList p n=Q at c1 hd;obtain⟨x,q⟩:=Q;dsimp only at c1 hd;by_cases hx:x=0
 ·subst hx;rw[if_pos rfl] at hd;have c3:=fun w hr=>c2 w q hr;have hn:=fun h=>Yth (l:=s.data.toList) (p:=q) h;generalize Yb3 s.data.toList q=F at c3 hd hn;obtain⟨⟨i,k,f⟩,z⟩:=F;dsimp only at c3 hd hn;clear c2;by_cases hf:f=0
  ·subst hf;rw[if_pos rfl] at hd;subst hd;clear hn
   go_enter Tryz.func177,Tryz.ntmps177
   go_wp2_with fail
   refine(Yb7 _ _ _ _ hr).mono ?_;rintro e w1 ⟨rfl,rfl⟩
   go_wp2_with fail
   refine c1.mono ?_;rintro e w1 ⟨rfl,hr1,hg1⟩
   go_wp2_with fail
   refine(c3 _ hr1).mono ?_;rintro e w2 ⟨rfl,hr2,hg2⟩
   go_wp2
   go_ret3
   exact⟨rfl,hr2,Yac hg1 hg2⟩
  ·obtain⟨rfl,rfl⟩:=hn hf;rw[if_neg hf] at hd;subst hd;have d1:(f != 0)=true:=by rw[bne_iff_ne];exact hf
   clear hn hf
   go_enter Tryz.func177,Tryz.ntmps177
   go_wp2_with fail
   refine(Yb7 _ _ _ _ hr).mono ?_;rintro e w1 ⟨rfl,rfl⟩
   go_wp2_with fail
   refine c1.mono ?_;rintro e w1 ⟨rfl,hr1,hg1⟩
   go_wp2_with fail
   refine(c3 _ hr1).mono ?_;rintro e w2 ⟨rfl,hr2,hg2⟩;have hg3:=Yac hg1 hg2
   go_wp2_with fail
   refine(Yb2 _ _ _ _ (p:Int) hr2 (by omega) (by omega)).mono ?_;rintro e w3 ⟨rfl,hr3,hg4⟩;rw[Int.toNat_natCast] at hr3
   go_wp2
   go_ret3
   exact⟨rfl,hr3,Yac hg3 hg4⟩
 ·rw[if_neg hx] at hd;subst hd;have d1:(x != 0)=true:=by rw[bne_iff_ne];exact hx
  have d2:(x==0)=false:=by rw[beq_eq_false_iff_ne];exact hx
  clear hx c2
  go_enter Tryz.func177,Tryz.ntmps177
  go_wp2_with fail
  refine(Yb7 _ _ _ _ hr).mono ?_;rintro e w1 ⟨rfl,rfl⟩
  go_wp2_with fail
  refine c1.mono ?_;rintro e w1 ⟨rfl,hr1,hg1⟩
  go_wp2_with fail
  refine(Yb2 _ _ _ _ (p:Int) hr1 (by omega) (by omega)).mono ?_;rintro e w3 ⟨rfl,hr3,hg4⟩;rw[Int.toNat_natCast] at hr3
  go_wp2
  go_ret3
  exact⟨rfl,hr3,Yac hg1 hg4⟩
end Go.Proofs.YtjjmalchelniiaaGreatDoor