/- Texts that SheetoutBack's proof stands on, part 52 of 52. No condition of its own. -/
import Derived.Test.YtgikochfffdpfaaGreatDoorSheetoutBackMf
import Derived.Test.YtgikochfffdpfaaGreatDoorSheetoutBackMi
import Derived.Test.YtgikochfffdpfaaGreatDoorSheetoutBackMk
import Derived.Test.YtgikochfffdpfaaGreatDoorSheetoutBackMn
import Derived.Test.YtgikochfffdpfaaGreatDoorSheetoutBackMq
import Derived.Test.YtgikochfffdpfaaGreatDoorSheetoutBackMy
import Derived.Test.YtgikochfffdpfaaGreatDoorSheetoutBackMz
import Derived.Test.YtgikochfffdpfaaGreatDoorSheetoutBackMbe
import Derived.Test.YtgikochfffdpfaaGreatDoorSheetoutBackMbg
import Derived.Test.YtgikochfffdpfaaGreatDoorSheetoutBackMbh
import Derived.Test.YtgikochfffdpfaaGreatDoorSheetoutBackMbi
import Derived.Test.YtgikochfffdpfaaGreatDoorSheetoutBackMbk
import Derived.Test.YtgikochfffdpfaaGreatDoorSheetoutBackMbu
import Derived.Test.YtgikochfffdpfaaGreatDoorSheetoutBackMbv
import Derived.Test.YtgikochfffdpfaaGreatDoorSheetoutBackMbw
import Derived.Test.YtgikochfffdpfaaGreatDoorSheetoutBackMbx
import Derived.Test.YtgikochfffdpfaaGreatDoorSheetoutBackMby
namespace Go.Proofs.YtgikochfffdpfaaGreatDoor
open Go.RowKit Go.Lib
theorem Y2m (n m:Nat) (w:World) (hn:n≤1099511627776):Calls Tryz.prog 110 #[.int .i64 (n:Int),.int .i64 (m:Int)] w fun e w'=> e = .returned (.int .i64 (Qen n m:Int))∧w=w':=by
 by_cases h1:n=m
 ·have d1:((n:Int)==(m:Int))=true:=by simp [h1]
  have e1:Qen n m=n / 8:=if_pos h1
  have HE:=Lib.hid e1
  have q8:(n:Int).tdiv 8=((n / 8:Nat):Int):=by rw [Int.tdiv_eq_ediv_of_nonneg (by omega)];omega
  have wq:IntKind.i64.wrap ((n / 8:Nat):Int)=((n / 8:Nat):Int):=Yhg (by omega)
  generalize n / 8=u at *
  clear h1 e1
  go_enter Tryz.func110,Tryz.ntmps110
  go_wp2
  go_ret
  exact ⟨Ydo (by rw [HE.out]),rfl⟩
 ·have d1:((n:Int)==(m:Int))=false:=by simp;omega
  by_cases h2:n%8=0∧16≤n
  ·have e1:Qen n m=(n-16) / 8:=by unfold Qen;rw [if_neg h1,if_pos h2]
   have HE:=Lib.hid e1
   have r8:(n:Int).tmod 8=0:=by rw [Int.tmod_eq_emod_of_nonneg (by omega)];omega
   have d2:decide ((n:Int)≥16)=true:=by simp;omega
   have wm:IntKind.i64.wrap ((n:Int)-16)=((n-16:Nat):Int):=by rw [Yhg (by omega)];omega
   have q8:((n-16:Nat):Int).tdiv 8=(((n-16) / 8:Nat):Int):=by rw [Int.tdiv_eq_ediv_of_nonneg (by omega)];omega
   have wq:IntKind.i64.wrap (((n-16) / 8:Nat):Int)=(((n-16) / 8:Nat):Int):=Yhg (by omega)
   generalize (n-16) / 8=u at *
   generalize n-16=v at *
   clear h1 h2 e1
   go_enter Tryz.func110,Tryz.ntmps110
   go_wp2
   go_ret
   exact ⟨Ydo (by rw [HE.out]),rfl⟩
  ·have e1:Qen n m=0:=by unfold Qen;rw [if_neg h1,if_neg h2]
   have HE:=Lib.hid e1
   by_cases h3:n%8=0
   ·have r8:(n:Int).tmod 8=0:=by rw [Int.tmod_eq_emod_of_nonneg (by omega)];omega
    have d2:decide ((n:Int)≥16)=false:=by simp;omega
    clear h1 h2 h3 e1
    go_enter Tryz.func110,Tryz.ntmps110
    go_wp2
    go_ret
    exact ⟨Ydo (by rw [HE.out];rfl),rfl⟩
   ·obtain ⟨r,hr⟩:∃r,(n:Int).tmod 8=r:=⟨_,rfl⟩
    have hr0:r≠0:=by rw [←hr,Int.tmod_eq_emod_of_nonneg (by omega)];omega
    have d2:(r==0)=false:=by simpa using hr0
    clear h1 h2 h3 e1 hr0
    go_enter Tryz.func110,Tryz.ntmps110
    go_wp2
    go_ret
    exact ⟨Ydo (by rw [HE.out];rfl),rfl⟩
theorem Yyo (c:Cel) (sl:Nat→Value) (w:World):Calls Tryz.prog 137 #[.agg (Yba c sl).toArray] w fun e w'=> e = .returned (.bool (!Yao c.kind))∧Below w.heap.size w w':=by
 obtain ⟨A,hA⟩:∃A,w.heap.size=A:=⟨_,rfl⟩
 obtain ⟨wA,hwA⟩:∃wA,w.alloc (.cells (Yba c sl).toArray 56 (0,0))=wA:=⟨_,rfl⟩
 have hbA:Below w.heap.size w wA:=by rw [←hwA];exact (Below.refl _ w).alloc (Nat.le_refl _) _
 have hk:wA.cell? ⟨A,2,none⟩=some (.int .i64 c.kind):=by rw [←hwA,←hA];exact Yaa (heap_alloc_new w _) rfl
 have HWA:=Lib.hid hwA
 have HA:=Lib.hid hA
 obtain ⟨Z,hZ⟩:∃Z,(Yba c sl).toArray=Z:=⟨_,rfl⟩
 rw [hZ] at HWA ⊢
 generalize c.kind=k at *
 clear hwA hA hZ
 by_cases h3:k=3
 ·have e1:Yao k=true:=by rw [h3];rfl
  have HE:=Lib.hid e1
  have d1:(k != 3)=false:=by simp [h3]
  clear h3 e1
  go_enter Tryz.func137,Tryz.ntmps137
  go_wp2_with (rw [HWA.out,HA.out])
  go_ret
  exact ⟨by rw [HE.out];rfl,hbA⟩
 ·have d1:(k != 3)=true:=by simp [h3]
  have e1:(!Yao k)=(k != 4):=by unfold Yao;rw [beq_eq_false_iff_ne.2 h3];rfl
  have HE:=Lib.hid e1
  clear h3 e1
  go_enter Tryz.func137,Tryz.ntmps137
  go_wp2_with (rw [HWA.out,HA.out])
  go_ret
  exact ⟨by rw [HE.out];rfl,hbA⟩
section
variable {w:World} {G rb p:Nat} {s:ByteArray} {k:Int} {inter:Bool} {vv:Value} {vs:List (Int×Int)} {first:Int}
set_option maxHeartbeats 1000000 in
theorem Yxr (h:Ych w G rb s p k inter vv vs first) (hs:s.size≤1073741824):Calls Tryz.prog 134 #[.pointer (some ⟨G,0,none⟩)] w fun e w'=> e = .returned (.bool ((Ya9 s.data.toList p).2&&((Ya9 s.data.toList p).1 != 0&&(Ya9 s.data.toList p).1 != 31)))∧Below w.heap.size w w':=by
 have KK:=fun (x y:World) (hx:Below w.heap.size w x) (hy:Below x.heap.size x y)=> (hx.trans (hy.mono hx.size):Below w.heap.size w y)
 have K0:=Lib.hid (fun (x:World) (hx:Below w.heap.size w x)=> (h.below hx).cell (o:=0) rfl)
 have CT:=Lib.hid (fun (x:World) (hx:Below w.heap.size w x)=> (Ydr x rb s p (h.below hx).rd).mono fun e y (q:e = .returned (.string s)∧x=y)=> (⟨q.1,q.2▸hx⟩:e = .returned (.string s)∧Below w.heap.size w y))
 have CA:=Lib.hid (fun (x:World) (hx:Below w.heap.size w x)=> (Yb7 x rb s p (h.below hx).rd).mono fun e y (q:e = .returned (.int .i64 (p:Int))∧x=y)=> (⟨q.1,q.2▸hx⟩:e = .returned (.int .i64 (p:Int))∧Below w.heap.size w y))
 have cn:=fun (x:World)=> Yqy x s (p:Int) (by omega)
 obtain ⟨⟨m,g⟩,hm⟩:∃r,Ya9 s.data.toList (p:Int)=r:=⟨_,rfl⟩
 rw [hm] at cn ⊢
 have CN:=Lib.hid (fun (x:World) (hx:Below w.heap.size w x)=> (cn x).mono fun e y q=> (⟨q.1,KK x y hx q.2⟩:e = .returned (.tuple #[.int .i64 m,.bool g])∧Below w.heap.size w y))
 clear KK cn hm h hs
 dsimp only
 have hb0:=Below.refl w.heap.size w
 go_enter Tryz.func134,Tryz.ntmps134
 go_wp2
 refine Yaz (S:=fun x=> Below w.heap.size w x) 16 (by kernel_rfl) (by kernel_rfl) hb0.drew ?_
 simp only [List.take_succ_cons,List.take_zero,List.drop_succ_cons,List.drop_zero]
 iterate 3 (refine Yae (by kernel_rfl) (fun x _=> by go_simp;try with_reducible rfl) ?_;simp only [Act.put,List.setIfInBounds_toArray,List.set_cons_zero,List.set_cons_succ])
 refine Ya2 43 _ ⟨G,0,none⟩ (.pointer (some ⟨rb,0,none⟩)) (by kernel_rfl) rfl rfl (fun x hx=> by have c0:=K0.out x hx;go_simp) ?_;simp only [Act.put,List.setIfInBounds_toArray,List.set_cons_zero,List.set_cons_succ]
 refine Ya8 (by kernel_rfl) CT.out (fun _=> by kernel_rfl) ?_;simp only [Act.put,List.setIfInBounds_toArray,List.set_cons_zero,List.set_cons_succ]
 iterate 3 (refine Yae (by kernel_rfl) (fun x _=> by go_simp;try with_reducible rfl) ?_;simp only [Act.put,List.setIfInBounds_toArray,List.set_cons_zero,List.set_cons_succ])
 refine Ya2 43 _ ⟨G,0,none⟩ (.pointer (some ⟨rb,0,none⟩)) (by kernel_rfl) rfl rfl (fun x hx=> by have c0:=K0.out x hx;go_simp) ?_;simp only [Act.put,List.setIfInBounds_toArray,List.set_cons_zero,List.set_cons_succ]
 refine Ya8 (by kernel_rfl) CA.out (fun _=> by kernel_rfl) ?_;simp only [Act.put,List.setIfInBounds_toArray,List.set_cons_zero,List.set_cons_succ]
 refine Ya8 (by kernel_rfl) CN.out (fun _=> by kernel_rfl) ?_;simp only [Act.put,List.setIfInBounds_toArray,List.set_cons_zero,List.set_cons_succ]
 iterate 5 (refine Yae (by kernel_rfl) (fun x _=> by go_simp;try with_reducible rfl) ?_;simp only [Act.put,List.setIfInBounds_toArray,List.set_cons_zero,List.set_cons_succ])
 refine Ycf fun x hx=> ?_
 clear K0 CT CA CN hb0
 cases g with
 | false=>
  go_wp2
  go_ret
  exact ⟨rfl,hx⟩
 | true=>
  by_cases h0:m=0
  ·have d1:(m != 0)=false:=by simp [h0]
   clear h0
   go_wp2
   go_ret
   exact ⟨by rw [d1];rfl,hx⟩
  ·have d1:(m != 0)=true:=by simp [h0]
   clear h0
   go_wp2
   go_ret
   exact ⟨by rw [d1];rfl,hx⟩
theorem Ych.ptr (h:Ych w G rb s p k inter vv vs first):w.cell? ⟨G,0,none⟩=some (.pointer (some ⟨rb,0,none⟩)):=h.cell rfl
def Qht (l:List UInt8) (p:Nat):Int:=if Ya5 l p (gap p)=0 then 0 else 5
set_option maxHeartbeats 2000000 in
theorem Yxh (h:Ych w G rb s p k inter vv vs first) (hs:s.size≤1073741824):Calls Tryz.prog 81 #[.pointer (some ⟨G,0,none⟩)] w fun e w'=>
  ∃n:Nat,e = .returned (.tuple #[.int .i64 (n:Int),.int .i64 (Qht s.data.toList p)])∧w.grownBy w' (some rb)∧(∃q,Ybb w' rb s q)∧(Qht s.data.toList p=0→n=Y4y s.data.toList (p+gap p)∧Ybb w' rb s (p+gap p+8*n)):=by
 have hsl:s.data.toList.length=s.size:=rfl
 have hp:=h.rd.2.1
 have k0:=h.cell (o:=0) rfl
 have cf:=Ylr w rb s p h.rd
 by_cases h0:Ya5 s.data.toList p (gap p)=0
 case neg=>
  have e1:Qht s.data.toList p=5:=if_neg h0
  have e2:Yhw s.data.toList p=(0,5):=if_neg h0
  have e3:Ymd s.data.toList p=p:=if_neg h0
  rw [e2,e3] at cf
  have HE:=Lib.hid e1
  clear e1 e2 e3 hsl h
  go_enter Tryz.func81,Tryz.ntmps81
  go_wp2_with fail
  refine cf.mono ?_
  rintro e w1 ⟨rfl,hr1,hg1⟩
  go_wp2
  go_ret2
  rw [HE.out]
  exact ⟨0,rfl,hg1,⟨p,hr1⟩,fun h=> by cases h⟩
 case pos=>
  have e1:Qht s.data.toList p=0:=if_pos h0
  have e2:Yhw s.data.toList p=(((gap p:Nat):Int),0):=if_pos h0
  have e3:Ymd s.data.toList p=p+gap p:=if_pos h0
  rw [e2,e3] at cf
  have hgf:=Y0d hp
  obtain ⟨q,hq⟩:∃q,p+gap p=q:=⟨_,rfl⟩
  have hq8:q%8=0:=by rw [←hq];unfold gap;omega
  have hzc:=Y4z (l:=s.data.toList) (p:=q) (by omega) hq8
  have hno:=Ylo (l:=s.data.toList) (p:=q) (by omega)
  have hzo:=(Qac (l:=s.data.toList) (p:=q) (by omega)).2.1
  rw [Yas,hsl] at hzo
  rw [hq] at cf ⊢
  obtain ⟨n,hn⟩:∃n,Y4y s.data.toList q=n:=⟨_,rfl⟩
  obtain ⟨u,hu⟩:∃u,Ya6 s.data.toList (q:Int)=u:=⟨_,rfl⟩
  rw [hn] at hzo hzc ⊢
  rw [hu] at hno hzc
  rw [hsl] at hno hzc
  rw [hq] at hgf
  have c2:=fun (x:World)=> Y41 x s (q:Int) (by omega)
  rw [hu] at c2
  have HE:=Lib.hid e1
  have HN:=Lib.hid hzc
  clear e1 e2 e3 hsl hn hu hq h0
  go_enter Tryz.func81,Tryz.ntmps81
  go_wp2_with fail
  refine cf.mono ?_
  rintro e w1 ⟨rfl,hr1,hg1⟩
  have h1:=h.reads hg1 hr1
  clear cf k0
  have KK:=fun (x y:World) (hx:Below w1.heap.size w1 x) (hy:Below x.heap.size x y)=> (hx.trans (hy.mono hx.size):Below w1.heap.size w1 y)
  have K0:=Lib.hid (fun (x:World) (hx:Below w1.heap.size w1 x)=> (h1.below hx).cell (o:=0) rfl)
  have CT:=Lib.hid (fun (x:World) (hx:Below w1.heap.size w1 x)=> (Ydr x rb s q (h1.below hx).rd).mono fun e y (z:e = .returned (.string s)∧x=y)=> (⟨z.1,z.2▸hx⟩:e = .returned (.string s)∧Below w1.heap.size w1 y))
  have CA:=Lib.hid (fun (x:World) (hx:Below w1.heap.size w1 x)=> (Yb7 x rb s q (h1.below hx).rd).mono fun e y (z:e = .returned (.int .i64 (q:Int))∧x=y)=> (⟨z.1,z.2▸hx⟩:e = .returned (.int .i64 (q:Int))∧Below w1.heap.size w1 y))
  have CZ:=Lib.hid (fun (x:World) (hx:Below w1.heap.size w1 x)=> (c2 x).mono fun e y z=> (⟨z.1,KK x y hx z.2⟩:e = .returned (.int .i64 (u:Int))∧Below w1.heap.size w1 y))
  have CL:=Lib.hid (fun (x:World) (hx:Below w1.heap.size w1 x)=> (Yhy x rb s q (h1.below hx).rd).mono fun e y z=> (⟨by rw [z.1,show (8*(s.size:Int)-(q:Int))=((8*s.size-q:Nat):Int) by omega],KK x y hx z.2⟩:e = .returned (.int .i64 ((8*s.size-q:Nat):Int))∧Below w1.heap.size w1 y))
  have CC:=Lib.hid (fun (x:World) (hx:Below w1.heap.size w1 x)=> (Y2m u (8*s.size-q) x (by omega)).mono fun e y z=> (⟨by rw [z.1,←hzc],z.2▸hx⟩:e = .returned (.int .i64 (n:Int))∧Below w1.heap.size w1 y))
  have hb0:=Below.refl w1.heap.size w1
  have HH:=Lib.hid h1
  have HG:=Lib.hid hg1
  clear KK c2 hr1 h hzc h1 hg1
  generalize 8*s.size-q=left at *
  go_wp2
  refine Yaz (S:=fun x=> Below w1.heap.size w1 x) 18 (by kernel_rfl) (by kernel_rfl) hb0.drew ?_
  simp only [List.take_succ_cons,List.take_zero,List.drop_succ_cons,List.drop_zero]
  iterate 3 (refine Yae (by kernel_rfl) (fun x _=> by go_simp;try with_reducible rfl) ?_;simp only [Act.put,List.setIfInBounds_toArray,List.set_cons_zero,List.set_cons_succ])
  refine Ya2 43 _ ⟨G,0,none⟩ (.pointer (some ⟨rb,0,none⟩)) (by kernel_rfl) rfl rfl (fun x hx=> by have c0:=K0.out x hx;go_simp) ?_;simp only [Act.put,List.setIfInBounds_toArray,List.set_cons_zero,List.set_cons_succ]
  refine Ya8 (by kernel_rfl) CT.out (fun _=> by kernel_rfl) ?_;simp only [Act.put,List.setIfInBounds_toArray,List.set_cons_zero,List.set_cons_succ]
  iterate 3 (refine Yae (by kernel_rfl) (fun x _=> by go_simp;try with_reducible rfl) ?_;simp only [Act.put,List.setIfInBounds_toArray,List.set_cons_zero,List.set_cons_succ])
  refine Ya2 43 _ ⟨G,0,none⟩ (.pointer (some ⟨rb,0,none⟩)) (by kernel_rfl) rfl rfl (fun x hx=> by have c0:=K0.out x hx;go_simp) ?_;simp only [Act.put,List.setIfInBounds_toArray,List.set_cons_zero,List.set_cons_succ]
  refine Ya8 (by kernel_rfl) CA.out (fun _=> by kernel_rfl) ?_;simp only [Act.put,List.setIfInBounds_toArray,List.set_cons_zero,List.set_cons_succ]
  refine Ya8 (by kernel_rfl) CZ.out (fun _=> by kernel_rfl) ?_;simp only [Act.put,List.setIfInBounds_toArray,List.set_cons_zero,List.set_cons_succ]
  iterate 3 (refine Yae (by kernel_rfl) (fun x _=> by go_simp;try with_reducible rfl) ?_;simp only [Act.put,List.setIfInBounds_toArray,List.set_cons_zero,List.set_cons_succ])
  refine Ya2 43 _ ⟨G,0,none⟩ (.pointer (some ⟨rb,0,none⟩)) (by kernel_rfl) rfl rfl (fun x hx=> by have c0:=K0.out x hx;go_simp) ?_;simp only [Act.put,List.setIfInBounds_toArray,List.set_cons_zero,List.set_cons_succ]
  refine Ya8 (by kernel_rfl) CL.out (fun _=> by kernel_rfl) ?_;simp only [Act.put,List.setIfInBounds_toArray,List.set_cons_zero,List.set_cons_succ]
  refine Ya8 (by kernel_rfl) CC.out (fun _=> by kernel_rfl) ?_;simp only [Act.put,List.setIfInBounds_toArray,List.set_cons_zero,List.set_cons_succ]
  refine Yae (by kernel_rfl) (fun x _=> by go_simp;try with_reducible rfl) ?_;simp only [Act.put,List.setIfInBounds_toArray,List.set_cons_zero,List.set_cons_succ]
  refine Ycf fun x hx=> ?_
  go_wp2
  have w8:IntKind.i64.wrap (8*(n:Int))=((8*n:Nat):Int):=by rw [Yhg (by omega)];omega
  have wq:IntKind.i64.wrap ((q:Int)+((8*n:Nat):Int))=((q+8*n:Nat):Int):=by rw [Yhg (by omega)];omega
  have hzo':=hzo
  obtain ⟨n8,hn8⟩:∃n8,8*n=n8:=⟨_,rfl⟩
  rw [hn8] at w8 wq hzo'
  have HN8:=Lib.hid hn8
  clear hn8 hzo
  have hbd:=hx.drew
  have hhd:=HH.out.below hbd
  have kd:=hhd.cell (o:=0) rfl
  refine wp_region_held_drew (S:=fun x=> x.cell? ⟨G,0,none⟩=some (.pointer (some ⟨rb,0,none⟩))) (by kernel_rfl) kd (fun hH=> ?_)
  refine Yab 0 (some 35) (v:=?_) rfl rfl (by kernel_rfl) (by kernel_rfl) (by kernel_rfl) (fun _ _ _ h=> h) hH (Or.inl ⟨by kernel_rfl,?_⟩) ?_
  rotate_left
  ·(intro x _;go_simp;try with_reducible rfl)
  rotate_right
  try simp only [Act.put,List.setIfInBounds_toArray,List.set_cons_zero,List.set_cons_succ]
  refine Yab 1 (some 36) (v:=?_) rfl rfl (by kernel_rfl) (by kernel_rfl) (by kernel_rfl) (fun _ _ _ h=> h) hH (Or.inl ⟨by kernel_rfl,?_⟩) ?_
  rotate_left
  ·(intro x _;go_simp;try with_reducible rfl)
  rotate_right
  try simp only [Act.put,List.setIfInBounds_toArray,List.set_cons_zero,List.set_cons_succ]
  refine Yab 2 (some 37) (v:=?_) rfl rfl (by kernel_rfl) (by kernel_rfl) (by kernel_rfl) (fun _ _ _ h=> h) hH (Or.inl ⟨by kernel_rfl,?_⟩) ?_
  rotate_left
  ·(intro x _;go_simp;try with_reducible rfl)
  rotate_right
  try simp only [Act.put,List.setIfInBounds_toArray,List.set_cons_zero,List.set_cons_succ]
  refine Yab 3 (some 38) (v:=?_) rfl rfl (by kernel_rfl) (by kernel_rfl) (by kernel_rfl) (fun _ _ _ h=> h) hH (Or.inl ⟨by kernel_rfl,?_⟩) ?_
  rotate_left
  ·(intro x _;go_simp;try with_reducible rfl)
  rotate_right
  try simp only [Act.put,List.setIfInBounds_toArray,List.set_cons_zero,List.set_cons_succ]
  refine Yab 4 (some 39) (v:=.pointer (some ⟨rb,0,none⟩)) rfl rfl (by kernel_rfl) (by kernel_rfl) (by kernel_rfl) (fun _ _ _ h=> h) hH (Or.inl ⟨by kernel_rfl,?_⟩) ?_
  ·(intro x hx;have c0:=(show x.cell? ⟨G,0,none⟩=some (.pointer (some ⟨rb,0,none⟩)) from hx);go_simp)
  try simp only [Act.put,List.setIfInBounds_toArray,List.set_cons_zero,List.set_cons_succ]
  refine Yab 5 (some 40) (v:=?_) rfl rfl (by kernel_rfl) (by kernel_rfl) (by kernel_rfl) (fun _ _ _ h=> h) hH (Or.inl ⟨by kernel_rfl,?_⟩) ?_
  rotate_left
  ·(intro x _;go_simp;try with_reducible rfl)
  rotate_right
  try simp only [Act.put,List.setIfInBounds_toArray,List.set_cons_zero,List.set_cons_succ]
  refine Yab 6 (some 41) (v:=?_) rfl rfl (by kernel_rfl) (by kernel_rfl) (by kernel_rfl) (fun _ _ _ h=> h) hH (Or.inl ⟨by kernel_rfl,?_⟩) ?_
  rotate_left
  ·(intro x _;go_simp;try with_reducible rfl)
  rotate_right
  try simp only [Act.put,List.setIfInBounds_toArray,List.set_cons_zero,List.set_cons_succ]
  refine Yab 7 (some 42) (v:=?_) rfl rfl (by kernel_rfl) (by kernel_rfl) (by kernel_rfl) (fun _ _ _ h=> h) hH (Or.inl ⟨by kernel_rfl,?_⟩) ?_
  rotate_left
  ·(intro x _;go_simp;try with_reducible rfl)
  rotate_right
  try simp only [Act.put,List.setIfInBounds_toArray,List.set_cons_zero,List.set_cons_succ]
  refine Yab 8 (some 43) (v:=.pointer (some ⟨rb,0,none⟩)) rfl rfl (by kernel_rfl) (by kernel_rfl) (by kernel_rfl) (fun _ _ _ h=> h) hH (Or.inl ⟨by kernel_rfl,?_⟩) ?_
  ·(intro x hx;have c0:=(show x.cell? ⟨G,0,none⟩=some (.pointer (some ⟨rb,0,none⟩)) from hx);go_simp)
  try simp only [Act.put,List.setIfInBounds_toArray,List.set_cons_zero,List.set_cons_succ]
  refine Yab 10 (some 45) (v:=?_) rfl rfl (by kernel_rfl) (by kernel_rfl) (by kernel_rfl) (fun _ _ _ h=> h) hH (Or.inl ⟨by kernel_rfl,?_⟩) ?_
  rotate_left
  ·(intro x _;go_simp;try with_reducible rfl)
  rotate_right
  try simp only [Act.put,List.setIfInBounds_toArray,List.set_cons_zero,List.set_cons_succ]
  refine Yab 11 (some 46) (v:=?_) rfl rfl (by kernel_rfl) (by kernel_rfl) (by kernel_rfl) (fun _ _ _ h=> h) hH (Or.inl ⟨by kernel_rfl,?_⟩) ?_
  rotate_left
  ·(intro x _;go_simp;try with_reducible rfl)
  rotate_right
  try simp only [Act.put,List.setIfInBounds_toArray,List.set_cons_zero,List.set_cons_succ]
  refine wpAnyH_ready (rs:=[9]) (by kernel_rfl) (by simp) ?_
  refine AllReadyH.cons rfl (fun K hK=> ?_) AllReadyH.nil
  go_simp
  go_wp2_with fail
  refine (Yb7 _ _ _ _ hhd.rd).mono ?_
  rintro e u ⟨rfl,rfl⟩
  refine hK.out _ _ (kd) (fun hH2=> ?_)
  clear hK K hH
  have hH:=hH2
  clear hH2
  try simp only [Act.put,List.setIfInBounds_toArray,List.set_cons_zero,List.set_cons_succ]
  refine Yab 12 (some 47) (v:=?_) rfl rfl (by kernel_rfl) (by kernel_rfl) (by kernel_rfl) (fun _ _ _ h=> h) hH (Or.inl ⟨by kernel_rfl,?_⟩) ?_
  rotate_left
  ·(intro x _;go_simp;try with_reducible rfl)
  rotate_right
  try simp only [Act.put,List.setIfInBounds_toArray,List.set_cons_zero,List.set_cons_succ]
  refine wpAnyH_ready (rs:=[13]) (by kernel_rfl) (by simp) ?_
  refine AllReadyH.cons rfl (fun K hK=> ?_) AllReadyH.nil
  go_simp
  go_wp2_with fail
  refine (Ybs _ _ _ _ _ hhd.rd (by omega) (by omega)).mono ?_
  rintro e w3 ⟨rfl,hr3,hg3⟩
  have k3:=Ych.ptr (hhd.reads hg3 hr3)
  refine hK.out _ _ (k3) (fun hH2=> ?_)
  clear hK K hH
  have hH:=hH2
  clear hH2
  try simp only [Act.put,List.setIfInBounds_toArray,List.set_cons_zero,List.set_cons_succ]
  refine Yab 14 (some 2) (v:=?_) rfl rfl (by kernel_rfl) (by kernel_rfl) (by kernel_rfl) (fun _ _ _ h=> h) hH (Or.inl ⟨by kernel_rfl,?_⟩) ?_
  rotate_left
  ·(intro x _;go_simp;try with_reducible rfl)
  rotate_right
  try simp only [Act.put,List.setIfInBounds_toArray,List.set_cons_zero,List.set_cons_succ]
  refine Yab 15 (some 3) (v:=?_) rfl rfl (by kernel_rfl) (by kernel_rfl) (by kernel_rfl) (fun _ _ _ h=> h) hH (Or.inl ⟨by kernel_rfl,?_⟩) ?_
  rotate_left
  ·(intro x _;go_simp;try with_reducible rfl)
  rotate_right
  try simp only [Act.put,List.setIfInBounds_toArray,List.set_cons_zero,List.set_cons_succ]
  refine wpAnyH_done (by kernel_rfl) ?_ _
  rw [show ((q:Int)+(n8:Int)).toNat=q+n8 by omega] at hr3
  go_wp2
  go_ret2
  rw [HE.out]
  exact ⟨n,rfl,Yad (Yad HG.out (Yai hbd _)) hg3,⟨_,hr3⟩,fun _=> ⟨rfl,by rw [HN8.out];exact hr3⟩⟩
end
theorem Ych.put {w z:World} {G rb p A:Nat} {s:ByteArray} {k:Int} {inter:Bool} {vv:Value} {vs:List (Int×Int)} {first:Int} (h:Ych w G rb s p k inter vv vs first) (hg:w.grownBy z (some A)) (hA:G≠A∧rb≠A∧∀j,vv.ownBlock=some j→j≠A):Ych z G rb s p k inter vv vs first:=
 h.keptL (M:=[some A]) (Yaf.one hg fun j _ e=> by rw [e];exact List.mem_singleton.2 rfl) (fun hm=> by have e:=List.mem_singleton.1 hm;injection e with e;omega) (fun hm=> by have e:=List.mem_singleton.1 hm;injection e with e;omega)
  fun j hj hm=> by have e:=List.mem_singleton.1 hm;injection e with e;have:=hA.2.2 j hj;omega
theorem Qhg {G rb A:Nat} {vv:Value} (h:G<A∧rb<A∧∀j,vv.ownBlock=some j→j<A):G≠A∧rb≠A∧∀j,vv.ownBlock=some j→j≠A:=⟨by omega,by omega,fun j hj=> by have:=h.2.2 j hj;omega⟩
set_option maxHeartbeats 1000000 in
theorem Yxs (rb:Nat) (hd:Shd) (a b:Value) (z:Int) (w:World):Calls Tryz.prog 79 #[.pointer (some ⟨rb,0,none⟩),.agg (Yay hd a b z).toArray] w fun e w'=>
  e = .returned (.pointer (some ⟨w.heap.size+1,0,none⟩))∧w'.heap[w.heap.size+1]? = some (.cells (Qgh rb hd.fmt hd.inter (.slice none 0 0) 0).toArray 113 (0,0))∧Below w.heap.size w w':=by
 obtain ⟨A,hA⟩:∃A,w.heap.size=A:=⟨_,rfl⟩
 obtain ⟨Z,hZ⟩:∃Z,(Yay hd a b z).toArray=Z:=⟨_,rfl⟩
 obtain ⟨wA,hwA⟩:∃wA,w.alloc (.cells Z 25 (0,0))=wA:=⟨_,rfl⟩
 have hhA:wA.heap[A]? = some (.cells (Yay hd a b z).toArray 25 (0,0)):=by rw [hZ,←hwA,←hA];exact heap_alloc_new w _
 have hbA:Below w.heap.size w wA:=by rw [←hwA];exact (Below.refl _ w).alloc (Nat.le_refl _) _
 have hsA:wA.heap.size=A+1:=by rw [←hwA,←hA];simp
 have k2:wA.cell? ⟨A,2,none⟩=some (.int .i64 hd.fmt):=Yaa hhA rfl
 have k3:wA.cell? ⟨A,3,none⟩=some (.bool hd.inter):=Yaa hhA rfl
 have c1:=fun w=> Yim hd.fmt w
 have c2:=fun w=> Yfh hd.fmt w
 obtain ⟨R,hR⟩:∃R,(Qgh rb hd.fmt hd.inter (.slice none 0 0) 0).toArray=R:=⟨_,rfl⟩
 have hR2:#[.pointer (some ⟨rb,0,none⟩),.int .i64 hd.fmt,.int .i64 (Yiw hd.fmt),.int .i64 (Yjo hd.fmt),.int .i64 (Ydt hd.fmt),.bool hd.inter,.slice none 0 0,.int .i64 0]=R:=hR
 obtain ⟨w9,hw9⟩:∃w9,wA.alloc (.cells R 113 (0,0))=w9:=⟨_,rfl⟩
 have hh9:w9.heap[A+1]? = some (.cells R 113 (0,0)):=by rw [←hw9,←hsA];exact heap_alloc_new wA _
 have hb9:Below w.heap.size w w9:=by rw [←hw9];exact hbA.alloc hbA.size _
 have HWA:=Lib.hid hwA
 have HA:=Lib.hid hA
 have HR2:=Lib.hid hR2
 have HW9:=Lib.hid hw9
 have HSA:=Lib.hid hsA
 rw [hZ,hR,hA]
 rw [hA] at hb9
 generalize hd.fmt=k at *
 generalize hd.inter=inter at *
 generalize Yiw k=f1 at *
 generalize Yjo k=f2 at *
 generalize Ydt k=f3 at *
 clear hwA hA hhA hbA hsA hw9 hZ hR hR2
 go_enter Tryz.func79,Tryz.ntmps79
 go_wp2_with (rw [HWA.out,HA.out])
 refine (c1 wA).mono ?_
 rintro e u ⟨rfl,rfl⟩
 go_wp2_with fail
 refine (c2 wA).mono ?_
 rintro e u ⟨rfl,rfl⟩
 go_wp2_with (with_reducible refine wpList_buildTo rfl 113 _ rfl (some 29) rfl #[.pointer (some ⟨rb,0,none⟩),.int .i64 k,.int .i64 f1,.int .i64 f2,.int .i64 f3,.bool inter,.slice none 0 0,.int .i64 0] (by kernel_rfl) ?_;rw [HR2.out])
 rw [HW9.out,HSA.out]
 go_ret
 exact ⟨rfl,hh9,hb9⟩
def Yt7 (s:ByteArray) (G rb p:Nat) (k:Int) (inter:Bool) (vv:Value) (vs:List (Int×Int)) (first:Int) (i:Nat) (w:World) (e:Ending) (w':World):Prop:=
 ∃(b:Bool) (id qu:Int) (z:Nat) (fs f:Int),Ylt s.data.toList k i p first=(b,id,qu,z,fs,f)∧e = .returned (.tuple #[.agg [Value.bool b,.int .i64 id,.int .i64 qu,.slice none 0 0].toArray,.int .i64 f])∧
  Ych w' G rb s z k inter vv vs fs∧Yaf [some rb,some G] w w'
set_option maxHeartbeats 2000000 in
theorem Yyh {w:World} {G rb p:Nat} {s:ByteArray} {k:Int} {inter:Bool} {vv:Value} {vs:List (Int×Int)} {first:Int} (i:Nat) (h:Ych w G rb s p k inter vv vs first) (hs:s.size≤1073741824) (hi:i≤1000):
  Calls Tryz.prog 107 #[.pointer (some ⟨G,0,none⟩),.int .i64 (i:Int)] w (Yt7 s G rb p k inter vv vs first i w):=by
 have hzr:=Ylv
 obtain ⟨Y,hY⟩:∃Y:Array Value,[Value.bool false,.int .i64 0,.int .i64 0,.slice none 0 0].toArray=Y:=⟨_,rfl⟩
 rw [hY] at hzr
 obtain ⟨A,hA⟩:∃A,w.heap.size=A:=⟨_,rfl⟩
 obtain ⟨wA,hwA⟩:∃wA,w.alloc (.cells Y 59 (0,0))=wA:=⟨_,rfl⟩
 have hhA:wA.heap[A]? = some (.cells Y 59 (0,0)):=by rw [←hwA,←hA];exact heap_alloc_new w _
 have hbA:Below w.heap.size w wA:=by rw [←hwA];exact (Below.refl _ w).alloc (Nat.le_refl _) _
 have hsA:wA.heap.size=A+1:=by rw [←hwA,←hA];simp
 have hAl:G<A∧rb<A∧∀j,vv.ownBlock=some j→j<A:=by rw [←hA];exact h.lt
 have hGA:=hAl.1
 have hrA:=hAl.2.1
 have hRA:=h.below hbA
 have HSR:(Tryz.prog.info? 59).map (·.size)=some Y.size:=by rw [←hY];kernel_rfl
 have HOY:Y.all (·.oneCell')=true:=by rw [←hY];simp [Value.oneCell']
 have gA:Yaf [some rb,some G] w wA:=Yaf.below hbA
 have HWA:=Lib.hid hwA
 have HA:=Lib.hid hA
 have HY:=Lib.hid hY
 have NOT:Hid (Qaf s.data.toList i p=false→∀w2 w',Below (A+1) wA w2→w2.grownBy w' (some A)→Yt7 s G rb p k inter vv vs first i w (.returned (.tuple #[.agg Y,.int .i64 0])) w'):=Lib.hid fun hn w2 w' hb2 hg=> by
  have hb2':Below wA.heap.size wA w2:=by rw [hsA];exact hb2
  have e1:Ylt s.data.toList k i p first=(false,0,0,p,first,0):=by unfold Ylt;rw [if_neg (by rw [hn];decide)]
  refine ⟨false,0,0,p,first,0,e1,by rw [hY],(hRA.below hb2').put hg (Qhg hAl),?_⟩
  refine (gA.trans (Yaf.below (L:=[]) hb2') (by simp)).trans (M:=[some A]) (Yaf.one hg fun j _ e=> by rw [e];exact List.mem_singleton.2 rfl) fun j hj hm=> ?_
  have e:=List.mem_singleton.1 hm
  injection e with e
  omega
 by_cases hi0:i=0
 ·have d0:((i:Int)==0)=true:=by simp [hi0]
  have N:=Lib.hid (NOT.out (by unfold Qaf;rw [hi0];rfl) wA)
  have hb0:Below (A+1) wA wA:=Below.refl _ _
  clear hi0 hi NOT hwA hA hY hRA gA hsA hbA hAl
  go_enter Tryz.func107,Tryz.ntmps107
  go_wp2_with (first | (with_reducible refine Yal rfl 59 _ _ rfl A Y Y rfl rfl 59 hhA HSR rfl HOY ?_;intro wz hhz hgz) | (rw [HWA.out,HA.out]))
  refine bodyPost_ret (Yan rfl _ _ A 59 _ (0,0) _ rfl hhz Tryz.underlying59 rfl HSR) rfl ?_
  exact N.out wz hb0 hgz
 have d0:((i:Int)==0)=false:=by simp [hi0]
 have ca:=Yxr hRA hs
 rw [hsA] at ca
 have hhd:Qaf s.data.toList i p=((Ya9 s.data.toList p).2&&((Ya9 s.data.toList p).1 != 0&&(Ya9 s.data.toList p).1 != 31)):=by unfold Qaf;rw [decide_eq_true (by omega:0<i),Bool.true_and]
 rw [←hhd] at ca
 clear hhd
 cases hh:Qaf s.data.toList i p with
 | false=>
  rw [hh] at ca
  have N:=Lib.hid (NOT.out hh)
  clear hi0 hi NOT hwA hA hY hRA gA hsA hbA hh
  go_enter Tryz.func107,Tryz.ntmps107
  go_wp2_with fail
  rw [HWA.out,HA.out]
  refine ca.mono ?_
  rintro e w2 ⟨rfl,hb2⟩
  have hh2:=(hb2.block A (by omega)).trans hhA
  go_wp2_with (with_reducible refine Yal rfl 59 _ _ rfl A Y Y rfl rfl 59 hh2 HSR rfl HOY ?_;intro wz hhz hgz)
  refine bodyPost_ret (Yan rfl _ _ A 59 _ (0,0) _ rfl hhz Tryz.underlying59 rfl HSR) rfl ?_
  exact N.out w2 wz hb2 hgz
 | true=>
  rw [hh] at ca
  have e1:Ylt s.data.toList k i p first=(true,(hdk s.data.toList p i).1,(hdk s.data.toList p i).2.1,(hdk s.data.toList p i).2.2.1,(i:Int)*Yjo k,(hdk s.data.toList p i).2.2.2):=by unfold Ylt;rw [if_pos (by rw [hh])]
  have ct:=fun x (hx:Ybb x rb s p)=> Y22 x rb s p (i:Int) hx (by omega)
  unfold Qey at ct
  obtain ⟨⟨id,qu,z,f⟩,hk⟩:∃r,hdk s.data.toList p (i:Int)=r:=⟨_,rfl⟩
  rw [hk] at ct e1
  dsimp only at ct e1
  obtain ⟨B0,B1,B2,B3,B4⟩:=Ykd k
  have wm:IntKind.i64.wrap ((i:Int)*Yjo k)=(i:Int)*Yjo k:=by
   have h1:0≤(i:Int)*Yjo k:=Int.mul_nonneg (by omega) B2
   have h2:(i:Int)*Yjo k≤1000*100:=Int.mul_le_mul (by omega) B3 B2 (by omega)
   exact Yhg (by omega)
  obtain ⟨fs,hfs⟩:∃fs,(i:Int)*Yjo k=fs:=⟨_,rfl⟩
  have HM:=Lib.hid hfs
  rw [hfs] at wm e1
  have E1:=Lib.hid e1
  obtain ⟨Yh,hYh⟩:∃Z:Array Value,#[.bool true,.int .i64 id,.int .i64 qu,.slice none 0 0]=Z:=⟨_,rfl⟩
  have HSY:(Tryz.prog.info? 59).map (·.size)=some Yh.size:=by rw [←hYh];kernel_rfl
  have HYY:Y.size=Yh.size:=by rw [←hY,←hYh];rfl
  have HOH:Yh.all (·.oneCell')=true:=by rw [←hYh];simp [Value.oneCell']
  have HYh:=Lib.hid hYh
  have GA:=Lib.hid gA
  obtain ⟨fl,hfl⟩:∃fl,Yjo k=fl:=⟨_,rfl⟩
  have wm2:IntKind.i64.wrap ((i:Int)*fl)=fs:=by rw [←hfl,hfs];exact wm
  have HFL:=Lib.hid hfl
  clear hi0 hi NOT hwA hA hY hbA hh hk e1 hYh gA B0 B1 B2 B3 B4 hfs wm hfl
  go_enter Tryz.func107,Tryz.ntmps107
  go_wp2_with fail
  rw [HWA.out,HA.out]
  refine ca.mono ?_
  rintro e w2 ⟨rfl,hb2⟩
  have hR2:=hRA.below (by rw [hsA];exact hb2)
  have hh2:=(hb2.block A (by omega)).trans hhA
  have hs2:=hb2.size
  have g2:=Lib.hid (GA.out.trans (Yaf.below (L:=[]) (by rw [hsA];exact hb2)) (by simp))
  have k0:=hR2.cell (o:=0) rfl
  have ct2:=ct w2 hR2.rd
  clear ca hb2 hhA hRA ct
  go_wp2_with fail
  refine ct2.mono ?_
  rintro e w3 ⟨rfl,hr3,hg3⟩
  have hR3:=hR2.reads hg3 hr3
  have hh3:=(hg3.block A (by omega) (by simp;omega)).trans hh2
  have k3:=hR3.cell (o:=3) rfl
  rw [HFL.out] at k3
  have k7:=hR3.cell (o:=7) rfl
  have f7:=Yag (o:=7) hR3.blk
  have g3:=Lib.hid (g2.out.trans (M:=[some rb]) (L:=[some rb,some G]) (Yaf.one hg3 fun j _ e=> by rw [e];exact List.mem_singleton.2 rfl) fun j _ hm=> by rw [List.mem_singleton.1 hm];exact List.mem_cons_self ..)
  have hs3:=hg3.size
  clear ct2 hr3 hg3 hR2 hh2 k0
  have hR4:=Lib.hid (hR3.lines (first':=fs))
  have hh4:(w3.setCell ⟨G,7,none⟩ (.int .i64 fs)).heap[A]? = some (.cells Y 59 (0,0)):=by rw [Below.heap_setCell _ _ _ _ (show A≠G by omega)];exact hh3
  have g4:=Lib.hid (g3.out.trans (M:=[some G]) (z:=w3.setCell ⟨G,7,none⟩ (.int .i64 fs)) (Yaf.set _ (List.mem_singleton.2 rfl)) fun j _ hm=> by rw [List.mem_singleton.1 hm];exact List.mem_cons_of_mem _ (List.mem_singleton.2 rfl))
  have hs4:(w3.setCell ⟨G,7,none⟩ (.int .i64 fs)).heap.size=w3.heap.size:=by simp
  clear hR3
  go_wp2_with (first | (with_reducible refine wpList_buildTo rfl 59 _ rfl (some 38) rfl #[.bool true,.int .i64 id,.int .i64 qu,.slice none 0 0] (by kernel_rfl) ?_;rw [HYh.out]) | (with_reducible refine Yal rfl 59 _ _ rfl A Yh Y rfl rfl 59 hh4 HSY HYY HOH ?_;intro wz hhz hgz))
  refine bodyPost_ret (Yan rfl _ _ A 59 _ (0,0) _ rfl hhz Tryz.underlying59 rfl HSY) rfl ?_
  refine ⟨true,id,qu,z,fs,f,E1.out,by rw [←HYh.out];rfl,hR4.out.put hgz (Qhg hAl),?_⟩
  refine g4.out.trans (M:=[some A]) (Yaf.one hgz fun j _ e=> by rw [e];exact List.mem_singleton.2 rfl) fun j hj hm=> ?_
  have e:=List.mem_singleton.1 hm
  injection e with e
  have:=HA.out
  omega
theorem Qcr {inter:Bool} {c:Cel} (h:Ybo inter c=true):(-32≤c.mx∧c.mx≤31)∧-32≤c.my∧c.my≤31:=by
 unfold Ybo at h
 rw [Bool.and_eq_true] at h
 have h:=h.2
 by_cases hs:c.skip=true
 ·rw [if_pos hs,Bool.and_eq_true] at h
  have h:=h.2
  unfold Ypn at h
  simp only [Bool.and_eq_true,beq_iff_eq] at h
  obtain ⟨⟨-,h1,h2⟩,-⟩:=h
  rw [h1,h2]
  decide
 ·rw [if_neg hs] at h
  simp only [Bool.and_eq_true] at h
  have h:=h.2.1
  unfold Ymx at h
  by_cases hk:Yao c.kind=true
  ·rw [if_pos hk] at h
   simp only [Bool.and_eq_true,beq_iff_eq] at h
   rw [h.1,h.2]
   decide
  ·rw [if_neg hk] at h
   simp only [Bool.and_eq_true,beq_iff_eq] at h
   exact ⟨Yk2.1 h.1,Yk2.1 h.2⟩
theorem Y1q {n:Int} (h1:-32≤n) (h2:n≤31):(Lit.int .i64 n).wf=true:=by
 unfold Lit.wf
 simp only [Bool.and_eq_true,decide_eq_true_eq]
 exact ⟨Int.le_trans (by decide) h1,Int.le_trans h2 (by decide)⟩
section
variable {P:Program}
theorem Ymt {w:World} {o:Oper} {a:Act} {K:Act→World→Prop} {Q:Exit→Act→World→Prop} {s x:Operand} {t e:TypeId} {cap B:Nat} {i:TypeInfo} {z v:Value} {n:Nat} {xs:List Value} {y0 y1:Int}
  (ho:o.op = .call {callee:=.builtin .append,args:=#[s,x],argTypes:=#[t,t]})
  (ht:P.underlying t=some (.slice e)) (hi:P.info? e=some i) (hz:i.zero=some z) (hzs:z.cells.size=2) (hsize:i.size=2) (hby:i.bytes=16)
  (hs:a.eval s=v) (hown:w.ownsRow 0 e 2 v n xs) (hx:a.eval x = .slice (some ⟨B,0,none⟩) 1 cap) (c0:w.cell? ⟨B,0,none⟩=some (.int .i64 y0)) (c1:w.cell? ⟨B,1,none⟩=some (.int .i64 y1)) (hn:n≤1048576)
  (h:∀(q:Option Addr) (cap':Nat) w',w'.ownsRow 0 e 2 (.slice q (n+1) cap') (n+1) (xs ++ [.int .i64 y0,.int .i64 y1])→w.grownBy w' v.ownBlock→(∀k,(Value.slice q (n+1) cap').ownBlock=some k→v.ownBlock=some k∨w.heap.size≤k)→K (a.put o.dst (.slice q (n+1) cap')) w'):o.wp P a w K Q:=by
 have hnews:∀(j:Nat) u,([.int .i64 y0,.int .i64 y1]:List Value)[j]? = some u→w.cell? ((⟨B,0,none⟩:Addr).add j)=some u:=fun j u hj=> by
  rw [Addr.add_mid,Nat.zero_add]
  match j,hj with
  | 0,hj=> cases hj;exact c0
  | 1,hj=> cases hj;exact c1
 have hv1:∀u∈([.int .i64 y0,.int .i64 y1]:List Value),u.oneCell'=true:=by intro u hu;simp only [List.mem_cons,List.not_mem_nil,or_false] at hu;rcases hu with rfl | rfl <;> rfl
 obtain ⟨v',w',hr,h2,h3,-⟩:=run_append_own (P:=P) w 0 t o.type e i z 2 16 ht hi hz hsize hby hzs (by decide) v n xs hown ⟨B,0,none⟩ 1 cap _ rfl hnews hv1 (by unfold maxLen;omega) (by omega) (Nat.zero_le _)
 have h4:=Yhm ht hi hz hsize hby hzs (by decide) hown rfl hnews hv1 (by unfold maxLen;omega) (by omega) hr
 have e4:=(Yfk h2).1
 rw [e4] at h2 h4
 unfold Oper.wp execOp
 simp only [ho,resolve,invoke,builtin,Sem.run_bind,Sem.run_pure,Result.andThen_ok,List.map_toArray,List.map_cons,List.map_nil,hs,hx,hr]
 have:=h _ _ w' h2 h3 h4
 rw [←e4] at this
 exact this
end
section
variable {w x:World} {L:List (Option Nat)}
theorem Yd2.from {B:Nat} {p:Option Addr} {l:List Ev} (h:Yd2 w p l) (hf:Yfa B p) (hL:∀j,some j∈L→j<B):Yr2 L w p l:=by
 refine ⟨h,?_⟩
 rcases h with h | ⟨b,o,e,-,-⟩
 ·exact .inl (by first | exact h | exact List.eq_nil_of_length_eq_zero h)
 ·refine .inr ⟨b,o,e,fun hm=> ?_⟩
  have h1:=hf _ e
  have h2:=hL b hm
  simp only at h1
  omega
theorem Yr2.below {p:Option Addr} {l:List Ev} (h:Yr2 L w p l) (hb:Below w.heap.size w x):Yr2 L x p l:=h.kept (Yai hb none) fun k hk=> by cases hk
end
section
variable {N:Nat} {w:World} {G rb p:Nat} {s:ByteArray} {k:Int} {inter:Bool} {vv:Value} {vs:List (Int×Int)} {first:Int}
set_option maxRecDepth 100000 in
set_option maxHeartbeats 8000000 in
theorem Yxw (h:Ych w G rb s p k inter vv vs first) (ht:Ybf N w) (hN:N≤rb) (hn:vs.length≤1048575):
  Calls Tryz.prog 108 #[.pointer (some ⟨G,0,none⟩)] w (Y46 s G rb p k inter vv vs first w):=by
 have hp:=h.rd.2.1
 obtain ⟨Y,HYS,hzv⟩:=Yfe
 obtain ⟨vp,vcap,hvv,hVA⟩:=Y1p rfl h.vec
 subst hvv
 obtain ⟨A,hA⟩:∃A,w.heap.size=A:=⟨_,rfl⟩
 obtain ⟨wA,hwA⟩:∃wA,w.alloc (.cells Y 56 (0,0))=wA:=⟨_,rfl⟩
 have hhA:wA.heap[A]? = some (.cells Y 56 (0,0)):=by rw [←hwA,←hA];exact heap_alloc_new w _
 have hbA:Below w.heap.size w wA:=by rw [←hwA];exact (Below.refl _ w).alloc (Nat.le_refl _) _
 have hsA:wA.heap.size=A+1:=by rw [←hwA,←hA];simp
 have hAl:G<A∧rb<A∧∀j,(Value.slice vp vs.length vcap).ownBlock=some j→j<A:=by rw [←hA];exact h.lt
 have hGA:=hAl.1
 have hrA:=hAl.2.1
 have hRA:=h.below hbA
 have htA:=ht.below (hbA.mono (by omega:N≤w.heap.size))
 have hVX:=hVA.mono hbA
 obtain ⟨⟨mx0,my0⟩,hfo⟩:∃r,Yd5 vs (Ydt k) first=r:=⟨_,rfl⟩
 obtain ⟨⟨c,q,f⟩,hct⟩:∃r,ctk inter (Yac s.data.toList) mx0 my0 p=r:=⟨_,rfl⟩
 have hfa:Ydt k≤100:=by have:=(Yi7 k).1;have:=(Ykd k).2.2.2.2;omega
 have CO:=Lib.hid (fun (x:World) (hx:Below wA.heap.size wA x)=> (Yqx (fun i=> vs.getD i (0,0)) vp vs.length vcap (Ydt k) first x (hVX.mono hx) (by unfold maxLen;omega) (by omega)).mono fun e y (z:Yr6 _ x e y)=>
  (⟨by rw [z.1,show Qg4 (fun i=> vs.getD i (0,0)) vs.length (Ydt k) first=(mx0,my0) from hfo];rfl,z.2⟩:e = .returned (.agg #[.int .i64 mx0,.int .i64 my0])∧Below x.heap.size x y))
 have CT:=Lib.hid (fun (x:World) (hx:Below wA.heap.size wA x)=> (Y2n inter mx0 my0 (htA.below (hx.mono (by omega))) hN (hRA.below hx).rd).mono fun e y (z:Yqf inter s rb mx0 my0 p x e y)=>
  (by
   obtain ⟨c',q',f',sl,h1,h2,h3,h4,h5⟩:=z
   rw [hct] at h1
   injection h1 with e1 h1
   injection h1 with e2 e3
   subst e1 e2 e3
   exact ⟨sl,h2,h3,h4,h5⟩:∃sl,e = .returned (.tuple #[.agg (Yba c sl).toArray,.int .i64 f])∧(∀i,i<6→Yie y x.heap.size (sl i) (c.ev i))∧Ybb y rb s q∧x.grownBy y (some rb)))
 have SB:=Lib.hid (fun (x:World) (hx:Below wA.heap.size wA x)=> (hRA.below hx).blk)
 have SL:=Lib.hid (fun (x:World) (hx:Yaf [some rb] wA x)=> (hx.block G (by omega) (fun hm=> by have e:=List.mem_singleton.1 hm;injection e with e;exact h.ne.1 e)).trans hRA.blk)
 have HRA:=Lib.hid hRA
 have HAL:=Lib.hid hAl
 have HNE:=Lib.hid h.ne
 have HOWN:=Lib.hid hRA.vec
 have HCT:Hid (ctk inter (Yac s.data.toList) (Yd5 vs (Ydt k) first).1 (Yd5 vs (Ydt k) first).2 p=(c,q,f)):=Lib.hid (by rw [hfo];exact hct)
 have HM:=Lib.hid (fun (e:f=0)=> (by
  rw [e] at hct
  exact Qcr (Qbt (Yev _) (by rw [Yas];exact hp) hct).2:(-32≤c.mx∧c.mx≤31)∧-32≤c.my∧c.my≤31))
 have HEL:=Lib.hid (fun i=> (by have:=Y6g inter (Yac s.data.toList) mx0 my0 p i;rw [hct] at this;exact this:(c.ev i).length≤65))
 have HWA:=Lib.hid hwA
 have HA:=Lib.hid hA
 have HBA:=Lib.hid hbA
 clear h ht hVA hVX hRA htA hct hfo hfa hwA hA hbA hAl hp
 go_enter Tryz.func108,Tryz.ntmps108
 go_upto_region 1 with fail
 rw [HWA.out,HA.out]
 go_cut [4,5] (fun u fv wx=>∃(C:Nat) (sl:Nat→Value),u = .pointer (some ⟨C,0,none⟩)∧fv = .int .i64 f∧wx.heap[C]? = some (.cells (Yba c sl).toArray 56 (0,0))∧wA.heap.size≤C∧Yaf [some rb] wA wx∧Ybb wx rb s q∧∀i,i<6→∃P cap,sl i = .slice P (c.ev i).length cap∧Yr2 [some C] wx P (c.ev i)∧Yfa wA.heap.size P)
 case first=>
  have hk0:Below wA.heap.size wA wA.drew:=(Below.refl _ wA).drew
  refine wp_region_held_drew (S:=fun x=> x.heap[G]? = some (.cells (Qgh rb k inter (.slice vp vs.length vcap) first).toArray 113 (0,0))) (by kernel_rfl) (SB.out _ hk0) (fun hH=> ?_)
  refine Yab 0 (some 7) (v:=?_) rfl rfl (by kernel_rfl) (by kernel_rfl) (by kernel_rfl) (fun _ _ _ h=> h) hH (Or.inl ⟨by kernel_rfl,?_⟩) ?_
  rotate_left
  ·(intro x _;go_simp;try with_reducible rfl)
  rotate_right
  try simp only [Act.put,List.setIfInBounds_toArray,List.set_cons_zero,List.set_cons_succ]
  refine Yab 1 (some 8) (v:=?_) rfl rfl (by kernel_rfl) (by kernel_rfl) (by kernel_rfl) (fun _ _ _ h=> h) hH (Or.inl ⟨by kernel_rfl,?_⟩) ?_
  rotate_left
  ·(intro x _;go_simp;try with_reducible rfl)
  rotate_right
  try simp only [Act.put,List.setIfInBounds_toArray,List.set_cons_zero,List.set_cons_succ]
  refine Yab 2 (some 9) (v:=?_) rfl rfl (by kernel_rfl) (by kernel_rfl) (by kernel_rfl) (fun _ _ _ h=> h) hH (Or.inl ⟨by kernel_rfl,?_⟩) ?_
  rotate_left
  ·(intro x _;go_simp;try with_reducible rfl)
  rotate_right
  try simp only [Act.put,List.setIfInBounds_toArray,List.set_cons_zero,List.set_cons_succ]
  refine Yab 3 (some 10) (v:=.pointer (some ⟨rb,0,none⟩)) rfl rfl (by kernel_rfl) (by kernel_rfl) (by kernel_rfl) (fun _ _ _ h=> h) hH (Or.inl ⟨by kernel_rfl,?_⟩) ?_
  ·(intro x hx;have c0:=Yaa (o:=0) hx rfl;go_simp)
  try simp only [Act.put,List.setIfInBounds_toArray,List.set_cons_zero,List.set_cons_succ]
  refine Yab 4 (some 11) (v:=?_) rfl rfl (by kernel_rfl) (by kernel_rfl) (by kernel_rfl) (fun _ _ _ h=> h) hH (Or.inl ⟨by kernel_rfl,?_⟩) ?_
  rotate_left
  ·(intro x _;go_simp;try with_reducible rfl)
  rotate_right
  try simp only [Act.put,List.setIfInBounds_toArray,List.set_cons_zero,List.set_cons_succ]
  refine Yab 5 (some 12) (v:=?_) rfl rfl (by kernel_rfl) (by kernel_rfl) (by kernel_rfl) (fun _ _ _ h=> h) hH (Or.inl ⟨by kernel_rfl,?_⟩) ?_
  rotate_left
  ·(intro x _;go_simp;try with_reducible rfl)
  rotate_right
  try simp only [Act.put,List.setIfInBounds_toArray,List.set_cons_zero,List.set_cons_succ]
  refine Yab 6 (some 13) (v:=?_) rfl rfl (by kernel_rfl) (by kernel_rfl) (by kernel_rfl) (fun _ _ _ h=> h) hH (Or.inl ⟨by kernel_rfl,?_⟩) ?_
  rotate_left
  ·(intro x _;go_simp;try with_reducible rfl)
  rotate_right
  try simp only [Act.put,List.setIfInBounds_toArray,List.set_cons_zero,List.set_cons_succ]
  refine Yab 7 (some 14) (v:=.bool inter) rfl rfl (by kernel_rfl) (by kernel_rfl) (by kernel_rfl) (fun _ _ _ h=> h) hH (Or.inl ⟨by kernel_rfl,?_⟩) ?_
  ·(intro x hx;have c0:=Yaa (o:=5) hx rfl;go_simp)
  try simp only [Act.put,List.setIfInBounds_toArray,List.set_cons_zero,List.set_cons_succ]
  refine Yab 8 (some 15) (v:=?_) rfl rfl (by kernel_rfl) (by kernel_rfl) (by kernel_rfl) (fun _ _ _ h=> h) hH (Or.inl ⟨by kernel_rfl,?_⟩) ?_
  rotate_left
  ·(intro x _;go_simp;try with_reducible rfl)
  rotate_right
  try simp only [Act.put,List.setIfInBounds_toArray,List.set_cons_zero,List.set_cons_succ]
  refine Yab 9 (some 16) (v:=?_) rfl rfl (by kernel_rfl) (by kernel_rfl) (by kernel_rfl) (fun _ _ _ h=> h) hH (Or.inl ⟨by kernel_rfl,?_⟩) ?_
  rotate_left
  ·(intro x _;go_simp;try with_reducible rfl)
  rotate_right
  try simp only [Act.put,List.setIfInBounds_toArray,List.set_cons_zero,List.set_cons_succ]
  refine Yab 10 (some 17) (v:=?_) rfl rfl (by kernel_rfl) (by kernel_rfl) (by kernel_rfl) (fun _ _ _ h=> h) hH (Or.inl ⟨by kernel_rfl,?_⟩) ?_
  rotate_left
  ·(intro x _;go_simp;try with_reducible rfl)
  rotate_right
  try simp only [Act.put,List.setIfInBounds_toArray,List.set_cons_zero,List.set_cons_succ]
  refine Yab 11 (some 18) (v:=.slice vp vs.length vcap) rfl rfl (by kernel_rfl) (by kernel_rfl) (by kernel_rfl) (fun _ _ _ h=> h) hH (Or.inl ⟨by kernel_rfl,?_⟩) ?_
  ·(intro x hx;have c0:=Yaa (o:=6) hx rfl;go_simp)
  try simp only [Act.put,List.setIfInBounds_toArray,List.set_cons_zero,List.set_cons_succ]
  refine Yab 12 (some 19) (v:=?_) rfl rfl (by kernel_rfl) (by kernel_rfl) (by kernel_rfl) (fun _ _ _ h=> h) hH (Or.inl ⟨by kernel_rfl,?_⟩) ?_
  rotate_left
  ·(intro x _;go_simp;try with_reducible rfl)
  rotate_right
  try simp only [Act.put,List.setIfInBounds_toArray,List.set_cons_zero,List.set_cons_succ]
  refine Yab 13 (some 20) (v:=?_) rfl rfl (by kernel_rfl) (by kernel_rfl) (by kernel_rfl) (fun _ _ _ h=> h) hH (Or.inl ⟨by kernel_rfl,?_⟩) ?_
  rotate_left
  ·(intro x _;go_simp;try with_reducible rfl)
  rotate_right
  try simp only [Act.put,List.setIfInBounds_toArray,List.set_cons_zero,List.set_cons_succ]
  refine Yab 14 (some 21) (v:=?_) rfl rfl (by kernel_rfl) (by kernel_rfl) (by kernel_rfl) (fun _ _ _ h=> h) hH (Or.inl ⟨by kernel_rfl,?_⟩) ?_
  rotate_left
  ·(intro x _;go_simp;try with_reducible rfl)
  rotate_right
  try simp only [Act.put,List.setIfInBounds_toArray,List.set_cons_zero,List.set_cons_succ]
  refine Yab 15 (some 22) (v:=.int .i64 (Ydt k)) rfl rfl (by kernel_rfl) (by kernel_rfl) (by kernel_rfl) (fun _ _ _ h=> h) hH (Or.inl ⟨by kernel_rfl,?_⟩) ?_
  ·(intro x hx;have c0:=Yaa (o:=4) hx rfl;go_simp)
  try simp only [Act.put,List.setIfInBounds_toArray,List.set_cons_zero,List.set_cons_succ]
  refine Yab 16 (some 23) (v:=?_) rfl rfl (by kernel_rfl) (by kernel_rfl) (by kernel_rfl) (fun _ _ _ h=> h) hH (Or.inl ⟨by kernel_rfl,?_⟩) ?_
  rotate_left
  ·(intro x _;go_simp;try with_reducible rfl)
  rotate_right
  try simp only [Act.put,List.setIfInBounds_toArray,List.set_cons_zero,List.set_cons_succ]
  refine Yab 17 (some 24) (v:=?_) rfl rfl (by kernel_rfl) (by kernel_rfl) (by kernel_rfl) (fun _ _ _ h=> h) hH (Or.inl ⟨by kernel_rfl,?_⟩) ?_
  rotate_left
  ·(intro x _;go_simp;try with_reducible rfl)
  rotate_right
  try simp only [Act.put,List.setIfInBounds_toArray,List.set_cons_zero,List.set_cons_succ]
  refine Yab 18 (some 25) (v:=?_) rfl rfl (by kernel_rfl) (by kernel_rfl) (by kernel_rfl) (fun _ _ _ h=> h) hH (Or.inl ⟨by kernel_rfl,?_⟩) ?_
  rotate_left
  ·(intro x _;go_simp;try with_reducible rfl)
  rotate_right
  try simp only [Act.put,List.setIfInBounds_toArray,List.set_cons_zero,List.set_cons_succ]
  refine Yab 19 (some 26) (v:=.int .i64 first) rfl rfl (by kernel_rfl) (by kernel_rfl) (by kernel_rfl) (fun _ _ _ h=> h) hH (Or.inl ⟨by kernel_rfl,?_⟩) ?_
  ·(intro x hx;have c0:=Yaa (o:=7) hx rfl;go_simp)
  try simp only [Act.put,List.setIfInBounds_toArray,List.set_cons_zero,List.set_cons_succ]
  generalize wA.drew=v0 at hH hk0 ⊢
  refine wpAnyH_ready (rs:=[20,25]) (by kernel_rfl) (by simp) ?_
  refine AllReadyH.cons rfl (fun K hK=> ?_) (AllReadyH.cons rfl (fun K hK=> ?_) AllReadyH.nil)
  ·go_simp
   go_wp2_with fail
   refine (CO.out _ hk0).mono ?_
   rintro e v1 ⟨rfl,hb⟩
   have hk1:Below wA.heap.size wA v1:=hk0.trans (hb.mono hk0.size)
   clear hb
   refine hK.out _ _ (SB.out _ hk1) (fun hH2=> ?_)
   clear hK K hH hH2
   have hH:=(SB.out _ hk1)
   try simp only [Act.put,List.setIfInBounds_toArray,List.set_cons_zero,List.set_cons_succ]
   refine wpAnyH_ready (rs:=[21,25]) (by kernel_rfl) (by simp) ?_
   refine AllReadyH.cons rfl (fun K hK=> ?_) (AllReadyH.cons rfl (fun K hK=> ?_) AllReadyH.nil)
   ·go_simp
    go_wp2_with fail
    refine (CT.out _ hk1).mono ?_
    rintro e v2 ⟨sl,rfl,hev0,hr2,hg0⟩
    have hg2:Yaf [some rb] wA v2:=(Yaf.below (L:=[some rb]) hk1).trans (Yaf.one (L:=[some rb]) hg0 fun j _ e=> by rw [e];exact List.mem_singleton.2 rfl) fun j _ h=> h
    have hev:∀i,i<6→∃P cap,sl i = .slice P (c.ev i).length cap∧Yd2 v2 P (c.ev i)∧Yfa wA.heap.size P:=fun i hi=> by
     obtain ⟨P,cap,h1,h2,h3⟩:=hev0 i hi
     exact ⟨P,cap,h1,h2,h3.mono hk1.size⟩
    clear hev0
    clear hg0
    refine hK.out _ _ (SL.out _ hg2) (fun hH2=> ?_)
    clear hK K hH hH2
    have hH:=(SL.out _ hg2)
    try simp only [Act.put,List.setIfInBounds_toArray,List.set_cons_zero,List.set_cons_succ]
    refine Yab 22 (some 6) (v:=?_) rfl rfl (by kernel_rfl) (by kernel_rfl) (by kernel_rfl) (fun _ _ _ h=> h) hH (Or.inl ⟨by kernel_rfl,?_⟩) ?_
    rotate_left
    ·(intro x _;go_simp;try with_reducible rfl)
    rotate_right
    try simp only [Act.put,List.setIfInBounds_toArray,List.set_cons_zero,List.set_cons_succ]
    refine Yab 23 (some 29) (v:=?_) rfl rfl (by kernel_rfl) (by kernel_rfl) (by kernel_rfl) (fun _ _ _ h=> h) hH (Or.inl ⟨by kernel_rfl,?_⟩) ?_
    rotate_left
    ·(intro x _;go_simp;try with_reducible rfl)
    rotate_right
    try simp only [Act.put,List.setIfInBounds_toArray,List.set_cons_zero,List.set_cons_succ]
    refine Yab 24 (some 30) (v:=?_) rfl rfl (by kernel_rfl) (by kernel_rfl) (by kernel_rfl) (fun _ _ _ h=> h) hH (Or.inl ⟨by kernel_rfl,?_⟩) ?_
    rotate_left
    ·(intro x _;go_simp;try with_reducible rfl)
    rotate_right
    try simp only [Act.put,List.setIfInBounds_toArray,List.set_cons_zero,List.set_cons_succ]
    refine wpAnyH_ready (rs:=[25]) (by kernel_rfl) (by simp) ?_
    refine AllReadyH.cons rfl (fun K hK=> ?_) AllReadyH.nil
    go_simp
    obtain ⟨C,hC⟩:∃C,v2.heap.size=C:=⟨_,rfl⟩
    obtain ⟨v3,hn3⟩:∃v,v2.alloc (.cells Y 56 (0,0))=v:=⟨_,rfl⟩
    have gC:v3.heap[C]? = some (.cells Y 56 (0,0)):=by rw [←hn3,←hC];exact heap_alloc_new v2 _
    have hCn:wA.heap.size≤C:=by rw [←hC];exact hg2.size
    have hbn:Below v2.heap.size v2 v3:=by rw [←hn3];exact (Below.refl _ v2).alloc (Nat.le_refl _) _
    have hg3:Yaf [some rb] wA v3:=hg2.trans (Yaf.below (L:=[]) hbn) (by simp)
    have hr3:=hr2.below hbn
    have hevF:∀i,i<6→∃P cap,sl i = .slice P (c.ev i).length cap∧Yr2 [some C] v3 P (c.ev i)∧Yfa wA.heap.size P:=fun i hi=> by
     obtain ⟨P,cap,h1,h2,h3⟩:=hev i hi
     refine ⟨P,cap,h1,⟨h2.below hbn,?_⟩,h3⟩
     rcases h2 with h2 | ⟨b,o,h2,h4,-⟩
     ·exact .inl h2
     ·exact .inr ⟨b,o,h2,fun hm=> by have e:=List.mem_singleton.1 hm;injection e with e;omega⟩
    clear hev hbn
    rw [hn3,hC]
    clear hn3 hC
    refine hK.out _ _ (SL.out _ hg3) (fun hH2=> ?_)
    clear hK K hH hH2
    have hH:=(SL.out _ hg3)
    try simp only [Act.put,List.setIfInBounds_toArray,List.set_cons_zero,List.set_cons_succ]
    refine wpAnyH_ready (rs:=[26]) (by kernel_rfl) (by simp) ?_
    refine AllReadyH.cons rfl (fun K hK=> ?_) AllReadyH.nil
    refine (if_pos (by kernel_rfl)).mpr ?_
    have HSL:(Tryz.prog.info? 56).map (·.size)=some (Yba c sl).toArray.size:=by rw [show (Yba c sl).toArray.size=18 from rfl];kernel_rfl
    have HYL:Y.size=(Yba c sl).toArray.size:=by rw [HYS];rfl
    have hc1:(Yba c sl).toArray.all (·.oneCell')=true:=Yj1 _ _ fun i hi=> by obtain ⟨P,cap,h1,-,-⟩:=hevF i hi;rw [h1];rfl
    refine wp_store_row 56 _ _ rfl C (Yba c sl).toArray (by kernel_rfl) (by kernel_rfl) 56 Y gC HSL HYL hc1 ?_
    obtain ⟨vS,hvS⟩:∃vS,v3.setRow C (Yba c sl).toArray=vS:=⟨_,rfl⟩
    have eS:vS.heap[C]? = some (.cells (Yba c sl).toArray 56 (0,0)):=by rw [←hvS];exact setRow_heap _ _ _ _ _ _ gC
    have hgS:v3.grownBy vS (some C):=by rw [←hvS];exact ⟨rfl,rfl,rfl,by simp,fun k _ hk=> setRow_other _ _ _ _ (by intro e;exact hk (by rw [e]))⟩
    have hgSL:Yaf [some rb] wA vS:=hg3.trans (Yaf.one (L:=[some C]) hgS fun j _ e=> by rw [e];exact List.mem_singleton.2 rfl) fun j hj h=> by have e:=List.mem_singleton.1 h;injection e with e;omega
    have hrS:Ybb vS rb s q:=hr3.grown hgS (by omega)
    rw [hvS]
    clear hvS
    refine hK.out _ _ (SL.out _ hgSL) (fun hH2=> ?_)
    clear hK K hH hH2
    have hH:=(SL.out _ hgSL)
    try simp only [Act.put,List.setIfInBounds_toArray]
    refine Yab 27 (some 5) (v:=?_) rfl rfl (by kernel_rfl) (by kernel_rfl) (by kernel_rfl) (fun _ _ _ h=> h) hH (Or.inl ⟨by kernel_rfl,?_⟩) ?_
    rotate_left
    ·(intro x _;go_simp;try with_reducible rfl)
    rotate_right
    try simp only [Act.put]
    refine wpAnyH_done (by kernel_rfl) ?_ _
    go_wp2
    go_meet
    case rel=>
     refine ⟨C,sl,rfl,rfl,eS,hCn,hgSL,hrS,fun i hi=> ?_⟩
     obtain ⟨P,cap,h1,h2,h3⟩:=hevF i hi
     exact ⟨P,cap,h1,(h2.kept hgS fun k hk=> by injection hk with hk;rw [hk];exact List.mem_singleton.2 rfl),h3⟩
   ·go_simp
    obtain ⟨C,hC⟩:∃C,v1.heap.size=C:=⟨_,rfl⟩
    obtain ⟨v2,hn2⟩:∃v,v1.alloc (.cells Y 56 (0,0))=v:=⟨_,rfl⟩
    have gC:v2.heap[C]? = some (.cells Y 56 (0,0)):=by rw [←hn2,←hC];exact heap_alloc_new v1 _
    have hCn:wA.heap.size≤C:=by rw [←hC];exact hk1.size
    have hk2:Below wA.heap.size wA v2:=by rw [←hn2];exact hk1.alloc hk1.size _
    rw [hn2,hC]
    clear hn2 hC
    refine hK.out _ _ (SB.out _ hk2) (fun hH2=> ?_)
    clear hK K hH hH2
    have hH:=(SB.out _ hk2)
    try simp only [Act.put,List.setIfInBounds_toArray,List.set_cons_zero,List.set_cons_succ]
    refine wpAnyH_ready (rs:=[21]) (by kernel_rfl) (by simp) ?_
    refine AllReadyH.cons rfl (fun K hK=> ?_) AllReadyH.nil
    go_simp
    go_wp2_with fail
    refine (CT.out _ hk2).mono ?_
    rintro e v3 ⟨sl,rfl,hev0,hr3,hg0⟩
    have hg3:Yaf [some rb] wA v3:=(Yaf.below (L:=[some rb]) hk2).trans (Yaf.one (L:=[some rb]) hg0 fun j _ e=> by rw [e];exact List.mem_singleton.2 rfl) fun j _ h=> h
    have ltC:=(Array.getElem?_eq_some_iff.1 gC).1
    have gC:=(hg0.block C ltC (by simp;omega)).trans gC
    have hevF:∀i,i<6→∃P cap,sl i = .slice P (c.ev i).length cap∧Yr2 [some C] v3 P (c.ev i)∧Yfa wA.heap.size P:=fun i hi=> by
     obtain ⟨P,cap,h1,h2,h3⟩:=hev0 i hi
     refine ⟨P,cap,h1,⟨h2,?_⟩,h3.mono hk2.size⟩
     rcases h2 with h2 | ⟨b,o,h2,h4,-⟩
     ·exact .inl h2
     ·exact .inr ⟨b,o,h2,fun hm=> by have e:=List.mem_singleton.1 hm;injection e with e;have h5:=h3 _ h2;simp only at h5;omega⟩
    clear hev0 ltC
    clear hg0
    refine hK.out _ _ (SL.out _ hg3) (fun hH2=> ?_)
    clear hK K hH hH2
    have hH:=(SL.out _ hg3)
    try simp only [Act.put,List.setIfInBounds_toArray,List.set_cons_zero,List.set_cons_succ]
    refine Yab 22 (some 6) (v:=?_) rfl rfl (by kernel_rfl) (by kernel_rfl) (by kernel_rfl) (fun _ _ _ h=> h) hH (Or.inl ⟨by kernel_rfl,?_⟩) ?_
    rotate_left
    ·(intro x _;go_simp;try with_reducible rfl)
    rotate_right
    try simp only [Act.put,List.setIfInBounds_toArray,List.set_cons_zero,List.set_cons_succ]
    refine Yab 23 (some 29) (v:=?_) rfl rfl (by kernel_rfl) (by kernel_rfl) (by kernel_rfl) (fun _ _ _ h=> h) hH (Or.inl ⟨by kernel_rfl,?_⟩) ?_
    rotate_left
    ·(intro x _;go_simp;try with_reducible rfl)
    rotate_right
    try simp only [Act.put,List.setIfInBounds_toArray,List.set_cons_zero,List.set_cons_succ]
    refine Yab 24 (some 30) (v:=?_) rfl rfl (by kernel_rfl) (by kernel_rfl) (by kernel_rfl) (fun _ _ _ h=> h) hH (Or.inl ⟨by kernel_rfl,?_⟩) ?_
    rotate_left
    ·(intro x _;go_simp;try with_reducible rfl)
    rotate_right
    try simp only [Act.put,List.setIfInBounds_toArray,List.set_cons_zero,List.set_cons_succ]
    refine wpAnyH_ready (rs:=[26]) (by kernel_rfl) (by simp) ?_
    refine AllReadyH.cons rfl (fun K hK=> ?_) AllReadyH.nil
    refine (if_pos (by kernel_rfl)).mpr ?_
    have HSL:(Tryz.prog.info? 56).map (·.size)=some (Yba c sl).toArray.size:=by rw [show (Yba c sl).toArray.size=18 from rfl];kernel_rfl
    have HYL:Y.size=(Yba c sl).toArray.size:=by rw [HYS];rfl
    have hc1:(Yba c sl).toArray.all (·.oneCell')=true:=Yj1 _ _ fun i hi=> by obtain ⟨P,cap,h1,-,-⟩:=hevF i hi;rw [h1];rfl
    refine wp_store_row 56 _ _ rfl C (Yba c sl).toArray (by kernel_rfl) (by kernel_rfl) 56 Y gC HSL HYL hc1 ?_
    obtain ⟨vS,hvS⟩:∃vS,v3.setRow C (Yba c sl).toArray=vS:=⟨_,rfl⟩
    have eS:vS.heap[C]? = some (.cells (Yba c sl).toArray 56 (0,0)):=by rw [←hvS];exact setRow_heap _ _ _ _ _ _ gC
    have hgS:v3.grownBy vS (some C):=by rw [←hvS];exact ⟨rfl,rfl,rfl,by simp,fun k _ hk=> setRow_other _ _ _ _ (by intro e;exact hk (by rw [e]))⟩
    have hgSL:Yaf [some rb] wA vS:=hg3.trans (Yaf.one (L:=[some C]) hgS fun j _ e=> by rw [e];exact List.mem_singleton.2 rfl) fun j hj h=> by have e:=List.mem_singleton.1 h;injection e with e;omega
    have hrS:Ybb vS rb s q:=hr3.grown hgS (by omega)
    rw [hvS]
    clear hvS
    refine hK.out _ _ (SL.out _ hgSL) (fun hH2=> ?_)
    clear hK K hH hH2
    have hH:=(SL.out _ hgSL)
    try simp only [Act.put,List.setIfInBounds_toArray]
    refine Yab 27 (some 5) (v:=?_) rfl rfl (by kernel_rfl) (by kernel_rfl) (by kernel_rfl) (fun _ _ _ h=> h) hH (Or.inl ⟨by kernel_rfl,?_⟩) ?_
    rotate_left
    ·(intro x _;go_simp;try with_reducible rfl)
    rotate_right
    try simp only [Act.put]
    refine wpAnyH_done (by kernel_rfl) ?_ _
    go_wp2
    go_meet
    case rel=>
     refine ⟨C,sl,rfl,rfl,eS,hCn,hgSL,hrS,fun i hi=> ?_⟩
     obtain ⟨P,cap,h1,h2,h3⟩:=hevF i hi
     exact ⟨P,cap,h1,(h2.kept hgS fun k hk=> by injection hk with hk;rw [hk];exact List.mem_singleton.2 rfl),h3⟩
  ·go_simp
   obtain ⟨C,hC⟩:∃C,v0.heap.size=C:=⟨_,rfl⟩
   obtain ⟨v1,hn1⟩:∃v,v0.alloc (.cells Y 56 (0,0))=v:=⟨_,rfl⟩
   have gC:v1.heap[C]? = some (.cells Y 56 (0,0)):=by rw [←hn1,←hC];exact heap_alloc_new v0 _
   have hCn:wA.heap.size≤C:=by rw [←hC];exact hk0.size
   have hk1:Below wA.heap.size wA v1:=by rw [←hn1];exact hk0.alloc hk0.size _
   rw [hn1,hC]
   clear hn1 hC
   refine hK.out _ _ (SB.out _ hk1) (fun hH2=> ?_)
   clear hK K hH hH2
   have hH:=(SB.out _ hk1)
   try simp only [Act.put,List.setIfInBounds_toArray,List.set_cons_zero,List.set_cons_succ]
   refine wpAnyH_ready (rs:=[20]) (by kernel_rfl) (by simp) ?_
   refine AllReadyH.cons rfl (fun K hK=> ?_) AllReadyH.nil
   go_simp
   go_wp2_with fail
   refine (CO.out _ hk1).mono ?_
   rintro e v2 ⟨rfl,hb⟩
   have hk2:Below wA.heap.size wA v2:=hk1.trans (hb.mono hk1.size)
   have gC:=(hb.block C (Array.getElem?_eq_some_iff.1 gC).1).trans gC
   clear hb
   refine hK.out _ _ (SB.out _ hk2) (fun hH2=> ?_)
   clear hK K hH hH2
   have hH:=(SB.out _ hk2)
   try simp only [Act.put,List.setIfInBounds_toArray,List.set_cons_zero,List.set_cons_succ]
   refine wpAnyH_ready (rs:=[21]) (by kernel_rfl) (by simp) ?_
   refine AllReadyH.cons rfl (fun K hK=> ?_) AllReadyH.nil
   go_simp
   go_wp2_with fail
   refine (CT.out _ hk2).mono ?_
   rintro e v3 ⟨sl,rfl,hev0,hr3,hg0⟩
   have hg3:Yaf [some rb] wA v3:=(Yaf.below (L:=[some rb]) hk2).trans (Yaf.one (L:=[some rb]) hg0 fun j _ e=> by rw [e];exact List.mem_singleton.2 rfl) fun j _ h=> h
   have ltC:=(Array.getElem?_eq_some_iff.1 gC).1
   have gC:=(hg0.block C ltC (by simp;omega)).trans gC
   have hevF:∀i,i<6→∃P cap,sl i = .slice P (c.ev i).length cap∧Yr2 [some C] v3 P (c.ev i)∧Yfa wA.heap.size P:=fun i hi=> by
    obtain ⟨P,cap,h1,h2,h3⟩:=hev0 i hi
    refine ⟨P,cap,h1,⟨h2,?_⟩,h3.mono hk2.size⟩
    rcases h2 with h2 | ⟨b,o,h2,h4,-⟩
    ·exact .inl h2
    ·exact .inr ⟨b,o,h2,fun hm=> by have e:=List.mem_singleton.1 hm;injection e with e;have h5:=h3 _ h2;simp only at h5;omega⟩
   clear hev0 ltC
   clear hg0
   refine hK.out _ _ (SL.out _ hg3) (fun hH2=> ?_)
   clear hK K hH hH2
   have hH:=(SL.out _ hg3)
   try simp only [Act.put,List.setIfInBounds_toArray,List.set_cons_zero,List.set_cons_succ]
   refine Yab 22 (some 6) (v:=?_) rfl rfl (by kernel_rfl) (by kernel_rfl) (by kernel_rfl) (fun _ _ _ h=> h) hH (Or.inl ⟨by kernel_rfl,?_⟩) ?_
   rotate_left
   ·(intro x _;go_simp;try with_reducible rfl)
   rotate_right
   try simp only [Act.put,List.setIfInBounds_toArray,List.set_cons_zero,List.set_cons_succ]
   refine Yab 23 (some 29) (v:=?_) rfl rfl (by kernel_rfl) (by kernel_rfl) (by kernel_rfl) (fun _ _ _ h=> h) hH (Or.inl ⟨by kernel_rfl,?_⟩) ?_
   rotate_left
   ·(intro x _;go_simp;try with_reducible rfl)
   rotate_right
   try simp only [Act.put,List.setIfInBounds_toArray,List.set_cons_zero,List.set_cons_succ]
   refine Yab 24 (some 30) (v:=?_) rfl rfl (by kernel_rfl) (by kernel_rfl) (by kernel_rfl) (fun _ _ _ h=> h) hH (Or.inl ⟨by kernel_rfl,?_⟩) ?_
   rotate_left
   ·(intro x _;go_simp;try with_reducible rfl)
   rotate_right
   try simp only [Act.put,List.setIfInBounds_toArray,List.set_cons_zero,List.set_cons_succ]
   refine wpAnyH_ready (rs:=[26]) (by kernel_rfl) (by simp) ?_
   refine AllReadyH.cons rfl (fun K hK=> ?_) AllReadyH.nil
   refine (if_pos (by kernel_rfl)).mpr ?_
   have HSL:(Tryz.prog.info? 56).map (·.size)=some (Yba c sl).toArray.size:=by rw [show (Yba c sl).toArray.size=18 from rfl];kernel_rfl
   have HYL:Y.size=(Yba c sl).toArray.size:=by rw [HYS];rfl
   have hc1:(Yba c sl).toArray.all (·.oneCell')=true:=Yj1 _ _ fun i hi=> by obtain ⟨P,cap,h1,-,-⟩:=hevF i hi;rw [h1];rfl
   refine wp_store_row 56 _ _ rfl C (Yba c sl).toArray (by kernel_rfl) (by kernel_rfl) 56 Y gC HSL HYL hc1 ?_
   obtain ⟨vS,hvS⟩:∃vS,v3.setRow C (Yba c sl).toArray=vS:=⟨_,rfl⟩
   have eS:vS.heap[C]? = some (.cells (Yba c sl).toArray 56 (0,0)):=by rw [←hvS];exact setRow_heap _ _ _ _ _ _ gC
   have hgS:v3.grownBy vS (some C):=by rw [←hvS];exact ⟨rfl,rfl,rfl,by simp,fun k _ hk=> setRow_other _ _ _ _ (by intro e;exact hk (by rw [e]))⟩
   have hgSL:Yaf [some rb] wA vS:=hg3.trans (Yaf.one (L:=[some C]) hgS fun j _ e=> by rw [e];exact List.mem_singleton.2 rfl) fun j hj h=> by have e:=List.mem_singleton.1 h;injection e with e;omega
   have hrS:Ybb vS rb s q:=hr3.grown hgS (by omega)
   rw [hvS]
   clear hvS
   refine hK.out _ _ (SL.out _ hgSL) (fun hH2=> ?_)
   clear hK K hH hH2
   have hH:=(SL.out _ hgSL)
   try simp only [Act.put,List.setIfInBounds_toArray]
   refine Yab 27 (some 5) (v:=?_) rfl rfl (by kernel_rfl) (by kernel_rfl) (by kernel_rfl) (fun _ _ _ h=> h) hH (Or.inl ⟨by kernel_rfl,?_⟩) ?_
   rotate_left
   ·(intro x _;go_simp;try with_reducible rfl)
   rotate_right
   try simp only [Act.put]
   refine wpAnyH_done (by kernel_rfl) ?_ _
   go_wp2
   go_meet
   case rel=>
    refine ⟨C,sl,rfl,rfl,eS,hCn,hgSL,hrS,fun i hi=> ?_⟩
    obtain ⟨P,cap,h1,h2,h3⟩:=hevF i hi
    exact ⟨P,cap,h1,(h2.kept hgS fun k hk=> by injection hk with hk;rw [hk];exact List.mem_singleton.2 rfl),h3⟩
 case rest=>
  clear CO CT SB SL
  obtain ⟨C,sl,rfl,rfl,hC,hCn,hgx,hrx,hev⟩:=hcut
  obtain ⟨wk,rfl⟩:∃x,x=wc:=⟨_,rfl⟩
  have hone:∀i,i<6→(sl i).oneCell'=true:=fun i hi=> by obtain ⟨P,cap,h1,-,-⟩:=hev i hi;rw [h1];rfl
  obtain ⟨Z,hZ⟩:∃Z,(Yba c sl).toArray=Z:=⟨_,rfl⟩
  have HSZ:(Tryz.prog.info? 56).map (·.size)=some Z.size:=by rw [←hZ,show (Yba c sl).toArray.size=18 from rfl];kernel_rfl
  have HYZ:Y.size=Z.size:=by rw [HYS,←hZ];rfl
  have HOZ:Z.all (·.oneCell')=true:=hZ▸Yj1 _ _ hone
  have hCZ:wk.heap[C]? = some (.cells Z 56 (0,0)):=by rw [←hZ];exact hC
  have hAk:=(hgx.block A (by omega) (fun hm=> by have e:=List.mem_singleton.1 hm;injection e with e;omega)).trans hhA
  have HZ:=Lib.hid hZ
  have HEV:=Lib.hid hev
  have HONE:=Lib.hid hone
  have hzk:=hgx.size
  have hCk:C<wk.heap.size:=(Array.getElem?_eq_some_iff.1 hC).1
  have hRk:Ych wk G rb s q k inter (.slice vp vs.length vcap) vs first:={
   blk:=(hgx.block G (by omega) (fun hm=> by have e:=List.mem_singleton.1 hm;injection e with e;exact HNE.out.1 e)).trans HRA.out.blk
   rd:=hrx
   vec:=Yeo HRA.out.vec hgx fun j hj hm=> by have e:=List.mem_singleton.1 hm;injection e with e;exact (HNE.out.2 j hj).2 e
   ne:=HNE.out}
  have GK:Hid (Yaf (Ypr rb G (.slice vp vs.length vcap)) w wk):=Lib.hid ((Yaf.below HBA.out).trans hgx fun j _ hm=> by rw [List.mem_singleton.1 hm];exact List.mem_cons_self ..)
  have ck:=Yaa (o:=2) hC rfl
  clear hZ hev hone hgx hrx hhA
  by_cases hf:f=0
  case neg=>
   have tf:(f != 0)=true:=by rw [bne_iff_ne];exact hf
   have HF:=Lib.hid hf
   clear hf ck
   go_wp2_with (first | (with_reducible refine wpList_load_row rfl 56 _ rfl C rfl 56 Z (0,0) _ hCZ Tryz.underlying56 rfl HSZ ?_) | (with_reducible refine Yal rfl 56 _ _ rfl A Z Y rfl rfl 56 hAk HSZ HYZ HOZ ?_;intro wz hhz hgz))
   refine bodyPost_ret (Yan rfl _ _ A 56 _ (0,0) _ rfl hhz Tryz.underlying56 rfl HSZ) rfl ?_
   refine ⟨c,q,f,f,sl,HCT.out,by rw [if_pos HF.out],by rw [HZ.out];rfl,HONE.out,?_,⟨q,hRk.rd.grown hgz (by omega)⟩,fun e=> absurd e HF.out⟩
   exact GK.out.trans (Yaf.one (L:=[some A]) hgz fun j _ e=> by rw [e];exact List.mem_singleton.2 rfl) fun j hj hm=> by have e:=List.mem_singleton.1 hm;injection e with e;have:=HA.out;omega
  have tf:(f != 0)=false:=by rw [hf];rfl
  have hm:=HM.out hf
  have HF:=Lib.hid hf
  have hr2:wk.rangeAt C 4 [.int .i64 c.mx,.int .i64 c.my]:=fun j v hj=> by
   match j,hj with
   | 0,hj=> injection hj with hj;subst hj;exact Yaa (o:=4) hC rfl
   | 1,hj=> injection hj with hj;subst hj;exact Yaa (o:=5) hC rfl
  have KK:=fun (x y:World) (hx:Below wk.heap.size wk x) (hy:Below x.heap.size x y)=> (hx.trans (hy.mono hx.size):Below wk.heap.size wk y)
  have HR2:=Lib.hid (fun (x:World) (hx:Below wk.heap.size wk x)=> ((fun j v hj=> (World.cell?_of_block (a:=⟨C,4+j,none⟩) (hx.block C hCk)).trans (hr2 j v hj)):x.rangeAt C 4 [.int .i64 c.mx,.int .i64 c.my]))
  have HC0:=Lib.hid (fun (x:World) (hx:Below wk.heap.size wk x)=> ((hx.block C hCk).trans hCZ))
  have K1:=Lib.hid (fun (x:World) (hx:Below wk.heap.size wk x)=> (hRk.below hx).cell (o:=1) rfl)
  have K6:=Lib.hid (fun (x:World) (hx:Below wk.heap.size wk x)=> (hRk.below hx).cell (o:=6) rfl)
  have CP:=Lib.hid (fun (x:World) (hx:Below wk.heap.size wk x)=> (by rw [←HZ.out];exact (Yyo c sl x).mono fun e y z=> ⟨z.1,KK x y hx z.2⟩:Calls Tryz.prog 137 #[.agg Z] x fun e y=> e = .returned (.bool (!Yao c.kind))∧Below wk.heap.size wk y))
  have CM:=Lib.hid (fun (x:World) (hx:Below wk.heap.size wk x)=> ((Y0n k (vs.length:Int) c.mx c.my x).mono fun e y z=> ⟨z.1,KK x y hx z.2⟩:Calls Tryz.prog 77 #[.int .i64 k,.int .i64 (vs.length:Int),.agg #[.int .i64 c.mx,.int .i64 c.my]] x fun e y=> e = .returned (.bool (Y7v k (vs.length:Int) c.mx c.my))∧Below wk.heap.size wk y))
  have hb0:=Below.refl wk.heap.size wk
  have hvm:Yct k vs.length c=(Yao c.kind || Y7v k (vs.length:Int) c.mx c.my):=rfl
  obtain ⟨vmb,hvmb⟩:∃b,Yct k vs.length c=b:=⟨_,rfl⟩
  rw [hvmb] at hvm
  have HVM:=Lib.hid hvmb
  have HRK:=Lib.hid hRk
  clear hf KK hr2 hRk hvmb
  go_upto_region 4 with fail
  go_cut [51] (fun v wx=> v = .bool (!vmb)∧Below wk.heap.size wk wx)
  case first=>
   cases hik:Yao c.kind with
   | true=>
    rw [hik] at hvm CP
    have HV:Hid (vmb=true):=Lib.hid (by rw [hvm];rfl)
    clear hik hvm
    refine Yaz (S:=fun x=> Below wk.heap.size wk x) 17 (by kernel_rfl) (by kernel_rfl) hb0.drew ?_
    simp only [List.take_succ_cons,List.take_zero,List.drop_succ_cons,List.drop_zero]
    refine Yfd 56 _ C 56 Z (0,0) _ (by kernel_rfl) rfl rfl (fun x hx=> HC0.out x hx) Tryz.underlying56 rfl HSZ ?_;simp only [Act.put,List.setIfInBounds_toArray,List.set_cons_zero,List.set_cons_succ]
    refine Ya8 (by kernel_rfl) CP.out (fun _=> by kernel_rfl) ?_;simp only [Act.put,List.setIfInBounds_toArray,List.set_cons_zero,List.set_cons_succ]
    refine Yae (by kernel_rfl) (fun x _=> by go_simp;try with_reducible rfl) ?_;simp only [Act.put,List.setIfInBounds_toArray,List.set_cons_zero,List.set_cons_succ]
    iterate 13 (refine Ye5 (by kernel_rfl) ?_;simp only [Act.put,List.setIfInBounds_toArray,List.set_cons_zero,List.set_cons_succ])
    refine Yae (by kernel_rfl) (fun x _=> by go_simp;try with_reducible rfl) ?_;simp only [Act.put,List.setIfInBounds_toArray,List.set_cons_zero,List.set_cons_succ]
    refine Ycf fun x hx=> ?_
    go_wp2
    go_meet
    case rel=> exact ⟨(by rw [HV.out];first | done | rfl),hx⟩
   | false=>
    rw [hik] at hvm CP
    have HV:=Lib.hid (hvm.trans (Bool.false_or _))
    clear hik hvm
    generalize Y7v k (vs.length:Int) c.mx c.my=mv at *
    refine Yaz (S:=fun x=> Below wk.heap.size wk x) 17 (by kernel_rfl) (by kernel_rfl) hb0.drew ?_
    simp only [List.take_succ_cons,List.take_zero,List.drop_succ_cons,List.drop_zero]
    refine Yfd 56 _ C 56 Z (0,0) _ (by kernel_rfl) rfl rfl (fun x hx=> HC0.out x hx) Tryz.underlying56 rfl HSZ ?_;simp only [Act.put,List.setIfInBounds_toArray,List.set_cons_zero,List.set_cons_succ]
    refine Ya8 (by kernel_rfl) CP.out (fun _=> by kernel_rfl) ?_;simp only [Act.put,List.setIfInBounds_toArray,List.set_cons_zero,List.set_cons_succ]
    iterate 4 (refine Yae (by kernel_rfl) (fun x _=> by go_simp;try with_reducible rfl) ?_;simp only [Act.put,List.setIfInBounds_toArray,List.set_cons_zero,List.set_cons_succ])
    refine Ya2 3 _ ⟨G,1,none⟩ (.int .i64 k) (by kernel_rfl) rfl rfl (fun x hx=> by have c0:=K1.out x hx;go_simp) ?_;simp only [Act.put,List.setIfInBounds_toArray,List.set_cons_zero,List.set_cons_succ]
    iterate 3 (refine Yae (by kernel_rfl) (fun x _=> by go_simp;try with_reducible rfl) ?_;simp only [Act.put,List.setIfInBounds_toArray,List.set_cons_zero,List.set_cons_succ])
    refine Ya2 73 _ ⟨G,6,none⟩ (.slice vp vs.length vcap) (by kernel_rfl) rfl rfl (fun x hx=> by have c0:=K6.out x hx;go_simp) ?_;simp only [Act.put,List.setIfInBounds_toArray,List.set_cons_zero,List.set_cons_succ]
    iterate 2 (refine Yae (by kernel_rfl) (fun x _=> by go_simp;try with_reducible rfl) ?_;simp only [Act.put,List.setIfInBounds_toArray,List.set_cons_zero,List.set_cons_succ])
    refine Qbi 51 _ C 4 [.int .i64 c.mx,.int .i64 c.my] _ (by kernel_rfl) rfl rfl (fun x hx=> HR2.out x hx) Tryz.underlying51 rfl (by kernel_rfl) ?_;simp only [Act.put,List.setIfInBounds_toArray,List.set_cons_zero,List.set_cons_succ]
    refine Ya8 (by kernel_rfl) CM.out (fun _=> by kernel_rfl) ?_;simp only [Act.put,List.setIfInBounds_toArray,List.set_cons_zero,List.set_cons_succ]
    iterate 2 (refine Yae (by kernel_rfl) (fun x _=> by go_simp;try with_reducible rfl) ?_;simp only [Act.put,List.setIfInBounds_toArray,List.set_cons_zero,List.set_cons_succ])
    refine Ycf fun x hx=> ?_
    go_wp2
    go_meet
    case rel=> exact ⟨(by rw [HV.out];first | done | rfl),hx⟩
  case rest=>
   obtain ⟨rfl,hbx⟩:=hcut
   clear hb0 CP CM K1 K6 hvm
   have hCx:=HC0.out _ hbx
   have hAx:=(hbx.block A (by omega)).trans hAk
   have hRx:=HRK.out.below hbx
   have hr2x:=HR2.out _ hbx
   have GX:Hid (Yaf (Ypr rb G (.slice vp vs.length vcap)) w wc):=Lib.hid (GK.out.trans (Yaf.below (L:=[]) hbx) (by simp))
   have HBX:=Lib.hid hbx
   have hzx:=hbx.size
   cases vmb with
   | false=>
    clear HC0 HR2 hbx
    go_wp2_with (first | (with_reducible refine wpList_load_row rfl 56 _ rfl C rfl 56 Z (0,0) _ hCx Tryz.underlying56 rfl HSZ ?_) | (with_reducible refine Yal rfl 56 _ _ rfl A Z Y rfl rfl 56 hAx HSZ HYZ HOZ ?_;intro wz hhz hgz))
    refine bodyPost_ret (Yan rfl _ _ A 56 _ (0,0) _ rfl hhz Tryz.underlying56 rfl HSZ) rfl ?_
    refine ⟨c,q,f,8,sl,HCT.out,by rw [if_neg (fun h=> h HF.out),if_pos HVM.out],by rw [HZ.out];rfl,HONE.out,?_,⟨q,hRx.rd.grown hgz (by omega)⟩,fun e=> by cases e⟩
    exact GX.out.trans (Yaf.one (L:=[some A]) hgz fun j _ e=> by rw [e];exact List.mem_singleton.2 rfl) fun j hj hm=> by have e:=List.mem_singleton.1 hm;injection e with e;have:=HA.out;omega
   | true=>
    clear HC0 HR2 hbx
    have hl:=hRx.lt
    have hCl:wA.heap.size≤C∧A+1≤C:=by omega
    have k6:=hRx.cell (o:=6) rfl
    obtain ⟨ti,j0,j1,j2,j3⟩:=Y0g
    have hb0:Below wc.heap.size wc wc.drew:=(Below.refl _ wc).drew
    have k6d:=(hRx.below hb0).cell (o:=6) rfl
    have hr2d:wc.drew.rangeAt C 4 [.int .i64 c.mx,.int .i64 c.my]:=hr2x
    go_wp2
    refine wp_region_any (by kernel_rfl) ?_
    change wpAny _ _ _ _ _ _ _ (World.drew _)
    refine Ybg 0 (some 53) (v:=?_) rfl rfl (by kernel_rfl) (by kernel_rfl) (by kernel_rfl) (fun _ _ _ h=> h) (Or.inl ⟨by kernel_rfl,?_⟩) ?_
    rotate_left
    ·(intro x;go_simp;try with_reducible rfl)
    rotate_right
    try simp only [Act.put,List.setIfInBounds_toArray,List.set_cons_zero,List.set_cons_succ]
    refine Ybg 1 (some 54) (v:=?_) rfl rfl (by kernel_rfl) (by kernel_rfl) (by kernel_rfl) (fun _ _ _ h=> h) (Or.inl ⟨by kernel_rfl,?_⟩) ?_
    rotate_left
    ·(intro x;go_simp;try with_reducible rfl)
    rotate_right
    try simp only [Act.put,List.setIfInBounds_toArray,List.set_cons_zero,List.set_cons_succ]
    refine Ybg 2 (some 55) (v:=?_) rfl rfl (by kernel_rfl) (by kernel_rfl) (by kernel_rfl) (fun _ _ _ h=> h) (Or.inl ⟨by kernel_rfl,?_⟩) ?_
    rotate_left
    ·(intro x;go_simp;try with_reducible rfl)
    rotate_right
    try simp only [Act.put,List.setIfInBounds_toArray,List.set_cons_zero,List.set_cons_succ]
    refine Ybg 3 (some 56) (v:=?_) rfl rfl (by kernel_rfl) (by kernel_rfl) (by kernel_rfl) (fun _ _ _ h=> h) (Or.inl ⟨by kernel_rfl,?_⟩) ?_
    rotate_left
    ·(intro x;go_simp;try with_reducible rfl)
    rotate_right
    try simp only [Act.put,List.setIfInBounds_toArray,List.set_cons_zero,List.set_cons_succ]
    refine Ybg 5 (some 58) (v:=?_) rfl rfl (by kernel_rfl) (by kernel_rfl) (by kernel_rfl) (fun _ _ _ h=> h) (Or.inl ⟨by kernel_rfl,?_⟩) ?_
    rotate_left
    ·(intro x;go_simp;try with_reducible rfl)
    rotate_right
    try simp only [Act.put,List.setIfInBounds_toArray,List.set_cons_zero,List.set_cons_succ]
    refine Yzu (S:=fun x=> x.cell? ⟨G,6,none⟩=some (.slice vp vs.length vcap)) 4 6 7 (some 57) (v:=.slice vp vs.length vcap) rfl rfl rfl rfl (by kernel_rfl) (by kernel_rfl) (by kernel_rfl) (fun _ _ _ h=> h) (by kernel_rfl) (by kernel_rfl) (by kernel_rfl) (by kernel_rfl) (by kernel_rfl) (by decide) (by decide) k6d (Or.inl ⟨by kernel_rfl,?_⟩) ?_
    ·(intro x hx;have c0:=(show x.cell? ⟨G,6,none⟩=some (.slice vp vs.length vcap) from hx);go_simp)
    try simp only [Act.put,List.setIfInBounds_toArray,List.set_cons_zero,List.set_cons_succ]
    refine wpOp_step rfl (fun K hK=> ?_)
    have HK:=Lib.hid hK
    clear hK
    refine (if_pos (by kernel_rfl)).mpr ?_
    refine wp_load_mid 51 _ rfl C 4 rfl [.int .i64 c.mx,.int .i64 c.my] _ hr2d Tryz.underlying51 rfl (by kernel_rfl) ?_
    refine HK.out _ _ ⟨k6d,?_⟩
    clear HK K
    try simp only [Act.put,List.setIfInBounds_toArray]
    refine wpOp_step rfl (fun K hK=> ?_)
    have HK:=Lib.hid hK
    clear hK
    go_simp
    obtain ⟨wP,hwP⟩:∃wP,(wc.alloc (.cells #[.int .i64 c.mx,.int .i64 c.my] 51 (0,0))).drew=wP:=⟨_,rfl⟩
    have hbP:Below wc.heap.size wc wP:=by rw [←hwP];exact ((Below.refl _ wc).alloc (Nat.le_refl _) _).drew
    have hPP:wP.heap[wc.heap.size]? = some (.cells ([Value.int .i64 c.mx,.int .i64 c.my]:List Value).toArray 51 (0,0)):=by rw [←hwP];exact heap_alloc_new wc _
    have hRP:=hRx.below hbP
    have HP0:=Yaa (o:=0) hPP rfl
    have HP1:=Yaa (o:=1) hPP rfl
    have hzP:=hbP.size
    rw [hwP]
    refine HK.out _ _ ⟨hRP.cell (o:=6) rfl,?_⟩
    clear HK K hwP k6d hr2d hb0 k6
    refine wpAny_ready (rs:=[8]) (by kernel_rfl) (by simp) ?_
    refine AllReady.cons rfl (fun K hK=> ?_) AllReady.nil
    refine (if_pos (by kernel_rfl)).mpr ?_
    refine Ymt (v:=.slice vp vs.length vcap) rfl Tryz.underlying73 j0 j1 rfl j2 j3 rfl hRP.vec rfl HP0 HP1 (by omega) ?_
    intro q8 cap8 w8 ho8 hg8 hw8
    refine hK _ _ ?_
    clear hK K HP0 HP1 hPP j0 j1 j2 j3
    have hR9:=hRP.vecs (v:=(c.mx,c.my)) hg8 ho8 hw8
    have hz8:=hg8.size
    have hG8:w8.heap[G]? = some (.cells (Qgh rb k inter (.slice vp vs.length vcap) first).toArray 113 (0,0)):=(hg8.block G (by omega) fun e=> (hRP.ne.2 G e.symm).1 rfl).trans hRP.blk
    have k6:=Yaa (o:=6) hG8 rfl
    have f6:=Yag (o:=6) hG8
    have hvl:=HAL.out.2.2
    have hC8:w8.heap[C]? = some (.cells Z 56 (0,0)):=(hg8.block C (by omega) fun e=> by have:=hvl C e.symm;omega).trans ((hbP.block C (by omega)).trans hCx)
    have hA8:w8.heap[A]? = some (.cells Y 56 (0,0)):=(hg8.block A (by omega) fun e=> by have:=hvl A e.symm;omega).trans ((hbP.block A (by omega)).trans hAx)
    have hC9:(w8.setCell ⟨G,6,none⟩ (.slice q8 (vs.length+1) cap8)).heap[C]? = some (.cells Z 56 (0,0)):=by rw [Below.heap_setCell _ _ _ _ (show C≠G by omega)];exact hC8
    have hA9:(w8.setCell ⟨G,6,none⟩ (.slice q8 (vs.length+1) cap8)).heap[A]? = some (.cells Y 56 (0,0)):=by rw [Below.heap_setCell _ _ _ _ (show A≠G by omega)];exact hA8
    have g9:=Yaf.set (w:=w8) (p:=⟨G,6,none⟩) (L:=[some G]) (.slice q8 (vs.length+1) cap8) (List.mem_singleton.2 rfl)
    clear hG8 hC8 hA8
    refine Ybg 9 (some 62) (v:=?_) rfl rfl (by kernel_rfl) (by kernel_rfl) (by kernel_rfl) (fun _ _ _ h=> h) (Or.inl ⟨by kernel_rfl,?_⟩) ?_
    rotate_left
    ·(intro x;go_simp;try with_reducible rfl)
    rotate_right
    try simp only [Act.put,List.setIfInBounds_toArray]
    refine Ybg 10 (some 63) (v:=?_) rfl rfl (by kernel_rfl) (by kernel_rfl) (by kernel_rfl) (fun _ _ _ h=> h) (Or.inl ⟨by kernel_rfl,?_⟩) ?_
    rotate_left
    ·(intro x;go_simp;try with_reducible rfl)
    rotate_right
    try simp only [Act.put]
    refine wpAny_ready (rs:=[11]) (by kernel_rfl) (by simp) ?_
    refine AllReady.cons rfl (fun K hK=> ?_) AllReady.nil
    go_simp
    generalize w8.setCell ⟨G,6,none⟩ (.slice q8 (vs.length+1) cap8)=w9 at *
    refine hK _ _ ?_
    clear hK K k6 f6
    refine wpAny_done (by kernel_rfl) ?_ _
    go_wp2_with (first | (with_reducible refine wpList_load_row rfl 56 _ rfl C rfl 56 Z (0,0) _ hC9 Tryz.underlying56 rfl HSZ ?_) | (with_reducible refine Yal rfl 56 _ _ rfl A Z Y rfl rfl 56 hA9 HSZ HYZ HOZ ?_;intro wz hhz hgz))
    refine bodyPost_ret (Yan rfl _ _ A 56 _ (0,0) _ rfl hhz Tryz.underlying56 rfl HSZ) rfl ?_
    have hAe:=HA.out
    have gM:Yaf [(Value.slice vp vs.length vcap).ownBlock,some G,some A] wc wz:=by
     have g1:Yaf [(Value.slice vp vs.length vcap).ownBlock,some G,some A] wc wP:=Yaf.below hbP
     have g2:=g1.trans (M:=[(Value.slice vp vs.length vcap).ownBlock]) (Yaf.one hg8 fun j _ e=> by rw [e];exact List.mem_singleton.2 rfl) fun j _ hm=> by rw [List.mem_singleton.1 hm];exact List.mem_cons_self ..
     have g3:=g2.trans g9 fun j _ hm=> by rw [List.mem_singleton.1 hm];exact List.mem_cons_of_mem _ (List.mem_cons_self ..)
     exact g3.trans (M:=[some A]) (Yaf.one hgz fun j _ e=> by rw [e];exact List.mem_singleton.2 rfl) fun j _ hm=> by rw [List.mem_singleton.1 hm];exact List.mem_cons_of_mem _ (List.mem_cons_of_mem _ (List.mem_cons_self ..))
    have hMl:∀j,some j∈[(Value.slice vp vs.length vcap).ownBlock,some G,some A]→j<A+1:=fun j hm=> by
     rcases List.mem_cons.1 hm with e | hm
     ·have:=hvl j e.symm;omega
     ·rcases List.mem_cons.1 hm with e | hm
      ·injection e with e;omega
      ·have e:=List.mem_singleton.1 hm;injection e with e;omega
    refine ⟨c,q,f,0,sl,HCT.out,by rw [if_neg (fun h=> h HF.out),if_neg (by rw [HVM.out];decide)],by rw [HZ.out];rfl,HONE.out,?_,⟨q,hR9.rd.grown hgz (by omega)⟩,fun _=> ⟨.slice q8 (vs.length+1) cap8,hR9.put hgz ⟨by omega,by omega,fun j hj=> ?_⟩,fun j hj=> ?_,fun L hL=> ?_⟩⟩
    ·refine GX.out.trans gM fun j hj hm=> ?_
     rcases List.mem_cons.1 hm with e | hm
     ·rw [e];exact List.mem_cons_of_mem _ (List.mem_cons_of_mem _ (List.mem_cons_self ..))
     ·rcases List.mem_cons.1 hm with e | hm
      ·rw [e];exact List.mem_cons_of_mem _ (List.mem_cons_self ..)
      ·have e:=List.mem_singleton.1 hm;injection e with e;omega
    ·rcases hw8 j hj with h2 | h2
     ·have:=hvl j h2;omega
     ·omega
    ·rcases hw8 j hj with h2 | h2
     ·exact .inl h2
     ·exact .inr (by omega)
    ·obtain ⟨pf,cf,hpc⟩:=Qc1 HEV.out
     have hbx:=HBX.out
     refine ⟨pf,cf,Qbm fun i hi=> (hpc i hi).1,⟨Y1q hm.1.1 hm.1.2,Y1q hm.2.1 hm.2.2⟩,fun i hi=> ⟨by have:=HEL.out i;unfold maxLen;omega,?_⟩⟩
     obtain ⟨-,h2,h3⟩:=hpc i hi
     obtain ⟨h4,h5⟩:=h2.1.from (L:=[(Value.slice vp vs.length vcap).ownBlock,some G,some A]) h3 fun j hm=> by have:=hMl j hm;omega
     have h6:=(Yr2.below ⟨h4,h5⟩ hbx).keptL gM fun j h=> h
     refine ⟨h6.1,?_⟩
     rcases h4 with h4 | ⟨b,o,e,hlt,-⟩
     ·exact .inl (by first | exact h4 | exact List.eq_nil_of_length_eq_zero h4)
     ·refine .inr ⟨b,o,e,fun hm=> ?_⟩
      have h7:=h3 _ e
      simp only at h7
      rcases List.mem_cons.1 hm with e2 | e2
      ·rcases hw8 b e2.symm with h8 | h8
       ·have:=hvl b h8;omega
       ·omega
      ·have:=hL b e2;omega
end
section
variable {N:Nat} {w:World} {G rb p:Nat} {s:ByteArray} {k:Int} {inter:Bool} {vv:Value} {vs:List (Int×Int)} {first:Int}
set_option maxRecDepth 100000 in
set_option maxHeartbeats 8000000 in
theorem Y3r (i:Nat) (h:Ych w G rb s p k inter vv vs first) (ht:Ybf N w) (hN:N≤rb) (hNG:N≤G) (hNv:∀j,vv.ownBlock=some j→N≤j) (hn:vs.length≤1000000) (hs:s.size≤1073741824) (hi:i≤1000):
  Calls Tryz.prog 80 #[.pointer (some ⟨G,0,none⟩),.int .i64 (i:Int)] w (Y1w s G rb p k inter vv vs first i w):=by
 have hzr:=Ylv
 obtain ⟨Y,hY⟩:∃Y:Array Value,[Value.bool false,.int .i64 0,.int .i64 0,.slice none 0 0].toArray=Y:=⟨_,rfl⟩
 rw [hY] at hzr
 obtain ⟨Yc,HYC,hzc⟩:=Yfe
 obtain ⟨A,hA⟩:∃A,w.heap.size=A:=⟨_,rfl⟩
 obtain ⟨wA,hwA⟩:∃wA,w.alloc (.cells Y 59 (0,0))=wA:=⟨_,rfl⟩
 have hhA:wA.heap[A]? = some (.cells Y 59 (0,0)):=by rw [←hwA,←hA];exact heap_alloc_new w _
 have hbA:Below w.heap.size w wA:=by rw [←hwA];exact (Below.refl _ w).alloc (Nat.le_refl _) _
 have hsA:wA.heap.size=A+1:=by rw [←hwA,←hA];simp
 have hlt:=h.lt
 have ch:=Yyh i (h.below hbA) hs hi
 have HTB:Hid (∀x,Yaf (Ypr rb G vv) w x→Ybf N x):=Lib.hid fun x hx=> ht.below (hx.under (by omega) fun j hj=> by
  rcases Yc7.1 hj with e | e | e
  ·omega
  ·omega
  ·exact hNv j e)
 have HYS:Y.size=4:=by rw [←hY];rfl
 have HWA:=Lib.hid hwA
 have HA:=Lib.hid hA
 have HLT:=Lib.hid hlt
 have HBA:=Lib.hid hbA
 have hlA:G<A∧rb<A:=⟨by omega,by omega⟩
 clear hwA hA h ht hNv hlt hbA hNG hi hY
 go_enter Tryz.func80,Tryz.ntmps80
 go_wp2_with fail
 rw [HWA.out,HA.out]
 refine ch.mono ?_
 rintro e w1 ⟨b,id,qu,z,fs,f,hrh,rfl,hR1,hg1⟩
 have hA1:=(hg1.block A (by omega) (fun hm=> by
  rcases List.mem_cons.1 hm with e | e
  ·injection e with e;omega
  ·have e:=List.mem_singleton.1 e;injection e with e;omega)).trans hhA
 have hz1:=hg1.size
 obtain ⟨X,hX⟩:∃X,w1.heap.size=X:=⟨_,rfl⟩
 obtain ⟨Z,hZ⟩:∃Z,[Value.bool b,.int .i64 id,.int .i64 qu,.slice none 0 0].toArray=Z:=⟨_,rfl⟩
 have hZ2:#[Value.bool b,.int .i64 id,.int .i64 qu,.slice none 0 0]=Z:=hZ
 rw [hZ2]
 obtain ⟨w2,hw2⟩:∃w2,w1.alloc (.cells Z 59 (0,0))=w2:=⟨_,rfl⟩
 have hb2:Below w1.heap.size w1 w2:=by rw [←hw2];exact (Below.refl _ w1).alloc (Nat.le_refl _) _
 have hX2:w2.heap[X]? = some (.cells Z 59 (0,0)):=by rw [←hw2,←hX];exact heap_alloc_new w1 _
 have hs2:w2.heap.size=X+1:=by rw [←hw2,←hX];simp
 have hA2:=(hb2.block A (by omega)).trans hA1
 have HSZ:(Tryz.prog.info? 59).map (·.size)=some Z.size:=by rw [←hZ];kernel_rfl
 have HYZ:Y.size=Z.size:=by rw [HYS,←hZ];rfl
 have HOZ:Z.all (·.oneCell')=true:=by rw [←hZ];simp [Value.oneCell']
 have G2:Hid (Yaf (Ypr rb G vv) w w2):=Lib.hid (((Yaf.below HBA.out).trans hg1 fun j _ hm=> by
  rcases List.mem_cons.1 hm with e | e
  ·rw [e];exact List.mem_cons_self ..
  ·rw [List.mem_singleton.1 e];exact List.mem_cons_of_mem _ (List.mem_cons_self ..)).trans (Yaf.below (L:=[]) hb2) (by simp))
 have hR2:=hR1.below hb2
 obtain ⟨⟨Ec,Eq,Eh⟩,hE⟩:∃E,Yd4 ctk s.data.toList inter k fs (Yg2 k).toNat z vs=E:=⟨_,rfl⟩
 have HX:=Lib.hid hX
 have HZ:=Lib.hid hZ
 have HW2:=Lib.hid hw2
 have HRH:=Lib.hid hrh
 have HE:=Lib.hid hE
 clear hX hZ hZ2 hw2 hrh hE hg1 hR1 hA1 hhA ch
 by_cases hf:f=0
 case neg=>
  have tf:(f != 0)=true:=by rw [bne_iff_ne];exact hf
  have HF:=Lib.hid hf
  clear hf
  go_wp2_with (first | (with_reducible refine Yaj rfl 59 _ _ rfl Z Y 59 rfl rfl HSZ HYZ HOZ ?_;rw [HW2.out,HX.out]) | (with_reducible refine wpList_load_row rfl 59 _ rfl X rfl 59 Z (0,0) _ hX2 Tryz.underlying59 rfl HSZ ?_) | (with_reducible refine Yal rfl 59 _ _ rfl A Z Y rfl rfl 59 hA2 HSZ HYZ HOZ ?_;intro wz hhz hgz))
  refine bodyPost_ret (Yan rfl _ _ A 59 _ (0,0) _ rfl hhz Tryz.underlying59 rfl HSZ) rfl ?_
  refine ⟨b,id,qu,z,fs,f,Ec,Eq,Eh,f,HRH.out,HE.out,by rw [if_pos HF.out],_,by rw [HZ.out];rfl,⟨rfl,fun u hu=> ?_⟩,?_,⟨_,hR2.rd.grown hgz (by omega)⟩,fun e=> absurd e HF.out⟩
  ·simp only [List.mem_cons,List.not_mem_nil,or_false] at hu
   rcases hu with rfl | rfl | rfl | rfl <;> rfl
  ·exact G2.out.trans (Yaf.one (L:=[some A]) hgz fun j _ e=> by rw [e];exact List.mem_singleton.2 rfl) fun j hj hm=> by have e:=List.mem_singleton.1 hm;injection e with e;have:=HA.out;omega
 subst hf
 have tf:((0:Int) != 0)=false:=rfl
 have hro2:Yxn w w2 G rb A X s z k inter vv vv (.slice none 0 0) vs fs Y b id qu []:={
  rdr:=hR2
  res:=hA2
  row:=by rw [HZ.out];exact hX2
  cel:=Yhj.nil _ _
  ord:=by have:=HA.out;have:=HX.out;omega
  low:=HLT.out
  own:=fun j hj=> ⟨.inl hj,by have:=HLT.out.2.2 j hj;have:=HA.out;have:=HX.out;omega⟩
  cown:=fun j hj=> by cases hj
  grown:=G2.out}
 have k3:=Lib.hid (fun (x:World) (hx:Below w2.heap.size w2 x)=> (hR2.below hx).cell (o:=3) rfl)
 have k4:=Lib.hid (fun (x:World) (hx:Below w2.heap.size w2 x)=> (hR2.below hx).cell (o:=4) rfl)
 obtain ⟨M,hM⟩:∃M:Nat,(Yg2 k).toNat=M:=⟨_,rfl⟩
 have hMn:Yg2 k=(M:Int)∧M≤10000:=by have:=Yh7 k;have:=(Qb9 k).1;omega
 have wm:IntKind.i64.wrap (Yjo k*Ydt k)=(M:Int):=by
  rw [show Yjo k*Ydt k=Yg2 k from Int.mul_comm _ _,hMn.1]
  exact Yhg (by omega)
 have hM4:=hMn.2
 have T0:Hid (Ycm (Ec,Eq,Eh) [] (Yd4 ctk s.data.toList inter k fs M z vs)):=Lib.hid (by rw [←hM,HE.out];exact Ycm.start _)
 have hb0:Below w2.heap.size w2 w2:=Below.refl _ _
 clear hM hMn hR2 hX2 hA2 hs2 hb2
 generalize Yjo k=fl at *
 generalize Ydt k=fa at *
 go_upto_region 4 with (with_reducible refine Yaj rfl 59 _ _ rfl Z Y 59 rfl rfl HSZ HYZ HOZ ?_;rw [HW2.out,HX.out])
 refine Yaz (S:=fun x=> Below w2.heap.size w2 x) 10 (by kernel_rfl) (by kernel_rfl) hb0.drew ?_
 simp only [List.take_succ_cons,List.take_zero,List.drop_succ_cons,List.drop_zero]
 iterate 3 (refine Yae (by kernel_rfl) (fun x _=> by go_simp;try with_reducible rfl) ?_;simp only [Act.put,List.setIfInBounds_toArray,List.set_cons_zero,List.set_cons_succ])
 refine Ya2 3 _ ⟨G,3,none⟩ (.int .i64 fl) (by kernel_rfl) rfl rfl (fun x hx=> by have c0:=k3.out x hx;go_simp) ?_;simp only [Act.put,List.setIfInBounds_toArray,List.set_cons_zero,List.set_cons_succ]
 iterate 3 (refine Yae (by kernel_rfl) (fun x _=> by go_simp;try with_reducible rfl) ?_;simp only [Act.put,List.setIfInBounds_toArray,List.set_cons_zero,List.set_cons_succ])
 refine Ya2 3 _ ⟨G,4,none⟩ (.int .i64 fa) (by kernel_rfl) rfl rfl (fun x hx=> by have c0:=k4.out x hx;go_simp) ?_;simp only [Act.put,List.setIfInBounds_toArray,List.set_cons_zero,List.set_cons_succ]
 iterate 2 (refine Yae (by kernel_rfl) (fun x _=> by go_simp;try with_reducible rfl) ?_;simp only [Act.put,List.setIfInBounds_toArray,List.set_cons_zero,List.set_cons_succ])
 refine Ycf fun w3 hb3=> ?_
 have hro3:=hro2.below hb3
 clear hro2 hb3 hb0 k3 k4 HW2 HX G2 wm
 go_wp2
 go_loopw [29] (fun t wx=>∃(j q2:Nat) (cs:List Cel) (vv2 cv:Value) (vz:List (Int×Int)),t = .int .i64 (j:Int)∧j≤M∧Yxn w wx G rb A X s q2 k inter vv vv2 cv vz fs Y b id qu cs∧Hid (cs.length=j)∧Hid (vz=vs++Yd0 cs)∧Hid (Ycm (Ec,Eq,Eh) cs (Yd4 ctk s.data.toList inter k fs (M-j) q2 vz))) (fun t _=> M-(intOf t).toNat)
 case atStart=> exact ⟨0,z,[],vv,_,vs,rfl,Nat.zero_le _,hro3,Lib.hid rfl,Lib.hid (by simp [Yd0]),T0⟩
 case round=>
  clear hro3 T0
  obtain ⟨j,q2,cs,vv2,cv,vz,rfl,hj,hro,hcl,hvz,hT⟩:=hrel
  have HSQ:Hid ((Tryz.prog.info? 59).map (·.size)=some ([Value.bool b,.int .i64 id,.int .i64 qu,cv]:List Value).toArray.size):=Lib.hid (by kernel_rfl)
  have hcv1:cv.oneCell'=true:=(Yfk hro.cel.choose_spec.2).2.2
  obtain ⟨Z2,hZ2⟩:∃Z2,([Value.bool b,.int .i64 id,.int .i64 qu,cv]:List Value).toArray=Z2:=⟨_,rfl⟩
  have HSZ:(Tryz.prog.info? 59).map (·.size)=some Z2.size:=by rw [←hZ2];exact HSQ.out
  have HYZ:Y.size=Z2.size:=by rw [HYS,←hZ2];rfl
  have hone4:∀u∈([Value.bool b,.int .i64 id,.int .i64 qu,cv]:List Value),u.oneCell'=true:=by
   intro u hu
   simp only [List.mem_cons,List.not_mem_nil,or_false] at hu
   rcases hu with rfl | rfl | rfl | rfl
   ·rfl
   ·rfl
   ·rfl
   ·exact hcv1
  have HOZ:Z2.all (·.oneCell')=true:=by
   rw [←hZ2,Array.all_eq_true_iff_forall_mem]
   exact fun v hv=> hone4 v (by simpa using hv)
  have HZ2:=Lib.hid hZ2
  have HON:=Lib.hid hone4
  clear hZ2 hone4 hcv1 HSQ
  by_cases hlt:j<M
  ·have t1:decide ((j:Int)<(M:Int))=true:=by simp;omega
   have hvl:vz.length≤1048575:=by rw [hvz.out,List.length_append];unfold Yd0;rw [List.length_map,hcl.out];omega
   have cc:=Yxw hro.rdr (HTB.out _ hro.grown) hN hvl
   go_wp2_with fail
   refine cc.mono ?_
   rintro e w4 ⟨c,q3,f3,g,sl,hct,hg,rfl,hone,hgr,⟨q',hrd⟩,hok⟩
   clear cc
   obtain ⟨C,hC⟩:∃C,w4.heap.size=C:=⟨_,rfl⟩
   obtain ⟨Zc,hZc⟩:∃Zc,(Yba c sl).toArray=Zc:=⟨_,rfl⟩
   rw [hZc]
   obtain ⟨w5,hw5⟩:∃w5,w4.alloc (.cells Zc 56 (0,0))=w5:=⟨_,rfl⟩
   have hb5:Below w4.heap.size w4 w5:=by rw [←hw5];exact (Below.refl _ w4).alloc (Nat.le_refl _) _
   have hC5:w5.heap[C]? = some (.cells Zc 56 (0,0)):=by rw [←hw5,←hC];exact heap_alloc_new w4 _
   have HSC:(Tryz.prog.info? 56).map (·.size)=some Zc.size:=by rw [←hZc,show (Yba c sl).toArray.size=18 from rfl];kernel_rfl
   have HYCZ:Yc.size=Zc.size:=by rw [HYC,←hZc];rfl
   have HOC:Zc.all (·.oneCell')=true:=hZc▸Yj1 _ _ hone
   have HC:=Lib.hid hC
   have HZC:=Lib.hid hZc
   have HW5:=Lib.hid hw5
   have hb:=hro.bad hgr
   have hz4:=hgr.size
   have ho:=hro.ord
   clear hC hZc hw5 hone
   by_cases hg0:g=0
   case neg=>
    have tg:(g != 0)=true:=by rw [bne_iff_ne];exact hg0
    obtain ⟨hb1,hb2,hb3⟩:=hb
    have hA5:=(hb5.block A (by omega)).trans hb1
    have hX5:=(hb5.block X (by omega)).trans hb2
    rw [HZ2.out] at hX5
    have EH:Hid (Eh=g):=Lib.hid (by
     have h1:=hT.out
     rw [show M-j=(M-j-1)+1 by omega] at h1
     by_cases hf3:f3=0
     ·rw [if_neg (fun h=> h hf3)] at hg
      by_cases hv:Yct k vz.length c=false
      ·rw [if_pos hv] at hg
       rw [hg]
       exact Y56 h1 (by rw [hct,hf3]) hv
      ·rw [if_neg hv] at hg
       exact absurd hg hg0
     ·rw [if_pos hf3] at hg
      rw [hg]
      exact Y55 h1 hct hf3)
    have G5:=Lib.hid (hb3.trans (Yaf.below (L:=[]) hb5) (by simp))
    have hr5:=hrd.below hb5
    have HG0:=Lib.hid hg0
    have hz5:=hb5.size
    clear hg0 hg hok hro hT hcl hvz hct hb1 hb2 hb3 hrd hgr hvl
    go_wp2_with (first | (with_reducible refine Yaj rfl 56 _ _ rfl Zc Yc 56 rfl rfl HSC HYCZ HOC ?_;rw [HW5.out,HC.out]) | (with_reducible refine wpList_load_row rfl 59 _ rfl X rfl 59 Z2 (0,0) _ hX5 Tryz.underlying59 rfl HSZ ?_) | (with_reducible refine Yal rfl 59 _ _ rfl A Z2 Y rfl rfl 59 hA5 HSZ HYZ HOZ ?_;intro wz hhz hgz))
    refine bodyPost_ret (Yan rfl _ _ A 59 _ (0,0) _ rfl hhz Tryz.underlying59 rfl HSZ) rfl ?_
    refine ⟨b,id,qu,z,fs,0,Ec,Eq,Eh,g,HRH.out,HE.out,by rw [if_neg (fun h=> h rfl),EH.out],_,by rw [HZ2.out];rfl,⟨rfl,HON.out⟩,?_,⟨_,hr5.grown hgz (by omega)⟩,fun e=> absurd e HG0.out⟩
    exact G5.out.trans (Yaf.one (L:=[some A]) hgz fun j _ e=> by rw [e];exact List.mem_singleton.2 rfl) fun j hj hm=> by have e:=List.mem_singleton.1 hm;injection e with e;have:=HA.out;omega
   have tg:(g != 0)=false:=by rw [hg0];rfl
   have hf3:f3=0:=by
    by_cases h1:f3=0
    ·exact h1
    ·rw [if_pos h1] at hg;exact absurd (hg.symm.trans hg0) h1
   have hvm:Yct k vz.length c=true:=by
    rw [if_neg (fun h=> h hf3)] at hg
    cases hv:Yct k vz.length c with
    | true=> rfl
    | false=> rw [if_pos hv,hg0] at hg;cases hg
   obtain ⟨vv3,hR4,hw3,hcF⟩:=hok hg0
   have hT5:Hid (Ycm (Ec,Eq,Eh) (cs ++ [c]) (Yd4 ctk s.data.toList inter k fs (M-(j+1)) q3 (vz ++ [(c.mx,c.my)]))):=Lib.hid (by
    have h1:=hT.out
    rw [show M-j=(M-(j+1))+1 by omega] at h1
    exact Y2g h1 (by rw [hct,hf3]) hvm)
   have hro4:=hro.cell hR4 hgr hw3
   have hro5:=hro4.below hb5
   have hcl4:Yk7 (Y01 A X w.heap.size vv3 cv) w4 c (Yba c sl):=hcF (some A::some X::cv.ownBlock::Qg3 w.heap.size) fun j hm=> by
    have hws:=hro.grown.size
    rcases List.mem_cons.1 hm with e | hm
    ·injection e with e;omega
    ·rcases List.mem_cons.1 hm with e | hm
     ·injection e with e;omega
     ·rcases List.mem_cons.1 hm with e | hm
      ·exact Yfp.lt hro.cel j e.symm
      ·have:=Yna.1 hm;omega
   have hcl5:Yk7 (Y01 A X w.heap.size vv3 cv) w5 c (Yba c sl):=hcl4.kept (Yai hb5 none) fun j hj=> by cases hj
   obtain ⟨wQ,hwQ⟩:∃wQ,w5.alloc (.cells (Yba c sl).toArray 56 (0,0))=wQ:=⟨_,rfl⟩
   obtain ⟨Q,hQ⟩:∃Q,w5.heap.size=Q:=⟨_,rfl⟩
   have hbQ:Below w5.heap.size w5 wQ:=by rw [←hwQ];exact (Below.refl _ w5).alloc (Nat.le_refl _) _
   have hQQ:wQ.heap[Q]? = some (.cells (Yba c sl).toArray 56 (0,0)):=by rw [←hwQ,←hQ];exact heap_alloc_new w5 _
   have hroQ:=hro5.below hbQ
   have hcelQ:Yk7 (Y01 A X w.heap.size vv3 cv) wQ c (Yba c sl):=hcl5.kept (Yai hbQ none) fun j hj=> by cases hj
   have h1c:=(Yk7.shape hcelQ).2
   have h18:=(Yk7.shape hcelQ).1
   have hcD:∀(j:Nat) u,(Yba c sl)[j]? = some u→wQ.cell? ⟨Q,j,none⟩=some u:=fun j u hu=> Yaa hQQ hu
   have hX5:=hro5.row
   have c30:=Yaa (o:=3) hX5 rfl
   obtain ⟨ri,rz,j0,j1,j2,j3,j4⟩:=Qbk
   have hcn:cs.length≤10000:=by have:=hcl.out;omega
   have hC6:w5.heap[C]? = some (.cells (Yba c sl).toArray 56 (0,0)):=by rw [HZC.out];exact hC5
   have HSL:(Tryz.prog.info? 56).map (·.size)=some (Yba c sl).toArray.size:=by rw [HZC.out];exact HSC
   have HWQ:=Lib.hid hwQ
   have HQ:=Lib.hid hQ
   have HCD:=Lib.hid hcD
   have HRQ:=Lib.hid hroQ
   have HR4:=Lib.hid hR4.rd
   clear hwQ hQ hcD hbQ hQQ hro hro4 hro5 hcl4 hcl5 hcF hok hgr hrd hb hg hct hT hg0 hf3 hvm hw3 hR4 hX5 hvl
   go_wp2_with (first | (with_reducible refine Yaj rfl 56 _ _ rfl Zc Yc 56 rfl rfl HSC HYCZ HOC ?_;rw [HW5.out,HC.out]) | (with_reducible refine wpList_load_row rfl 56 _ rfl C (by kernel_rfl) 56 (Yba c sl).toArray (0,0) _ hC6 Tryz.underlying56 rfl HSL ?_) | (with_reducible refine Yqb rfl _ rfl c sl (by kernel_rfl) ?_;rw [HWQ.out,HQ.out]) | (at_builtin;refine Yk1 (V:=Yk7 (Y01 A X w.heap.size vv3 cv) wQ) (w:=wQ) (c:=18) (bytes:=240) (base:=0) (v:=cv) (l:=cs) (y:=c) (vs:=Yba c sl) (K:=Q) (cap:=1) rfl rfl Tryz.underlying57 j0 j1 j2 j3 j4 (by decide) ?d1 ?d2 HRQ.out.cel hcelQ h18 h1c HCD.out ?d3 ?d4 (Nat.zero_le _) ?_;(case d1=> kernel_rfl);(case d2=> kernel_rfl);(case d3=> (unfold maxLen;omega));(case d4=> omega);intro q9 cap9 w9 ho9 hg9 hw9;have hro9:=HRQ.out.app hg9 ho9 hw9;have hR9:=(hg9.block X HRQ.out.ord.2.2 fun e=> (HRQ.out.cown X e.symm).2.2.1 rfl).trans HRQ.out.row;have c6:=Yaa (o:=3) hR9 rfl;have c7:=Yag (o:=3) hR9))
   go_roundw
   case rel=> exact ⟨j+1,q3,cs ++ [c],vv3,_,vz ++ [(c.mx,c.my)],by go_num,by omega,hro9,Lib.hid (by rw [List.length_append,hcl.out];rfl),Lib.hid (by rw [hvz.out];simp [Yd0]),hT5⟩
   case measure=> simp [intOf];omega
  ·have t1:decide ((j:Int)<(M:Int))=false:=by simp;omega
   obtain rfl:M=j:=by omega
   have hE2:Hid (Ec=cs∧Eq=q2∧Eh=0):=Lib.hid (by
    have h1:=hT.out
    rw [Nat.sub_self] at h1
    have h2:=h1.done
    injection h2 with e1 h2
    injection h2 with e2 e3
    exact ⟨e1,e2,e3⟩)
   have hA5:=hro.res
   have hX5:=hro.row
   rw [HZ2.out] at hX5
   have HRO:=Lib.hid hro
   have hcn:cs.length≤10000:=by have:=hcl.out;omega
   clear hro hT
   go_wp2_with (first | (with_reducible refine wpList_load_row rfl 59 _ rfl X rfl 59 Z2 (0,0) _ hX5 Tryz.underlying59 rfl HSZ ?_) | (with_reducible refine Yal rfl 59 _ _ rfl A Z2 Y rfl rfl 59 hA5 HSZ HYZ HOZ ?_;intro wz hhz hgz))
   refine bodyPost_ret (Yan rfl _ _ A 59 _ (0,0) _ rfl hhz Tryz.underlying59 rfl HSZ) rfl ?_
   obtain ⟨hd1,hd2,hd3,hd4⟩:=HRO.out.done (by unfold maxLen;omega) hgz
   obtain ⟨rfl,rfl,rfl⟩:=hE2.out
   refine ⟨b,id,qu,z,fs,0,_,_,0,0,HRH.out,HE.out,rfl,_,by rw [HZ2.out];rfl,⟨rfl,HON.out⟩,hd3,⟨_,hd1.rd⟩,fun _=> ⟨vv2,?_,hd2,hd4⟩⟩
   rw [←hvz.out]
   exact hd1
end
theorem Yuo {ct:CelT} {l:List UInt8} {inter:Bool} {k first:Int}:∀(n p:Nat) (vs:List (Int×Int)) (cs:List Cel) (q:Nat),Yd4 ct l inter k first n p vs=(cs,q,0)→cs.length=n
 | 0,p,vs,cs,q,h=> by
  rw [Yd4] at h
  injection h with e1 _
  subst e1
  rfl
 | n+1,p,vs,cs,q,h=> by
  rw [Yd4] at h
  obtain ⟨⟨c,z,f⟩,hc⟩:∃r,ct inter (Yac l) (Yd5 vs (Ydt k) first).1 (Yd5 vs (Ydt k) first).2 p=r:=⟨_,rfl⟩
  rw [hc] at h
  simp only at h
  by_cases hf:f=0
  case neg=>
   rw [if_pos hf] at h
   injection h with _ h
   injection h with _ h
   exact absurd h hf
  rw [if_neg (fun x=> x hf)] at h
  cases hv:Yct k vs.length c with
  | false=> rw [hv,if_pos rfl] at h;cases h
  | true=>
   rw [hv,if_neg (by decide)] at h
   obtain ⟨⟨cs',y,g⟩,hr⟩:∃r,Yd4 ct l inter k first n z (vs ++ [(c.mx,c.my)])=r:=⟨_,rfl⟩
   rw [hr] at h
   simp only at h
   by_cases hg:g=0
   case neg=>
    rw [if_pos hg] at h
    injection h with _ h
    injection h with _ h
    exact absurd h hg
   rw [if_neg (fun x=> x hg)] at h
   subst hg
   injection h with e1 h
   subst e1
   rw [List.length_cons,Yuo n z _ cs' y hr]
def Yzr (s:ByteArray) (rb p:Nat) (w:World) (e:Ending) (w':World):Prop:=
 ∃vs:List Value,e = .returned (.tuple #[.agg vs.toArray,.int .i64 (wtk ctk s.data.toList p).2.2])∧(vs.length=8∧∀u∈vs,u.oneCell'=true)∧w.grownBy w' (some rb)∧(∃q,Ybb w' rb s q)∧
  ((wtk ctk s.data.toList p).2.2=0→(∀(z:World) (M:List (Option Nat)),(∀j,some j∈M→j<w.heap.size)→Yaf M w' z→ShV z (wtk ctk s.data.toList p).1 vs)∧Ybb w' rb s (wtk ctk s.data.toList p).2.1)
theorem Yrj:∃Y:Array Value,Y.size=8∧∀w,(zeroValue 25).run Tryz.prog w = .ok (.agg Y) w:=⟨#[.int .i64 0,.int .i64 0,.int .i64 0,.bool false,.int .i64 0,.slice none 0 0,.slice none 0 0,.int .i64 0],rfl,Yif (by kernel_rfl)⟩
theorem Yly {hd:Shd} {a:Option Addr} {n ca:Nat} {rv:Value} {z:Int} (h:rv.oneCell'=true):∀u∈Yay hd (.slice a n ca) rv z,u.oneCell'=true:=by
 intro u hu
 simp only [Yay,List.mem_cons,List.not_mem_nil,or_false] at hu
 rcases hu with rfl | rfl | rfl | rfl | rfl | rfl | rfl | rfl
 all_goals first | rfl | exact h
theorem Yih {vs:List Value} (h:∀u∈vs,u.oneCell'=true):vs.toArray.all (·.oneCell')=true:=by
 rw [Array.all_eq_true_iff_forall_mem]
 exact fun v hv=> h v (by simpa using hv)
section
variable {N:Nat} {w:World} {rb p:Nat} {s:ByteArray}
set_option maxRecDepth 100000 in
set_option maxHeartbeats 8000000 in
theorem Y4o (hr:Ybb w rb s p) (ht:Ybf N w) (hN:N≤rb) (hs:s.size≤1073741824):
  Calls Tryz.prog 49 #[.pointer (some ⟨rb,0,none⟩)] w (Yzr s rb p w):=by
 obtain ⟨Y,HYS,hzv⟩:=Yrj
 have hzr:=Ylv
 obtain ⟨Yr,hYr⟩:∃Z:Array Value,[Value.bool false,.int .i64 0,.int .i64 0,.slice none 0 0].toArray=Z:=⟨_,rfl⟩
 have HYR:Yr.size=4:=by rw [←hYr];rfl
 rw [hYr] at hzr
 obtain ⟨A,hA⟩:∃A,w.heap.size=A:=⟨_,rfl⟩
 obtain ⟨wA,hwA⟩:∃wA,w.alloc (.cells Y 25 (0,0))=wA:=⟨_,rfl⟩
 have hhA:wA.heap[A]? = some (.cells Y 25 (0,0)):=by rw [←hwA,←hA];exact heap_alloc_new w _
 have hbA:Below w.heap.size w wA:=by rw [←hwA];exact (Below.refl _ w).alloc (Nat.le_refl _) _
 have hsA:wA.heap.size=A+1:=by rw [←hwA,←hA];simp
 have hrlt:rb<A:=by rw [←hA];exact hr.lt
 have c24:=Qdq wA rb s p (hr.below hbA) (by omega)
 have HTB:Hid (∀x,Yaf [some rb] w x→Ybf N x):=Lib.hid fun x hx=> ht.below (hx.under (by omega) fun j hj=> by
  have e:=List.mem_singleton.1 hj
  injection e with e
  omega)
 unfold Qec at c24
 obtain ⟨⟨hd,z0,f⟩,hk⟩:∃r,shk s.data.toList p=r:=⟨_,rfl⟩
 rw [hk] at c24
 dsimp only at c24
 have HK:=Lib.hid hk
 have HWA:=Lib.hid hwA
 have HA:=Lib.hid hA
 have HBA:=Lib.hid hbA
 clear hwA hA hbA hr ht hk hYr
 go_enter Tryz.func49,Tryz.ntmps49
 go_wp2_with fail
 rw [HWA.out,HA.out]
 refine c24.mono ?_
 rintro e w1 ⟨a,ca,rfl,hsup,hfa,hr1,hg1⟩
 clear c24
 obtain ⟨X,hX⟩:∃X,w1.heap.size=X:=⟨_,rfl⟩
 obtain ⟨zs,hzl⟩:∃zs,Yay hd (.slice a hd.supp.length ca) (.slice none 0 0) 0=zs:=⟨_,rfl⟩
 obtain ⟨w2,hw2⟩:∃w2,w1.alloc (.cells zs.toArray 25 (0,0))=w2:=⟨_,rfl⟩
 have hb2:Below w1.heap.size w1 w2:=by rw [←hw2];exact (Below.refl _ w1).alloc (Nat.le_refl _) _
 have hs2:w2.heap.size=X+1:=by rw [←hw2,←hX];simp
 have hX2:w2.heap[X]? = some (.cells zs.toArray 25 (0,0)):=by rw [←hw2,←hX];exact heap_alloc_new w1 _
 have hz1:=hg1.size
 have hA2:=(hb2.block A (by omega)).trans ((hg1.block A (by omega) (by simp;omega)).trans hhA)
 have hr2:=hr1.below hb2
 have G2:Hid (Yaf [some rb] w w2):=Lib.hid (((Yaf.below HBA.out).trans (Yaf.one (L:=[some rb]) hg1 fun j _ e=> by rw [e];exact List.mem_singleton.2 rfl) fun j _ hm=> hm).trans (Yaf.below (L:=[]) hb2) (by simp))
 have HSX:(Tryz.prog.info? 25).map (·.size)=some zs.toArray.size:=by rw [show zs.toArray.size=8 by rw [←hzl];rfl];kernel_rfl
 have HYX:Y.size=zs.toArray.size:=by rw [HYS,←hzl];rfl
 have hon:∀u∈zs,u.oneCell'=true:=by rw [←hzl];exact Yly rfl
 have HOX:=Yih hon
 have hl8:zs.length=8:=by rw [←hzl];rfl
 have HON:=Lib.hid hon
 have HX:=Lib.hid hX
 have HW2:=Lib.hid hw2
 have HZL:=Lib.hid hzl
 rw [hzl]
 clear hw2 hzl hX hhA hon
 by_cases hf:f=0
 case neg=>
  have tf:(f != 0)=true:=by rw [bne_iff_ne];exact hf
  have FA:=Lib.hid (Qd9 (ct:=ctk) HK.out hf)
  have HF:=Lib.hid hf
  clear hf
  go_wp2_with (first | (with_reducible refine Yaj rfl 25 _ _ rfl zs.toArray Y 25 rfl rfl HSX HYX HOX ?_;rw [HW2.out,HX.out]) | (with_reducible refine wpList_load_row rfl 25 _ rfl X rfl 25 zs.toArray (0,0) _ hX2 Tryz.underlying25 rfl HSX ?_) | (with_reducible refine Yal rfl 25 _ _ rfl A zs.toArray Y rfl rfl 25 hA2 HSX HYX HOX ?_;intro wz hhz hgz))
  refine bodyPost_ret (Yan rfl _ _ A 25 _ (0,0) _ rfl hhz Tryz.underlying25 rfl HSX) rfl ?_
  refine ⟨zs,by rw [FA.out];rfl,⟨hl8,HON.out⟩,?_,⟨_,hr2.grown hgz (by omega)⟩,fun e=> absurd (by rw [FA.out] at e;exact e) HF.out⟩
  exact (G2.out.trans (Yaf.one (L:=[some A]) hgz fun j _ e=> by rw [e];exact List.mem_singleton.2 rfl) fun j hj hm=> by have e:=List.mem_singleton.1 hm;injection e with e;have:=HA.out;omega).lone fun j _ hm=> by have e:=List.mem_singleton.1 hm;injection e with e
 subst hf
 have tf:((0:Int) != 0)=false:=rfl
 have cb:=Yxs rb hd (.slice a hd.supp.length ca) (.slice none 0 0) 0 w2
 rw [HZL.out] at cb
 go_wp2_with (first | (with_reducible refine Yaj rfl 25 _ _ rfl zs.toArray Y 25 rfl rfl HSX HYX HOX ?_;rw [HW2.out,HX.out]) | (with_reducible refine wpList_load_row rfl 25 _ rfl X rfl 25 zs.toArray (0,0) _ hX2 Tryz.underlying25 rfl HSX ?_))
 refine cb.mono ?_
 rintro e w3 ⟨rfl,hG3,hb3⟩
 obtain ⟨G,hG⟩:∃G,w2.heap.size+1=G:=⟨_,rfl⟩
 rw [hG] at hG3 ⊢
 have hGs:G<w3.heap.size:=(Array.getElem?_eq_some_iff.1 hG3).1
 have hfa2:∀x,a=some x→A<x.block:=fun x hx=> by have:=hfa x hx;rw [hsA] at this;exact this
 have hzX:=HX.out
 have hs3:=hb3.size
 have hta:Yub w w3 G rb A X s z0 hd a ca (.slice none 0 0) (.slice none 0 0) [] 0 Y []:={
  rdr:={
   blk:=hG3
   rd:=hr2.below hb3
   vec:=World.ownsRow_nil ..
   ne:=⟨by have:=HA.out;omega,fun j hj=> by cases hj⟩}
  res:=(hb3.block A (by omega)).trans hA2
  sht:=by rw [HZL.out];exact (hb3.block X (by omega)).trans hX2
  row:=Yjt.nil _ _
  sup:=(hsup.below hb2).below hb3
  supn:=by
   rcases hsup with h | ⟨b,o,e,hlt,_⟩
   ·exact .inl (List.eq_nil_of_length_eq_zero h)
   ·refine .inr fun x hx=> ?_
    rw [e] at hx
    injection hx with hx
    have h1:=hfa2 _ e
    subst hx
    refine ⟨by simp only;omega,fun hm=> ?_⟩
    have hAe:=HA.out
    rcases Ybh.1 hm with e | e | e | e | e | e
    ·cases e
    ·simp only at h1 e;omega
    ·simp only at e;omega
    ·simp only at e;omega
    ·cases e
    ·simp only at h1 e;omega
  ord:=by have:=HA.out;have:=HX.out;omega
  low:=by have:=HA.out;omega
  own:=fun j hj=> by cases hj
  rown:=fun j hj=> by cases hj
  grown:=G2.out.trans (Yaf.below (L:=[]) hb3) (by simp)}
 obtain ⟨nr,hnr⟩:∃n:Nat,(Yiw hd.fmt).toNat=n:=⟨_,rfl⟩
 obtain ⟨B0,B1,-,-,-⟩:=Ykd hd.fmt
 have hRn:Yiw hd.fmt=(nr:Int):=by omega
 have k2:=hta.rdr.cell (o:=2) rfl
 rw [hRn] at k2
 obtain ⟨⟨Ec,Eq,Eh⟩,hE⟩:∃E,Yk6 ctk s.data.toList hd.inter hd.fmt nr 0 z0 [] 0=E:=⟨_,rfl⟩
 have T0:Hid (Ycm (Ec,Eq,Eh) [] (Yk6 ctk s.data.toList hd.inter hd.fmt nr 0 z0 [] 0)):=Lib.hid (by rw [hE];exact Ycm.start _)
 have HE:Hid (Yk6 ctk s.data.toList hd.inter hd.fmt (Yiw hd.fmt).toNat 0 z0 [] 0=(Ec,Eq,Eh)):=Lib.hid (by rw [hnr];exact hE)
 have hn100:nr≤100:=by omega
 have hl1:=(Yds.1 (Qdk HK.out).2.1).2.2.1
 have hAlow:=HA.out
 clear cb hr1 hr2 hg1 hb2 hb3 hs2 hX2 hA2 hfa hfa2 hsup hz1 hzX hs3 hG3 hGs hG HSX HYX HOX hl8 HON HZL HW2 HX hnr B0 B1 hRn hE G2
 go_wp2
 go_loopw [26] (fun t wx=>∃(i q:Nat) (rs:List RowP) (rv vv:Value) (vs:List (Int×Int)) (fs:Int),t = .int .i64 (i:Int)∧i≤nr∧Yub w wx G rb A X s q hd a ca vv rv vs fs Y rs∧Hid (rs.length=i)∧Hid (vs.length≤i*10000)∧Hid (Ycm (Ec,Eq,Eh) rs (Yk6 ctk s.data.toList hd.inter hd.fmt (nr-i) i q vs fs))) (fun t _=> nr-(intOf t).toNat)
 case atStart=> exact ⟨0,z0,[],_,_,[],0,rfl,Nat.zero_le _,hta,Lib.hid rfl,Lib.hid (Nat.zero_le _),T0⟩
 case round=>
  clear hta T0 k2
  obtain ⟨i,q,rs,rv,vv,vs,fs,rfl,hi,hta,hrl,hvl,hT⟩:=hrel
  have hrv1:rv.oneCell'=true:=(Yfk hta.row.choose_spec.2).2.2
  have hon:∀(z:Int),∀u∈Yay hd (.slice a hd.supp.length ca) rv z,u.oneCell'=true:=fun z=> Yly hrv1
  obtain ⟨zs,hzl⟩:∃zs,Yay hd (.slice a hd.supp.length ca) rv 0=zs:=⟨_,rfl⟩
  have HSX:(Tryz.prog.info? 25).map (·.size)=some zs.toArray.size:=by rw [show zs.toArray.size=8 by rw [←hzl];rfl];kernel_rfl
  have HYX:Y.size=zs.toArray.size:=by rw [HYS,←hzl];rfl
  have HOX:zs.toArray.all (·.oneCell')=true:=by rw [←hzl];exact Yih (hon 0)
  have HON:=Lib.hid hon
  have HZL:=Lib.hid hzl
  clear hzl hon hrv1
  by_cases hlt:i<nr
  ·have t1:decide ((i:Int)<(nr:Int))=true:=by simp;omega
   have ho:=hta.ord
   have hvl6:vs.length≤1000000:=by
    have:=hvl.out
    have:i*10000≤1000000:=by omega
    omega
   have cc:=Y3r i hta.rdr (HTB.out _ hta.grown) hN (by omega) (fun j hj=> by have:=(hta.own j hj).1;omega) hvl6 hs (by omega)
   go_wp2_with fail
   refine cc.mono ?_
   rintro e w4 ⟨b,id,qu,z,fs2,f,cs,q2,h,g,hrh,hce,hg,rwv,rfl,⟨hrl4,hone4⟩,hgr,⟨q',hrd⟩,hok⟩
   clear cc
   obtain ⟨D,hD⟩:∃D,w4.heap.size=D:=⟨_,rfl⟩
   obtain ⟨Zr,hZr⟩:∃Zr,rwv.toArray=Zr:=⟨_,rfl⟩
   rw [hZr]
   obtain ⟨w5,hw5⟩:∃w5,w4.alloc (.cells Zr 59 (0,0))=w5:=⟨_,rfl⟩
   have hb5:Below w4.heap.size w4 w5:=by rw [←hw5];exact (Below.refl _ w4).alloc (Nat.le_refl _) _
   have hD5:w5.heap[D]? = some (.cells Zr 59 (0,0)):=by rw [←hw5,←hD];exact heap_alloc_new w4 _
   have hZ4:Zr.size=4:=by rw [←hZr];simpa using hrl4
   have HSR:(Tryz.prog.info? 59).map (·.size)=some Zr.size:=by rw [hZ4];kernel_rfl
   have HYRZ:Yr.size=Zr.size:=by rw [HYR,hZ4]
   have HOR:Zr.all (·.oneCell')=true:=by rw [←hZr];exact Yih hone4
   have HD:=Lib.hid hD
   have HW5:=Lib.hid hw5
   have hb:=hta.bad hgr
   have hz4:=hgr.size
   clear hD hw5 hone4
   by_cases hg0:g=0
   case neg=>
    have tg:(g != 0)=true:=by rw [bne_iff_ne];exact hg0
    obtain ⟨hb1,hb2,hb3⟩:=hb
    have hA5:=(hb5.block A (by omega)).trans hb1
    have hX5:=(hb5.block X (by omega)).trans hb2
    rw [HZL.out] at hX5
    have FA:Hid (wtk ctk s.data.toList p=(Qdm,p,g)):=Lib.hid (Qea HK.out (by
     rw [HE.out]
     have h1:=hT.out
     rw [show nr-i=(nr-i-1)+1 by omega] at h1
     by_cases hf:f=0
     ·rw [if_neg (fun x=> x hf)] at hg
      subst hf hg
      exact Y88 h1 hrh hce hg0
     ·rw [if_pos hf] at hg
      subst hg
      exact Y89 h1 hrh hf) hg0)
    have G5:=Lib.hid (hb3.trans (Yaf.below (L:=[]) hb5) (by simp))
    have hr5:=hrd.below hb5
    have HG0:=Lib.hid hg0
    have hz5:=hb5.size
    clear hg0 hg hok hta hT hrl hvl hrh hce hb1 hb2 hb3 hrd hgr hvl6 hZr hZ4 hrl4
    go_wp2_with (first | (with_reducible refine Yaj rfl 59 _ _ rfl Zr Yr 59 rfl rfl HSR HYRZ HOR ?_;rw [HW5.out,HD.out]) | (with_reducible refine wpList_load_row rfl 25 _ rfl X rfl 25 zs.toArray (0,0) _ hX5 Tryz.underlying25 rfl HSX ?_) | (with_reducible refine Yal rfl 25 _ _ rfl A zs.toArray Y rfl rfl 25 hA5 HSX HYX HOX ?_;intro wz hhz hgz))
    refine bodyPost_ret (Yan rfl _ _ A 25 _ (0,0) _ rfl hhz Tryz.underlying25 rfl HSX) rfl ?_
    refine ⟨zs,by rw [FA.out];rfl,⟨by rw [←HZL.out];rfl,by rw [←HZL.out];exact HON.out 0⟩,?_,⟨_,hr5.grown hgz (by omega)⟩,fun e=> absurd (by rw [FA.out] at e;exact e) HG0.out⟩
    exact (G5.out.trans (Yaf.one (L:=[some A]) hgz fun j _ e=> by rw [e];exact List.mem_singleton.2 rfl) fun j hj hm=> by have e:=List.mem_singleton.1 hm;injection e with e;omega).lone fun j _ hm=> by have e:=List.mem_singleton.1 hm;injection e with e
   have tg:(g != 0)=false:=by rw [hg0];rfl
   have hf0:f=0:=by
    by_cases h1:f=0
    ·exact h1
    ·rw [if_pos h1] at hg;exact absurd (hg.symm.trans hg0) h1
   have hh0:h=0:=by
    rw [if_neg (fun x=> x hf0)] at hg
    exact hg.symm.trans hg0
   subst hf0 hh0
   obtain ⟨vv2,hR4,hw3,hF⟩:=hok hg0
   obtain ⟨sl,hrwv,-⟩:=hF [] (fun j hj=> by cases hj)
   subst hrwv
   have hclen:=Yuo _ _ _ _ _ hce
   have hT5:Hid (Ycm (Ec,Eq,Eh) (rs ++ [⟨b,id,qu,cs⟩]) (Yk6 ctk s.data.toList hd.inter hd.fmt (nr-(i+1)) (i+1) q2 (vs++Yd0 cs) fs2)):=Lib.hid (by
    have h1:=hT.out
    rw [show nr-i=(nr-(i+1))+1 by omega] at h1
    exact Y9a h1 hrh hce)
   have hta4:=hta.call hR4 hgr hw3
   have hta5:=hta4.below hb5
   have hws:=hta.grown.size
   have hrow4:=hF (some A::some X::some G::rv.ownBlock::Qg3 w.heap.size) fun j hm=> by
    rcases List.mem_cons.1 hm with e | hm
    ·injection e with e;omega
    ·rcases List.mem_cons.1 hm with e | hm
     ·injection e with e;omega
     ·rcases List.mem_cons.1 hm with e | hm
      ·injection e with e;omega
      ·rcases List.mem_cons.1 hm with e | hm
       ·exact Yfp.lt hta.row j e.symm
       ·have:=Yna.1 hm;omega
   have hrow5:Yl6 (Yxj A X G w.heap.size vv2 rv) w5 ⟨b,id,qu,cs⟩ [.bool b,.int .i64 id,.int .i64 qu,sl]:=Yl6.kept hrow4 (Yai hb5 none) fun j hj=> by cases hj
   obtain ⟨wQ,hwQ⟩:∃wQ,w5.alloc (.cells #[.bool b,.int .i64 id,.int .i64 qu,sl] 59 (0,0))=wQ:=⟨_,rfl⟩
   obtain ⟨Q,hQ⟩:∃Q,w5.heap.size=Q:=⟨_,rfl⟩
   have hbQ:Below w5.heap.size w5 wQ:=by rw [←hwQ];exact (Below.refl _ w5).alloc (Nat.le_refl _) _
   have hQQ:wQ.heap[Q]? = some (.cells ([Value.bool b,.int .i64 id,.int .i64 qu,sl]:List Value).toArray 59 (0,0)):=by rw [←hwQ,←hQ];exact heap_alloc_new w5 _
   have htaQ:=hta5.below hbQ
   have hrowQ:Yl6 (Yxj A X G w.heap.size vv2 rv) wQ ⟨b,id,qu,cs⟩ [.bool b,.int .i64 id,.int .i64 qu,sl]:=hrow5.kept (Yai hbQ none) fun j hj=> by cases hj
   have h1c:=(Yl6.shape hrowQ).2
   have hcD:∀(j:Nat) u,([Value.bool b,.int .i64 id,.int .i64 qu,sl]:List Value)[j]? = some u→wQ.cell? ⟨Q,j,none⟩=some u:=fun j u hu=> Yaa hQQ hu
   have c60:=Yaa (o:=6) hta5.sht rfl
   have hD6:w5.heap[D]? = some (.cells ([Value.bool b,.int .i64 id,.int .i64 qu,sl]:List Value).toArray 59 (0,0)):=by rw [hZr];exact hD5
   have HSL:(Tryz.prog.info? 59).map (·.size)=some ([Value.bool b,.int .i64 id,.int .i64 qu,sl]:List Value).toArray.size:=by kernel_rfl
   obtain ⟨ri,rz,j0,j1,j2,j3,j4⟩:=Qdd
   have hrln:rs.length≤100:=by have:=hrl.out;omega
   have hvl7:(vs++Yd0 cs).length≤(i+1)*10000:=by
    rw [List.length_append]
    unfold Yd0
    rw [List.length_map,hclen]
    have:=hvl.out
    have:=Yh7 hd.fmt
    omega
   have HWQ:=Lib.hid hwQ
   have HQ:=Lib.hid hQ
   have HCD:=Lib.hid hcD
   have HTQ:=Lib.hid htaQ
   have HV7:=Lib.hid hvl7
   clear hwQ hQ hcD hbQ hQQ hta hta4 hta5 hrow4 hrow5 hF hok hgr hrd hb hg hrh hce hT hg0 hw3 hR4 hvl6 hvl hclen htaQ hvl7 hZ4 hrl4
   go_wp2_with (first | (with_reducible refine Yaj rfl 59 _ _ rfl Zr Yr 59 rfl rfl HSR HYRZ HOR ?_;rw [HW5.out,HD.out]) | (with_reducible refine wpList_load_row rfl 59 _ rfl D rfl 59 ([Value.bool b,.int .i64 id,.int .i64 qu,sl]:List Value).toArray (0,0) _ hD6 Tryz.underlying59 rfl HSL ?_) | (with_reducible refine Yt1 rfl _ rfl (.bool b) (.int .i64 id) (.int .i64 qu) sl rfl ?_;rw [HWQ.out,HQ.out]) | (at_builtin;refine Yk1 (V:=Yl6 (Yxj A X G w.heap.size vv2 rv) wQ) (w:=wQ) (c:=4) (bytes:=48) (base:=0) (v:=rv) (l:=rs) (y:=⟨b,id,qu,cs⟩) (vs:=[Value.bool b,.int .i64 id,.int .i64 qu,sl]) (K:=Q) (cap:=1) rfl rfl Tryz.underlying23 j0 j1 j2 j3 j4 (by decide) ?d1 ?d2 HTQ.out.row hrowQ rfl h1c HCD.out ?d3 ?d4 (Nat.zero_le _) ?_;(case d1=> kernel_rfl);(case d2=> kernel_rfl);(case d3=> (unfold maxLen;omega));(case d4=> omega);intro q9 cap9 w9 ho9 hg9 hw9;have hta9:=HTQ.out.app hg9 ho9 hw9;have hX9:=(hg9.block X (by have:=HTQ.out.ord;omega) fun e=> (HTQ.out.rown X e.symm).2.2.1 rfl).trans HTQ.out.sht;have c6:=Yaa (o:=6) hX9 rfl;have c7:=Yag (o:=6) hX9))
   go_roundw
   case rel=> exact ⟨i+1,q2,rs ++ [⟨b,id,qu,cs⟩],_,vv2,_,fs2,by go_num,by omega,hta9,Lib.hid (by rw [List.length_append,hrl.out];rfl),HV7,hT5⟩
   case measure=> simp [intOf];omega
  ·have t1:decide ((i:Int)<(nr:Int))=false:=by simp;omega
   obtain rfl:nr=i:=by omega
   have HRW:Hid (Yk6 ctk s.data.toList hd.inter hd.fmt (Yiw hd.fmt).toNat 0 z0 [] 0=(rs,q,0)):=Lib.hid (by
    have h1:=hT.out
    rw [Nat.sub_self] at h1
    rw [HE.out]
    exact h1.done)
   have cz:=Yxh hta.rdr hs
   have ho:=hta.ord
   have hrw:=hta.low
   have HTA:=Lib.hid hta
   clear hT HE hvl
   go_wp2_with fail
   refine cz.mono ?_
   rintro e w4 ⟨n,rfl,hg4,⟨q',hrd⟩,hz⟩
   have hX4:=(hg4.block X (by omega) (by simp;omega)).trans hta.sht
   have hA4:=(hg4.block A (by omega) (by simp;omega)).trans hta.res
   have c7:=Yaa (o:=7) hX4 rfl
   have f7:=Yag (o:=7) hX4
   obtain ⟨zs7,hz7⟩:∃zs,Yay hd (.slice a hd.supp.length ca) rv (n:Int)=zs:=⟨_,rfl⟩
   have hX7:(w4.setCell ⟨X,7,none⟩ (.int .i64 (n:Int))).heap[X]? = some (.cells zs7.toArray 25 (0,0)):=by rw [←hz7];exact Yat (o:=7) _ hX4
   have hA7:(w4.setCell ⟨X,7,none⟩ (.int .i64 (n:Int))).heap[A]? = some (.cells Y 25 (0,0)):=by rw [Below.heap_setCell _ _ _ _ (show A≠X by omega)];exact hA4
   have hr7:∀y,Ybb w4 rb s y→Ybb (w4.setCell ⟨X,7,none⟩ (.int .i64 (n:Int))) rb s y:=fun y h=> ⟨by rw [Below.heap_setCell _ _ _ _ (show rb≠X by omega)];exact h.1,h.2⟩
   have hs7:=Yaf.set (w:=w4) (p:=⟨X,7,none⟩) (L:=[some X]) (.int .i64 (n:Int)) (List.mem_singleton.2 rfl)
   have HSX7:(Tryz.prog.info? 25).map (·.size)=some zs7.toArray.size:=by rw [show zs7.toArray.size=8 by rw [←hz7];rfl];kernel_rfl
   have HYX7:Y.size=zs7.toArray.size:=by rw [HYS,←hz7];rfl
   have HOX7:zs7.toArray.all (·.oneCell')=true:=by rw [←hz7];exact Yih (HON.out n)
   have HZ7:=Lib.hid hz7
   have HG4:=Lib.hid hg4
   have HS7:=Lib.hid hs7
   have HR7:=Lib.hid hr7
   have HZZ:=Lib.hid hz
   have HRD:=Lib.hid hrd
   obtain ⟨fE,hfE⟩:∃fE,Qht s.data.toList q=fE:=⟨_,rfl⟩
   rw [hfE]
   have HFE:=Lib.hid hfE
   clear hX4 hA4 hz7 hg4 hs7 hr7 hz hrd hta cz hfE
   go_upto_region 14 with fail
   generalize w4.setCell ⟨X,7,none⟩ (.int .i64 (n:Int))=w7 at *
   clear c7 f7
   go_wp2_with (first | (with_reducible refine wpList_load_row rfl 25 _ rfl X rfl 25 zs7.toArray (0,0) _ hX7 Tryz.underlying25 rfl HSX7 ?_) | (with_reducible refine Yal rfl 25 _ _ rfl A zs7.toArray Y rfl rfl 25 hA7 HSX7 HYX7 HOX7 ?_;intro wz hhz hgz))
   refine bodyPost_ret (Yan rfl _ _ A 25 _ (0,0) _ rfl hhz Tryz.underlying25 rfl HSX7) rfl ?_
   have hgl:Yaf [some rb,some X,some A] wr wz:=by
    have g1:Yaf [some rb,some X,some A] wr w4:=Yaf.one HG4.out fun j _ e=> by rw [e];exact List.mem_cons_self ..
    have g2:=g1.trans HS7.out fun j _ hm=> by rw [List.mem_singleton.1 hm];exact List.mem_cons_of_mem _ (List.mem_cons_self ..)
    exact g2.trans (Yaf.one (L:=[some A]) hgz fun j _ e=> by rw [e];exact List.mem_singleton.2 rfl) fun j _ hm=> by rw [List.mem_singleton.1 hm];exact List.mem_cons_of_mem _ (List.mem_cons_of_mem _ (List.mem_cons_self ..))
   have hgw:=HTA.out.done hgl
   have hsv:∀(z:World) (M:List (Option Nat)),(∀j,some j∈M→j<w.heap.size)→Yaf M wz z→ShV z ⟨hd,rs,(n:Int)⟩ zs7:=fun z M hM hz=> by
    refine HTA.out.lies (S:=⟨hd,rs,(n:Int)⟩) (M:=some X::some A::some rb::M) ((hgl.mono fun j _ hm=> ?_).trans hz fun j _ hm=> ?_) (fun j hm=> ?_) ⟨rfl,rfl⟩ HZ7.out.symm (by unfold maxLen;omega) (by have:=hrl.out;unfold maxLen;omega)
    ·simp only [List.mem_cons,List.not_mem_nil,or_false] at hm ⊢
     rcases hm with e | e | e
     ·exact .inr (.inr (.inl e))
     ·exact .inl e
     ·exact .inr (.inl e)
    ·exact List.mem_cons_of_mem _ (List.mem_cons_of_mem _ (List.mem_cons_of_mem _ hm))
    ·simp only [List.mem_cons,Option.some.injEq] at hm
     rcases hm with e | e | e | e
     ·exact .inl e
     ·exact .inr (.inl e)
     ·exact .inr (.inr (by omega))
     ·exact .inr (.inr (hM j e))
   have hon7:zs7.length=8∧∀u∈zs7,u.oneCell'=true:=⟨by rw [←HZ7.out];rfl,by rw [←HZ7.out];exact HON.out n⟩
   have hrz:∀y,Ybb w4 rb s y→Ybb wz rb s y:=fun y h=> (HR7.out y h).grown hgz (by omega)
   by_cases h0:Ya5 s.data.toList q (gap q)=0
   ·have hfe0:fE=0:=by rw [←HFE.out];exact if_pos h0
    obtain ⟨hzn,hzr⟩:=HZZ.out (if_pos h0)
    have FA:=Qhs (ct:=ctk) HK.out HRW.out h0
    rw [←hzn] at FA
    refine ⟨zs7,by rw [FA,hfe0];rfl,hon7,hgw,⟨_,hrz _ HRD.out⟩,fun _=> ?_⟩
    rw [FA]
    exact ⟨hsv,hrz _ hzr⟩
   ·have hfe0:fE=5:=by rw [←HFE.out];exact if_neg h0
    have FA:=Qd8 (ct:=ctk) HK.out HRW.out h0
    exact ⟨zs7,by rw [FA,hfe0];rfl,hon7,hgw,⟨_,hrz _ HRD.out⟩,fun e=> by rw [FA] at e;cases e⟩
end
def zeroS:List Value:=Yay Yp9 (.slice none 0 0) (.slice none 0 0) 0
theorem Y40 (w:World):ShV w Qdm zeroS:=⟨none,none,0,0,rfl,Nat.zero_le _,Nat.zero_le _,Ycl.nil _ _,.inl rfl⟩
theorem Qgz {ct:CelT} {l:List UInt8} {p:Nat} (h:(wtk ct l p).2.2≠0):wtk ct l p=(Qdm,p,(wtk ct l p).2.2):=by
 unfold wtk at h ⊢
 obtain ⟨⟨hd,q,f⟩,hk⟩:∃r,shk l p=r:=⟨_,rfl⟩
 rw [hk] at h ⊢
 simp only at h ⊢
 by_cases hf:f=0
 ·rw [if_neg (fun x=> x hf)] at h ⊢
  obtain ⟨⟨rs,z,g⟩,hr⟩:∃r,Yk6 ct l hd.inter hd.fmt (Yiw hd.fmt).toNat 0 q [] 0=r:=⟨_,rfl⟩
  rw [hr] at h ⊢
  simp only at h ⊢
  by_cases hg:g=0
  ·rw [if_neg (fun x=> x hg)] at h ⊢
   by_cases h0:Ya5 l z (gap z)=0
   ·rw [if_neg (fun x=> x h0)] at h
    exact absurd rfl h
   ·rw [if_pos h0]
  ·rw [if_pos hg]
 ·rw [if_pos hf]
def Ymz (s:ByteArray) (rb p:Nat) (w:World) (e:Ending) (w':World):Prop:=
 ∃vs:List Value,e = .returned (.tuple #[.agg vs.toArray,.int .i64 (wtk ctk s.data.toList p).2.2])∧(∀(x:World) (L:List (Option Nat)),(∀j,some j∈L→j<w.heap.size)→Yaf L w' x→ShV x (wtk ctk s.data.toList p).1 vs)∧Ybb w' rb s (wtk ctk s.data.toList p).2.1∧w.grownBy w' (some rb)
theorem Qeb:∀w,(zeroValue 25).run Tryz.prog w = .ok (.agg zeroS.toArray) w:=Yif (by kernel_rfl)
set_option maxRecDepth 100000 in
set_option maxHeartbeats 2000000 in
theorem Ywm {N:Nat} {w:World} {rb p:Nat} {s:ByteArray} (hr:Ybb w rb s p) (ht:Ybf N w) (hN:N≤rb) (hs:s.size≤1073741824):
  Calls Tryz.prog 22 #[.pointer (some ⟨rb,0,none⟩)] w (Ymz s rb p w):=by
 have hp:=hr.2.1
 obtain ⟨Y,hY⟩:∃Y,zeroS.toArray=Y:=⟨_,rfl⟩
 have hzv:=Qeb
 rw [hY] at hzv
 have HYS:Y.size=8:=by rw [←hY];rfl
 have HSY:(Tryz.prog.info? 25).map (·.size)=some Y.size:=by rw [HYS];kernel_rfl
 have HOY:Y.all (·.oneCell')=true:=by rw [←hY];exact Yih (Yly rfl)
 obtain ⟨A,hA⟩:∃A,w.heap.size=A:=⟨_,rfl⟩
 obtain ⟨wA,hwA⟩:∃wA,w.alloc (.cells Y 25 (0,0))=wA:=⟨_,rfl⟩
 have hhA:wA.heap[A]? = some (.cells Y 25 (0,0)):=by rw [←hwA,←hA];exact heap_alloc_new w _
 have hbA:Below w.heap.size w wA:=by rw [←hwA];exact (Below.refl _ w).alloc (Nat.le_refl _) _
 have hsA:wA.heap.size=A+1:=by rw [←hwA,←hA];simp
 have hrlt:rb<A:=by rw [←hA];exact hr.lt
 have hrA:=hr.below hbA
 have ct:=Y4o hrA (ht.below (hbA.mono (by omega))) hN hs
 have hbad:=Qgz (ct:=ctk) (l:=s.data.toList) (p:=p)
 unfold Yzr at ct
 unfold Ymz
 obtain ⟨⟨S,q,f⟩,hk⟩:∃r,wtk ctk s.data.toList p=r:=⟨_,rfl⟩
 rw [hk] at ct hbad ⊢
 dsimp only at ct hbad ⊢
 have HWA:=Lib.hid hwA
 have HA:=Lib.hid hA
 have HBA:=Lib.hid hbA
 have HY:=Lib.hid hY
 have HBAD:=Lib.hid hbad
 clear hwA hA hbA hr ht hk hY hbad
 go_enter Tryz.func22,Tryz.ntmps22
 go_wp2_with fail
 rw [HWA.out,HA.out]
 refine (Yb7 _ _ _ _ hrA).mono ?_
 rintro e u ⟨rfl,rfl⟩
 go_wp2_with fail
 refine ct.mono ?_
 rintro e w1 ⟨vs,rfl,⟨hl8,hon⟩,hg1,⟨q',hr1⟩,hok⟩
 clear ct
 obtain ⟨Z,hZ⟩:∃Z,vs.toArray=Z:=⟨_,rfl⟩
 rw [hZ]
 have hZ8:Z.size=8:=by rw [←hZ];simpa using hl8
 have HSZ:(Tryz.prog.info? 25).map (·.size)=some Z.size:=by rw [hZ8];kernel_rfl
 have HYZ:Y.size=Z.size:=by rw [HYS,hZ8]
 have HOZ:Z.all (·.oneCell')=true:=by rw [←hZ];exact Yih hon
 obtain ⟨X,hX⟩:∃X,w1.heap.size=X:=⟨_,rfl⟩
 obtain ⟨w2,hw2⟩:∃w2,w1.alloc (.cells Z 25 (0,0))=w2:=⟨_,rfl⟩
 have hb2:Below w1.heap.size w1 w2:=by rw [←hw2];exact (Below.refl _ w1).alloc (Nat.le_refl _) _
 have hX2:w2.heap[X]? = some (.cells Z 25 (0,0)):=by rw [←hw2,←hX];exact heap_alloc_new w1 _
 have hz1:=hg1.size
 have hA2:=(hb2.block A (by omega)).trans ((hg1.block A (by omega) (by simp;omega)).trans hhA)
 have hr2:=hr1.below hb2
 have G2:Hid (Yaf [some rb] w w2):=Lib.hid (((Yaf.below HBA.out).trans (Yaf.one (L:=[some rb]) hg1 fun j _ e=> by rw [e];exact List.mem_singleton.2 rfl) fun j _ hm=> hm).trans (Yaf.below (L:=[]) hb2) (by simp))
 have HX:=Lib.hid hX
 have HZ:=Lib.hid hZ
 have HW2:=Lib.hid hw2
 clear hX hZ hw2 hZ8 hl8 hon hhA hrA hr1 hg1
 by_cases hf:f=0
 ·have tf:(f != 0)=false:=by rw [hf];rfl
  obtain ⟨hsv,hrq⟩:=hok hf
  have hrq2:=hrq.below hb2
  have HF:=Lib.hid hf
  have HB2:=Lib.hid hb2
  have HSV:=Lib.hid hsv
  clear hok hf hb2 hsv hrq
  go_wp2_with (first | (with_reducible refine Yaj rfl 25 _ _ rfl Z Y 25 rfl rfl HSZ HYZ HOZ ?_;rw [HW2.out,HX.out]) | (with_reducible refine wpList_load_row rfl 25 _ rfl X rfl 25 Z (0,0) _ hX2 Tryz.underlying25 rfl HSZ ?_) | (with_reducible refine Yal rfl 25 _ _ rfl A Z Y rfl rfl 25 hA2 HSZ HYZ HOZ ?_;intro wz hhz hgz))
  refine bodyPost_ret (Yan rfl _ _ A 25 _ (0,0) _ rfl hhz Tryz.underlying25 rfl HSZ) rfl ?_
  have gA:Yaf [some A] w2 wz:=Yaf.one hgz fun j _ e=> by rw [e];exact List.mem_singleton.2 rfl
  refine ⟨vs,by rw [HF.out,HZ.out];rfl,(fun x L hL hx=> HSV.out x (some A::L) (fun j hm=> by
   rcases List.mem_cons.1 hm with e | hm
   ·injection e with e;omega
   ·have:=hL j hm;have:=HA.out;omega) (((Yaf.below HB2.out).trans gA fun j _ hm=> by rw [List.mem_singleton.1 hm];exact List.mem_cons_self ..).trans hx fun j _ hm=> List.mem_cons_of_mem _ hm)),hrq2.grown hgz (by omega),?_⟩
  exact (G2.out.trans gA fun j hj hm=> by have e:=List.mem_singleton.1 hm;injection e with e;have:=HA.out;omega).lone fun j _ hm=> by have e:=List.mem_singleton.1 hm;injection e with e
 ·have tf:(f != 0)=true:=by rw [bne_iff_ne];exact hf
  have hbad:=HBAD.out hf
  have HQ:=Lib.hid hbad
  have hz2:=hb2.size
  clear hok hf hb2 hbad
  go_wp2_with (with_reducible refine Yaj rfl 25 _ _ rfl Z Y 25 rfl rfl HSZ HYZ HOZ ?_;rw [HW2.out,HX.out])
  refine (Ybs _ _ _ _ (p:Int) hr2 (by omega) (by omega)).mono ?_
  rintro e w3 ⟨rfl,hr3,hg3⟩
  rw [Int.toNat_natCast] at hr3
  have hA3:=(hg3.block A (by omega) (by simp;omega)).trans hA2
  have hz3:=hg3.size
  clear hX2 hA2 hr2
  go_wp2_with (with_reducible refine Yal rfl 25 _ _ rfl A Y Y rfl rfl 25 hA3 HSY rfl HOY ?_;intro wz hhz hgz)
  refine bodyPost_ret (Yan rfl _ _ A 25 _ (0,0) _ rfl hhz Tryz.underlying25 rfl HSY) rfl ?_
  have hq:=HQ.out
  injection hq with e1 e2
  injection e2 with e2 _
  subst e1 e2
  refine ⟨zeroS,by rw [HY.out];rfl,fun x _ _ _=> Y40 x,hr3.grown hgz (by omega),?_⟩
  refine ((G2.out.trans (Yaf.one (L:=[some rb]) hg3 fun j _ e=> by rw [e];exact List.mem_singleton.2 rfl) fun j _ hm=> hm).trans (Yaf.one (L:=[some A]) hgz fun j _ e=> by rw [e];exact List.mem_singleton.2 rfl) fun j hj hm=> ?_).lone fun j _ hm=> by have e:=List.mem_singleton.1 hm;injection e with e
  have e:=List.mem_singleton.1 hm
  injection e with e
  have:=HA.out
  omega
theorem Ywh {a b:ShP} (h:shB a b=true):a.rows.length=b.rows.length:=by
 unfold shB at h
 simp only [Bool.and_eq_true,decide_eq_true_iff] at h
 exact h.2.2.1
theorem Yrg {u w x:World} {S S':ShP} {vs vs':List Value} (hS:Yzq u S vs) (hS':Yzq x S' vs') (hu:Below u.heap.size u w) (hx:Below x.heap.size x w):Calls Tryz.prog 23 #[.agg vs'.toArray,.agg vs.toArray] w fun e y=> e = .returned (.bool (shB S' S))∧Below w.heap.size w y:=by
 obtain ⟨⟨p,q,ca,cb,rfl,hl,hn,hs,hr⟩,hn62,hev⟩:=hS
 obtain ⟨⟨p',q',ca',cb',rfl,hl',hn',hs',hr'⟩,hn62',hev'⟩:=hS'
 exact Yy8 S' S p' q' p q ca' cb' ca cb w hl' hn' (hs'.below hx) (hs.below hu) (hr'.below hx) (hr.below hu) hev' hev
set_option maxRecDepth 100000 in
set_option maxHeartbeats 600000 in
theorem Ylz (S:ShP) (vs:List Value) (S':ShP) (vs':List Value) (s:ByteArray) (w:World) (hS:ShV w S vs) (hS':ShV w S' vs') (_hss:s.size≤maxLen) (hz:s.size≤140737488355328) (ht:Ybf w.heap.size w):
  Calls Tryz.prog 4 #[.agg vs.toArray,.agg vs'.toArray,.string s] w fun e w'=> e = .returned (.bool true)∧Below w.heap.size w w':=by
 obtain ⟨Y,HYS,hzv⟩:=Yrj
 have sz:∀{S:ShP} {vs:List Value},ShV w S vs→(Tryz.prog.info? 25).map (·.size)=some vs.toArray.size:=fun {S vs} h=> by
  obtain ⟨p,q,ca,cb,rfl,-⟩:=h
  rw [show (Yay S.hd (.slice p S.hd.supp.length ca) (.slice q S.rows.length cb) S.zeros).toArray.size=8 from rfl]
  kernel_rfl
 have hsz:=sz hS
 have hsz':=sz hS'
 obtain ⟨A,wA,wB,hA,hwA,hwB,hzA,hzB,hC0,hC1,hbB⟩:=Yvp w (.cells vs.toArray 25 (0,0)) (.cells vs'.toArray 25 (0,0))
 have hbw:Below w.heap.size w wB:=hA▸hbB
 have K:=fun (x y:World) (hx:Below (A+2) wB x) (hy:Below x.heap.size x y)=> (hx.trans (hy.mono (by have:=hx.size;omega)):Below (A+2) wB y)
 have W0:=Lib.hid (fun (x:World) (hx:Below (A+2) wB x)=> (hbw.trans (hx.mono (by omega)):Below w.heap.size w x))
 have HTH:=Lib.hid (fun (x:World) (hx:Below (A+2) wB x)=> (by
  have h:=ht.below (W0.out x hx)
  exact Ybf.here h.pats h.mvd h.steps h.tcoef:Ybf x.heap.size x))
 have LA:=Lib.hid (fun (x:World) (hx:Below (A+2) wB x)=> ((hx.block A (by omega)).trans hC0:x.heap[A]? = some (.cells vs.toArray 25 (0,0))))
 have LB:=Lib.hid (fun (x:World) (hx:Below (A+2) wB x)=> ((hx.block (A+1) (by omega)).trans hC1:x.heap[A+1]? = some (.cells vs'.toArray 25 (0,0))))
 have CL:=Lib.hid (fun (x:World) (hx:Below (A+2) wB x)=> ((Yqu hS (W0.out x hx)).mono fun e y h=> ⟨h.1,K x y hx h.2⟩:Calls Tryz.prog 6 #[.agg vs.toArray] x fun e y=> (∃y,e = .returned (.bool y)∧(y=true→Yl5 S∧S.zeros≤1000))∧Below (A+2) wB y))
 have CM:=Lib.hid (fun (x:World) (hx:Below (A+2) wB x)=> ((Yqu hS' (W0.out x hx)).mono fun e y h=> ⟨h.1,K x y hx h.2⟩:Calls Tryz.prog 6 #[.agg vs'.toArray] x fun e y=> (∃y,e = .returned (.bool y)∧(y=true→Yl5 S'∧S'.zeros≤1000))∧Below (A+2) wB y))
 have CLV:=Lib.hid (fun (x:World) (hx:Below (A+2) wB x)=> ((Qf6 x (HTH.out x hx)).mono fun e y z=> ⟨z.1,K x y hx z.2⟩:Calls Tryz.prog 8 #[] x fun e y=> e = .returned (.bool true)∧Below (A+2) wB y))
 have HS:=Lib.hid hS
 have HS':=Lib.hid hS'
 have HT:=Lib.hid ht
 have HA:=Lib.hid hA
 have HWA:=Lib.hid hwA
 have HWB:=Lib.hid hwB
 have HK:=Lib.hid K
 have hb0:Below (A+2) wB wB:=Below.refl _ _
 have hlA:=LA.out _ hb0
 clear hS hS' ht hA hwA hwB hzA hC0 hC1 hbB hbw K sz
 go_enter Tryz.func4,Tryz.ntmps4
 go_wp2_with (with_reducible refine wpList_load_row rfl 25 _ rfl _ rfl 25 vs.toArray (0,0) _ (Ya4 (heap_alloc_new w _)) Tryz.underlying25 rfl hsz ?_)
 rw [HWA.out,HWB.out,HA.out]
 refine (CL.out _ hb0).mono ?_
 rintro e w1 ⟨⟨y1,rfl,h1⟩,hb1⟩
 clear hlA CL
 cases y1 with
 | false=>
  go_wp2_with fail
  refine (CLV.out _ hb1).mono ?_
  rintro e w2 ⟨rfl,hb2⟩
  go_wp2
  go_ret
  exact ⟨rfl,W0.out _ hb2⟩
 | true=>
  obtain ⟨hP,hZ⟩:=h1 rfl
  have hlB:=LB.out _ hb1
  clear h1
  go_wp2_with (with_reducible refine Yav (by kernel_rfl) 25 _ rfl (A+1) rfl 25 vs'.toArray (0,0) _ hlB Tryz.underlying25 rfl hsz' ?_)
  refine (CM.out _ hb1).mono ?_
  rintro e w2 ⟨⟨y2,rfl,h2⟩,hb2⟩
  clear hlB CM hb1
  cases y2 with
  | false=>
   go_wp2_with fail
   refine (CLV.out _ hb2).mono ?_
   rintro e w3 ⟨rfl,hb3⟩
   go_wp2
   go_ret
   exact ⟨rfl,W0.out _ hb3⟩
  | true=>
   obtain ⟨hP',hZ'⟩:=h2 rfl
   have HSI:=Lib.hid (hP.lies HS.out)
   have HSI':=Lib.hid (hP'.lies HS'.out)
   have CC:=Lib.hid (fun (x:World) (hx:Below (A+2) wB x)=> ((Yfw HSI.out HT.out (W0.out x hx)).mono fun e y h=> ⟨h.1,HK.out x y hx h.2⟩:Calls Tryz.prog 19 #[.agg vs.toArray] x fun e y=> e = .returned (.int .i64 (Ycp S))∧Below (A+2) wB y))
   have CD:=Lib.hid (fun (x:World) (hx:Below (A+2) wB x)=> ((Yfw HSI'.out HT.out (W0.out x hx)).mono fun e y h=> ⟨h.1,HK.out x y hx h.2⟩:Calls Tryz.prog 19 #[.agg vs'.toArray] x fun e y=> e = .returned (.int .i64 (Ycp S'))∧Below (A+2) wB y))
   clear h2 hP hP' hZ hZ'
   by_cases h100:100<s.size
   ·have t1:decide (100<(s.size:Int))=true:=by simp;omega
    clear h100
    go_wp2_with fail
    refine (CLV.out _ hb2).mono ?_
    rintro e w3 ⟨rfl,hb3⟩
    go_wp2
    go_ret
    exact ⟨rfl,W0.out _ hb3⟩
   have t1:decide (100<(s.size:Int))=false:=by simp;omega
   have hlA:=LA.out _ hb2
   by_cases e1:Ycp S=0
   case neg=>
    have tn:(Ycp S != 0)=true:=by rw [bne_iff_ne];exact e1
    generalize Ycp S=f1 at *
    clear e1 h100
    go_wp2_with (with_reducible refine Yav (by kernel_rfl) 25 _ rfl A rfl 25 vs.toArray (0,0) _ hlA Tryz.underlying25 rfl hsz ?_)
    refine (CC.out _ hb2).mono ?_
    rintro e w3 ⟨rfl,hb3⟩
    clear hlA
    go_wp2_with fail
    refine (CLV.out _ hb3).mono ?_
    rintro e w4 ⟨rfl,hb4⟩
    go_wp2
    go_ret
    exact ⟨rfl,W0.out _ hb4⟩
   have E1:=Lib.hid e1
   rw [e1] at CC
   clear e1
   go_wp2_with (with_reducible refine Yav (by kernel_rfl) 25 _ rfl A rfl 25 vs.toArray (0,0) _ hlA Tryz.underlying25 rfl hsz ?_)
   refine (CC.out _ hb2).mono ?_
   rintro e w3 ⟨rfl,hb3⟩
   have hlB:=LB.out _ hb3
   clear hlA hb2
   by_cases e2:Ycp S'=0
   case neg=>
    have tn:(Ycp S' != 0)=true:=by rw [bne_iff_ne];exact e2
    generalize Ycp S'=f1 at *
    clear e2 h100
    go_wp2_with (with_reducible refine Yav (by kernel_rfl) 25 _ rfl (A+1) rfl 25 vs'.toArray (0,0) _ hlB Tryz.underlying25 rfl hsz' ?_)
    refine (CD.out _ hb3).mono ?_
    rintro e w4 ⟨rfl,hb4⟩
    clear hlB hb3
    go_wp2_with fail
    refine (CLV.out _ hb4).mono ?_
    rintro e w5 ⟨rfl,hb5⟩
    go_wp2
    go_ret
    exact ⟨rfl,W0.out _ hb5⟩
   have E2:=Lib.hid e2
   rw [e2] at CD
   clear e2
   go_wp2_with (with_reducible refine Yav (by kernel_rfl) 25 _ rfl (A+1) rfl 25 vs'.toArray (0,0) _ hlB Tryz.underlying25 rfl hsz' ?_)
   refine (CD.out _ hb3).mono ?_
   rintro e w4 ⟨rfl,hb4⟩
   clear hlB hb3 CC CD
   obtain ⟨D,hD⟩:∃D,w4.heap.size=D:=⟨_,rfl⟩
   obtain ⟨w5,hw5⟩:∃w5,w4.alloc Yh2=w5:=⟨_,rfl⟩
   have hwr5:Yb9 w5 (D+1) D []:=by rw [←hw5];exact Yb9.fresh hD (Nat.lt_succ_self _)
   have hbl5:Below w4.heap.size w4 w5:=by rw [←hw5];exact (Below.refl _ w4).alloc (Nat.le_refl _) _
   have hs5:w5.heap.size=D+1:=by rw [←hw5];simp;omega
   have hAD:A+2≤D:=by rw [←hD];have:=hb4.size;omega
   have hND:w.heap.size≤D:=by have:=HA.out;omega
   have hb5:=HK.out _ _ hb4 hbl5
   have cad:=Qe5 w5 (D+1) D [] s hwr5 (by simp;omega) (by omega)
   rw [List.nil_append] at cad
   have hr0:=Qap s
   have hl0:=Qao s
   obtain ⟨r0,hr0e⟩:∃r0,Qe4 s=r0:=⟨_,rfl⟩
   rw [hr0e] at cad hr0 hl0
   obtain ⟨XA,XB,hk1,hB1,hk2,hB2,hR2,hat⟩:=Y78 (r:=r0) hr0 E1.out E2.out
   have hm1:=Yot E1.out r0
   have hm2:=Yot E2.out (Yge r0 S)
   have cp1:=fun (x:World) (hx:Below (A+2) wB x) (hz:D+1≤x.heap.size) (hwx:Yb9 x (D+1) D r0)=> Ytm HSI.out HT.out (W0.out x hx) hND hz hwx (by omega) E1.out
   have cp2:=fun (x:World) (hx:Below (A+2) wB x) (hz:D+1≤x.heap.size) (hwx:Yb9 x (D+1) D (Yge r0 S))=> Ytm HSI'.out HT.out (W0.out x hx) hND hz hwx (by omega) E2.out
   have few1:=Qab Y63 (l:=Yep (Yge (Yge r0 S) S')) (p:=r0.length+gap r0.length)
   have few2:=Qab Y63 (l:=Yep (Yge (Yge r0 S) S')) (p:=(Yge r0 S).length)
   rw [hk1] at few1
   rw [hk2] at few2
   dsimp only at few1 few2
   obtain ⟨R1,hR1e⟩:∃R1,Yge r0 S=R1:=⟨_,rfl⟩
   rw [hR1e] at hk1 hk2 hR2 hat hm1 hm2 cp1 cp2
   obtain ⟨R2,hR2e⟩:∃R2,Yge R1 S'=R2:=⟨_,rfl⟩
   rw [hR2e] at hk1 hk2 hR2 hat hm2 cp2
   obtain ⟨P,hP⟩:∃P:ByteArray,⟨(Yep R2).toArray⟩=P:=⟨_,rfl⟩
   have hPl:P.data.toList=Yep R2:=by rw [←hP]
   have hPs:P.size=(Yep R2).length:=by rw [←hP];exact Y9n _
   rw [←hPl] at hk1 hk2
   have hR2b:R2.length≤300000000:=by omega
   have hPb:P.size≤100000000:=by omega
   have sr1:∀c∈Yd3 XA,∀k,k<6→(c.ev k).length≤1048576:=fun c h k _=> by have:=few1 c h k;omega
   have sr2:∀c∈Yd3 XB,∀k,k<6→(c.ev k).length≤1048576:=fun c h k _=> by have:=few2 c h k;omega
   have rw1:XA.rows.length≤4611686018427387904:=by have h1:=Ywh hB1;have h2:=(Ykt E1.out).2.2.1.2;omega
   have rw2:XB.rows.length≤4611686018427387904:=by have h1:=Ywh hB2;have h2:=(Ykt E2.out).2.2.1.2;omega
   obtain ⟨n0,hn0⟩:∃n0,r0.length=n0:=⟨_,rfl⟩
   have hn100:n0≤100:=by omega
   obtain ⟨g0,hg0⟩:∃g0,n0+gap n0=8*g0:=⟨(n0+gap n0) / 8,by unfold gap;omega⟩
   have dv:((n0:Int)+7).tdiv 8=(g0:Int):=by
    rw [Int.tdiv_eq_ediv_of_nonneg (by omega)]
    unfold gap at hg0
    omega
   have ws1:IntKind.i64.wrap ((n0:Int)+7)=(n0:Int)+7:=Yhg (by omega)
   have ws2:IntKind.i64.wrap ((g0:Int)*8)=((8*g0:Nat):Int):=by
    have:g0≤20:=by unfold gap at hg0;omega
    rw [Yhg (by omega)]
    omega
   have wg:IntKind.i64.wrap (g0:Int)=(g0:Int):=by
    have:g0≤20:=by unfold gap at hg0;omega
    exact Yhg (by omega)
   rw [hn0,hg0] at hk1
   rw [hn0,hg0] at hat
   have hat2:8*g0≤8*P.size:=by omega
   have hend:8*(P.size:Int)-((8*P.data.toList.length:Nat):Int)=0:=by have h:P.data.toList.length=P.size:=rfl;omega
   obtain ⟨at0,hat0⟩:∃at0,8*g0=at0:=⟨_,rfl⟩
   rw [hat0] at hk1 ws2 hat2
   obtain ⟨at2,hat2e⟩:∃at2,8*P.data.toList.length=at2:=⟨_,rfl⟩
   rw [hat2e] at hk2 hend
   have HK1:=Lib.hid hk1
   have HK2:=Lib.hid hk2
   have HP:=Lib.hid hP
   have HB1:=Lib.hid hB1
   have HB2:=Lib.hid hB2
   have HR2B:=Lib.hid hR2b
   have HPB:=Lib.hid hPb
   have SR1:=Lib.hid sr1
   have SR2:=Lib.hid sr2
   have RW1:=Lib.hid rw1
   have RW2:=Lib.hid rw2
   have HAT2:=Lib.hid hat2
   have HN0:=Lib.hid hn0
   have HD:=Lib.hid hD
   have HW5:=Lib.hid hw5
   have HEND:=Lib.hid hend
   clear hD hw5 hbl5 hr0 hl0 hr0e hk1 hk2 hB1 hB2 hR2 hat hm1 hm2 few1 few2 hR1e hR2e hP hPl hPs hR2b hPb sr1 sr2 rw1 rw2 hg0 hat2 hat0 hat2e hn100 hwr5 E1 E2 hn0 hend h100
   go_wp2_with fail
   refine (Yko _).mono ?_
   rintro e x ⟨rfl,rfl⟩
   rw [HW5.out,HD.out]
   go_wp2_with fail
   refine cad.mono ?_
   rintro e w6 ⟨ec,rfl,hwr6,hg6⟩
   have hb6:Below (A+2) wB w6:=hb5.grown hg6 (by have:=hb5.size;omega) (fun k hk=> by injection hk with hk;omega)
   have hz6:D+1≤w6.heap.size:=by have:=hg6.size;omega
   clear cad hg6 hb5 hs5 hb4
   go_wp2_with fail
   refine (Ys1 _ _ _ _ hwr6).mono ?_
   rintro e x ⟨rfl,rfl⟩
   rw [HN0.out]
   have hlA:=LA.out _ hb6
   have c1:=cp1 _ hb6 hz6 hwr6
   clear cp1 hwr6
   go_wp2_with (with_reducible refine wpList_load_row rfl 25 _ rfl A rfl 25 vs.toArray (0,0) _ hlA Tryz.underlying25 rfl hsz ?_)
   refine c1.mono ?_
   rintro e w7 ⟨rfl,hwr7,hg7⟩
   have hb7:Below (A+2) wB w7:=hb6.grown hg7 (by have:=hb6.size;omega) (fun k hk=> by injection hk with hk;omega)
   have hz7:D+1≤w7.heap.size:=by have:=hg7.size;omega
   have hlB:=LB.out _ hb7
   have c2:=cp2 _ hb7 hz7 hwr7
   clear c1 cp2 hlA hg7 hb6 hz6 hwr7
   go_wp2_with (with_reducible refine Yav (by kernel_rfl) 25 _ rfl (A+1) rfl 25 vs'.toArray (0,0) _ hlB Tryz.underlying25 rfl hsz' ?_)
   refine c2.mono ?_
   rintro e w8 ⟨rfl,hwr8,hg8⟩
   have hb8:Below (A+2) wB w8:=hb7.grown hg8 (by have:=hb7.size;omega) (fun k hk=> by injection hk with hk;omega)
   clear c2 hlB hg8 hb7
   go_wp2_with fail
   refine (Y9x _ _ _ _ hwr8 (by have:=HR2B.out;omega)).mono ?_
   rintro e w9 ⟨rfl,hb89⟩
   rw [HP.out]
   have hb9:=HK.out _ _ hb8 hb89
   obtain ⟨E,hE⟩:∃E,w9.heap.size=E:=⟨_,rfl⟩
   obtain ⟨wr,hwr⟩:∃wr,w9.alloc (Yp6 P 0)=wr:=⟨_,rfl⟩
   have hrd:Ybb wr E P 0:=by rw [←hwr];exact Ybb.fresh hE (by have:=HPB.out;omega)
   have hbr:Below w9.heap.size w9 wr:=by rw [←hwr];exact (Below.refl _ w9).alloc (Nat.le_refl _) _
   have hbR:=HK.out _ _ hb9 hbr
   have hAE:A+2≤E:=by rw [←hE];have:=hb9.size;omega
   have HE:=Lib.hid hE
   have HWR:=Lib.hid hwr
   clear hE hwr hbr hwr8 hb89 hb8 hb9
   go_wp2_with fail
   refine (Ygg _ _).mono ?_
   rintro e x ⟨rfl,rfl⟩
   rw [HWR.out,HE.out]
   have csk:=Ybs wr E P 0 (at0:Int) hrd (by omega) (by have:=HAT2.out;omega)
   rw [Int.toNat_natCast] at csk
   clear hrd
   go_wp2_with fail
   refine csk.mono ?_
   rintro e x1 ⟨rfl,hr1,hg1⟩
   have hbx1:Below (A+2) wB x1:=hbR.grown hg1 (by have:=hbR.size;omega) (fun k hk=> by injection hk with hk;omega)
   have ct:=Ywm (N:=w.heap.size) hr1 (HT.out.below (W0.out _ hbx1)) (by have:=HA.out;omega) (by have:=HPB.out;omega)
   unfold Ymz at ct
   rw [HK1.out] at ct
   dsimp only at ct
   clear csk hg1 hbR
   go_wp2_with fail
   refine ct.mono ?_
   rintro e x2 ⟨us,rfl,hus,hr2,hg2⟩
   have hbx2:Below (A+2) wB x2:=hbx1.grown hg2 (by have:=hbx1.size;omega) (fun k hk=> by injection hk with hk;omega)
   have hE1:E<x1.heap.size:=hr1.lt
   have szx:∀{x:World} {S:ShP} {vs:List Value},ShV x S vs→(Tryz.prog.info? 25).map (·.size)=some vs.toArray.size∧vs.toArray.size=8∧vs.toArray.all (·.oneCell')=true:=fun {x S vs} h=> by
    obtain ⟨p,q,ca,cb,rfl,-⟩:=h
    exact ⟨by rw [show (Yay S.hd (.slice p S.hd.supp.length ca) (.slice q S.rows.length cb) S.zeros).toArray.size=8 from rfl];kernel_rfl,rfl,Yh9 ..⟩
   obtain ⟨F1,F2,F3⟩:=szx (hus x2 [] (by simp) (Yaf.refl _ _))
   have F2':Y.size=us.toArray.size:=by rw [HYS,F2]
   obtain ⟨G,hG⟩:∃G,x2.heap.size=G:=⟨_,rfl⟩
   obtain ⟨x3,hx3⟩:∃x3,x2.alloc (.cells us.toArray 25 (0,0))=x3:=⟨_,rfl⟩
   have hbl3:Below x2.heap.size x2 x3:=by rw [←hx3];exact (Below.refl _ x2).alloc (Nat.le_refl _) _
   have hG3:x3.heap[G]? = some (.cells us.toArray 25 (0,0)):=by rw [←hx3,←hG];exact heap_alloc_new x2 _
   have hr3:=hr2.below hbl3
   have hbx3:=HK.out _ _ hbx2 hbl3
   have hgs:x1.heap.size≤x2.heap.size:=hg2.size
   have hs3:x3.heap.size=G+1:=by rw [←hx3,←hG];simp
   have HG:=Lib.hid hG
   have HX3:=Lib.hid hx3
   have ct2:=Ywm (N:=w.heap.size) hr3 (HT.out.below (W0.out _ hbx3)) (by have:=HA.out;omega) (by have:=HPB.out;omega)
   unfold Ymz at ct2
   rw [HK2.out] at ct2
   dsimp only at ct2
   have hEG:E<G:=by omega
   have HBL3:=Lib.hid hbl3
   clear ct hG hx3 hr1 hr2 hbl3 hg2 hbx1 hbx2
   go_wp2_with (with_reducible refine Yaj rfl 25 _ _ rfl us.toArray Y 25 rfl rfl F1 F2' F3 ?_;rw [HX3.out,HG.out])
   refine ct2.mono ?_
   rintro e x4 ⟨us2,rfl,hus2,hr4,hg4⟩
   have hbx4:Below (A+2) wB x4:=hbx3.grown hg4 (by have:=hbx3.size;omega) (fun k hk=> by injection hk with hk;omega)
   have hS1:Yzq x4 XA us:=⟨hus x4 [some E] (fun j hm=> by have e:=List.mem_singleton.1 hm;injection e with e;omega) ((Yaf.below HBL3.out).trans (Yaf.one (L:=[some E]) hg4 fun j _ e=> by rw [e];exact List.mem_singleton.2 rfl) fun j _ h=> h),RW1.out,SR1.out⟩
   have hS2:Yzq x4 XB us2:=⟨hus2 x4 [] (by simp) (Yaf.refl _ _),RW2.out,SR2.out⟩
   obtain ⟨G1,G2,G3⟩:=szx hS2.1
   have G2':Y.size=us2.toArray.size:=by rw [HYS,G2]
   have hG4:=(hg4.block G (by omega) (fun e=> by injection e with e;omega)).trans hG3
   obtain ⟨H,hH⟩:∃H,x4.heap.size=H:=⟨_,rfl⟩
   obtain ⟨x5,hx5⟩:∃x5,x4.alloc (.cells us2.toArray 25 (0,0))=x5:=⟨_,rfl⟩
   have hbl5:Below x4.heap.size x4 x5:=by rw [←hx5];exact (Below.refl _ x4).alloc (Nat.le_refl _) _
   have hH5:x5.heap[H]? = some (.cells us2.toArray 25 (0,0)):=by rw [←hx5,←hH];exact heap_alloc_new x4 _
   have hGH:G<H:=by have:=hg4.size;omega
   have hG5:=(hbl5.block G (by omega)).trans hG4
   have hr5:=hr4.below hbl5
   have hbx5:=HK.out _ _ hbx4 hbl5
   have hlA:=LA.out _ hbx5
   have cs1:=Yrg HSI.out hS1 (W0.out _ hbx5) hbl5
   have hH1:H<x5.heap.size:=(Array.getElem?_eq_some_iff.1 hH5).1
   rw [HB1.out] at cs1
   have HS2:=Lib.hid hS2
   have HBL5:=Lib.hid hbl5
   have HH:=Lib.hid hH
   have HX5:=Lib.hid hx5
   clear ct2 hus hus2 hS1 hS2 hr3 hr4 hg4 hG3 hG4 hH hx5 hbl5 hbx3 hbx4 szx
   go_wp2_with (first | (with_reducible refine Yaj rfl 25 _ _ rfl us2.toArray Y 25 rfl rfl G1 G2' G3 ?_;rw [HX5.out,HH.out]) | (with_reducible refine Yav (by kernel_rfl) 25 _ rfl G rfl 25 us.toArray (0,0) _ hG5 Tryz.underlying25 rfl F1 ?_) | (with_reducible refine Yav (by kernel_rfl) 25 _ rfl A rfl 25 vs.toArray (0,0) _ hlA Tryz.underlying25 rfl hsz ?_))
   refine cs1.mono ?_
   rintro e x6 ⟨rfl,hb56⟩
   have hH6:=(hb56.block H hH1).trans hH5
   have hr6:=hr5.below hb56
   have hbx6:=HK.out _ _ hbx5 hb56
   have hlB:=LB.out _ hbx6
   have cs2:=Yrg HSI'.out HS2.out (W0.out _ hbx6) (HBL5.out.trans (hb56.mono HBL5.out.size))
   rw [HB2.out] at cs2
   clear cs1 hlA hG5 hH5 hr5 hb56 hbx5
   go_wp2_with (first | (with_reducible refine Yav (by kernel_rfl) 25 _ rfl H rfl 25 us2.toArray (0,0) _ hH6 Tryz.underlying25 rfl G1 ?_) | (with_reducible refine Yav (by kernel_rfl) 25 _ rfl (A+1) rfl 25 vs'.toArray (0,0) _ hlB Tryz.underlying25 rfl hsz' ?_))
   refine cs2.mono ?_
   rintro e x7 ⟨rfl,hb67⟩
   have hr7:=hr6.below hb67
   have hbx7:=HK.out _ _ hbx6 hb67
   clear cs2 hlB hH6 hr6 hb67 hbx6
   go_wp2_with fail
   refine (Yhy _ _ _ _ hr7).mono ?_
   rintro e x8 ⟨rfl,hb78⟩
   have hbx8:=HK.out _ _ hbx7 hb78
   rw [HEND.out]
   clear hr7 hb78 hbx7
   go_wp2_with fail
   refine (CLV.out _ hbx8).mono ?_
   rintro e x9 ⟨rfl,hb9⟩
   go_wp2
   go_ret
   exact ⟨rfl,W0.out _ hb9⟩
end Go.Proofs.YtgikochfffdpfaaGreatDoor