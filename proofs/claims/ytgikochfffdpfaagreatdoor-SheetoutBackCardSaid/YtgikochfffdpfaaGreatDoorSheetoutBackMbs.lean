/- Texts that SheetoutBack's proof stands on, part 45 of 52. No condition of its own. -/
import Derived.Test.YtgikochfffdpfaaGreatDoorSheetoutBackMf
import Derived.Test.YtgikochfffdpfaaGreatDoorSheetoutBackMo
import Derived.Test.YtgikochfffdpfaaGreatDoorSheetoutBackMbm
import Derived.Test.YtgikochfffdpfaaGreatDoorSheetoutBackMbp
import Derived.Test.YtgikochfffdpfaaGreatDoorSheetoutBackMbr
import Derived.Deep.DeepCutAuto
import Derived.Deep.CutRange
import Derived.Deep.CutBlock
import Derived.StillTailTactics
import Derived.WalkKit
import Derived.Lib.LaidTab
import Derived.MakeChecks
namespace Go.Proofs.YtgikochfffdpfaaGreatDoor
open Go.RowKit Go.Maps Go.Sort
def Yf1 (l:List (ByteArray×Int)):Nat:=l.foldl (fun a x=> max a x.1.size) 0
theorem Y28 (l:List (ByteArray×Int)) (j:Nat) (h:j<l.length):Yf1 (l.take (j+1))=max (Yf1 (l.take j)) l[j].1.size:=by
 unfold Yf1
 rw [List.take_succ_eq_append_getElem h,List.foldl_append]
 rfl
def mkP (l:List (ByteArray×Int)):Prop:=1≤l.length∧l.length≤256∧(∀x∈l,Ycc (Ya0 x)=true)∧Yhf (l.map Ya0)∧(l.map (·.2)).Nodup
def Yt8 (l:List (ByteArray×Int)) (w:World) (e:Ending) (w':World):Prop:=
 (mkP l→∃tb ds,e = .returned (.tuple #[.pointer (some ⟨tb,0,none⟩),.int .i64 0])∧Qez w' w.heap.size w'.heap.size tb ds (Yf1 l:Nat)∧ds.Perm l∧ds.Pairwise fun x y=> leL (Ya0 x) (Ya0 y)=true)∧
 (¬ mkP l→e = .returned (.tuple #[.pointer none,.int .i64 1]))∧Below w.heap.size w w'
theorem Ykm {l:List (ByteArray×Int)} {w w':World} (h:¬ mkP l) (hb:Below w.heap.size w w'):Yt8 l w (.returned (.tuple #[.pointer none,.int .i64 1])) w':=
 ⟨fun hm=> absurd hm h,fun _=> rfl,hb⟩
def Qe2 (w:World) (n:Nat) (Yjc:List Value) (t4:Value) (x:World):Prop:=
 ∃(tb bm:Nat) (q:Option Addr) (cap:Nat),t4 = .pointer (some ⟨tb,0,none⟩)∧x.heap[tb]? = some (Yl2 (some bm) q n cap 0)∧x.ownsMap Tryz.prog 3 (plainElem Tryz.prog 9) bm 0 (.map []:DataW Unit)∧x.ownsRow w.heap.size 249 2 (.slice q n cap) n Yjc∧Below w.heap.size w x∧w.heap.size≤tb∧w.heap.size≤bm
theorem Y5u {w:World} {b o:Nat} {l:List (ByteArray×Int)} (h:Cds w (some ⟨b,o,none⟩) l):∀j u,(Ya3 l)[j]? = some u→w.cell? ⟨b,o+j,none⟩=some u:=by
 intro j u hu
 have hj:j<l.length*2:=by
  have:=(List.getElem?_eq_some_iff.1 hu).1
  rwa [Yhc] at this
 obtain ⟨b',o',e,_,hc⟩:=h.at (by omega)
 cases e
 have hi:j / 2<l.length:=by omega
 obtain ⟨g0,g1⟩:=Ye6 l (j / 2) hi
 obtain ⟨c0,c1⟩:=hc (j / 2) hi
 rcases (by omega:j=j / 2*2∨j=j / 2*2+1) with e | e
 ·rw [e] at hu ⊢
  rw [g0] at hu
  cases hu
  exact c0
 ·rw [e] at hu ⊢
  rw [g1] at hu
  cases hu
  exact c1
theorem Y0u {w:World} {base base' e size n:Nat} {v:Value} {xs:List Value} (h:w.ownsRow base e size v n xs) (hb:base'≤base):w.ownsRow base' e size v n xs:=by
 refine ⟨h.1,?_⟩
 rcases h.2 with h | ⟨g,cap,cur,h1,h2,h3⟩
 ·exact .inl h
 ·exact .inr ⟨g,cap,cur,h1,Nat.le_trans hb h2,h3⟩
theorem Yyl {w:World} {base cb cap:Nat} {l:List (ByteArray×Int)} (h:w.ownsRow base 249 2 (.slice (some ⟨cb,0,none⟩) l.length cap) l.length (Ya3 l)):HoldsK Yu5 2 w cb 0 l.toArray:=by
 intro j hj
 rw [size_flatK,List.size_toArray] at hj
 have hi:j / 2<l.length:=by omega
 have hfz:w.frozen? ⟨cb,0+j,none⟩=false:=by
  rcases h.2 with ⟨h1,_⟩ | ⟨g,cap',cur,h1,_,hg,_⟩
  ·cases h1
  ·cases h1
   exact frozen_of_row w cb _ cur _ hg
 refine ⟨?_,hfz⟩
 have hget:l.toArray[j / 2]! = l[j / 2]:=by rw [getElem!_pos _ (j / 2) (by simpa using hi)];simp
 rw [get_flatK _ _ _ _ (by simpa using hj),hget]
 obtain ⟨g0,g1⟩:=Ye6 l (j / 2) hi
 rcases (by omega:j%2=0∨j%2=1) with e | e
 ·have:=World.ownsRow.cells (g:=cb) h rfl (j / 2*2) _ g0
  rw [Addr.add_mid,show 0+j / 2*2=0+j by omega] at this
  rw [this,e];rfl
 ·have:=World.ownsRow.cells (g:=cb) h rfl (j / 2*2+1) _ g1
  rw [Addr.add_mid,show 0+(j / 2*2+1)=0+j by omega] at this
  rw [this,e];rfl
theorem Y2l {w:World} {cb:Nat} {d:Array (ByteArray×Int)} (h:HoldsK Yu5 2 w cb 0 d) (hlt:cb<w.heap.size):Cds w (some ⟨cb,0,none⟩) d.toList:=by
 refine .inr ⟨cb,0,rfl,hlt,fun i hi=> ?_⟩
 have hi':i<d.size:=by simpa using hi
 have hget:d[i]! = d.toList[i]:=by rw [getElem!_pos d i hi'];simp
 have c0:=(HoldsK.cell h hi' (by decide:0<2)).1
 have c1:=(HoldsK.cell h hi' (by decide:1<2)).1
 rw [hget] at c0 c1
 exact ⟨c0,c1⟩
theorem Yvg {w:World} {g n:Nat} {os:Array Obj} (d:Array (ByteArray×Int)):w.grownBy (sortWorldK Yu5 2 w g 0 n d os) (some g):=by
 refine ⟨rfl,rfl,rfl,size_sortWorldK_c Yu5 2 w g 0 n d os,fun k hk hne=> ?_⟩
 unfold sortWorldK putRowK
 rw [heap_grow_old _ _ (by simpa using hk)]
 have:g≠k:=fun e=> hne (by rw [e])
 simp [putRow,mapBlock,Sort.ahead,Array.getElem?_modify,this]
theorem Yza {d:Array (ByteArray×Int)} (h:SortedIn (ltOf Qem) 0 d.size d):d.toList.Pairwise fun x y=> leL (Ya0 x) (Ya0 y)=true:=by
 rw [List.pairwise_iff_getElem]
 intro i j hi hj hij
 have hi':i<d.size:=by simpa using hi
 have hj':j<d.size:=by simpa using hj
 have:=h i j (Nat.zero_le _) hij hj'
 rw [getElem!_pos d i hi',getElem!_pos d j hj'] at this
 unfold ltOf Qem at this
 rw [Ylh] at this
 simpa using this
theorem Y8m {d d':Array (ByteArray×Int)} (h:PermIn 0 d.size d d'):d'.toList.Perm d.toList:=by
 have h1:=h.1
 have h3:=h.2.2
 have e1:d'.extract 0 d.size=d':=by rw [←h1];simp
 have e2:d.extract 0 d.size=d:=by simp
 rw [e1,e2] at h3
 exact h3
theorem Y4c (base cb cap:Nat) (l:List (ByteArray×Int)) (w:World) (h:w.ownsRow base 249 2 (.slice (some ⟨cb,0,none⟩) l.length cap) l.length (Ya3 l)) (hlt:cb<w.heap.size) (hn:l.length≤256):
  Calls Tryz.prog 213 #[.slice (some ⟨cb,0,none⟩) l.length cap,.func (.func 214) #[] #[]] w fun e w'=>
   e = .returned (.tuple #[])∧∃ds:List (ByteArray×Int),ds.Perm l∧(ds.Pairwise fun x y=> leL (Ya0 x) (Ya0 y)=true)∧Cds w' (some ⟨cb,0,none⟩) ds∧w.grownBy w' (some cb):=by
 have hH:=Yyl h
 have hs:=Qdn cb 0 cap l.toArray w hH hlt (by simp;omega)
 rw [List.size_toArray] at hs
 refine hs.mono ?_
 rintro e w1 ⟨rfl,d',n,os,hp,hso,rfl⟩
 have hp':PermIn 0 l.toArray.size l.toArray d':=hp
 have hsz:d'.size=l.length:=hp'.1
 refine ⟨rfl,d'.toList,Y8m hp',Yza (by rw [hsz];exact hso),?_,Yvg d'⟩
 exact Y2l (holdsK_sortWorldK_c Yu5 2 w cb 0 l.toArray d' n os hH hlt hp'.1) (Nat.lt_of_lt_of_le hlt (size_sortWorldK_c Yu5 2 w cb 0 n d' os))
theorem Yvr {w:World} {tb bm n:Nat} {cs:Array Value} {T:TypeId} {fr:Nat×Nat} {D:DataW Unit} (h:w.heap[tb]? = some (.cells cs T fr)) (ho:w.ownsMap Tryz.prog 3 (plainElem Tryz.prog 9) bm n D):tb≠bm:=by
 rintro rfl
 obtain ⟨es,clock,hb,_⟩:=ho
 rw [h] at hb
 cases hb
theorem Yq4 {w:World} {base e size n:Nat} {v:Value} {xs:List Value} (h:w.ownsRow base e size v n xs):w.drew.ownsRow base e size v n xs:=h
theorem Yg0 {w:World} {base e size n:Nat} {v:Value} {xs:List Value} (h:w.ownsRow base e size v n xs) {b:Nat} {o:Obj} (hb:w.heap[b]? = some o) (hne:∀cs,o≠.cells cs e (0,0)):v.ownBlock=none∨v.ownBlock≠some b:=by
 rcases h.2 with ⟨rfl,_⟩ | ⟨g,cap,cur,rfl,_,hg,_⟩
 ·exact .inl rfl
 ·right
  intro hk
  injection hk with hk
  obtain rfl:g=b:=hk
  rw [hg] at hb
  injection hb with hb
  exact hne _ hb.symm
theorem Yxy (b o c:Nat) (l:List (ByteArray×Int)) (w:World) (hn:l.length≤256) (hc:∀j u,(Ya3 l)[j]? = some u→w.cell? ⟨b,o+j,none⟩=some u):
  Calls Tryz.prog 211 #[.slice (some ⟨b,o,none⟩) l.length c] w fun e w'=>∃q cap,e = .returned (.slice q l.length cap)∧w'.ownsRow w.heap.size 249 2 (.slice q l.length cap) l.length (Ya3 l)∧Below w.heap.size w w':=by
 refine (Y59 b o l.length c (Ya3 l) w (Yhc l) (by omega) hc (Ysl l)).mono ?_
 rintro e w1 ⟨v,rfl,hown,_,hb⟩
 obtain ⟨q,cap,rfl,_⟩:=Yq3 hown
 exact ⟨q,cap,rfl,hown,hb⟩
theorem Yyu {ds:List (ByteArray×Int)} (hs:ds.Pairwise fun x y=> leL (Ya0 x) (Ya0 y)=true):(∃i,∃h:i+1<ds.length,(Ya0 ds[i]).isPrefixOf (Ya0 ds[i+1])=true)↔¬ Yhf (ds.map Ya0):=by
 constructor
 ·rintro ⟨i,h,hp⟩ hf
  have:=Yke.1 hf i (i+1) (by simp;omega) (by simpa using h) (by omega)
  rw [List.getElem_map,List.getElem_map,hp] at this
  cases this
 ·intro hf
  apply Classical.byContradiction
  intro hno
  apply hf
  refine Yjg (by rw [List.pairwise_map];exact hs) fun i hi=> ?_
  rw [List.getElem_map,List.getElem_map]
  cases hp:(Ya0 (ds[i]'(by simp at hi;omega))).isPrefixOf (Ya0 (ds[i+1]'(by simpa using hi))) with
  | false=> rfl
  | true=> exact absurd ⟨i,by simpa using hi,hp⟩ hno
theorem Yyv (ds:List (ByteArray×Int)) (n:Nat) (hn:ds.length=n) (p:Option Addr) (cap:Nat) (w:World) (r:Bool) (hs:ds.Pairwise fun x y=> leL (Ya0 x) (Ya0 y)=true) (hr:r=true↔¬ Yhf (ds.map Ya0)) (hc:Cds w p ds) (hm:n≤256):
  Calls Tryz.prog 216 #[.slice p n cap] w fun e w'=> e = .returned (.bool r)∧Below w.heap.size w w':=by
 subst hn
 exact Yyt ds p cap w r (hr.trans (Yyu hs).symm) hc (by omega)
theorem Ywi (w:World) (n:Int):(Instr.makeMap 246 (some (.int .i64 n))).run Tryz.prog w = .ok (.map (some w.heap.size)) (w.alloc (.map #[] 0)):=by
 simp [Instr.makeMap,run_underlying Tryz.underlying246,asInt,asIntOf,Result.andThen]
set_option maxRecDepth 100000 in
set_option maxHeartbeats 16000000 in
theorem Y7t (l:List (ByteArray×Int)) (p:Option Addr) (cap:Nat) (w:World) (hc:Cds w p l) (hm:l.length≤maxLen) (hl:∀x∈l,x.1.size≤maxLen∧(Lit.int .i64 x.2).wf=true):
  Calls Tryz.prog 198 #[.slice p l.length cap] w (Yt8 l w):=by
 unfold maxLen at hm
 have HL:=Lib.hid hl
 clear hl
 by_cases h0:l.length=0
 ·have F:=Lib.hid (show ¬ mkP l from fun h=> by have:=h.1;omega)
  have t0:((l.length:Int)==0)=true:=by rw [beq_iff_eq];omega
  clear h0
  go_enter Tryz.func198,Tryz.ntmps198
  go_wp2
  go_ret2
  exact Ykm F.out (Below.refl _ _)
 by_cases h1:256<l.length
 ·have F:=Lib.hid (show ¬ mkP l from fun h=> by have:=h.2.1;omega)
  have t0:((l.length:Int)==0)=false:=by rw [beq_eq_false_iff_ne];omega
  have t1:decide (256<(l.length:Int))=true:=by simp;omega
  clear h0
  go_enter Tryz.func198,Tryz.ntmps198
  go_wp2
  go_ret2
  exact Ykm F.out (Below.refl _ _)
 obtain ⟨b,o,rfl,hblt,hcells⟩:=hc.at (by omega)
 have hE:∀x,Below w.heap.size w x→Cds x (some ⟨b,o,none⟩) l:=fun x hx=> hc.below hx
 have EE:=Lib.hid hE
 have h2:l.length≤256:=by omega
 have h3:1≤l.length:=by omega
 have t0:((l.length:Int)==0)=false:=by rw [beq_eq_false_iff_ne];omega
 have t1:decide (256<(l.length:Int))=false:=by simp;omega
 have hnews:∀(x:World),Below w.heap.size w x→∀j u,(Ya3 l)[j]? = some u→x.cell? ⟨b,o+j,none⟩=some u:=fun x hx=> Y5u (hE x hx)
 have NW:=Lib.hid hnews
 have hmm:=fun (w:World)=> Ywi w (l.length:Int)
 clear h0 h1 hE hcells hnews hc hblt
 go_enter Tryz.func198,Tryz.ntmps198
 go_upto_region 3 with (fail)
 go_cut [4] from 15 to 21 (fun t4 x=> Qe2 w l.length (Ya3 l) t4 x)
 case first=>
  go_wp2
  go_region_with (go_at_call 211;refine (Yxy b o cap l _ h2 ?_).mono ?_;(intro j u hu;first | exact NW.out _ ((Below.refl _ _).drew) j u hu | exact NW.out _ (((Below.refl _ _).drew).alloc (Nat.le_refl _) _) j u hu);rintro e w1 ⟨q,cq,rfl,hown,hb1⟩)
  ·have hom:w1.ownsMap Tryz.prog 3 (plainElem Tryz.prog 9) w.heap.size 0 (.map []:DataW Unit):=((World.ownsMap_made w _ _ _).drew).kept (Yai hb1 none) (by simp)
   have hbw:Below w.heap.size w w1:=(((Below.refl _ w).alloc (Nat.le_refl _) _).drew).trans (hb1.mono (by simp))
   have hz1:=hb1.size
   have hfin:Qe2 w l.length (Ya3 l) (.pointer (some ⟨w1.heap.size,0,none⟩)) (w1.alloc (Yl2 (some w.heap.size) q l.length cq 0)):=
    ⟨w1.heap.size,w.heap.size,q,cq,rfl,heap_alloc_new w1 _,hom.alloc _,(Y0u hown (by simp)).alloc _,hbw.alloc hbw.size _,hbw.size,Nat.le_refl _⟩
   have FI:=Lib.hid hfin
   clear hfin hom hown hb1
   go_wp2
   go_meet
   case rel=> exact FI.out
  ·have hbw:Below w.heap.size w w1:=((Below.refl _ w).drew).trans hb1
   have hfin:Qe2 w l.length (Ya3 l) (.pointer (some ⟨w1.heap.size+1,0,none⟩)) ((w1.alloc (.map #[] 0)).alloc (Yl2 (some w1.heap.size) q l.length cq 0)):=
    ⟨w1.heap.size+1,w1.heap.size,q,cq,rfl,by rw [show w1.heap.size+1=(w1.alloc (.map #[] 0)).heap.size by simp];exact heap_alloc_new _ _,(World.ownsMap_made w1 _ _ _).alloc _,((Y0u hown (by simp)).alloc _).alloc _,(hbw.alloc hbw.size _).alloc (by have:=hbw.size;simp;omega) _,by have:=hbw.size;omega,hbw.size⟩
   have FI:=Lib.hid hfin
   clear hfin hown hb1
   go_wp2
   go_meet
   case rel=> exact FI.out
 case rest=>
  obtain ⟨tb,bm,q,cq,rfl,htb,hom,hown,hb,hBt,hBm⟩:=hcut
  obtain ⟨B,hB⟩:∃B,w.heap.size=B:=⟨_,rfl⟩
  rw [hB] at EE NW hown hb hBt hBm
  have HB:=Lib.hid hB
  clear hB hmm NW
  go_wp2
  go_loopw [24] (fun i wr=>∃j:Nat,j≤l.length∧i = .int .i64 j∧wr.heap[tb]? = some (Yl2 (some bm) q l.length cq (Yf1 (l.take j):Nat))∧wr.ownsMap Tryz.prog 3 (plainElem Tryz.prog 9) bm j (Ymr (l.take j))∧wr.ownsRow B 249 2 (.slice q l.length cq) l.length (Ya3 l)∧Below B w wr∧Hid (∀a,(h:a<l.length)→a<j→Ycc (Ya0 l[a])=true)) (fun i _=> l.length-(intOf i).toNat)
  case atStart=> exact ⟨0,Nat.zero_le _,rfl,htb,hom,hown,hb,Lib.hid (fun a _ h=> absurd h (Nat.not_lt_zero a))⟩
  case round=>
   clear htb hom hown hb
   obtain ⟨j,hj,rfl,htb,hom,hown,hb,hok⟩:=hrel
   by_cases hlt:j<l.length
   ·obtain ⟨b',o',e,hblt,hcells⟩:=(EE.out wr hb).at (by omega)
    cases e
    obtain ⟨c0,c1⟩:=hcells j hlt
    obtain ⟨hx1,hx2⟩:=HL.out l[j] (List.getElem_mem hlt)
    have D1:=Lib.hid (Y2p l j hlt)
    have L1:=Lib.hid (Y28 l j hlt)
    obtain ⟨x,hx⟩:∃x,l[j]=x:=⟨_,rfl⟩
    rw [hx] at c0 c1 hx1 hx2 D1 L1
    have HX:=Lib.hid hx
    clear hx hcells
    go_wp2_with fail
    refine (Yw1 x.1 hx1 _).mono ?_
    rintro e w1 ⟨rfl,hb1⟩
    have hgr:wr.grownBy w1 none:=Yad (World.grownBy_alloc wr _ none) (Yai hb1 none)
    have htb1:w1.heap[tb]? = some (Yl2 (some bm) q l.length cq (Yf1 (l.take j):Nat)):=(hgr.block tb (Array.getElem?_eq_some_iff.1 htb).1 (by simp)).trans htb
    have hom1:=hom.kept hgr (by simp)
    have hown1:=hown.kept hgr (by cases hv:(Value.slice q l.length cq).ownBlock <;> simp)
    have hbw1:Below B w w1:=(hb.alloc (by have:=hb.size;rw [HB.out] at this;exact this) _).trans (hb1.mono (by have:=hb.size;rw [HB.out] at this;simp;omega))
    have hvb:w1.heap[wr.heap.size]? = some (.cells [.string x.1,.int .i64 x.2].toArray 249 (0,0)):=(hb1.block wr.heap.size (by simp)).trans (heap_alloc_new wr _)
    have v0:w1.cell? ⟨wr.heap.size,0,none⟩=some (.string x.1):=Yaa hvb rfl
    have v1:w1.cell? ⟨wr.heap.size,1,none⟩=some (.int .i64 x.2):=Yaa hvb rfl
    clear hgr hb1 htb hom hown hb c0 c1
    cases hk:Ycc x.1.data.toList with
    | false=>
     have F:=Lib.hid (show ¬ mkP l from fun h=> by
      have:=h.2.2.1 x (by rw [←HX.out];exact List.getElem_mem hlt)
      rw [show Ycc (Ya0 x)=Ycc x.1.data.toList from rfl,hk] at this
      cases this)
     clear hk
     go_wp2
     go_ret2
     exact Ykm F.out (by rw [HB.out];exact hbw1)
    | true=>
     have OKN:Hid (∀a,(h:a<l.length)→a<j+1→Ycc (Ya0 l[a])=true):=Lib.hid (fun a ha h=> by
      by_cases e:a=j
      ·subst e
       rw [HX.out];exact hk
      ·exact hok.out a ha (by omega))
     clear hk hok
     have t40:w1.cell? ⟨tb,0,none⟩=some (.map (some bm)):=Yaa htb1 rfl
     go_wp2_with fail
     go_still_tail 8,(by kernel_rfl)
     change wpList _ _ _ _ _ w1.drew
     have htb2:w1.drew.heap[tb]? = some (Yl2 (some bm) q l.length cq (Yf1 (l.take j):Nat)):=htb1
     have hom2:=hom1.drew
     have hown2:=Yq4 hown1
     have hbw2:Below B w w1.drew:=hbw1.drew
     have hvb2:w1.drew.heap[wr.heap.size]? = some (.cells [.string x.1,.int .i64 x.2].toArray 249 (0,0)):=hvb
     generalize w1.drew=x0 at htb2 hom2 hown2 hbw2 hvb2 ⊢
     clear htb1 hom1 hown1 hbw1 hvb v0 v1 t40
     have hne1:=Yvr htb2 hom2
     have hne2:=Yvr hvb2 hom2
     have hbo:∀es clock,x0.heap[bm]? = some (.map es clock)→(Value.slice q l.length cq).ownBlock=none∨(Value.slice q l.length cq).ownBlock≠some bm:=fun es clock h=> Yg0 hown2 h (fun cs=> by simp)
     obtain ⟨es,clock,hme,_⟩:=id hom2
     have hbo2:=hbo es clock hme
     have hbo3:=Yg0 hown2 htb2 (fun cs=> by unfold Yl2;intro e;injection e with _ e;exact absurd e (by decide))
     have BO2:=Lib.hid hbo2
     have BO3:=Lib.hid hbo3
     have VB:wr.heap.size<x0.heap.size:=(Array.getElem?_eq_some_iff.1 hvb2).1
     have TB:tb<x0.heap.size:=(Array.getElem?_eq_some_iff.1 htb2).1
     clear hbo hme hbo2 hbo3
     go_wp2_with (at_mapUpdate;refine wpList_mapUpdate_own _ rfl _ _ _ 246 rfl 3 9 Qf1 Tryz.underlying246 _ bm j (Ymr (l.take j)) rfl hom2 (by unfold maxLen;omega) _ _ (Qcg x) rfl rfl (keyOf_int_mk Tryz.underlying3 hx2) (Qd4 x) [] (plainElem_string Tryz.underlying9 hx1) ?_;intro w2 hom3 hg2;have htb3:w2.heap[tb]? = some (Yl2 (some bm) q l.length cq (Yf1 (l.take j):Nat)):=(hg2.block tb TB (by intro e;injection e with e;exact hne1 e)).trans htb2;have hvb3:w2.heap[wr.heap.size]? = some (.cells [.string x.1,.int .i64 x.2].toArray 249 (0,0)):=(hg2.block _ VB (by intro e;injection e with e;exact hne2 e)).trans hvb2;have hown3:=hown2.kept hg2 BO2.out;have hbw3:Below B w w2:=hbw2.grown hg2 (by have:=hbw2.size;rw [HB.out] at this;exact this) (by intro k hk;injection hk with hk;omega);clear hom2 hg2 htb2 hvb2 hown2 hbw2)
     have v0:w2.cell? ⟨wr.heap.size,0,none⟩=some (.string x.1):=Yaa hvb3 rfl
     have t2:w2.cell? ⟨tb,2,none⟩=some (.int .i64 (Yf1 (l.take j):Nat)):=Yaa htb3 rfl
     go_still_tail 11,(by kernel_rfl)
     change wpList _ _ _ _ _ w2.drew
     have htb4:w2.drew.heap[tb]? = some (Yl2 (some bm) q l.length cq (Yf1 (l.take j):Nat)):=htb3
     have hom4:=hom3.drew
     have hown4:=Yq4 hown3
     have hbw4:Below B w w2.drew:=hbw3.drew
     generalize w2.drew=x1 at htb4 hom4 hown4 hbw4 ⊢
     clear htb3 hom3 hown3 hbw3 hvb3 v0 t2
     have tf:=Yag (o:=2) htb4
     have t2:x1.cell? ⟨tb,2,none⟩=some (.int .i64 (Yf1 (l.take j):Nat)):=Yaa htb4 rfl
     have hfin:(x1.setCell ⟨tb,2,none⟩ (.int .i64 (max ((Yf1 (l.take j):Nat):Int) (x.1.size:Int)))).heap[tb]? = some (Yl2 (some bm) q l.length cq (Yf1 (l.take (j+1)):Nat))∧
       (x1.setCell ⟨tb,2,none⟩ (.int .i64 (max ((Yf1 (l.take j):Nat):Int) (x.1.size:Int)))).ownsMap Tryz.prog 3 (plainElem Tryz.prog 9) bm (j+1) (Ymr (l.take (j+1)))∧
       (x1.setCell ⟨tb,2,none⟩ (.int .i64 (max ((Yf1 (l.take j):Nat):Int) (x.1.size:Int)))).ownsRow B 249 2 (.slice q l.length cq) l.length (Ya3 l)∧
       Below B w (x1.setCell ⟨tb,2,none⟩ (.int .i64 (max ((Yf1 (l.take j):Nat):Int) (x.1.size:Int)))):=by
      have hg:=Yam x1 ⟨tb,2,none⟩ (.int .i64 (max ((Yf1 (l.take j):Nat):Int) (x.1.size:Int)))
      refine ⟨?_,?_,hown4.kept hg BO3.out,hbw4.setCell hBt _⟩
      ·rw [L1.out,show ((max (Yf1 (l.take j)) x.1.size:Nat):Int)=max ((Yf1 (l.take j):Nat):Int) (x.1.size:Int) by omega]
       exact Yat (o:=2) _ htb4
      ·rw [D1.out]
       exact hom4.setCell (Ne.symm hne1) _
     have FI:=Lib.hid hfin
     clear hfin
     go_wp2_with fail
     go_roundw
     case rel=> exact ⟨j+1,by omega,by go_num,FI.out.1,FI.out.2.1,FI.out.2.2.1,FI.out.2.2.2,OKN⟩
     case measure=> simp [intOf];omega
   ·obtain rfl:j=l.length:=by omega
    rw [List.take_length] at htb hom
    obtain ⟨cb,rfl,hcb⟩:∃cb,q=some ⟨cb,0,none⟩∧cb<wr.heap.size∧B≤cb∧l.length≤cq∧cq≤maxLen:=by
     rcases hown.2 with ⟨_,h⟩ | ⟨g,cap',cur,h1,h2,hg,h4,h5,_⟩
     ·omega
     ·cases h1
      exact ⟨g,rfl,(Array.getElem?_eq_some_iff.1 hg).1,h2,h4,h5⟩
    have hbo3:=Yg0 hown htb (fun cs=> by unfold Yl2;intro e;injection e with _ e;exact absurd e (by decide))
    obtain ⟨es,clock,hme,_⟩:=id hom
    have hbo2:=Yg0 hown hme (fun cs=> by simp)
    have hct:cb≠tb:=by
     rcases hbo3 with h | h
     ·cases h
     ·exact fun e=> h (by rw [e];rfl)
    have hcm:cb≠bm:=by
     rcases hbo2 with h | h
     ·cases h
     ·exact fun e=> h (by rw [e];rfl)
    have c1:wr.cell? ⟨tb,1,none⟩=some (.slice (some ⟨cb,0,none⟩) l.length cq):=Yaa htb rfl
    obtain ⟨hcb,hBc,hlc,hcm2⟩:=hcb
    clear hme hbo2 hbo3
    go_wp2_with fail
    refine (Y4c B cb cq l _ hown hcb h2).mono ?_
    rintro e x2 ⟨rfl,ds,hp,hso,hds,hg⟩
    have htb1:x2.heap[tb]? = some (Yl2 (some bm) (some ⟨cb,0,none⟩) l.length cq (Yf1 l:Nat)):=(hg.block tb (Array.getElem?_eq_some_iff.1 htb).1 (by intro e;injection e with e;exact hct e.symm)).trans htb
    have hom1:=hom.kept hg (by intro e;injection e with e;exact hcm e.symm)
    have hb1:Below B w x2:=hb.grown hg (by have:=hb.size;rw [HB.out] at this;exact this) (by intro k hk;injection hk with hk;omega)
    have hdl:ds.length=l.length:=hp.length_eq
    have hcb2:cb<x2.heap.size:=Nat.lt_of_lt_of_le hcb hg.size
    have c0:x2.cell? ⟨tb,0,none⟩=some (.map (some bm)):=Yaa htb1 rfl
    have c1:x2.cell? ⟨tb,1,none⟩=some (.slice (some ⟨cb,0,none⟩) l.length cq):=Yaa htb1 rfl
    obtain ⟨hsz1,hsz2⟩:=Y2o l
    obtain ⟨n,hn⟩:∃n,size (Ymr l)=n:=⟨_,rfl⟩
    rw [hn] at hsz1 hsz2
    have HN:=Lib.hid hn
    have NO:=Lib.hid hsz2
    have HP:=Lib.hid hp
    have SO:=Lib.hid hso
    have DL:=Lib.hid hdl
    clear htb hom hown hb hg hn hsz2 hp hso hdl
    by_cases hnl:n<l.length
    ·have F:=Lib.hid (show ¬ mkP l from fun h=> by have:=NO.out.2 h.2.2.2.2;omega)
     have d0:decide (n<l.length)=true:=by simpa using hnl
     have d1:decide ((n:Int)<(l.length:Int))=true:=by simp;omega
     clear hnl
     go_wp2_with (at_len;refine wpList_len_own _ rfl _ 246 rfl 3 9 Tryz.underlying246 _ bm l.length (Ymr l) rfl hom1 ?_;rw [HN.out])
     go_ret2
     exact Ykm F.out (by rw [HB.out];exact hb1)
    ·obtain rfl:n=l.length:=by omega
     have ND:=Lib.hid (NO.out.1 rfl)
     clear NO
     have d0:decide (l.length<l.length)=false:=by simp
     have d1:decide ((l.length:Int)<(l.length:Int))=false:=by simp
     have hnr:∃r:Bool,r=true↔¬ Yhf (ds.map Ya0):=by
      by_cases h:Yhf (ds.map Ya0)
      ·exact ⟨false,by simp [h]⟩
      ·exact ⟨true,by simp [h]⟩
     obtain ⟨r,hr⟩:=hnr
     have R:=Lib.hid hr
     have okall:∀x∈l,Ycc (Ya0 x)=true:=fun x hx=> by
      obtain ⟨i,hi,rfl⟩:=List.getElem_of_mem hx
      exact hok.out i hi hi
     have OA:=Lib.hid okall
     clear hnl hr okall
     go_wp2_with (at_len;refine wpList_len_own _ rfl _ 246 rfl 3 9 Tryz.underlying246 _ bm l.length (Ymr l) rfl hom1 ?_;rw [HN.out])
     refine (Yyv ds l.length DL.out _ cq _ r SO.out R.out hds h2).mono ?_
     rintro e x3 ⟨rfl,hb3⟩
     have hbw3:Below B w x3:=hb1.trans (hb3.mono (by have:=hb1.size;rw [HB.out] at this;exact this))
     cases r with
     | true=>
      have F:=Lib.hid (show ¬ mkP l from fun h=> R.out.1 rfl ((Ygb (HP.out.map Ya0)).2 h.2.2.2.1))
      go_wp2
      go_ret2
      exact Ykm F.out (by rw [HB.out];exact hbw3)
     | false=>
      have hfin:Qez x3 B x3.heap.size tb ds (Yf1 l:Nat):=by
       refine ⟨some bm,some ⟨cb,0,none⟩,cq,?_,?_,hcm2,hds.below hb3,?_,?_⟩
       ·rw [DL.out]
        exact (hb3.block tb (Array.getElem?_eq_some_iff.1 htb1).1).trans htb1
       ·rw [DL.out];exact hlc
       ·exact (show Yt9 x2 (some bm) ds from .inr ⟨bm,l.length,l,rfl,hom1,ND.out,HP.out.symm⟩).below hb3
       ·intro a ha
        cases ha
        exact ⟨hBc,Nat.lt_of_lt_of_le hcb2 hb3.size⟩
      have FI:=Lib.hid hfin
      go_wp2
      go_ret2
      exact ⟨fun _=> ⟨tb,ds,rfl,by rw [HB.out];exact FI.out,HP.out,SO.out⟩,fun hn=> absurd ⟨h3,h2,OA.out,(Ygb (HP.out.map Ya0)).1 (Classical.byContradiction fun hf=> by have:=R.out.2 hf;cases this),ND.out⟩ hn,by rw [HB.out];exact hbw3⟩
end Go.Proofs.YtgikochfffdpfaaGreatDoor
namespace Go.Proofs.YtgikochfffdpfaaGreatDoor
def Yk3 (intra:Bool):List (ByteArray×Int):=(List.range 16).map (Ymq intra)
def ptk (intra:Bool) (b:List UInt8):Int×Int×Nat:=
 if (tk ((Yk3 intra).map Ya0) b 25 1).1=0 then
  match (Yk3 intra).find? (fun x=> Ya0 x==b.take (tk ((Yk3 intra).map Ya0) b 25 1).2) with
  | some x=> (x.2,0,(tk ((Yk3 intra).map Ya0) b 25 1).2)
  | none=> (0,0,0)
 else (0,(tk ((Yk3 intra).map Ya0) b 25 1).1,0)
theorem Ynk (intra:Bool):Yhf ((Yk3 intra).map Ya0):=by
 cases intra <;> (unfold Yhf;decide +kernel)
theorem Yxp (intra:Bool):∀x∈Yk3 intra,Ycc (Ya0 x)=true:=by
 cases intra <;> decide +kernel
theorem Qe7 (intra:Bool):∀x∈Yk3 intra,(Lit.int .i64 x.2).wf=true:=by
 cases intra <;> decide +kernel
theorem Y51 (intra:Bool) {i:Nat} (h:i<16):Ymq intra i∈Yk3 intra:=List.mem_map_of_mem (List.mem_range.2 h)
theorem Yic (intra:Bool) (q:List UInt8):Yg6 intra q 16=(Yk3 intra).filter fun x=> q.isPrefixOf (Ya0 x):=rfl
theorem Qd1 (intra:Bool) {c:UInt8} (hc:c=48∨c=49):mkP (Yg6 intra [c] 16):=by
 have hf:Yhf ((Yg6 intra [c] 16).map Ya0):=by
  rw [Yic]
  exact (Ynk intra).sublist ((List.filter_sublist).map Ya0)
 have ho:∀x∈Yg6 intra [c] 16,Ycc (Ya0 x)=true:=fun x hx=> by
  rw [Yic] at hx
  exact Yxp intra x (List.mem_filter.1 hx).1
 refine ⟨?_,Nat.le_trans (Ypj intra [c] 16) (by omega),ho,hf,?_⟩
 ·rcases hc with rfl | rfl <;> cases intra <;> decide +kernel
 ·rcases hc with rfl | rfl <;> cases intra <;> decide +kernel
theorem Qdw (intra:Bool) {b:List UInt8} {c:UInt8} (h:b.take 1 = [c]) {ds:List (ByteArray×Int)} (hp:ds.Perm (Yg6 intra [c] 16)):tk (ds.map Ya0) b 25 1=tk ((Yk3 intra).map Ya0) b 25 1:=by
 have hl:1≤b.length:=by
  cases b with
  | nil=> cases h
  | cons a l=> simp
 rw [Yzh (hp.map Ya0),Ytu ((Yk3 intra).map Ya0) b hl 25 1 (Nat.le_refl _),Yic,List.filter_map,h]
 rfl
theorem Qas (intra:Bool) {x y:ByteArray×Int} (hx:x∈Yk3 intra) (hy:y∈Yk3 intra) (h:Ya0 x=Ya0 y):x=y:=by
 obtain ⟨i,hi,rfl⟩:=List.getElem_of_mem hx
 obtain ⟨j,hj,rfl⟩:=List.getElem_of_mem hy
 by_cases hij:i=j
 ·subst hij;rfl
 ·exfalso
  have:=Yke.1 (Ynk intra) i j (by simpa using hi) (by simpa using hj) hij
  rw [List.getElem_map,List.getElem_map,h,Ydn] at this
  cases this
theorem Y5f (intra:Bool) {x:ByteArray×Int} (hx:x∈Yk3 intra) {q:List UInt8} (hq:Ya0 x=q):(Yk3 intra).find? (fun y=> Ya0 y==q)=some x:=by
 cases h:(Yk3 intra).find? (fun y=> Ya0 y==q) with
 | none=>
  have:=List.find?_eq_none.1 h x hx
  rw [hq] at this
  simp at this
 | some y=>
  have h1:=List.find?_some h
  have h2:=List.mem_of_find?_eq_some h
  rw [Qas intra h2 hx (by rw [hq];simpa using h1)]
theorem Y8r (intra:Bool) {b:List UInt8} {n:Nat} {x:ByteArray×Int} (ht:tk ((Yk3 intra).map Ya0) b 25 1=(0,n)) (hx:x∈Yk3 intra) (hq:Ya0 x=b.take n):
  ptk intra b=(x.2,0,n):=by
 unfold ptk
 rw [ht,if_pos rfl,Y5f intra hx hq]
theorem Y8q (intra:Bool) {b:List UInt8} {n:Nat} {f:Int} (ht:tk ((Yk3 intra).map Ya0) b 25 1=(f,n)) (hf:f≠0):ptk intra b=(0,f,0):=by
 unfold ptk
 rw [ht,if_neg hf]
end Go.Proofs.YtgikochfffdpfaaGreatDoor
namespace Go.Proofs.YtgikochfffdpfaaGreatDoor
open Go.RowKit Go.Lib
def Qam (intra:Bool) (s:ByteArray) (rb p:Nat) (w:World) (e:Ending) (w':World):Prop:=
 e = .returned (.tuple #[.int .i64 (ptk intra ((Yac s.data.toList).drop p)).1,.int .i64 (ptk intra ((Yac s.data.toList).drop p)).2.1])∧
  Ybb w' rb s (p+(ptk intra ((Yac s.data.toList).drop p)).2.2)∧w.grownBy w' (some rb)
theorem Y0y {intra:Bool} {s:ByteArray} {rb p n:Nat} {w w':World} {a f:Int} (h:ptk intra ((Yac s.data.toList).drop p)=(a,f,n)) (hr:Ybb w' rb s (p+n)) (hg:w.grownBy w' (some rb)):
  Qam intra s rb p w (.returned (.tuple #[.int .i64 a,.int .i64 f])) w':=by
 unfold Qam
 rw [h]
 exact ⟨rfl,hr,hg⟩
theorem Yqo (s:ByteArray) (p:Nat) (h:p+1≤8*s.size):∃t:Nat,Ya5 s.data.toList p 1=t∧(t=0∨t=1)∧((Yac s.data.toList).drop p).take 1 = [UInt8.ofNat (48+t)]:=by
 obtain ⟨hn,hd⟩:=Yib s.data.toList p 0 h
 have hlt:=Ycg s.data.toList p 1
 have hlt:Ya5 s.data.toList p 1<2:=hlt
 have h01:Ya5 s.data.toList p (0+1)=Ya5 s.data.toList p 1:=rfl
 rw [h01] at hd
 have hb:((Yac s.data.toList).drop p).take 1 = [((Yac s.data.toList).drop p)[0]]:=by
  rw [List.take_succ_eq_append_getElem hn];rfl
 rcases hd with ⟨h1,h2⟩ | ⟨h1,h2⟩
 ·have ht:Ya5 s.data.toList p 1=0:=by omega
  exact ⟨0,ht,.inl rfl,by rw [hb,h1];rfl⟩
 ·have ht:Ya5 s.data.toList p 1=1:=by omega
  exact ⟨1,ht,.inr rfl,by rw [hb,h1];rfl⟩
theorem Y4u (intra:Bool) (c:UInt8):∀x∈Yg6 intra [c] 16,x.1.size≤maxLen∧(Lit.int .i64 x.2).wf=true:=fun x hx=> by
 rw [Yic] at hx
 have hm:=(List.mem_filter.1 hx).1
 have h:=(Ybw (Yxp intra x hm)).2.1
 have e:(Ya0 x).length=x.1.size:=rfl
 refine ⟨?_,Qe7 intra x hm⟩
 unfold maxLen
 omega
theorem Y3a {l ds:List (ByteArray×Int)} (h:mkP l) (hp:ds.Perm l):Yhf (ds.map Ya0)∧∀x∈ds,Ycc (Ya0 x)=true:=
 ⟨(Ygb (hp.map Ya0)).2 h.2.2.2.1,fun x hx=> h.2.2.1 x (hp.mem_iff.1 hx)⟩
set_option maxRecDepth 100000 in
set_option maxHeartbeats 1000000 in
theorem Y3o (intra:Bool) (w:World) (rb:Nat) (s:ByteArray) (p:Nat) (hp:Yew w) (hr:Ybb w rb s p):
  Calls Tryz.prog 188 #[.pointer (some ⟨rb,0,none⟩),.bool intra] w (Qam intra s rb p w):=by
 obtain ⟨bs,hbs⟩:∃bs,(Yac s.data.toList).drop p=bs:=⟨_,rfl⟩
 have hbl:bs.length=8*s.size-p:=by rw [←hbs,List.length_drop,Yas];rfl
 have hpl:=hr.2.1
 have hrlt:=hr.lt
 have HBS:=Lib.hid hbs
 by_cases hsh:8*s.size<p+1
 ·have hask:ask s.data.toList p 1=(0,2):=Ybj (by omega) (by have:s.data.toList.length=s.size:=rfl;omega)
  have F:=Lib.hid (Y8q intra (b:=bs) (n:=0) (f:=2) (by
   cases bs with
   | nil=> rfl
   | cons a l=> simp at hbl;omega) (by decide))
  clear hsh hbl hbs
  go_enter Tryz.func188,Tryz.ntmps188
  go_wp2_with fail
  refine (Ybk _ _ _ _ 1 hr).mono ?_
  rintro e w1 ⟨rfl,hb1⟩
  rw [hask]
  have hr1:=hr.below hb1
  have hg1:w.grownBy w1 (some rb):=⟨hb1.os,hb1.tape,hb1.output,hb1.size,fun k hk _=> hb1.block k hk⟩
  go_wp2
  go_ret2
  exact Y0y (n:=0) (by rw [HBS.out];exact F.out) hr1 hg1
 obtain ⟨t,ht,ht2,hb1⟩:=Yqo s p (by omega)
 have hask:ask s.data.toList p 1=((t:Int),0):=by
  have:=Ycz (l:=s.data.toList) (p:=p) (n:=1) (by omega) (by have:s.data.toList.length=s.size:=rfl;omega)
  rw [this,show (1:Int).toNat=1 from rfl,ht]
 rw [hbs] at hb1
 have hc:UInt8.ofNat (48+t)=48∨UInt8.ofNat (48+t)=49:=by rcases ht2 with rfl | rfl <;> simp
 obtain ⟨L,hL⟩:∃L,Yg6 intra [UInt8.ofNat (48+t)] 16=L:=⟨_,rfl⟩
 have hmk:=Qd1 intra hc
 have hrow:=Y4u intra (UInt8.ofNat (48+t))
 have hll:=Ypj intra [UInt8.ofNat (48+t)] 16
 have htu:=fun (ds:List (ByteArray×Int)) (hp:ds.Perm L)=> Qdw intra hb1 (ds:=ds) (by rw [hL];exact hp)
 have hin:∀x∈L,x∈Yk3 intra:=fun x hx=> by
  rw [←hL,Yic] at hx
  exact (List.mem_filter.1 hx).1
 have hcon:=fun x hx=> Yxz intra t ht2 x hx
 rw [hL] at hmk hrow hll hcon
 have MK:=Lib.hid hmk
 have HT:=Lib.hid htu
 have HIN:=Lib.hid hin
 clear hmk htu hin hL hb1 hc ht ht2 hsh hbl hbs
 go_enter Tryz.func188,Tryz.ntmps188
 go_wp2_with fail
 refine (Ybk _ _ _ _ 1 hr).mono ?_
 rintro e w1 ⟨rfl,hb1⟩
 rw [hask]
 have hr1:=hr.below hb1
 have hp1:=hp.below hb1
 go_wp2_with fail
 refine (hcon _ hp1).mono ?_
 rintro e w2 ⟨v,rfl,hown,hb2⟩
 obtain ⟨q,cap,rfl,hcds⟩:=Yq3 hown
 have hr2:=hr1.below hb2
 have hbw2:Below w.heap.size w w2:=hb1.trans (hb2.mono hb1.size)
 have hrl2:rb<w2.heap.size:=hr2.lt
 clear hown hb2 hr1 hb1 hr hask hp1 hp
 go_wp2_with fail
 refine (Y7t L q cap _ hcds (by unfold maxLen;omega) hrow).mono ?_
 rintro e w3 ⟨hy,_,hb3⟩
 obtain ⟨tb,ds,rfl,ht,hp,hs⟩:=hy MK.out
 obtain ⟨hf,ho⟩:=Y3a MK.out hp
 have hr3:=hr2.below hb3
 have hbw3:Below w.heap.size w w3:=hbw2.trans (hb3.mono hbw2.size)
 have HS:=Lib.hid hs
 have HF:=Lib.hid hf
 have HO:=Lib.hid ho
 have HP:=Lib.hid hp
 have IT:=Lib.hid ht
 clear hy hs hf ho hp ht hr2 hb3 hbw2 hcds hrow hll
 go_wp2_with fail
 refine (Y90 _ _ _ tb rb ds _ s p IT.out hr3 (.inl hrl2) HS.out HF.out HO.out).mono ?_
 rintro e w4 ⟨v,rfl,hv0,hv1,hr4,hg4⟩
 rw [HBS.out,HT.out ds HP.out] at hv0 hv1 hr4 ⊢
 obtain ⟨f,n,hk⟩:∃f n,tk ((Yk3 intra).map Ya0) bs 25 1=(f,n):=⟨_,_,rfl⟩
 rw [hk] at hv0 hv1 hr4 ⊢
 have hcd:=Ytt ((Yk3 intra).map Ya0) bs 25 1
 rw [hk] at hcd
 have hgw4:w.grownBy w4 (some rb):=by
  refine ⟨hg4.os.trans hbw3.os,hg4.tape.trans hbw3.tape,hg4.output.trans hbw3.output,Nat.le_trans hbw3.size hg4.size,fun k hk hn=> ?_⟩
  exact (hg4.block k (Nat.lt_of_lt_of_le hk hbw3.size) hn).trans (hbw3.block k hk)
 have F0:ptk intra bs=(v,f,n):=by
  by_cases h0:f=0
  ·subst h0
   obtain ⟨x,hx,hxr,hxv⟩:=hv0 rfl
   rw [Y8r intra hk (HIN.out x (HP.out.mem_iff.1 hx)) hxr,hxv]
  ·obtain rfl:=hv1 h0
   have hn:n=0:=by
    rcases hcd with h | h | h
    ·exact absurd h h0
    ·exact h.2
    ·exact h.2
   rw [Y8q intra hk h0,hn]
 have F:=Lib.hid F0
 clear F0 hk hv0 hv1 hg4 hr3 hbw3 hcd
 go_wp2
 go_ret2
 exact Y0y (by rw [HBS.out];exact F.out) hr4 hgw4
end Go.Proofs.YtgikochfffdpfaaGreatDoor