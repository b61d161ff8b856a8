/- Part 36 of StripsOnce. No condition. -/
import Derived.Test.YtjjmalchelniiaaGreatDoorStripsOnceMg
import Derived.Test.YtjjmalchelniiaaGreatDoorStripsOnceMo
import Derived.Test.YtjjmalchelniiaaGreatDoorStripsOnceMbd
import Derived.Test.YtjjmalchelniiaaGreatDoorStripsOnceMbg
import Derived.Test.YtjjmalchelniiaaGreatDoorStripsOnceMbi
import Derived.Deep.DeepCutAuto
import Derived.Deep.CutRange
import Derived.Deep.CutBlock
import Derived.StillTailTactics
import Derived.WalkKit
import Derived.Lib.LaidTab
import Derived.MakeChecks
namespace Go.Proofs.YtjjmalchelniiaaGreatDoor
open Go.RowKit Go.Maps Go.Sort
def Yf1 (l:List (ByteArray×Int)):Nat:=l.foldl (fun a x=>max a x.1.size) 0
theorem Y4m (l:List (ByteArray×Int))(j:Nat)(h:j<l.length):Yf1 (l.take (j+1))=max (Yf1 (l.take j)) l[j].1.size:=by
 unfold Yf1;rw[List.take_succ_eq_append_getElem h,List.foldl_append]
 rfl
def mkP (l:List (ByteArray×Int)):Prop:=1≤l.length∧l.length≤256∧(∀x∈l,Yck (Ya1 x)=true)∧Yhh (l.map Ya1)∧(l.map (·.2)).Nodup
def Yu7 (l:List (ByteArray×Int))(w:World)(e:Ending)(w':World):Prop:=
 (mkP l→∃tb ds,e=.returned (.tuple #[.pointer (some ⟨tb,0,none⟩),.int .i64 0])∧Qgw w' w.heap.size w'.heap.size tb ds (Yf1 l:Nat)∧ds.Perm l∧ds.Pairwise fun x y=>leL (Ya1 x) (Ya1 y)=true)∧
 (¬ mkP l→e=.returned (.tuple #[.pointer none,.int .i64 1]))∧Below w.heap.size w w'
theorem Yko {l:List (ByteArray×Int)}{w w':World}(h:¬ mkP l)(hb:Below w.heap.size w w'):Yu7 l w (.returned (.tuple #[.pointer none,.int .i64 1])) w':=
 ⟨fun hm=>absurd hm h,fun _=>rfl,hb⟩
def Qgz (w:World)(n:Nat)(Yji:List Value)(t4:Value)(x:World):Prop:=
 ∃(tb bm:Nat) (q:Option Addr) (cap:Nat),t4=.pointer (some ⟨tb,0,none⟩)∧x.heap[tb]? =some (Yl3 (some bm) q n cap 0)∧x.ownsMap Tryz.prog 3 (plainElem Tryz.prog 9) bm 0 (.map []:DataW Unit)∧x.ownsRow w.heap.size 286 2 (.slice q n cap) n Yji∧Below w.heap.size w x∧w.heap.size≤tb∧w.heap.size≤bm
theorem Y7g {w:World}{b o:Nat}{l:List (ByteArray×Int)}(h:Cds w (some ⟨b,o,none⟩) l):∀j u,(Ya4 l)[j]? =some u→w.cell? ⟨b,o+j,none⟩=some u:=by
 intro j u hu;have hj:j<l.length*2:=by
  have:=(List.getElem?_eq_some_iff.1 hu).1;rwa [Yhe] at this
 obtain⟨b',o',e,_,hc⟩:=h.at (by omega);cases e;have hi:j / 2<l.length:=by omega
 obtain⟨g0,g1⟩:=Yfc l (j / 2) hi;obtain⟨c0,c1⟩:=hc (j / 2) hi;rcases (by omega:j=j / 2*2∨j=j / 2*2+1) with e|e
 ·rw[e] at hu ⊢;rw[g0] at hu;cases hu;exact c0
 ·rw[e] at hu ⊢;rw[g1] at hu;cases hu;exact c1
theorem Y14 {w:World}{base base' e size n:Nat}{v:Value}{xs:List Value}(h:w.ownsRow base e size v n xs)(hb:base'≤base):w.ownsRow base' e size v n xs:=by
 refine⟨h.1,?_⟩;rcases h.2 with h|⟨g,cap,cur,h1,h2,h3⟩
 ·exact .inl h
 ·exact .inr ⟨g,cap,cur,h1,Nat.le_trans hb h2,h3⟩
theorem Yzq {w:World}{base cb cap:Nat}{l:List (ByteArray×Int)}(h:w.ownsRow base 286 2 (.slice (some ⟨cb,0,none⟩) l.length cap) l.length (Ya4 l)):HoldsK Yv3 2 w cb 0 l.toArray:=by
 intro j hj;rw[size_flatK,List.size_toArray] at hj;have hi:j / 2<l.length:=by omega
 have hfz:w.frozen? ⟨cb,0+j,none⟩=false:=by
  rcases h.2 with ⟨h1,_⟩|⟨g,cap',cur,h1,_,hg,_⟩
  ·cases h1
  ·cases h1;exact frozen_of_row w cb _ cur _ hg
 refine⟨?_,hfz⟩;have hget:l.toArray[j / 2]! =l[j / 2]:=by rw[getElem!_pos _ (j / 2) (by simpa using hi)];simp
 rw[get_flatK _ _ _ _ (by simpa using hj),hget];obtain⟨g0,g1⟩:=Yfc l (j / 2) hi;rcases (by omega:j%2=0∨j%2=1) with e|e
 ·have:=World.ownsRow.cells (g:=cb) h rfl (j / 2*2) _ g0;rw[Addr.add_mid,show 0+j / 2*2=0+j by omega] at this;rw[this,e];rfl
 ·have:=World.ownsRow.cells (g:=cb) h rfl (j / 2*2+1) _ g1;rw[Addr.add_mid,show 0+(j / 2*2+1)=0+j by omega] at this;rw[this,e];rfl
theorem Y3x {w:World}{cb:Nat}{d:Array (ByteArray×Int)}(h:HoldsK Yv3 2 w cb 0 d)(hlt:cb<w.heap.size):Cds w (some ⟨cb,0,none⟩) d.toList:=by
 refine .inr ⟨cb,0,rfl,hlt,fun i hi=>?_⟩;have hi':i<d.size:=by simpa using hi
 have hget:d[i]! =d.toList[i]:=by rw[getElem!_pos d i hi'];simp
 have c0:=(HoldsK.cell h hi' (by decide:0<2)).1;have c1:=(HoldsK.cell h hi' (by decide:1<2)).1;rw[hget] at c0 c1;exact⟨c0,c1⟩
theorem Ywd {w:World}{g n:Nat}{os:Array Obj}(d:Array (ByteArray×Int)):w.grownBy (sortWorldK Yv3 2 w g 0 n d os) (some g):=by
 refine⟨rfl,rfl,rfl,size_sortWorldK_c Yv3 2 w g 0 n d os,fun k hk hne=>?_⟩;unfold sortWorldK putRowK;rw[heap_grow_old _ _ (by simpa using hk)];have:g≠k:=fun e=>hne (by rw[e]);simp[putRow,mapBlock,Sort.ahead,Array.getElem?_modify,this]
theorem Y0g {d:Array (ByteArray×Int)}(h:SortedIn (ltOf Qgk) 0 d.size d):d.toList.Pairwise fun x y=>leL (Ya1 x) (Ya1 y)=true:=by
 rw[List.pairwise_iff_getElem];intro i j hi hj hij;have hi':i<d.size:=by simpa using hi
 have hj':j<d.size:=by simpa using hj
 have:=h i j (Nat.zero_le _) hij hj';rw[getElem!_pos d i hi',getElem!_pos d j hj'] at this;unfold ltOf Qgk at this;rw[Ylh] at this
 simpa using this
theorem Y94 {d d':Array (ByteArray×Int)}(h:PermIn 0 d.size d d'):d'.toList.Perm d.toList:=by
 have h1:=h.1;have h3:=h.2.2;have e1:d'.extract 0 d.size=d':=by rw[←h1];simp
 have e2:d.extract 0 d.size=d:=by simp
 rw[e1,e2] at h3;exact h3
theorem Y5t (base cb cap:Nat)(l:List (ByteArray×Int))(w:World)(h:w.ownsRow base 286 2 (.slice (some ⟨cb,0,none⟩) l.length cap) l.length (Ya4 l))(hlt:cb<w.heap.size)(hn:l.length≤256):
  Calls Tryz.prog 250 #[.slice (some ⟨cb,0,none⟩) l.length cap,.func (.func 251) #[] #[]] w fun e w'=>
   e=.returned (.tuple #[])∧∃ds:List (ByteArray×Int),ds.Perm l∧(ds.Pairwise fun x y=>leL (Ya1 x) (Ya1 y)=true)∧Cds w' (some ⟨cb,0,none⟩) ds∧w.grownBy w' (some cb):=by
 have hH:=Yzq h;have hs:=Qfh cb 0 cap l.toArray w hH hlt (by simp;omega);rw[List.size_toArray] at hs;refine hs.mono ?_;rintro e w1 ⟨rfl,d',n,os,hp,hso,rfl⟩;have hp':PermIn 0 l.toArray.size l.toArray d':=hp;have hsz:d'.size=l.length:=hp'.1;refine⟨rfl,d'.toList,Y94 hp',Y0g (by rw[hsz];exact hso),?_,Ywd d'⟩
 exact Y3x (holdsK_sortWorldK_c Yv3 2 w cb 0 l.toArray d' n os hH hlt hp'.1) (Nat.lt_of_lt_of_le hlt (size_sortWorldK_c Yv3 2 w cb 0 n d' os))
theorem Ywq {w:World}{tb bm n:Nat}{cs:Array Value}{T:TypeId}{fr:Nat×Nat}{D:DataW Unit}(h:w.heap[tb]? =some (.cells cs T fr))(ho:w.ownsMap Tryz.prog 3 (plainElem Tryz.prog 9) bm n D):tb≠bm:=by
 rintro rfl;obtain⟨es,clock,hb,_⟩:=ho;rw[h] at hb;cases hb
theorem Yrq {w:World}{base e size n:Nat}{v:Value}{xs:List Value}(h:w.ownsRow base e size v n xs):w.drew.ownsRow base e size v n xs:=h
theorem Yg0 {w:World}{base e size n:Nat}{v:Value}{xs:List Value}(h:w.ownsRow base e size v n xs){b:Nat}{o:Obj}(hb:w.heap[b]? =some o)(hne:∀cs,o≠.cells cs e (0,0)):v.ownBlock=none∨v.ownBlock≠some b:=by
 rcases h.2 with ⟨rfl,_⟩|⟨g,cap,cur,rfl,_,hg,_⟩
 ·exact .inl rfl
 ·right
  intro hk;injection hk with hk;obtain rfl:g=b:=hk;rw[hg] at hb;injection hb with hb;exact hne _ hb.symm
theorem Yy4 (b o c:Nat)(l:List (ByteArray×Int))(w:World)(hn:l.length≤256)(hc:∀j u,(Ya4 l)[j]? =some u→w.cell? ⟨b,o+j,none⟩=some u):
  Calls Tryz.prog 248 #[.slice (some ⟨b,o,none⟩) l.length c] w fun e w'=>∃q cap,e=.returned (.slice q l.length cap)∧w'.ownsRow w.heap.size 286 2 (.slice q l.length cap) l.length (Ya4 l)∧Below w.heap.size w w':=by
 refine(Y7t b o l.length c (Ya4 l) w (Yhe l) (by omega) hc (Ytc l)).mono ?_;rintro e w1 ⟨v,rfl,hown,_,hb⟩;obtain⟨q,cap,rfl,_⟩:=Yrp hown;exact⟨q,cap,rfl,hown,hb⟩
theorem Yzz {ds:List (ByteArray×Int)}(hs:ds.Pairwise fun x y=>leL (Ya1 x) (Ya1 y)=true):(∃i,∃h:i+1<ds.length,(Ya1 ds[i]).isPrefixOf (Ya1 ds[i+1])=true)↔¬ Yhh (ds.map Ya1):=by
 constructor
 ·rintro⟨i,h,hp⟩ hf;have:=Ykh.1 hf i (i+1) (by simp;omega) (by simpa using h) (by omega);rw[List.getElem_map,List.getElem_map,hp] at this;cases this
 ·intro hf;apply Classical.byContradiction;intro hno;apply hf;refine Yjm (by rw[List.pairwise_map];exact hs) fun i hi=>?_;rw[List.getElem_map,List.getElem_map];cases hp:(Ya1 (ds[i]'(by simp at hi;omega))).isPrefixOf (Ya1 (ds[i+1]'(by simpa using hi))) with
  |false=>rfl
  |true=>exact absurd ⟨i,by simpa using hi,hp⟩ hno
theorem Yz0 (ds:List (ByteArray×Int))(n:Nat)(hn:ds.length=n)(p:Option Addr)(cap:Nat)(w:World)(r:Bool)(hs:ds.Pairwise fun x y=>leL (Ya1 x) (Ya1 y)=true)(hr:r=true↔¬ Yhh (ds.map Ya1))(hc:Cds w p ds)(hm:n≤256):
  Calls Tryz.prog 253 #[.slice p n cap] w fun e w'=>e=.returned (.bool r)∧Below w.heap.size w w':=by
 subst hn;exact Yzy ds p cap w r (hr.trans (Yzz hs).symm) hc (by omega)
theorem Yxf (w:World)(n:Int):(Instr.makeMap 283 (some (.int .i64 n))).run Tryz.prog w=.ok (.map (some w.heap.size)) (w.alloc (.map #[] 0)):=by
 simp[Instr.makeMap,run_underlying Tryz.underlying283,asInt,asIntOf,Result.andThen]
set_option maxRecDepth 100000 in
set_option maxHeartbeats 16000000 in
theorem Y9a (l:List (ByteArray×Int))(p:Option Addr)(cap:Nat)(w:World)(hc:Cds w p l)(hm:l.length≤maxLen)(hl:∀x∈l,x.1.size≤maxLen∧(Lit.int .i64 x.2).wf=true):
  Calls Tryz.prog 238 #[.slice p l.length cap] w (Yu7 l w):=by
 unfold maxLen at hm;have HL:=Lib.hid hl;clear hl;by_cases h0:l.length=0
 ·have F:=Lib.hid (show ¬ mkP l from fun h=>by have:=h.1;omega);have t0:((l.length:Int)==0)=true:=by rw[beq_iff_eq];omega
  clear h0
  go_enter Tryz.func238,Tryz.ntmps238
  go_wp2
  go_ret2
  exact Yko F.out (Below.refl _ _)
 by_cases h1:256<l.length
 ·have F:=Lib.hid (show ¬ mkP l from fun h=>by have:=h.2.1;omega);have t0:((l.length:Int)==0)=false:=by rw[beq_eq_false_iff_ne];omega
  have t1:decide (256<(l.length:Int))=true:=by simp;omega
  clear h0
  go_enter Tryz.func238,Tryz.ntmps238
  go_wp2
  go_ret2
  exact Yko F.out (Below.refl _ _)
 obtain⟨b,o,rfl,hblt,hcells⟩:=hc.at (by omega);have hE:∀x,Below w.heap.size w x→Cds x (some ⟨b,o,none⟩) l:=fun x hx=>hc.below hx;have EE:=Lib.hid hE;have h2:l.length≤256:=by omega
 have h3:1≤l.length:=by omega
 have t0:((l.length:Int)==0)=false:=by rw[beq_eq_false_iff_ne];omega
 have t1:decide (256<(l.length:Int))=false:=by simp;omega
 have hnews:∀(x:World),Below w.heap.size w x→∀j u,(Ya4 l)[j]? =some u→x.cell? ⟨b,o+j,none⟩=some u:=fun x hx=>Y7g (hE x hx);have NW:=Lib.hid hnews;have hmm:=fun(w:World)=>Yxf w (l.length:Int);clear h0 h1 hE hcells hnews hc hblt
 go_enter Tryz.func238,Tryz.ntmps238
 go_upto_region 3 with (fail)
 go_cut [4] from 15 to 21 (fun t4 x=>Qgz w l.length (Ya4 l) t4 x)
 case first=>
  go_wp2
  go_region_with (go_at_call 248;refine(Yy4 b o cap l _ h2 ?_).mono ?_;(intro j u hu;first|exact NW.out _ ((Below.refl _ _).drew) j u hu|exact NW.out _ (((Below.refl _ _).drew).alloc (Nat.le_refl _) _) j u hu);rintro e w1 ⟨q,cq,rfl,hown,hb1⟩)
  ·have hom:w1.ownsMap Tryz.prog 3 (plainElem Tryz.prog 9) w.heap.size 0 (.map []:DataW Unit):=((World.ownsMap_made w _ _ _).drew).kept (Yak hb1 none) (by simp);have hbw:Below w.heap.size w w1:=(((Below.refl _ w).alloc (Nat.le_refl _) _).drew).trans (hb1.mono (by simp));have hz1:=hb1.size
   have hfin:Qgz w l.length (Ya4 l) (.pointer (some ⟨w1.heap.size,0,none⟩)) (w1.alloc (Yl3 (some w.heap.size) q l.length cq 0)):=
    ⟨w1.heap.size,w.heap.size,q,cq,rfl,heap_alloc_new w1 _,hom.alloc _,(Y14 hown (by simp)).alloc _,hbw.alloc hbw.size _,hbw.size,Nat.le_refl _⟩
   have FI:=Lib.hid hfin;clear hfin hom hown hb1
   go_wp2
   go_meet
   case rel=>exact FI.out
  ·have hbw:Below w.heap.size w w1:=((Below.refl _ w).drew).trans hb1;have hfin:Qgz w l.length (Ya4 l) (.pointer (some ⟨w1.heap.size+1,0,none⟩)) ((w1.alloc (.map #[] 0)).alloc (Yl3 (some w1.heap.size) q l.length cq 0)):=
    ⟨w1.heap.size+1,w1.heap.size,q,cq,rfl,by rw[show w1.heap.size+1=(w1.alloc (.map #[] 0)).heap.size by simp];exact heap_alloc_new _ _,(World.ownsMap_made w1 _ _ _).alloc _,((Y14 hown (by simp)).alloc _).alloc _,(hbw.alloc hbw.size _).alloc (by have:=hbw.size;simp;omega) _,by have:=hbw.size;omega,hbw.size⟩
   have FI:=Lib.hid hfin;clear hfin hown hb1
   go_wp2
   go_meet
   case rel=>exact FI.out
 case rest=>
  obtain⟨tb,bm,q,cq,rfl,htb,hom,hown,hb,hBt,hBm⟩:=hcut;obtain⟨B,hB⟩:∃B,w.heap.size=B:=⟨_,rfl⟩;rw[hB] at EE NW hown hb hBt hBm;have HB:=Lib.hid hB;clear hB hmm NW
  go_wp2
  go_loopw [24] (fun i wr=>∃j:Nat,j≤l.length∧i=.int .i64 j∧wr.heap[tb]? =some (Yl3 (some bm) q l.length cq (Yf1 (l.take j):Nat))∧wr.ownsMap Tryz.prog 3 (plainElem Tryz.prog 9) bm j (Ymx (l.take j))∧wr.ownsRow B 286 2 (.slice q l.length cq) l.length (Ya4 l)∧Below B w wr∧Hid (∀a,(h:a<l.length)→a<j→Yck (Ya1 l[a])=true)) (fun i _=>l.length-(intOf i).toNat)
  case atStart=>exact⟨0,Nat.zero_le _,rfl,htb,hom,hown,hb,Lib.hid (fun a _ h=>absurd h (Nat.not_lt_zero a))⟩
  case round=>
   clear htb hom hown hb;obtain⟨j,hj,rfl,htb,hom,hown,hb,hok⟩:=hrel;by_cases hlt:j<l.length
   ·obtain⟨b',o',e,hblt,hcells⟩:=(EE.out wr hb).at (by omega);cases e;obtain⟨c0,c1⟩:=hcells j hlt;obtain⟨hx1,hx2⟩:=HL.out l[j] (List.getElem_mem hlt);have D1:=Lib.hid (Y31 l j hlt);have L1:=Lib.hid (Y4m l j hlt);obtain⟨x,hx⟩:∃x,l[j]=x:=⟨_,rfl⟩;rw[hx] at c0 c1 hx1 hx2 D1 L1;have HX:=Lib.hid hx;clear hx hcells
    go_wp2_with fail
    refine(Yxx x.1 hx1 _).mono ?_;rintro e w1 ⟨rfl,hb1⟩;have hgr:wr.grownBy w1 none:=Yac (World.grownBy_alloc wr _ none) (Yak hb1 none);have htb1:w1.heap[tb]? =some (Yl3 (some bm) q l.length cq (Yf1 (l.take j):Nat)):=(hgr.block tb (Array.getElem?_eq_some_iff.1 htb).1 (by simp)).trans htb;have hom1:=hom.kept hgr (by simp)
    have hown1:=hown.kept hgr (by cases hv:(Value.slice q l.length cq).ownBlock <;> simp);have hbw1:Below B w w1:=(hb.alloc (by have:=hb.size;rw[HB.out] at this;exact this) _).trans (hb1.mono (by have:=hb.size;rw[HB.out] at this;simp;omega));have hvb:w1.heap[wr.heap.size]? =some (.cells [.string x.1,.int .i64 x.2].toArray 286 (0,0)):=(hb1.block wr.heap.size (by simp)).trans (heap_alloc_new wr _)
    have v0:w1.cell? ⟨wr.heap.size,0,none⟩=some (.string x.1):=Yab hvb rfl;have v1:w1.cell? ⟨wr.heap.size,1,none⟩=some (.int .i64 x.2):=Yab hvb rfl;clear hgr hb1 htb hom hown hb c0 c1;cases hk:Yck x.1.data.toList with
    |false=>
     have F:=Lib.hid (show ¬ mkP l from fun h=>by
      have:=h.2.2.1 x (by rw[←HX.out];exact List.getElem_mem hlt);rw[show Yck (Ya1 x)=Yck x.1.data.toList from rfl,hk] at this;cases this)
     clear hk
     go_wp2
     go_ret2
     exact Yko F.out (by rw[HB.out];exact hbw1)
    |true=>
     have OKN:Hid (∀a,(h:a<l.length)→a<j+1→Yck (Ya1 l[a])=true):=Lib.hid (fun a ha h=>by
      by_cases e:a=j
      ·subst e;rw[HX.out];exact hk
      ·exact hok.out a ha (by omega))
     clear hk hok;have t40:w1.cell? ⟨tb,0,none⟩=some (.map (some bm)):=Yab htb1 rfl
     go_wp2_with fail
     go_still_tail 8,(by kernel_rfl)
     change wpList _ _ _ _ _ w1.drew;have htb2:w1.drew.heap[tb]? =some (Yl3 (some bm) q l.length cq (Yf1 (l.take j):Nat)):=htb1;have hom2:=hom1.drew;have hown2:=Yrq hown1;have hbw2:Below B w w1.drew:=hbw1.drew;have hvb2:w1.drew.heap[wr.heap.size]? =some (.cells [.string x.1,.int .i64 x.2].toArray 286 (0,0)):=hvb;generalize w1.drew=x0 at htb2 hom2 hown2 hbw2 hvb2 ⊢
     clear htb1 hom1 hown1 hbw1 hvb v0 v1 t40;have hne1:=Ywq htb2 hom2;have hne2:=Ywq hvb2 hom2;have hbo:∀es clock,x0.heap[bm]? =some (.map es clock)→(Value.slice q l.length cq).ownBlock=none∨(Value.slice q l.length cq).ownBlock≠some bm:=fun es clock h=>Yg0 hown2 h (fun cs=>by simp);obtain⟨es,clock,hme,_⟩:=id hom2;have hbo2:=hbo es clock hme
     have hbo3:=Yg0 hown2 htb2 (fun cs=>by unfold Yl3;intro e;injection e with _ e;exact absurd e (by decide));have BO2:=Lib.hid hbo2;have BO3:=Lib.hid hbo3;have VB:wr.heap.size<x0.heap.size:=(Array.getElem?_eq_some_iff.1 hvb2).1;have TB:tb<x0.heap.size:=(Array.getElem?_eq_some_iff.1 htb2).1;clear hbo hme hbo2 hbo3
     go_wp2_with (at_mapUpdate;refine wpList_mapUpdate_own _ rfl _ _ _ 283 rfl 3 9 Qhy Tryz.underlying283 _ bm j (Ymx (l.take j)) rfl hom2 (by unfold maxLen;omega) _ _ (Qd3 x) rfl rfl (keyOf_int_mk Tryz.underlying3 hx2) (Qfz x) [] (plainElem_string Tryz.underlying9 hx1) ?_;intro w2 hom3 hg2;have htb3:w2.heap[tb]? =some (Yl3 (some bm) q l.length cq (Yf1 (l.take j):Nat)):=(hg2.block tb TB (by intro e;injection e with e;exact hne1 e)).trans htb2;have hvb3:w2.heap[wr.heap.size]? =some (.cells [.string x.1,.int .i64 x.2].toArray 286 (0,0)):=(hg2.block _ VB (by intro e;injection e with e;exact hne2 e)).trans hvb2;have hown3:=hown2.kept hg2 BO2.out;have hbw3:Below B w w2:=hbw2.grown hg2 (by have:=hbw2.size;rw[HB.out] at this;exact this) (by intro k hk;injection hk with hk;omega);clear hom2 hg2 htb2 hvb2 hown2 hbw2)
     have v0:w2.cell? ⟨wr.heap.size,0,none⟩=some (.string x.1):=Yab hvb3 rfl;have t2:w2.cell? ⟨tb,2,none⟩=some (.int .i64 (Yf1 (l.take j):Nat)):=Yab htb3 rfl
     go_still_tail 11,(by kernel_rfl)
     change wpList _ _ _ _ _ w2.drew;have htb4:w2.drew.heap[tb]? =some (Yl3 (some bm) q l.length cq (Yf1 (l.take j):Nat)):=htb3;have hom4:=hom3.drew;have hown4:=Yrq hown3;have hbw4:Below B w w2.drew:=hbw3.drew;generalize w2.drew=x1 at htb4 hom4 hown4 hbw4 ⊢;clear htb3 hom3 hown3 hbw3 hvb3 v0 t2;have tf:=Yai (o:=2) htb4
     have t2:x1.cell? ⟨tb,2,none⟩=some (.int .i64 (Yf1 (l.take j):Nat)):=Yab htb4 rfl;have hfin:(x1.setCell ⟨tb,2,none⟩ (.int .i64 (max ((Yf1 (l.take j):Nat):Int) (x.1.size:Int)))).heap[tb]? =some (Yl3 (some bm) q l.length cq (Yf1 (l.take (j+1)):Nat))∧
       (x1.setCell ⟨tb,2,none⟩ (.int .i64 (max ((Yf1 (l.take j):Nat):Int) (x.1.size:Int)))).ownsMap Tryz.prog 3 (plainElem Tryz.prog 9) bm (j+1) (Ymx (l.take (j+1)))∧
       (x1.setCell ⟨tb,2,none⟩ (.int .i64 (max ((Yf1 (l.take j):Nat):Int) (x.1.size:Int)))).ownsRow B 286 2 (.slice q l.length cq) l.length (Ya4 l)∧
       Below B w (x1.setCell ⟨tb,2,none⟩ (.int .i64 (max ((Yf1 (l.take j):Nat):Int) (x.1.size:Int)))):=by
      have hg:=Yap x1 ⟨tb,2,none⟩ (.int .i64 (max ((Yf1 (l.take j):Nat):Int) (x.1.size:Int)));refine⟨?_,?_,hown4.kept hg BO3.out,hbw4.setCell hBt _⟩
      ·rw[L1.out,show ((max (Yf1 (l.take j)) x.1.size:Nat):Int)=max ((Yf1 (l.take j):Nat):Int) (x.1.size:Int) by omega];exact Yau (o:=2) _ htb4
      ·rw[D1.out];exact hom4.setCell (Ne.symm hne1) _
     have FI:=Lib.hid hfin;clear hfin
     go_wp2_with fail
     go_roundw
     case rel=>exact⟨j+1,by omega,by go_num,FI.out.1,FI.out.2.1,FI.out.2.2.1,FI.out.2.2.2,OKN⟩
     case measure=>simp[intOf];omega
   ·obtain rfl:j=l.length:=by omega
    rw[List.take_length] at htb hom;obtain⟨cb,rfl,hcb⟩:∃cb,q=some ⟨cb,0,none⟩∧cb<wr.heap.size∧B≤cb∧l.length≤cq∧cq≤maxLen:=by
     rcases hown.2 with ⟨_,h⟩|⟨g,cap',cur,h1,h2,hg,h4,h5,_⟩
     ·omega
     ·cases h1;exact⟨g,rfl,(Array.getElem?_eq_some_iff.1 hg).1,h2,h4,h5⟩
    have hbo3:=Yg0 hown htb (fun cs=>by unfold Yl3;intro e;injection e with _ e;exact absurd e (by decide));obtain⟨es,clock,hme,_⟩:=id hom;have hbo2:=Yg0 hown hme (fun cs=>by simp);have hct:cb≠tb:=by
     rcases hbo3 with h|h
     ·cases h
     ·exact fun e=>h (by rw[e];rfl)
    have hcm:cb≠bm:=by
     rcases hbo2 with h|h
     ·cases h
     ·exact fun e=>h (by rw[e];rfl)
    have c1:wr.cell? ⟨tb,1,none⟩=some (.slice (some ⟨cb,0,none⟩) l.length cq):=Yab htb rfl;obtain⟨hcb,hBc,hlc,hcm2⟩:=hcb;clear hme hbo2 hbo3
    go_wp2_with fail
    refine(Y5t B cb cq l _ hown hcb h2).mono ?_;rintro e x2 ⟨rfl,ds,hp,hso,hds,hg⟩;have htb1:x2.heap[tb]? =some (Yl3 (some bm) (some ⟨cb,0,none⟩) l.length cq (Yf1 l:Nat)):=(hg.block tb (Array.getElem?_eq_some_iff.1 htb).1 (by intro e;injection e with e;exact hct e.symm)).trans htb;have hom1:=hom.kept hg (by intro e;injection e with e;exact hcm e.symm)
    have hb1:Below B w x2:=hb.grown hg (by have:=hb.size;rw[HB.out] at this;exact this) (by intro k hk;injection hk with hk;omega);have hdl:ds.length=l.length:=hp.length_eq;have hcb2:cb<x2.heap.size:=Nat.lt_of_lt_of_le hcb hg.size;have c0:x2.cell? ⟨tb,0,none⟩=some (.map (some bm)):=Yab htb1 rfl;have c1:x2.cell? ⟨tb,1,none⟩=some (.slice (some ⟨cb,0,none⟩) l.length cq):=Yab htb1 rfl
    obtain⟨hsz1,hsz2⟩:=Y30 l;obtain⟨n,hn⟩:∃n,size (Ymx l)=n:=⟨_,rfl⟩;rw[hn] at hsz1 hsz2;have HN:=Lib.hid hn;have NO:=Lib.hid hsz2;have HP:=Lib.hid hp;have SO:=Lib.hid hso;have DL:=Lib.hid hdl;clear htb hom hown hb hg hn hsz2 hp hso hdl;by_cases hnl:n<l.length
    ·have F:=Lib.hid (show ¬ mkP l from fun h=>by have:=NO.out.2 h.2.2.2.2;omega);have d0:decide (n<l.length)=true:=by simpa using hnl
     have d1:decide ((n:Int)<(l.length:Int))=true:=by simp;omega
     clear hnl
     go_wp2_with (at_len;refine wpList_len_own _ rfl _ 283 rfl 3 9 Tryz.underlying283 _ bm l.length (Ymx l) rfl hom1 ?_;rw[HN.out])
     go_ret2
     exact Yko F.out (by rw[HB.out];exact hb1)
    ·obtain rfl:n=l.length:=by omega
     have ND:=Lib.hid (NO.out.1 rfl);clear NO;have d0:decide (l.length<l.length)=false:=by simp
     have d1:decide ((l.length:Int)<(l.length:Int))=false:=by simp
     have hnr:∃r:Bool,r=true↔¬ Yhh (ds.map Ya1):=by
      by_cases h:Yhh (ds.map Ya1)
      ·exact⟨false,by simp[h]⟩
      ·exact⟨true,by simp[h]⟩
     obtain⟨r,hr⟩:=hnr;have R:=Lib.hid hr;have okall:∀x∈l,Yck (Ya1 x)=true:=fun x hx=>by
      obtain⟨i,hi,rfl⟩:=List.getElem_of_mem hx;exact hok.out i hi hi
     have OA:=Lib.hid okall;clear hnl hr okall
     go_wp2_with (at_len;refine wpList_len_own _ rfl _ 283 rfl 3 9 Tryz.underlying283 _ bm l.length (Ymx l) rfl hom1 ?_;rw[HN.out])
     refine(Yz0 ds l.length DL.out _ cq _ r SO.out R.out hds h2).mono ?_;rintro e x3 ⟨rfl,hb3⟩;have hbw3:Below B w x3:=hb1.trans (hb3.mono (by have:=hb1.size;rw[HB.out] at this;exact this));cases r with
     |true=>
      have F:=Lib.hid (show ¬ mkP l from fun h=>R.out.1 rfl ((Ygc (HP.out.map Ya1)).2 h.2.2.2.1))
      go_wp2
      go_ret2
      exact Yko F.out (by rw[HB.out];exact hbw3)
     |false=>
      have hfin:Qgw x3 B x3.heap.size tb ds (Yf1 l:Nat):=by
       refine⟨some bm,some ⟨cb,0,none⟩,cq,?_,?_,hcm2,hds.below hb3,?_,?_⟩
       ·rw[DL.out];exact(hb3.block tb (Array.getElem?_eq_some_iff.1 htb1).1).trans htb1
       ·rw[DL.out];exact hlc
       ·exact(show Yu8 x2 (some bm) ds from .inr ⟨bm,l.length,l,rfl,hom1,ND.out,HP.out.symm⟩).below hb3
       ·intro a ha;cases ha;exact⟨hBc,Nat.lt_of_lt_of_le hcb2 hb3.size⟩
      have FI:=Lib.hid hfin
      go_wp2
      go_ret2
      exact⟨fun _=>⟨tb,ds,rfl,by rw[HB.out];exact FI.out,HP.out,SO.out⟩,fun hn=>absurd ⟨h3,h2,OA.out,(Ygc (HP.out.map Ya1)).1 (Classical.byContradiction fun hf=>by have:=R.out.2 hf;cases this),ND.out⟩ hn,by rw[HB.out];exact hbw3⟩
end Go.Proofs.YtjjmalchelniiaaGreatDoor
namespace Go.Proofs.YtjjmalchelniiaaGreatDoor
def Yk5 (intra:Bool):List (ByteArray×Int):=(List.range 16).map (Ymw intra)
def ptk (intra:Bool)(b:List UInt8):Int×Int×Nat:=
 if (tk ((Yk5 intra).map Ya1) b 25 1).1=0 then
  match (Yk5 intra).find? (fun x=>Ya1 x==b.take (tk ((Yk5 intra).map Ya1) b 25 1).2) with
  |some x=>(x.2,0,(tk ((Yk5 intra).map Ya1) b 25 1).2)
  |none=>(0,0,0)
 else (0,(tk ((Yk5 intra).map Ya1) b 25 1).1,0)
theorem Ynt (intra:Bool):Yhh ((Yk5 intra).map Ya1):=by
 cases intra <;> (unfold Yhh;decide +kernel)
theorem Yyr (intra:Bool):∀x∈Yk5 intra,Yck (Ya1 x)=true:=by
 cases intra <;> decide +kernel
theorem Qg2 (intra:Bool):∀x∈Yk5 intra,(Lit.int .i64 x.2).wf=true:=by
 cases intra <;> decide +kernel
theorem Y7m (intra:Bool){i:Nat}(h:i<16):Ymw intra i∈Yk5 intra:=List.mem_map_of_mem (List.mem_range.2 h)
theorem Yid (intra:Bool)(q:List UInt8):Yg7 intra q 16=(Yk5 intra).filter fun x=>q.isPrefixOf (Ya1 x):=rfl
theorem Qfw (intra:Bool){c:UInt8}(hc:c=48∨c=49):mkP (Yg7 intra [c] 16):=by
 have hf:Yhh ((Yg7 intra [c] 16).map Ya1):=by
  rw[Yid];exact(Ynt intra).sublist ((List.filter_sublist).map Ya1)
 have ho:∀x∈Yg7 intra [c] 16,Yck (Ya1 x)=true:=fun x hx=>by
  rw[Yid] at hx;exact Yyr intra x (List.mem_filter.1 hx).1
 refine⟨?_,Nat.le_trans (Yp3 intra [c] 16) (by omega),ho,hf,?_⟩
 ·rcases hc with rfl|rfl <;> cases intra <;> decide +kernel
 ·rcases hc with rfl|rfl <;> cases intra <;> decide +kernel
theorem Qfr (intra:Bool){b:List UInt8}{c:UInt8}(h:b.take 1=[c]){ds:List (ByteArray×Int)}(hp:ds.Perm (Yg7 intra [c] 16)):tk (ds.map Ya1) b 25 1=tk ((Yk5 intra).map Ya1) b 25 1:=by
 have hl:1≤b.length:=by
  cases b with
  |nil=>cases h
  |cons a l=>simp
 rw[Y0s (hp.map Ya1),Yur ((Yk5 intra).map Ya1) b hl 25 1 (Nat.le_refl _),Yid,List.filter_map,h]
 rfl
theorem Qcc (intra:Bool){x y:ByteArray×Int}(hx:x∈Yk5 intra)(hy:y∈Yk5 intra)(h:Ya1 x=Ya1 y):x=y:=by
 obtain⟨i,hi,rfl⟩:=List.getElem_of_mem hx;obtain⟨j,hj,rfl⟩:=List.getElem_of_mem hy;by_cases hij:i=j
 ·subst hij;rfl
 ·exfalso;have:=Ykh.1 (Ynt intra) i j (by simpa using hi) (by simpa using hj) hij;rw[List.getElem_map,List.getElem_map,h,Ydv] at this;cases this
theorem Y60 (intra:Bool){x:ByteArray×Int}(hx:x∈Yk5 intra){q:List UInt8}(hq:Ya1 x=q):(Yk5 intra).find? (fun y=>Ya1 y==q)=some x:=by
 cases h:(Yk5 intra).find? (fun y=>Ya1 y==q) with
 |none=>
  have:=List.find?_eq_none.1 h x hx;rw[hq] at this;simp at this
 |some y=>
  have h1:=List.find?_some h;have h2:=List.mem_of_find?_eq_some h;rw[Qcc intra h2 hx (by rw[hq];simpa using h1)]
theorem Y99 (intra:Bool){b:List UInt8}{n:Nat}{x:ByteArray×Int}(ht:tk ((Yk5 intra).map Ya1) b 25 1=(0,n))(hx:x∈Yk5 intra)(hq:Ya1 x=b.take n):
  ptk intra b=(x.2,0,n):=by
 unfold ptk;rw[ht,if_pos rfl,Y60 intra hx hq]
theorem Y98 (intra:Bool){b:List UInt8}{n:Nat}{f:Int}(ht:tk ((Yk5 intra).map Ya1) b 25 1=(f,n))(hf:f≠0):ptk intra b=(0,f,0):=by
 unfold ptk;rw[ht,if_neg hf]
end Go.Proofs.YtjjmalchelniiaaGreatDoor
namespace Go.Proofs.YtjjmalchelniiaaGreatDoor
open Go.RowKit Go.Lib
def Qca (intra:Bool)(s:ByteArray)(rb p:Nat)(w:World)(e:Ending)(w':World):Prop:=
 e=.returned (.tuple #[.int .i64 (ptk intra ((Yad s.data.toList).drop p)).1,.int .i64 (ptk intra ((Yad s.data.toList).drop p)).2.1])∧
  Yba w' rb s (p+(ptk intra ((Yad s.data.toList).drop p)).2.2)∧w.grownBy w' (some rb)
theorem Y17 {intra:Bool}{s:ByteArray}{rb p n:Nat}{w w':World}{a f:Int}(h:ptk intra ((Yad s.data.toList).drop p)=(a,f,n))(hr:Yba w' rb s (p+n))(hg:w.grownBy w' (some rb)):
  Qca intra s rb p w (.returned (.tuple #[.int .i64 a,.int .i64 f])) w':=by
 unfold Qca;rw[h];exact⟨rfl,hr,hg⟩
theorem Yrb (s:ByteArray)(p:Nat)(h:p+1≤8*s.size):∃t:Nat,Ya3 s.data.toList p 1=t∧(t=0∨t=1)∧((Yad s.data.toList).drop p).take 1=[UInt8.ofNat (48+t)]:=by
 obtain⟨hn,hd⟩:=Yib s.data.toList p 0 h;have hlt:=Ycg s.data.toList p 1;have hlt:Ya3 s.data.toList p 1<2:=hlt;have h01:Ya3 s.data.toList p (0+1)=Ya3 s.data.toList p 1:=rfl;rw[h01] at hd;have hb:((Yad s.data.toList).drop p).take 1=[((Yad s.data.toList).drop p)[0]]:=by
  rw[List.take_succ_eq_append_getElem hn];rfl
 rcases hd with ⟨h1,h2⟩|⟨h1,h2⟩
 ·have ht:Ya3 s.data.toList p 1=0:=by omega
  exact⟨0,ht,.inl rfl,by rw[hb,h1];rfl⟩
 ·have ht:Ya3 s.data.toList p 1=1:=by omega
  exact⟨1,ht,.inr rfl,by rw[hb,h1];rfl⟩
theorem Y6d (intra:Bool)(c:UInt8):∀x∈Yg7 intra [c] 16,x.1.size≤maxLen∧(Lit.int .i64 x.2).wf=true:=fun x hx=>by
 rw[Yid] at hx;have hm:=(List.mem_filter.1 hx).1;have h:=(Yb1 (Yyr intra x hm)).2.1;have e:(Ya1 x).length=x.1.size:=rfl;refine⟨?_,Qg2 intra x hm⟩;unfold maxLen;omega
theorem Y4o {l ds:List (ByteArray×Int)}(h:mkP l)(hp:ds.Perm l):Yhh (ds.map Ya1)∧∀x∈ds,Yck (Ya1 x)=true:=
 ⟨(Ygc (hp.map Ya1)).2 h.2.2.2.1,fun x hx=>h.2.2.1 x (hp.mem_iff.1 hx)⟩
set_option maxRecDepth 100000 in
set_option maxHeartbeats 1000000 in
theorem Y45 (intra:Bool)(w:World)(rb:Nat)(s:ByteArray)(p:Nat)(hp:Ye3 w)(hr:Yba w rb s p):
  Calls Tryz.prog 227 #[.pointer (some ⟨rb,0,none⟩),.bool intra] w (Qca intra s rb p w):=by
 obtain⟨bs,hbs⟩:∃bs,(Yad s.data.toList).drop p=bs:=⟨_,rfl⟩;have hbl:bs.length=8*s.size-p:=by rw[←hbs,List.length_drop,Yag];rfl
 have hpl:=hr.2.1;have hrlt:=hr.lt;have HBS:=Lib.hid hbs;by_cases hsh:8*s.size<p+1
 ·have hask:ask s.data.toList p 1=(0,2):=Ybo (by omega) (by have:s.data.toList.length=s.size:=rfl;omega);have F:=Lib.hid (Y98 intra (b:=bs) (n:=0) (f:=2) (by
   cases bs with
   |nil=>rfl
   |cons a l=>simp at hbl;omega) (by decide))
  clear hsh hbl hbs
  go_enter Tryz.func227,Tryz.ntmps227
  go_wp2_with fail
  refine(Ybr _ _ _ _ 1 hr).mono ?_;rintro e w1 ⟨rfl,hb1⟩;rw[hask];have hr1:=hr.below hb1;have hg1:w.grownBy w1 (some rb):=⟨hb1.os,hb1.tape,hb1.output,hb1.size,fun k hk _=>hb1.block k hk⟩
  go_wp2
  go_ret2
  exact Y17 (n:=0) (by rw[HBS.out];exact F.out) hr1 hg1
 obtain⟨t,ht,ht2,hb1⟩:=Yrb s p (by omega);have hask:ask s.data.toList p 1=((t:Int),0):=by
  have:=Yc8 (l:=s.data.toList) (p:=p) (n:=1) (by omega) (by have:s.data.toList.length=s.size:=rfl;omega);rw[this,show (1:Int).toNat=1 from rfl,ht]
 rw[hbs] at hb1;have hc:UInt8.ofNat (48+t)=48∨UInt8.ofNat (48+t)=49:=by rcases ht2 with rfl|rfl <;> simp
 obtain⟨L,hL⟩:∃L,Yg7 intra [UInt8.ofNat (48+t)] 16=L:=⟨_,rfl⟩;have hmk:=Qfw intra hc;have hrow:=Y6d intra (UInt8.ofNat (48+t));have hll:=Yp3 intra [UInt8.ofNat (48+t)] 16;have htu:=fun(ds:List (ByteArray×Int)) (hp:ds.Perm L)=>Qfr intra hb1 (ds:=ds) (by rw[hL];exact hp);have hin:∀x∈L,x∈Yk5 intra:=fun x hx=>by
  rw[←hL,Yid] at hx;exact(List.mem_filter.1 hx).1
 have hcon:=fun x hx=>Yy5 intra t ht2 x hx;rw[hL] at hmk hrow hll hcon;have MK:=Lib.hid hmk;have HT:=Lib.hid htu;have HIN:=Lib.hid hin;clear hmk htu hin hL hb1 hc ht ht2 hsh hbl hbs
 go_enter Tryz.func227,Tryz.ntmps227
 go_wp2_with fail
 refine(Ybr _ _ _ _ 1 hr).mono ?_;rintro e w1 ⟨rfl,hb1⟩;rw[hask];have hr1:=hr.below hb1;have hp1:=hp.below hb1
 go_wp2_with fail
 refine(hcon _ hp1).mono ?_;rintro e w2 ⟨v,rfl,hown,hb2⟩;obtain⟨q,cap,rfl,hcds⟩:=Yrp hown;have hr2:=hr1.below hb2;have hbw2:Below w.heap.size w w2:=hb1.trans (hb2.mono hb1.size);have hrl2:rb<w2.heap.size:=hr2.lt;clear hown hb2 hr1 hb1 hr hask hp1 hp
 go_wp2_with fail
 refine(Y9a L q cap _ hcds (by unfold maxLen;omega) hrow).mono ?_;rintro e w3 ⟨hy,_,hb3⟩;obtain⟨tb,ds,rfl,ht,hp,hs⟩:=hy MK.out;obtain⟨hf,ho⟩:=Y4o MK.out hp;have hr3:=hr2.below hb3;have hbw3:Below w.heap.size w w3:=hbw2.trans (hb3.mono hbw2.size);have HS:=Lib.hid hs;have HF:=Lib.hid hf;have HO:=Lib.hid ho;have HP:=Lib.hid hp;have IT:=Lib.hid ht;clear hy hs hf ho hp ht hr2 hb3 hbw2 hcds hrow hll
 go_wp2_with fail
 refine(Qbp _ _ _ tb rb ds _ s p IT.out hr3 (.inl hrl2) HS.out HF.out HO.out).mono ?_;rintro e w4 ⟨v,rfl,hv0,hv1,hr4,hg4⟩;rw[HBS.out,HT.out ds HP.out] at hv0 hv1 hr4 ⊢;obtain⟨f,n,hk⟩:∃f n,tk ((Yk5 intra).map Ya1) bs 25 1=(f,n):=⟨_,_,rfl⟩;rw[hk] at hv0 hv1 hr4 ⊢;have hcd:=Yuq ((Yk5 intra).map Ya1) bs 25 1;rw[hk] at hcd;have hgw4:w.grownBy w4 (some rb):=by
  refine⟨hg4.os.trans hbw3.os,hg4.tape.trans hbw3.tape,hg4.output.trans hbw3.output,Nat.le_trans hbw3.size hg4.size,fun k hk hn=>?_⟩;exact(hg4.block k (Nat.lt_of_lt_of_le hk hbw3.size) hn).trans (hbw3.block k hk)
 have F0:ptk intra bs=(v,f,n):=by
  by_cases h0:f=0
  ·subst h0;obtain⟨x,hx,hxr,hxv⟩:=hv0 rfl;rw[Y99 intra hk (HIN.out x (HP.out.mem_iff.1 hx)) hxr,hxv]
  ·obtain rfl:=hv1 h0;have hn:n=0:=by
    rcases hcd with h|h|h
    ·exact absurd h h0
    ·exact h.2
    ·exact h.2
   rw[Y98 intra hk h0,hn]
 have F:=Lib.hid F0;clear F0 hk hv0 hv1 hg4 hr3 hbw3 hcd
 go_wp2
 go_ret2
 exact Y17 (by rw[HBS.out];exact F.out) hr4 hgw4
end Go.Proofs.YtjjmalchelniiaaGreatDoor