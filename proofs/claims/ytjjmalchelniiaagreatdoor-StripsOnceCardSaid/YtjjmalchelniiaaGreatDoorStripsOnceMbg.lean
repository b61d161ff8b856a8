/- Part 33 of StripsOnce. No condition. -/
import Derived.Test.YtjjmalchelniiaaGreatDoorStripsOnceMbd
import Derived.Test.YtjjmalchelniiaaGreatDoorStripsOnceMbf
import Derived.Deep.DeepCutAuto
import Derived.Deep.CutRange
import Derived.Deep.CutBlock
import Derived.StillTailTactics
namespace Go.Proofs.YtjjmalchelniiaaGreatDoor
open Go.RowKit Go.Lib Go.Sort
theorem Y7u (blk off size:Nat)(w:World):CmpLays Tryz.prog 261 #[] Yhg 3 Yvq blk off size w:=
 fun _ _ _ _ x y=>Yta x y _
theorem Qa4 (blk off cap:Nat)(d:Array (ByteArray×Sym))(w:World)(hH:HoldsK Yhg 3 w blk off d)(hblk:blk<w.heap.size)(hsz:d.size<4611686018427387904):
  Calls Tryz.prog 260 #[.slice (some ⟨blk,off,none⟩) d.size cap,.func (.func 261) #[] #[]] w fun e w'=>
   e=.returned (.tuple #[])∧∃d' n os,PermIn 0 d.size d d'∧SortedIn (ltOf Yvq) 0 d.size d'∧w'=sortWorldK Yhg 3 w blk off n d' os:=
 AnyQ.slices_SortFunc Tryz.lSortY 3 Y6x Yr8 Yhg (fun _=>rfl) Ytf Yvq Y55 261 #[] blk off cap d w (enters_of Tryz.func261 (by kernel_rfl) rfl) (Y7u blk off d.size w) hH hblk hsz
end Go.Proofs.YtjjmalchelniiaaGreatDoor
namespace Go.Proofs.YtjjmalchelniiaaGreatDoor
open Go.RowKit Go.Maps Go.Sort
def Ydp (l:List (ByteArray×Sym)):Nat:=l.foldl (fun a x=>max a x.1.size) 0
theorem Yzw (l:List (ByteArray×Sym))(j:Nat)(h:j<l.length):Ydp (l.take (j+1))=max (Ydp (l.take j)) l[j].1.size:=by
 unfold Ydp;rw[List.take_succ_eq_append_getElem h,List.foldl_append]
 rfl
def Qb5 (l:List (ByteArray×Sym)):Prop:=1≤l.length∧l.length≤256∧(∀x∈l,Yck (Yat x)=true)∧Yhh (l.map Yat)∧(l.map (·.2)).Nodup
def Yq1 (l:List (ByteArray×Sym))(w:World)(e:Ending)(w':World):Prop:=
 (Qb5 l→∃tb ds,e=.returned (.tuple #[.pointer (some ⟨tb,0,none⟩),.int .i64 0])∧Qgx w' w.heap.size w'.heap.size tb ds (Ydp l:Nat)∧ds.Perm l∧ds.Pairwise fun x y=>leL (Yat x) (Yat y)=true)∧
 (¬ Qb5 l→e=.returned (.tuple #[.pointer none,.int .i64 1]))∧Below w.heap.size w w'
theorem Yh1 {l:List (ByteArray×Sym)}{w w':World}(h:¬ Qb5 l)(hb:Below w.heap.size w w'):Yq1 l w (.returned (.tuple #[.pointer none,.int .i64 1])) w':=
 ⟨fun hm=>absurd hm h,fun _=>rfl,hb⟩
def Y6u (w:World)(n:Nat)(Yji:List Value)(t4:Value)(x:World):Prop:=
 ∃(tb bm:Nat) (q:Option Addr) (cap:Nat),t4=.pointer (some ⟨tb,0,none⟩)∧x.heap[tb]? =some (Ygo (some bm) q n cap 0)∧x.ownsMap Tryz.prog 272 (plainElem Tryz.prog 9) bm 0 (.map []:DataW Unit)∧x.ownsRow w.heap.size 274 3 (.slice q n cap) n Yji∧Below w.heap.size w x∧w.heap.size≤tb∧w.heap.size≤bm
theorem Y3l {w:World}{b o:Nat}{l:List (ByteArray×Sym)}(h:Yms w (some ⟨b,o,none⟩) l):∀j u,(Yay l)[j]? =some u→w.cell? ⟨b,o+j,none⟩=some u:=by
 intro j u hu;have hj:j<l.length*3:=by
  have:=(List.getElem?_eq_some_iff.1 hu).1;rwa [Yga] at this
 obtain⟨b',o',e,_,hc⟩:=h.at (by omega);cases e;have hi:j / 3<l.length:=by omega
 obtain⟨g0,g1,g2⟩:=Ydm l (j / 3) hi;obtain⟨c0,c1,c2⟩:=hc (j / 3) hi;rcases (by omega:j=j / 3*3∨j=j / 3*3+1∨j=j / 3*3+2) with e|e|e
 ·rw[e] at hu ⊢;rw[g0] at hu;cases hu;exact c0
 ·rw[e] at hu ⊢;rw[g1] at hu;cases hu;exact c1
 ·rw[e] at hu ⊢;rw[g2] at hu;cases hu;exact c2
theorem Yw5 {w:World}{base base' e size n:Nat}{v:Value}{xs:List Value}(h:w.ownsRow base e size v n xs)(hb:base'≤base):w.ownsRow base' e size v n xs:=by
 refine⟨h.1,?_⟩;rcases h.2 with h|⟨g,cap,cur,h1,h2,h3⟩
 ·exact .inl h
 ·exact .inr ⟨g,cap,cur,h1,Nat.le_trans hb h2,h3⟩
theorem Ywk {w:World}{base cb cap:Nat}{l:List (ByteArray×Sym)}(h:w.ownsRow base 274 3 (.slice (some ⟨cb,0,none⟩) l.length cap) l.length (Yay l)):HoldsK Yhg 3 w cb 0 l.toArray:=by
 intro j hj;rw[size_flatK,List.size_toArray] at hj;have hi:j / 3<l.length:=by omega
 have hfz:w.frozen? ⟨cb,0+j,none⟩=false:=by
  rcases h.2 with ⟨h1,_⟩|⟨g,cap',cur,h1,_,hg,_⟩
  ·cases h1
  ·cases h1;exact frozen_of_row w cb _ cur _ hg
 refine⟨?_,hfz⟩;have hget:l.toArray[j / 3]! =l[j / 3]:=by rw[getElem!_pos _ (j / 3) (by simpa using hi)];simp
 rw[get_flatK _ _ _ _ (by simpa using hj),hget];obtain⟨g0,g1,g2⟩:=Ydm l (j / 3) hi;rcases (by omega:j%3=0∨j%3=1∨j%3=2) with e|e|e
 ·have:=World.ownsRow.cells (g:=cb) h rfl (j / 3*3) _ g0;rw[Addr.add_mid,show 0+j / 3*3=0+j by omega] at this;rw[this,e];rfl
 ·have:=World.ownsRow.cells (g:=cb) h rfl (j / 3*3+1) _ g1;rw[Addr.add_mid,show 0+(j / 3*3+1)=0+j by omega] at this;rw[this,e];rfl
 ·have:=World.ownsRow.cells (g:=cb) h rfl (j / 3*3+2) _ g2;rw[Addr.add_mid,show 0+(j / 3*3+2)=0+j by omega] at this;rw[this,e];rfl
theorem Yy6 {w:World}{cb:Nat}{d:Array (ByteArray×Sym)}(h:HoldsK Yhg 3 w cb 0 d)(hlt:cb<w.heap.size):Yms w (some ⟨cb,0,none⟩) d.toList:=by
 refine .inr ⟨cb,0,rfl,hlt,fun i hi=>?_⟩;have hi':i<d.size:=by simpa using hi
 have hget:d[i]! =d.toList[i]:=by rw[getElem!_pos d i hi'];simp
 have c0:=(HoldsK.cell h hi' (by decide:0<3)).1;have c1:=(HoldsK.cell h hi' (by decide:1<3)).1;have c2:=(HoldsK.cell h hi' (by decide:2<3)).1;rw[hget] at c0 c1 c2;exact⟨c0,c1,c2⟩
theorem Ytj {w:World}{g n:Nat}{os:Array Obj}(d:Array (ByteArray×Sym)):w.grownBy (sortWorldK Yhg 3 w g 0 n d os) (some g):=by
 refine⟨rfl,rfl,rfl,size_sortWorldK_c Yhg 3 w g 0 n d os,fun k hk hne=>?_⟩;unfold sortWorldK putRowK;rw[heap_grow_old _ _ (by simpa using hk)];have:g≠k:=fun e=>hne (by rw[e]);simp[putRow,mapBlock,Sort.ahead,Array.getElem?_modify,this]
theorem Yxm {d:Array (ByteArray×Sym)}(h:SortedIn (ltOf Yvq) 0 d.size d):d.toList.Pairwise fun x y=>leL (Yat x) (Yat y)=true:=by
 rw[List.pairwise_iff_getElem];intro i j hi hj hij;have hi':i<d.size:=by simpa using hi
 have hj':j<d.size:=by simpa using hj
 have:=h i j (Nat.zero_le _) hij hj';rw[getElem!_pos d i hi',getElem!_pos d j hj'] at this;unfold ltOf Yvq at this;rw[Ylh] at this
 simpa using this
theorem Y44 {d d':Array (ByteArray×Sym)}(h:PermIn 0 d.size d d'):d'.toList.Perm d.toList:=by
 have h1:=h.1;have h3:=h.2.2;have e1:d'.extract 0 d.size=d':=by rw[←h1];simp
 have e2:d.extract 0 d.size=d:=by simp
 rw[e1,e2] at h3;exact h3
theorem Y0f (base cb cap:Nat)(l:List (ByteArray×Sym))(w:World)(h:w.ownsRow base 274 3 (.slice (some ⟨cb,0,none⟩) l.length cap) l.length (Yay l))(hlt:cb<w.heap.size)(hn:l.length≤256):
  Calls Tryz.prog 260 #[.slice (some ⟨cb,0,none⟩) l.length cap,.func (.func 261) #[] #[]] w fun e w'=>
   e=.returned (.tuple #[])∧∃ds:List (ByteArray×Sym),ds.Perm l∧(ds.Pairwise fun x y=>leL (Yat x) (Yat y)=true)∧Yms w' (some ⟨cb,0,none⟩) ds∧w.grownBy w' (some cb):=by
 have hH:=Ywk h;have hs:=Qa4 cb 0 cap l.toArray w hH hlt (by simp;omega);rw[List.size_toArray] at hs;refine hs.mono ?_;rintro e w1 ⟨rfl,d',n,os,hp,hso,rfl⟩;have hp':PermIn 0 l.toArray.size l.toArray d':=hp;have hsz:d'.size=l.length:=hp'.1;refine⟨rfl,d'.toList,Y44 hp',Yxm (by rw[hsz];exact hso),?_,Ytj d'⟩
 exact Yy6 (holdsK_sortWorldK_c Yhg 3 w cb 0 l.toArray d' n os hH hlt hp'.1) (Nat.lt_of_lt_of_le hlt (size_sortWorldK_c Yhg 3 w cb 0 n d' os))
theorem Yrh {w:World}{tb bm n:Nat}{cs:Array Value}{T:TypeId}{fr:Nat×Nat}{D:DataW Unit}(h:w.heap[tb]? =some (.cells cs T fr))(ho:w.ownsMap Tryz.prog 272 (plainElem Tryz.prog 9) bm n D):tb≠bm:=by
 rintro rfl;obtain⟨es,clock,hb,_⟩:=ho;rw[h] at hb;cases hb
theorem Yrr {w:World}{base e size n:Nat}{v:Value}{xs:List Value}(h:w.ownsRow base e size v n xs):w.drew.ownsRow base e size v n xs:=h
theorem Yfy {w:World}{base e size n:Nat}{v:Value}{xs:List Value}(h:w.ownsRow base e size v n xs){b:Nat}{o:Obj}(hb:w.heap[b]? =some o)(hne:∀cs,o≠.cells cs e (0,0)):v.ownBlock=none∨v.ownBlock≠some b:=by
 rcases h.2 with ⟨rfl,_⟩|⟨g,cap,cur,rfl,_,hg,_⟩
 ·exact .inl rfl
 ·right
  intro hk;injection hk with hk;obtain rfl:g=b:=hk;rw[hg] at hb;injection hb with hb;exact hne _ hb.symm
theorem Yi5 {w x:World}(h:Below w.heap.size w x)(row:Option Nat):w.grownBy x row:=⟨h.os,h.tape,h.output,h.size,fun k hk _=>h.block k hk⟩
theorem Yvo (b o c:Nat)(l:List (ByteArray×Sym))(w:World)(hn:l.length≤256)(hc:∀j u,(Yay l)[j]? =some u→w.cell? ⟨b,o+j,none⟩=some u):
  Calls Tryz.prog 259 #[.slice (some ⟨b,o,none⟩) l.length c] w fun e w'=>∃q cap,e=.returned (.slice q l.length cap)∧w'.ownsRow w.heap.size 274 3 (.slice q l.length cap) l.length (Yay l)∧Below w.heap.size w w':=by
 refine(Y3u b o l.length c (Yay l) w (Yga l) (by omega) hc (Yqg l)).mono ?_;rintro e w1 ⟨v,rfl,hown,_,hb⟩;obtain⟨q,cap,rfl,_⟩:=Yo5 hown;exact⟨q,cap,rfl,hown,hb⟩
theorem Ywu {ds:List (ByteArray×Sym)}(hs:ds.Pairwise fun x y=>leL (Yat x) (Yat y)=true):(∃i,∃h:i+1<ds.length,(Yat ds[i]).isPrefixOf (Yat ds[i+1])=true)↔¬ Yhh (ds.map Yat):=by
 constructor
 ·rintro⟨i,h,hp⟩ hf;have:=Ykh.1 hf i (i+1) (by simp;omega) (by simpa using h) (by omega);rw[List.getElem_map,List.getElem_map,hp] at this;cases this
 ·intro hf;apply Classical.byContradiction;intro hno;apply hf;refine Yjm (by rw[List.pairwise_map];exact hs) fun i hi=>?_;rw[List.getElem_map,List.getElem_map];cases hp:(Yat (ds[i]'(by simp at hi;omega))).isPrefixOf (Yat (ds[i+1]'(by simpa using hi))) with
  |false=>rfl
  |true=>exact absurd ⟨i,by simpa using hi,hp⟩ hno
theorem Ywv (ds:List (ByteArray×Sym))(n:Nat)(hn:ds.length=n)(p:Option Addr)(cap:Nat)(w:World)(r:Bool)(hs:ds.Pairwise fun x y=>leL (Yat x) (Yat y)=true)(hr:r=true↔¬ Yhh (ds.map Yat))(hc:Yms w p ds)(hm:n≤256):
  Calls Tryz.prog 262 #[.slice p n cap] w fun e w'=>e=.returned (.bool r)∧Below w.heap.size w w':=by
 subst hn;exact Ywt ds p cap w r (hr.trans (Ywu hs).symm) hc (by omega)
theorem Yt6 (w:World)(n:Int):(Instr.makeMap 298 (some (.int .i64 n))).run Tryz.prog w=.ok (.map (some w.heap.size)) (w.alloc (.map #[] 0)):=by
 simp[Instr.makeMap,run_underlying Tryz.underlying298,asInt,asIntOf,Result.andThen]
set_option maxRecDepth 100000 in
set_option maxHeartbeats 16000000 in
theorem Y4q (l:List (ByteArray×Sym))(p:Option Addr)(cap:Nat)(w:World)(hc:Yms w p l)(hm:l.length≤maxLen)(hl:∀x∈l,x.1.size≤maxLen):
  Calls Tryz.prog 246 #[.slice p l.length cap] w (Yq1 l w):=by
 unfold maxLen at hm;have HL:=Lib.hid hl;clear hl;by_cases h0:l.length=0
 ·have F:=Lib.hid (show ¬ Qb5 l from fun h=>by have:=h.1;omega);have t0:((l.length:Int)==0)=true:=by rw[beq_iff_eq];omega
  clear h0
  go_enter Tryz.func246,Tryz.ntmps246
  go_wp2
  go_ret2
  exact Yh1 F.out (Below.refl _ _)
 by_cases h1:256<l.length
 ·have F:=Lib.hid (show ¬ Qb5 l from fun h=>by have:=h.2.1;omega);have t0:((l.length:Int)==0)=false:=by rw[beq_eq_false_iff_ne];omega
  have t1:decide (256<(l.length:Int))=true:=by simp;omega
  clear h0
  go_enter Tryz.func246,Tryz.ntmps246
  go_wp2
  go_ret2
  exact Yh1 F.out (Below.refl _ _)
 obtain⟨b,o,rfl,hblt,hcells⟩:=hc.at (by omega);have hE:∀x,Below w.heap.size w x→Yms x (some ⟨b,o,none⟩) l:=fun x hx=>hc.below hx;have EE:=Lib.hid hE;have h2:l.length≤256:=by omega
 have h3:1≤l.length:=by omega
 have t0:((l.length:Int)==0)=false:=by rw[beq_eq_false_iff_ne];omega
 have t1:decide (256<(l.length:Int))=false:=by simp;omega
 have hnews:∀(x:World),Below w.heap.size w x→∀j u,(Yay l)[j]? =some u→x.cell? ⟨b,o+j,none⟩=some u:=fun x hx=>Y3l (hE x hx);have NW:=Lib.hid hnews;have hmm:=fun(w:World)=>Yt6 w (l.length:Int);clear h0 h1 hE hcells hnews hc hblt
 go_enter Tryz.func246,Tryz.ntmps246
 go_upto_region 3 with (fail)
 go_cut [4] from 15 to 21 (fun t4 x=>Y6u w l.length (Yay l) t4 x)
 case first=>
  go_wp2
  go_region_with (go_at_call 259;refine(Yvo b o cap l _ h2 ?_).mono ?_;(intro j u hu;first|exact NW.out _ ((Below.refl _ _).drew) j u hu|exact NW.out _ (((Below.refl _ _).drew).alloc (Nat.le_refl _) _) j u hu);rintro e w1 ⟨q,cq,rfl,hown,hb1⟩)
  ·have hom:w1.ownsMap Tryz.prog 272 (plainElem Tryz.prog 9) w.heap.size 0 (.map []:DataW Unit):=((World.ownsMap_made w _ _ _).drew).kept (Yi5 hb1 none) (by simp);have hbw:Below w.heap.size w w1:=(((Below.refl _ w).alloc (Nat.le_refl _) _).drew).trans (hb1.mono (by simp));have hz1:=hb1.size
   have hfin:Y6u w l.length (Yay l) (.pointer (some ⟨w1.heap.size,0,none⟩)) (w1.alloc (Ygo (some w.heap.size) q l.length cq 0)):=
    ⟨w1.heap.size,w.heap.size,q,cq,rfl,heap_alloc_new w1 _,hom.alloc _,(Yw5 hown (by simp)).alloc _,hbw.alloc hbw.size _,hbw.size,Nat.le_refl _⟩
   have FI:=Lib.hid hfin;clear hfin hom hown hb1
   go_wp2
   go_meet
   case rel=>exact FI.out
  ·have hbw:Below w.heap.size w w1:=((Below.refl _ w).drew).trans hb1;have hfin:Y6u w l.length (Yay l) (.pointer (some ⟨w1.heap.size+1,0,none⟩)) ((w1.alloc (.map #[] 0)).alloc (Ygo (some w1.heap.size) q l.length cq 0)):=
    ⟨w1.heap.size+1,w1.heap.size,q,cq,rfl,by rw[show w1.heap.size+1=(w1.alloc (.map #[] 0)).heap.size by simp];exact heap_alloc_new _ _,(World.ownsMap_made w1 _ _ _).alloc _,((Yw5 hown (by simp)).alloc _).alloc _,(hbw.alloc hbw.size _).alloc (by have:=hbw.size;simp;omega) _,by have:=hbw.size;omega,hbw.size⟩
   have FI:=Lib.hid hfin;clear hfin hown hb1
   go_wp2
   go_meet
   case rel=>exact FI.out
 case rest=>
  obtain⟨tb,bm,q,cq,rfl,htb,hom,hown,hb,hBt,hBm⟩:=hcut;obtain⟨B,hB⟩:∃B,w.heap.size=B:=⟨_,rfl⟩;rw[hB] at EE NW hown hb hBt hBm;have HB:=Lib.hid hB;clear hB hmm NW
  go_wp2
  go_loopw [24] (fun i wr=>∃j:Nat,j≤l.length∧i=.int .i64 j∧wr.heap[tb]? =some (Ygo (some bm) q l.length cq (Ydp (l.take j):Nat))∧wr.ownsMap Tryz.prog 272 (plainElem Tryz.prog 9) bm j (Yhu (l.take j))∧wr.ownsRow B 274 3 (.slice q l.length cq) l.length (Yay l)∧Below B w wr∧Hid (∀a,(h:a<l.length)→a<j→Yck (Yat l[a])=true)) (fun i _=>l.length-(intOf i).toNat)
  case atStart=>exact⟨0,Nat.zero_le _,rfl,htb,hom,hown,hb,Lib.hid (fun a _ h=>absurd h (Nat.not_lt_zero a))⟩
  case round=>
   clear htb hom hown hb;obtain⟨j,hj,rfl,htb,hom,hown,hb,hok⟩:=hrel;by_cases hlt:j<l.length
   ·obtain⟨b',o',e,hblt,hcells⟩:=(EE.out wr hb).at (by omega);cases e;obtain⟨c0,c1,c2⟩:=hcells j hlt;have hx1:=HL.out l[j] (List.getElem_mem hlt);have D1:=Lib.hid (Yy9 l j hlt);have L1:=Lib.hid (Yzw l j hlt);obtain⟨x,hx⟩:∃x,l[j]=x:=⟨_,rfl⟩;rw[hx] at c0 c1 c2 hx1 D1 L1;have HX:=Lib.hid hx;clear hx hcells
    go_wp2_with fail
    refine(Yuo x.1 hx1 _).mono ?_;rintro e w1 ⟨rfl,hb1⟩;have hgr:wr.grownBy w1 none:=Yac (World.grownBy_alloc wr _ none) (Yi5 hb1 none);have htb1:w1.heap[tb]? =some (Ygo (some bm) q l.length cq (Ydp (l.take j):Nat)):=(hgr.block tb (Array.getElem?_eq_some_iff.1 htb).1 (by simp)).trans htb;have hom1:=hom.kept hgr (by simp)
    have hown1:=hown.kept hgr (by cases hv:(Value.slice q l.length cq).ownBlock <;> simp);have hbw1:Below B w w1:=(hb.alloc (by have:=hb.size;rw[HB.out] at this;exact this) _).trans (hb1.mono (by have:=hb.size;rw[HB.out] at this;simp;omega))
    have hvb:w1.heap[wr.heap.size]? =some (.cells [.string x.1,.int .i64 (sA x.2),.int .i64 (sB x.2)].toArray 274 (0,0)):=(hb1.block wr.heap.size (by simp)).trans (heap_alloc_new wr _);have v0:w1.cell? ⟨wr.heap.size,0,none⟩=some (.string x.1):=Yab hvb rfl;have v1:w1.cell? ⟨wr.heap.size,1,none⟩=some (.int .i64 (sA x.2)):=Yab hvb rfl
    have v2:w1.cell? ⟨wr.heap.size,2,none⟩=some (.int .i64 (sB x.2)):=Yab hvb rfl;clear hgr hb1 htb hom hown hb c0 c1 c2;cases hk:Yck x.1.data.toList with
    |false=>
     have F:=Lib.hid (show ¬ Qb5 l from fun h=>by
      have:=h.2.2.1 x (by rw[←HX.out];exact List.getElem_mem hlt);rw[show Yck (Yat x)=Yck x.1.data.toList from rfl,hk] at this;cases this)
     clear hk
     go_wp2
     go_ret2
     exact Yh1 F.out (by rw[HB.out];exact hbw1)
    |true=>
     have OKN:Hid (∀a,(h:a<l.length)→a<j+1→Yck (Yat l[a])=true):=Lib.hid (fun a ha h=>by
      by_cases e:a=j
      ·subst e;rw[HX.out];exact hk
      ·exact hok.out a ha (by omega))
     clear hk hok;have t40:w1.cell? ⟨tb,0,none⟩=some (.map (some bm)):=Yab htb1 rfl
     go_wp2_with fail
     go_still_tail 8,(by kernel_rfl)
     change wpList _ _ _ _ _ w1.drew;have htb2:w1.drew.heap[tb]? =some (Ygo (some bm) q l.length cq (Ydp (l.take j):Nat)):=htb1;have hom2:=hom1.drew;have hown2:=Yrr hown1;have hbw2:Below B w w1.drew:=hbw1.drew;have hvb2:w1.drew.heap[wr.heap.size]? =some (.cells [.string x.1,.int .i64 (sA x.2),.int .i64 (sB x.2)].toArray 274 (0,0)):=hvb;generalize w1.drew=x0 at htb2 hom2 hown2 hbw2 hvb2 ⊢
     clear htb1 hom1 hown1 hbw1 hvb v0 v1 v2 t40;have hne1:=Yrh htb2 hom2;have hne2:=Yrh hvb2 hom2;have hbo:∀es clock,x0.heap[bm]? =some (.map es clock)→(Value.slice q l.length cq).ownBlock=none∨(Value.slice q l.length cq).ownBlock≠some bm:=fun es clock h=>Yfy hown2 h (fun cs=>by simp);obtain⟨es,clock,hme,_⟩:=id hom2;have hbo2:=hbo es clock hme
     have hbo3:=Yfy hown2 htb2 (fun cs=>by unfold Ygo;intro e;injection e with _ e;exact absurd e (by decide));have BO2:=Lib.hid hbo2;have BO3:=Lib.hid hbo3;have VB:wr.heap.size<x0.heap.size:=(Array.getElem?_eq_some_iff.1 hvb2).1;have TB:tb<x0.heap.size:=(Array.getElem?_eq_some_iff.1 htb2).1;clear hbo hme hbo2 hbo3
     go_wp2_with (at_mapUpdate;refine wpList_mapUpdate_own _ rfl _ _ _ 298 rfl 272 9 Yxv Tryz.underlying298 _ bm j (Yhu (l.take j)) rfl hom2 (by unfold maxLen;omega) _ _ (Yto x) rfl rfl (Y0o x.2) (Yuw x) [] (plainElem_string Tryz.underlying9 hx1) ?_;intro w2 hom3 hg2;have htb3:w2.heap[tb]? =some (Ygo (some bm) q l.length cq (Ydp (l.take j):Nat)):=(hg2.block tb TB (by intro e;injection e with e;exact hne1 e)).trans htb2;have hvb3:w2.heap[wr.heap.size]? =some (.cells [.string x.1,.int .i64 (sA x.2),.int .i64 (sB x.2)].toArray 274 (0,0)):=(hg2.block _ VB (by intro e;injection e with e;exact hne2 e)).trans hvb2;have hown3:=hown2.kept hg2 BO2.out;have hbw3:Below B w w2:=hbw2.grown hg2 (by have:=hbw2.size;rw[HB.out] at this;exact this) (by intro k hk;injection hk with hk;omega);clear hom2 hg2 htb2 hvb2 hown2 hbw2)
     have v0:w2.cell? ⟨wr.heap.size,0,none⟩=some (.string x.1):=Yab hvb3 rfl;have t2:w2.cell? ⟨tb,2,none⟩=some (.int .i64 (Ydp (l.take j):Nat)):=Yab htb3 rfl
     go_still_tail 11,(by kernel_rfl)
     change wpList _ _ _ _ _ w2.drew;have htb4:w2.drew.heap[tb]? =some (Ygo (some bm) q l.length cq (Ydp (l.take j):Nat)):=htb3;have hom4:=hom3.drew;have hown4:=Yrr hown3;have hbw4:Below B w w2.drew:=hbw3.drew;generalize w2.drew=x1 at htb4 hom4 hown4 hbw4 ⊢;clear htb3 hom3 hown3 hbw3 hvb3 v0 t2;have tf:=Yai (o:=2) htb4
     have t2:x1.cell? ⟨tb,2,none⟩=some (.int .i64 (Ydp (l.take j):Nat)):=Yab htb4 rfl;have hfin:(x1.setCell ⟨tb,2,none⟩ (.int .i64 (max ((Ydp (l.take j):Nat):Int) (x.1.size:Int)))).heap[tb]? =some (Ygo (some bm) q l.length cq (Ydp (l.take (j+1)):Nat))∧
       (x1.setCell ⟨tb,2,none⟩ (.int .i64 (max ((Ydp (l.take j):Nat):Int) (x.1.size:Int)))).ownsMap Tryz.prog 272 (plainElem Tryz.prog 9) bm (j+1) (Yhu (l.take (j+1)))∧
       (x1.setCell ⟨tb,2,none⟩ (.int .i64 (max ((Ydp (l.take j):Nat):Int) (x.1.size:Int)))).ownsRow B 274 3 (.slice q l.length cq) l.length (Yay l)∧
       Below B w (x1.setCell ⟨tb,2,none⟩ (.int .i64 (max ((Ydp (l.take j):Nat):Int) (x.1.size:Int)))):=by
      have hg:=Yap x1 ⟨tb,2,none⟩ (.int .i64 (max ((Ydp (l.take j):Nat):Int) (x.1.size:Int)));refine⟨?_,?_,hown4.kept hg BO3.out,hbw4.setCell hBt _⟩
      ·rw[L1.out,show ((max (Ydp (l.take j)) x.1.size:Nat):Int)=max ((Ydp (l.take j):Nat):Int) (x.1.size:Int) by omega];exact Yau (o:=2) _ htb4
      ·rw[D1.out];exact hom4.setCell (Ne.symm hne1) _
     have FI:=Lib.hid hfin;clear hfin
     go_wp2_with fail
     go_roundw
     case rel=>exact⟨j+1,by omega,by go_num,FI.out.1,FI.out.2.1,FI.out.2.2.1,FI.out.2.2.2,OKN⟩
     case measure=>simp[intOf];omega
   ·obtain rfl:j=l.length:=by omega
    rw[List.take_length] at htb hom;obtain⟨cb,rfl,hcb⟩:∃cb,q=some ⟨cb,0,none⟩∧cb<wr.heap.size∧B≤cb∧l.length≤cq∧cq≤maxLen:=by
     rcases hown.2 with ⟨_,h⟩|⟨g,cap',cur,h1,h2,hg,h4,h5,_⟩
     ·omega
     ·cases h1;exact⟨g,rfl,(Array.getElem?_eq_some_iff.1 hg).1,h2,h4,h5⟩
    have hbo3:=Yfy hown htb (fun cs=>by unfold Ygo;intro e;injection e with _ e;exact absurd e (by decide));obtain⟨es,clock,hme,_⟩:=id hom;have hbo2:=Yfy hown hme (fun cs=>by simp);have hct:cb≠tb:=by
     rcases hbo3 with h|h
     ·cases h
     ·exact fun e=>h (by rw[e];rfl)
    have hcm:cb≠bm:=by
     rcases hbo2 with h|h
     ·cases h
     ·exact fun e=>h (by rw[e];rfl)
    have c1:wr.cell? ⟨tb,1,none⟩=some (.slice (some ⟨cb,0,none⟩) l.length cq):=Yab htb rfl;obtain⟨hcb,hBc,hlc,hcm2⟩:=hcb;clear hme hbo2 hbo3
    go_wp2_with fail
    refine(Y0f B cb cq l _ hown hcb h2).mono ?_;rintro e x2 ⟨rfl,ds,hp,hso,hds,hg⟩;have htb1:x2.heap[tb]? =some (Ygo (some bm) (some ⟨cb,0,none⟩) l.length cq (Ydp l:Nat)):=(hg.block tb (Array.getElem?_eq_some_iff.1 htb).1 (by intro e;injection e with e;exact hct e.symm)).trans htb;have hom1:=hom.kept hg (by intro e;injection e with e;exact hcm e.symm)
    have hb1:Below B w x2:=hb.grown hg (by have:=hb.size;rw[HB.out] at this;exact this) (by intro k hk;injection hk with hk;omega);have hdl:ds.length=l.length:=hp.length_eq;have hcb2:cb<x2.heap.size:=Nat.lt_of_lt_of_le hcb hg.size;have c0:x2.cell? ⟨tb,0,none⟩=some (.map (some bm)):=Yab htb1 rfl;have c1:x2.cell? ⟨tb,1,none⟩=some (.slice (some ⟨cb,0,none⟩) l.length cq):=Yab htb1 rfl
    obtain⟨hsz1,hsz2⟩:=Yy8 l;obtain⟨n,hn⟩:∃n,size (Yhu l)=n:=⟨_,rfl⟩;rw[hn] at hsz1 hsz2;have HN:=Lib.hid hn;have NO:=Lib.hid hsz2;have HP:=Lib.hid hp;have SO:=Lib.hid hso;have DL:=Lib.hid hdl;clear htb hom hown hb hg hn hsz2 hp hso hdl;by_cases hnl:n<l.length
    ·have F:=Lib.hid (show ¬ Qb5 l from fun h=>by have:=NO.out.2 h.2.2.2.2;omega);have d0:decide (n<l.length)=true:=by simpa using hnl
     have d1:decide ((n:Int)<(l.length:Int))=true:=by simp;omega
     clear hnl
     go_wp2_with (at_len;refine wpList_len_own _ rfl _ 298 rfl 272 9 Tryz.underlying298 _ bm l.length (Yhu l) rfl hom1 ?_;rw[HN.out])
     go_ret2
     exact Yh1 F.out (by rw[HB.out];exact hb1)
    ·obtain rfl:n=l.length:=by omega
     have ND:=Lib.hid (NO.out.1 rfl);clear NO;have d0:decide (l.length<l.length)=false:=by simp
     have d1:decide ((l.length:Int)<(l.length:Int))=false:=by simp
     have hnr:∃r:Bool,r=true↔¬ Yhh (ds.map Yat):=by
      by_cases h:Yhh (ds.map Yat)
      ·exact⟨false,by simp[h]⟩
      ·exact⟨true,by simp[h]⟩
     obtain⟨r,hr⟩:=hnr;have R:=Lib.hid hr;have okall:∀x∈l,Yck (Yat x)=true:=fun x hx=>by
      obtain⟨i,hi,rfl⟩:=List.getElem_of_mem hx;exact hok.out i hi hi
     have OA:=Lib.hid okall;clear hnl hr okall
     go_wp2_with (at_len;refine wpList_len_own _ rfl _ 298 rfl 272 9 Tryz.underlying298 _ bm l.length (Yhu l) rfl hom1 ?_;rw[HN.out])
     refine(Ywv ds l.length DL.out _ cq _ r SO.out R.out hds h2).mono ?_;rintro e x3 ⟨rfl,hb3⟩;have hbw3:Below B w x3:=hb1.trans (hb3.mono (by have:=hb1.size;rw[HB.out] at this;exact this));cases r with
     |true=>
      have F:=Lib.hid (show ¬ Qb5 l from fun h=>R.out.1 rfl ((Ygc (HP.out.map Yat)).2 h.2.2.2.1))
      go_wp2
      go_ret2
      exact Yh1 F.out (by rw[HB.out];exact hbw3)
     |false=>
      have hfin:Qgx x3 B x3.heap.size tb ds (Ydp l:Nat):=by
       refine⟨some bm,some ⟨cb,0,none⟩,cq,?_,?_,hcm2,hds.below hb3,?_⟩
       ·rw[DL.out];exact(hb3.block tb (Array.getElem?_eq_some_iff.1 htb1).1).trans htb1
       ·rw[DL.out];exact hlc
       ·intro a ha;cases ha;exact⟨hBc,Nat.lt_of_lt_of_le hcb2 hb3.size⟩
      have FI:=Lib.hid hfin
      go_wp2
      go_ret2
      exact⟨fun _=>⟨tb,ds,rfl,by rw[HB.out];exact FI.out,HP.out,SO.out⟩,fun hn=>absurd ⟨h3,h2,OA.out,(Ygc (HP.out.map Yat)).1 (Classical.byContradiction fun hf=>by have:=R.out.2 hf;cases this),ND.out⟩ hn,by rw[HB.out];exact hbw3⟩
end Go.Proofs.YtjjmalchelniiaaGreatDoor
namespace Go.Proofs.YtjjmalchelniiaaGreatDoor
open Go.RowKit Go.Lib Go.Sort
theorem Qda (blk off size:Nat)(w:World):CmpLays Tryz.prog 251 #[] Yv3 2 Qgk blk off size w:=
 fun _ _ _ _ x y=>Yvp x y _
theorem Qfh (blk off cap:Nat)(d:Array (ByteArray×Int))(w:World)(hH:HoldsK Yv3 2 w blk off d)(hblk:blk<w.heap.size)(hsz:d.size<4611686018427387904):
  Calls Tryz.prog 250 #[.slice (some ⟨blk,off,none⟩) d.size cap,.func (.func 251) #[] #[]] w fun e w'=>
   e=.returned (.tuple #[])∧∃d' n os,PermIn 0 d.size d d'∧SortedIn (ltOf Qgk) 0 d.size d'∧w'=sortWorldK Yv3 2 w blk off n d' os:=
 AnyQ.slices_SortFunc Tryz.lSort 2 Qcb Yxk Yv3 (fun _=>rfl) Y8j Qgk Qbi 251 #[] blk off cap d w (enters_of Tryz.func251 (by kernel_rfl) rfl) (Qda blk off d.size w) hH hblk hsz
end Go.Proofs.YtjjmalchelniiaaGreatDoor