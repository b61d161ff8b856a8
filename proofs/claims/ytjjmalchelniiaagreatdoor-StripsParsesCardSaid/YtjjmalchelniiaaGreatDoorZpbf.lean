/- No condition. -/
import Derived.Test.YtjjmalchelniiaaGreatDoorZpbc
import Derived.Test.YtjjmalchelniiaaGreatDoorZpbe
open Go.Proofs.Tryz
open Go renaming World->A5,Calls->A9,Value->A0
set_option maxHeartbeats 16000000
namespace Go.Proofs.YtjjmalchelniiaaGreatDoor
section
open Go.RowKit Go.Lib Go.Sort
theorem Wef{p:Prop}(h:p:=by
 clear h0
 go_enter func246,ntmps246
 go_wp2
 go_ret2
 exact Q7 F.out (Dn _ _)):p:=h
theorem yI{p:Prop}(h:p:=by rw[show m.heap.size+1=(m.alloc (.map #[] 0)).heap.size by simp];exact heap_alloc_new _ _):p:=h
theorem yJ{p:Prop}(h:p:=by have:=Q.size;rw[af.out] at this;exact this):p:=h
theorem yK{p:Prop}(h:p:=by intro k hk;injection hk with hk;omega):p:=h
theorem yL{p:Prop}(h:p:=by unfold IT;intro e;injection e with _ e;exact absurd e (by decide)):p:=h
theorem yM{p:Prop}(h:p:=by cases hv:(Value.slice q l.length A).ownBlock <;> simp):p:=h
theorem yN{p:Prop}(h:p:=by rw[af.out];exact N):p:=h
abbrev Mt:=@Classical.byContradiction
abbrev Mu:=@getElem!_pos
abbrev Mv:=@World.ownsMap_made
abbrev Mw:=@size_sortWorldK_c
abbrev Mx:=@World.grownBy_alloc
abbrev My:=@wpList_len_own
abbrev Mz:=@List.getElem?_eq_some_iff
abbrev N0:=@underlying298
abbrev N4:=@HoldsK.cell
theorem Qes (blk off size:Nat)(w:A5):CmpLays prog 261 #[] G5 3 MP blk off size w:=
 fun _ _ _ _ x y=>pD x y _
theorem oG (blk off cap:Nat)(d:Array (ByteArray×Sym))(w:A5)(f:HoldsK G5 3 w blk off d)(a:blk<w.heap.size)(b:d.size<4611686018427387904):
  A9 prog 260 #[.slice (some ⟨blk,off,none⟩) d.size cap,.func (.func 261) #[] #[]] w fun e g=>
   e=.returned (.tuple #[])/\∃c n os,PermIn 0 d.size d c/\SortedIn (ltOf MP) 0 d.size c/\g=sortWorldK G5 3 w blk off n c os:=
 AnyQ.slices_SortFunc Tryz.lSortY 3 Qdx ZG G5 (fun _=>rfl) TX MP qJ 261 #[] blk off cap d w (enters_of func261 tN rfl) (Qes blk off d.size w) f a b
end
section
open Go.RowKit Go.Maps Go.Sort
def F5 (l:List (ByteArray×Sym)):Nat:=l.foldl (fun a x=>max a x.1.size) 0
theorem nN (l:List (ByteArray×Sym))(j:Nat)(h:j<l.length):F5 (l.take (j+1))=max (F5 (l.take j)) l[j].1.size:=by
 unfold F5;rw[Bd h,Mc]
 rfl
def L2 (l:List (ByteArray×Sym)):Prop:=1<=l.length/\l.length<=256/\(∀x∈l,BW (rowCY x)=true)/\CJ (l.map rowCY)/\(l.map (·.2)).Nodup
def WV (l:List (ByteArray×Sym))(w:A5)(e:Ending)(a:A5):Prop:=
 (L2 l->∃b ds,e=.returned (.tuple #[.pointer (some ⟨b,0,none⟩),.int .i64 0])/\Ud a w.heap.size a.heap.size b ds (F5 l:Nat)/\ds.Perm l/\ds.Pairwise fun x y=>leL (rowCY x) (rowCY y)=true)/\
 (¬ L2 l->e=.returned (.tuple #[.pointer none,.int .i64 1]))/\Below w.heap.size w a
theorem Q7 {l:List (ByteArray×Sym)}{w a:A5}(h:¬ L2 l)(b:Below w.heap.size w a):WV l w (.returned (.tuple #[.pointer none,.int .i64 1])) a:=
 ⟨fun hm=>absurd hm h,fun _=>rfl,b⟩
def TY (w:A5)(n:Nat)(D1:List A0)(t4:A0)(x:A5):Prop:=
 ∃(a b:Nat) (q:Option Addr) (cap:Nat),t4=.pointer (some ⟨a,0,none⟩)/\x.heap[a]? =some (IT (some b) q n cap 0)/\x.ownsMap prog 272 (plainElem prog 9) b 0 (.map []:DataW Unit)/\x.ownsRow w.heap.size 274 3 (.slice q n cap) n D1/\Below w.heap.size w x/\w.heap.size<=a/\w.heap.size<=b
theorem lI {w:A5}{b o:Nat}{l:List (ByteArray×Sym)}(h:Eh w (some ⟨b,o,none⟩) l):∀j u,(D5 l)[j]? =some u->w.cell? ⟨b,o+j,none⟩=some u:=by
 intro j u a;have hj:j<l.length*3:=by
  have:=(Mz.1 a).1;rwa [fN] at this
 obtain⟨g,i,e,_,hc⟩:=h.at sX;cases e;have hi:j / 3<l.length:=sX;obtain⟨c,d,f⟩:=QF l (j / 3) hi;obtain⟨c0,c1,c2⟩:=hc (j / 3) hi;rcases (by omega:j=j / 3*3\/j=j / 3*3+1\/j=j / 3*3+2) with e|e|e
 ·rw[e] at a ⊢;rw[c] at a;cases a;exact c0
 ·rw[e] at a ⊢;rw[d] at a;cases a;exact c1
 ·rw[e] at a ⊢;rw[f] at a;cases a;exact c2
theorem ZC {w:A5}{base a e size n:Nat}{v:A0}{c:List A0}(h:w.ownsRow base e size v n c)(d:a<=base):w.ownsRow a e size v n c:=by
 refine⟨h.1,?_⟩;rcases h.2 with h|⟨g,cap,b,h1,h2,h3⟩
 ·exact .inl h
 ·exact .inr ⟨g,cap,b,h1,Ef d h2,h3⟩
theorem rV {w:A5}{base cb cap:Nat}{l:List (ByteArray×Sym)}(h:w.ownsRow base 274 3 (.slice (some ⟨cb,0,none⟩) l.length cap) l.length (D5 l)):HoldsK G5 3 w cb 0 l.toArray:=by
 intro j hj;rw[size_flatK,Cl] at hj;have hi:j / 3<l.length:=sX;have b:w.frozen? ⟨cb,0+j,none⟩=false:=by
  rcases h.2 with ⟨h1,_⟩|⟨g,d,c,h1,_,hg,_⟩
  ·cases h1
  ·cases h1;exact Ew w cb _ c _ hg
 refine⟨?_,b⟩;have a:l.toArray[j / 3]! =l[j / 3]:=by rw[Mu _ (j / 3) (by simpa using hi)];simp
 rw[get_flatK _ _ _ _ vQ,a];obtain⟨f,i,k⟩:=QF l (j / 3) hi;rcases (by omega:j%3=0\/j%3=1\/j%3=2) with e|e|e
 ·have:=Di (g:=cb) h rfl (j / 3*3) _ f;rw[Ki,show 0+j / 3*3=0+j by omega] at this;rw[this,e];rfl
 ·have:=Di (g:=cb) h rfl (j / 3*3+1) _ i;rw[Ki,show 0+(j / 3*3+1)=0+j by omega] at this;rw[this,e];rfl
 ·have:=Di (g:=cb) h rfl (j / 3*3+2) _ k;rw[Ki,show 0+(j / 3*3+2)=0+j by omega] at this;rw[this,e];rfl
theorem mO {w:A5}{cb:Nat}{d:Array (ByteArray×Sym)}(h:HoldsK G5 3 w cb 0 d)(c:cb<w.heap.size):Eh w (some ⟨cb,0,none⟩) d.toList:=by
 refine .inr ⟨cb,0,rfl,c,fun i hi=>?_⟩;have a:i<d.size:=tW;have b:d[i]! =d.toList[i]:=by rw[Mu d i a];simp
 have c0:=(N4 h a (by decide:0<3)).1;have c1:=(N4 h a (by decide:1<3)).1;have c2:=(N4 h a (by decide:2<3)).1;rw[b] at c0 c1 c2;exact⟨c0,c1,c2⟩
theorem Yyj {w:A5}{g n:Nat}{os:Array Obj}(d:Array (ByteArray×Sym)):w.grownBy (sortWorldK G5 3 w g 0 n d os) (some g):=by
 refine⟨rfl,rfl,rfl,Mw G5 3 w g 0 n d os,fun k hk a=>?_⟩;unfold sortWorldK putRowK;rw[heap_grow_old _ _ (by simpa using hk)];have:g≠k:=fun e=>a (by rw[e]);simp[putRow,mapBlock,Sort.ahead,Array.getElem?_modify,this]
theorem oJ {d:Array (ByteArray×Sym)}(h:SortedIn (ltOf MP) 0 d.size d):d.toList.Pairwise fun x y=>leL (rowCY x) (rowCY y)=true:=by
 rw[Jo];intro i j hi hj b;have c:i<d.size:=tW;have a:j<d.size:=vQ;have:=h i j (Do _) b a;rw[Mu d i c,Mu d j a] at this;unfold ltOf MP at this;rw[P2] at this
 simpa using this
theorem Qbt {d a:Array (ByteArray×Sym)}(h:PermIn 0 d.size d a):a.toList.Perm d.toList:=by
 have h1:=h.1;have h3:=h.2.2;have e1:a.extract 0 d.size=a:=by rw[<-h1];simp
 have e2:d.extract 0 d.size=d:=sZ;rw[e1,e2] at h3;exact h3
theorem Y6s (base cb cap:Nat)(l:List (ByteArray×Sym))(w:A5)(h:w.ownsRow base 274 3 (.slice (some ⟨cb,0,none⟩) l.length cap) l.length (D5 l))(a:cb<w.heap.size)(hn:l.length<=256):
  A9 prog 260 #[.slice (some ⟨cb,0,none⟩) l.length cap,.func (.func 261) #[] #[]] w fun e g=>
   e=.returned (.tuple #[])/\∃ds:List (ByteArray×Sym),ds.Perm l/\(ds.Pairwise fun x y=>leL (rowCY x) (rowCY y)=true)/\Eh g (some ⟨cb,0,none⟩) ds/\w.grownBy g (some cb):=by
 have i:=rV h;have hs:=oG cb 0 cap l.toArray w i a tO;rw[Cl] at hs;refine hs.mono ?_;rintro e k ⟨rfl,c,n,os,j,d,rfl⟩;have b:PermIn 0 l.toArray.size l.toArray c:=j;have f:c.size=l.length:=b.1;refine⟨rfl,c.toList,Qbt b,oJ (by rw[f];exact d),?_,Yyj c⟩;exact mO (holdsK_sortWorldK_c G5 3 w cb 0 l.toArray c n os i a b.1) (Bc a (Mw G5 3 w cb 0 n c os))
theorem Xq {w:A5}{b c n:Nat}{cs:Array A0}{T:TypeId}{e:Nat×Nat}{D:DataW Unit}(h:w.heap[b]? =some (.cells cs T e))(ho:w.ownsMap prog 272 (plainElem prog 9) c n D):b≠c:=by
 rintro rfl;obtain⟨f,a,d,_⟩:=ho;rw[h] at d;cases d
theorem Ze {w:A5}{base e size n:Nat}{v:A0}{a:List A0}(h:w.ownsRow base e size v n a):w.drew.ownsRow base e size v n a:=h
theorem SU {w:A5}{base e size n:Nat}{v:A0}{d:List A0}(h:w.ownsRow base e size v n d){b:Nat}{o:Obj}(a:w.heap[b]? =some o)(c:∀cs,o≠.cells cs e (0,0)):v.ownBlock=none\/v.ownBlock≠some b:=by
 rcases h.2 with ⟨rfl,_⟩|⟨g,cap,f,rfl,_,hg,_⟩
 ·exact .inl rfl
 ·right
  intro hk;injection hk with hk;obtain rfl:g=b:=hk;rw[hg] at a;injection a with a;exact c _ a.symm
theorem Zv {w x:A5}(h:Below w.heap.size w x)(row:Option Nat):w.grownBy x row:=⟨h.os,h.tape,h.output,h.size,fun k hk _=>h.block k hk⟩
theorem rU (b o c:Nat)(l:List (ByteArray×Sym))(w:A5)(hn:l.length<=256)(hc:∀j u,(D5 l)[j]? =some u->w.cell? ⟨b,o+j,none⟩=some u):
  A9 prog 259 #[.slice (some ⟨b,o,none⟩) l.length c] w fun e d=>∃q cap,e=.returned (.slice q l.length cap)/\d.ownsRow w.heap.size 274 3 (.slice q l.length cap) l.length (D5 l)/\Below w.heap.size w d:=by
 refine(oX b o l.length c (D5 l) w (fN l) sX hc (lW l)).mono ?_;rintro e g ⟨v,rfl,a,_,f⟩;obtain⟨q,cap,rfl,_⟩:=Y7 a;exact⟨q,cap,rfl,a,f⟩
theorem Y15 {ds:List (ByteArray×Sym)}(hs:ds.Pairwise fun x y=>leL (rowCY x) (rowCY y)=true):(∃i,∃h:i+1<ds.length,(rowCY ds[i]).isPrefixOf (rowCY ds[i+1])=true)↔¬ CJ (ds.map rowCY):=by
 constructor
 ·rintro⟨i,h,a⟩ b;have:=QI.1 b i (i+1) tO yF sX;rw[Ke,Ke,a] at this;cases this
 ·intro b;apply Mt;intro c;apply b;refine VJ (by rw[List.pairwise_map];exact hs) fun i hi=>?_;rw[Ke,Ke];cases a:(rowCY (ds[i]'(by simp at hi;omega))).isPrefixOf (rowCY (ds[i+1]' tW)) with
  |false=>rfl
  |true=>exact absurd ⟨i,tW,a⟩ c
theorem Y16 (ds:List (ByteArray×Sym))(n:Nat)(hn:ds.length=n)(p:Option Addr)(cap:Nat)(w:A5)(r:Bool)(hs:ds.Pairwise fun x y=>leL (rowCY x) (rowCY y)=true)(hr:r=true↔¬ CJ (ds.map rowCY))(hc:Eh w p ds)(hm:n<=256):
  A9 prog 262 #[.slice p n cap] w fun e a=>e=.returned (.bool r)/\Below w.heap.size w a:=by
 subst hn;exact Y14 ds p cap w r (hr.trans (Y15 hs).symm) hc sX
theorem gB (w:A5)(n:Int):(Instr.makeMap 298 (some (.int .i64 n))).run prog w=.ok (.map (some w.heap.size)) (w.alloc (.map #[] 0)):=by
 simp[Instr.makeMap,run_underlying underlying298,asInt,asIntOf,Result.andThen]
set_option maxRecDepth 100000 in
theorem pO (l:List (ByteArray×Sym))(p:Option Addr)(cap:Nat)(w:A5)(hc:Eh w p l)(hm:l.length<=maxLen)(hl:∀x∈l,x.1.size<=maxLen):
  A9 prog 246 #[.slice p l.length cap] w (WV l w):=by
 unfold maxLen at hm;have bp:=Dm hl;clear hl;by_cases h0:l.length=0
 ·have F:=Dm (show ¬ L2 l from fun h=>by have:=h.1;omega);have t0:((l.length:Int)==0)=true:=uE;exact Wef
 by_cases h1:256<l.length
 ·have F:=Dm (show ¬ L2 l from fun h=>by have:=h.2.1;omega);have t0:((l.length:Int)==0)=false:=uC;have t1:decide (256<(l.length:Int))=true:=tO;exact Wef
 obtain⟨b,o,rfl,aj,z⟩:=hc.at sX;have hE:∀x,Below w.heap.size w x->Eh x (some ⟨b,o,none⟩) l:=fun x hx=>hc.below hx;have bi:=Dm hE;have h2:l.length<=256:=sX;have h3:1<=l.length:=sX;have t0:((l.length:Int)==0)=false:=uC;have t1:decide (256<(l.length:Int))=false:=tO;have S:∀(x:A5),Below w.heap.size w x->∀j u,(D5 l)[j]? =some u->x.cell? ⟨b,o+j,none⟩=some u:=fun x hx=>lI (hE x hx);have a3:=Dm S;have a4:=fun(w:A5)=>gB w (l.length:Int);clear h0 h1 hE z S hc aj
 go_enter func246,ntmps246
 go_upto_region 3 with (fail)
 go_cut [4] from 15 to 21 (fun t4 x=>TY w l.length (D5 l) t4 x)
 case first=>
  go_wp2
  go_region_with (go_at_call 259;refine(rU b o cap l _ h2 ?_).mono ?_;(intro j u hu;first|exact a3.out _ ((Dn _ _).drew) j u hu|exact a3.out _ (((Dn _ _).drew).alloc (B9 _) _) j u hu);rintro e m ⟨q,A,rfl,c,f⟩)
  ·have v:m.ownsMap prog 272 (plainElem prog 9) w.heap.size 0 (.map []:DataW Unit):=((Mv w _ _ _).drew).kept (Zv f none) sZ;have H:Below w.heap.size w m:=(((Dn _ w).alloc (B9 _) _).drew).trans (f.mono sZ);have bq:=f.size;have d:TY w l.length (D5 l) (.pointer (some ⟨m.heap.size,0,none⟩)) (m.alloc (IT (some w.heap.size) q l.length A 0)):=
    ⟨m.heap.size,w.heap.size,q,A,rfl,heap_alloc_new m _,v.alloc _,(ZC c sZ).alloc _,H.alloc H.size _,H.size,B9 _⟩
   have ae:=Dm d;clear d v c f
   go_wp2
   go_meet
   case rel=>exact ae.out
  ·have H:Below w.heap.size w m:=((Dn _ w).drew).trans f;have d:TY w l.length (D5 l) (.pointer (some ⟨m.heap.size+1,0,none⟩)) ((m.alloc (.map #[] 0)).alloc (IT (some m.heap.size) q l.length A 0)):=
    ⟨m.heap.size+1,m.heap.size,q,A,rfl,yI,(Mv m _ _ _).alloc _,((ZC c sZ).alloc _).alloc _,(H.alloc H.size _).alloc (by have:=H.size;simp;omega) _,by have:=H.size;omega,H.size⟩
   have ae:=Dm d;clear d c f
   go_wp2
   go_meet
   case rel=>exact ae.out
 case rest=>
  obtain⟨s,I,q,A,rfl,y,v,c,Q,au,a5⟩:=hcut;obtain⟨B,hB⟩:=Ah w.heap.size;rw[hB] at bi a3 c Q au a5;have af:=Dm hB;clear hB a4 a3
  go_wp2
  go_loopw [24] (fun i wr=>∃j:Nat,j<=l.length/\i=.int .i64 j/\wr.heap[s]? =some (IT (some I) q l.length A (F5 (l.take j):Nat))/\wr.ownsMap prog 272 (plainElem prog 9) I j (K2 (l.take j))/\wr.ownsRow B 274 3 (.slice q l.length A) l.length (D5 l)/\Below B w wr/\Hid (∀a,(h:a<l.length)->a<j->BW (rowCY l[a])=true)) (fun i _=>l.length-(intOf i).toNat)
  case atStart=>exact⟨0,Do _,rfl,y,v,c,Q,Dm (fun a _ h=>absurd h (Fi a))⟩
  case round=>
   clear y v c Q;obtain⟨j,hj,rfl,y,v,c,Q,ap⟩:=hrel;by_cases T:j<l.length
   ·obtain⟨b',o',e,aj,z⟩:=(bi.out wr Q).at sX;cases e;obtain⟨c0,c1,c2⟩:=z j T;have aq:=bp.out l[j] (Bl T);have bj:=Dm (Y48 l j T);have L1:=Dm (nN l j T);obtain⟨x,hx⟩:=Ah (l[j]);rw[hx] at c0 c1 c2 aq bj L1;have bk:=Dm hx;clear hx z
    go_wp2_with fail
    refine(sO x.1 aq _).mono ?_;rintro e m ⟨rfl,f⟩;have ag:wr.grownBy m none:=AP (Mx wr _ none) (Zv f none);have t:m.heap[s]? =some (IT (some I) q l.length A (F5 (l.take j):Nat)):=(ag.block s (E9.1 y).1 sZ).trans y;have J:=v.kept ag sZ;have U:=c.kept ag yM;have V:Below B w m:=(Q.alloc yJ _).trans (f.mono (by have:=Q.size;rw[af.out] at this;simp;omega));have W:m.heap[wr.heap.size]? =some (.cells [.string x.1,.int .i64 (sA x.2),.int .i64 (sB x.2)].toArray 274 (0,0)):=(f.block wr.heap.size sZ).trans (heap_alloc_new wr _);have v0:m.cell? ⟨wr.heap.size,0,none⟩=some (.string x.1):=AA W rfl;have v1:m.cell? ⟨wr.heap.size,1,none⟩=some (.int .i64 (sA x.2)):=AA W rfl;have v2:m.cell? ⟨wr.heap.size,2,none⟩=some (.int .i64 (sB x.2)):=AA W rfl;clear ag f y v c Q c0 c1 c2;cases hk:BW x.1.data.toList with
    |false=>
     have F:=Dm (show ¬ L2 l from fun h=>by
      have:=h.2.2.1 x (by rw[<-bk.out];exact Bl T);rw[show BW (rowCY x)=BW x.1.data.toList from rfl,hk] at this;cases this)
     clear hk
     go_wp2
     go_ret2
     exact Q7 F.out (by rw[af.out];exact V)
    |true=>
     have a6:Hid (∀a,(h:a<l.length)->a<j+1->BW (rowCY l[a])=true):=Dm (fun a ha h=>by
      by_cases e:a=j
      ·subst e;rw[bk.out];exact hk
      ·exact ap.out a ha sX)
     clear hk ap;have t40:m.cell? ⟨s,0,none⟩=some (.map (some I)):=AA t rfl
     go_wp2_with fail
     go_still_tail 8,tN
     change wpList _ _ _ _ _ m.drew;have E:m.drew.heap[s]? =some (IT (some I) q l.length A (F5 (l.take j):Nat)):=t;have G:=J.drew;have C:=Ze U;have O:Below B w m.drew:=V.drew;have K:m.drew.heap[wr.heap.size]? =some (.cells [.string x.1,.int .i64 (sA x.2),.int .i64 (sB x.2)].toArray 274 (0,0)):=W;generalize m.drew=x0 at E G C O K ⊢;clear t J U V W v0 v1 v2 t40;have ak:=Xq E G;have av:=Xq K G;have aw:∀es D,x0.heap[I]? =some (.map es D)->(Value.slice q l.length A).ownBlock=none\/(Value.slice q l.length A).ownBlock≠some I:=fun es D h=>SU C h (fun cs=>sZ);obtain⟨es,D,X,_⟩:=id G;have L:=aw es D X;have M:=SU C E (fun cs=>yL);have a7:=Dm L;have a8:=Dm M;have br:wr.heap.size<x0.heap.size:=(E9.1 K).1;have bs:s<x0.heap.size:=(E9.1 E).1;clear aw X L M
     go_wp2_with (at_mapUpdate;refine wpList_mapUpdate_own _ rfl _ _ _ 298 rfl 272 9 XG N0 _ I j (K2 (l.take j)) rfl G tK _ _ (MB x) rfl rfl (TG x.2) (M2 x) [] (plainElem_string Du aq) ?_;intro w2 al Y;have Z:w2.heap[s]? =some (IT (some I) q l.length A (F5 (l.take j):Nat)):=(Y.block s bs (by intro e;injection e with e;exact ak e)).trans E;have am:w2.heap[wr.heap.size]? =some (.cells [.string x.1,.int .i64 (sA x.2),.int .i64 (sB x.2)].toArray 274 (0,0)):=(Y.block _ br (by intro e;injection e with e;exact av e)).trans K;have aa:=C.kept Y a7.out;have N:Below B w w2:=O.grown Y (by have:=O.size;rw[af.out] at this;exact this) yK;clear G Y E K C O)
     have v0:w2.cell? ⟨wr.heap.size,0,none⟩=some (.string x.1):=AA am rfl;have t2:w2.cell? ⟨s,2,none⟩=some (.int .i64 (F5 (l.take j):Nat)):=AA Z rfl
     go_still_tail 11,tN
     change wpList _ _ _ _ _ w2.drew;have P:w2.drew.heap[s]? =some (IT (some I) q l.length A (F5 (l.take j):Nat)):=Z;have an:=al.drew;have ab:=Ze aa;have ao:Below B w w2.drew:=N.drew;generalize w2.drew=x1 at P an ab ao ⊢;clear Z al aa N am v0 t2;have tf:=AL (o:=2) P;have t2:x1.cell? ⟨s,2,none⟩=some (.int .i64 (F5 (l.take j):Nat)):=AA P rfl;have d:(x1.setCell ⟨s,2,none⟩ (.int .i64 (max ((F5 (l.take j):Nat):Int) (x.1.size:Int)))).heap[s]? =some (IT (some I) q l.length A (F5 (l.take (j+1)):Nat))/\
       (x1.setCell ⟨s,2,none⟩ (.int .i64 (max ((F5 (l.take j):Nat):Int) (x.1.size:Int)))).ownsMap prog 272 (plainElem prog 9) I (j+1) (K2 (l.take (j+1)))/\
       (x1.setCell ⟨s,2,none⟩ (.int .i64 (max ((F5 (l.take j):Nat):Int) (x.1.size:Int)))).ownsRow B 274 3 (.slice q l.length A) l.length (D5 l)/\
       Below B w (x1.setCell ⟨s,2,none⟩ (.int .i64 (max ((F5 (l.take j):Nat):Int) (x.1.size:Int)))):=by
      have hg:=D3 x1 ⟨s,2,none⟩ (.int .i64 (max ((F5 (l.take j):Nat):Int) (x.1.size:Int)));refine⟨?_,?_,ab.kept hg a8.out,ao.setCell au _⟩
      ·rw[L1.out,show ((max (F5 (l.take j)) x.1.size:Nat):Int)=max ((F5 (l.take j):Nat):Int) (x.1.size:Int) by omega];exact B3 (o:=2) _ P
      ·rw[bj.out];exact an.setCell (Ne.symm ak) _
     have ae:=Dm d;clear d
     go_wp2_with fail
     go_roundw
     case rel=>exact⟨j+1,sX,tP,ae.out.1,ae.out.2.1,ae.out.2.2.1,ae.out.2.2.2,a6⟩
     case measure=>simp[intOf];omega
   ·obtain rfl:j=l.length:=sX;rw[Jk] at y v;obtain⟨cb,rfl,ah⟩:∃cb,q=some ⟨cb,0,none⟩/\cb<wr.heap.size/\B<=cb/\l.length<=A/\A<=maxLen:=by
     rcases c.2 with ⟨_,h⟩|⟨g,bl,bt,h1,h2,hg,h4,h5,_⟩
     ·omega
     ·cases h1;exact⟨g,rfl,(E9.1 hg).1,h2,h4,h5⟩
    have M:=SU c y (fun cs=>yL);obtain⟨es,D,X,_⟩:=id v;have L:=SU c X (fun cs=>sZ);have a9:cb≠s:=by
     rcases M with h|h
     ·cases h
     ·exact fun e=>h uJ
    have ba:cb≠I:=by
     rcases L with h|h
     ·cases h
     ·exact fun e=>h uJ
    have c1:wr.cell? ⟨s,1,none⟩=some (.slice (some ⟨cb,0,none⟩) l.length A):=AA y rfl;obtain⟨ah,bb,bc,ax⟩:=ah;clear X L M
    go_wp2_with fail
    refine(Y6s B cb A l _ c ah h2).mono ?_;rintro e x2 ⟨rfl,ds,hp,ay,az,hg⟩;have t:x2.heap[s]? =some (IT (some I) (some ⟨cb,0,none⟩) l.length A (F5 l:Nat)):=(hg.block s (E9.1 y).1 (by intro e;injection e with e;exact a9 e.symm)).trans y;have J:=v.kept hg (by intro e;injection e with e;exact ba e.symm);have f:Below B w x2:=Q.grown hg yJ yK;have a0:ds.length=l.length:=hp.length_eq;have a1:cb<x2.heap.size:=Bc ah hg.size;have c0:x2.cell? ⟨s,0,none⟩=some (.map (some I)):=AA t rfl;have c1:x2.cell? ⟨s,1,none⟩=some (.slice (some ⟨cb,0,none⟩) l.length A):=AA t rfl;obtain⟨a2,ac⟩:=sK l;obtain⟨n,hn⟩:=Ah (size (K2 l));rw[hn] at a2 ac;have bn:=Dm hn;have bd:=Dm ac;have bf:=Dm hp;have bo:=Dm ay;have bg:=Dm a0;clear y v c Q hg hn ac hp ay a0;by_cases ar:n<l.length
    ·have F:=Dm (show ¬ L2 l from fun h=>by have:=bd.out.2 h.2.2.2.2;omega);have d0:decide (n<l.length)=true:=by simpa using ar
     have d1:decide ((n:Int)<(l.length:Int))=true:=tO;clear ar
     go_wp2_with (at_len;refine My _ rfl _ 298 rfl 272 9 N0 _ I l.length (K2 l) rfl J ?_;rw[bn.out])
     go_ret2
     exact Q7 F.out (by rw[af.out];exact f)
    ·obtain rfl:n=l.length:=sX;have bu:=Dm (bd.out.1 rfl);clear bd;have d0:decide (l.length<l.length)=false:=sZ;have d1:decide ((l.length:Int)<(l.length:Int))=false:=sZ;have bh:∃r:Bool,r=true↔¬ CJ (ds.map rowCY):=by
      by_cases h:CJ (ds.map rowCY)
      ·exact⟨false,by simp[h]⟩
      ·exact⟨true,by simp[h]⟩
     obtain⟨r,hr⟩:=bh;have R:=Dm hr;have ad:∀x∈l,BW (rowCY x)=true:=fun x hx=>by
      obtain⟨i,hi,rfl⟩:=Jh hx;exact ap.out i hi hi
     have bv:=Dm ad;clear ar hr ad
     go_wp2_with (at_len;refine My _ rfl _ 298 rfl 272 9 N0 _ I l.length (K2 l) rfl J ?_;rw[bn.out])
     refine(Y16 ds l.length bg.out _ A _ r bo.out R.out az h2).mono ?_;rintro e x3 ⟨rfl,ai⟩;have N:Below B w x3:=f.trans (ai.mono (by have:=f.size;rw[af.out] at this;exact this));cases r with
     |true=>
      have F:=Dm (show ¬ L2 l from fun h=>R.out.1 rfl ((P1 (bf.out.map rowCY)).2 h.2.2.2.1))
      go_wp2
      go_ret2
      exact Q7 F.out yN
     |false=>
      have d:Ud x3 B x3.heap.size s ds (F5 l:Nat):=by
       refine⟨some I,some ⟨cb,0,none⟩,A,?_,?_,ax,az.below ai,?_⟩
       ·rw[bg.out];exact(ai.block s (E9.1 t).1).trans t
       ·rw[bg.out];exact bc
       ·intro a ha;cases ha;exact⟨bb,Bc a1 ai.size⟩
      have ae:=Dm d
      go_wp2
      go_ret2
      exact⟨fun _=>⟨s,ds,rfl,by rw[af.out];exact ae.out,bf.out,bo.out⟩,fun hn=>absurd ⟨h3,h2,bv.out,(P1 (bf.out.map rowCY)).1 (Mt fun hf=>by have:=R.out.2 hf;cases this),bu.out⟩ hn,yN⟩
end
section
open Go.RowKit Go.Lib Go.Sort
theorem Qkl (blk off size:Nat)(w:A5):CmpLays prog 251 #[] GV 2 NM blk off size w:=
 fun _ _ _ _ x y=>mZ x y _
theorem mS (blk off cap:Nat)(d:Array (ByteArray×Int))(w:A5)(f:HoldsK GV 2 w blk off d)(a:blk<w.heap.size)(b:d.size<4611686018427387904):
  A9 prog 250 #[.slice (some ⟨blk,off,none⟩) d.size cap,.func (.func 251) #[] #[]] w fun e g=>
   e=.returned (.tuple #[])/\∃c n os,PermIn 0 d.size d c/\SortedIn (ltOf NM) 0 d.size c/\g=sortWorldK GV 2 w blk off n c os:=
 AnyQ.slices_SortFunc Tryz.lSort 2 oW bA GV (fun _=>rfl) Xr NM mH 251 #[] blk off cap d w (enters_of func251 tN rfl) (Qkl blk off d.size w) f a b
end
end Go.Proofs.YtjjmalchelniiaaGreatDoor
