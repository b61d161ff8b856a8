/- StripsChecks, 32. No condition. -/
import Derived.Test.YtjjmalchelniiaaGreatDoorStripsChecksMbc
import Derived.Test.YtjjmalchelniiaaGreatDoorStripsChecksMbe
open Go.Proofs.Tryz
open Go renaming World->A5,Calls->A9,Value->A0
set_option maxHeartbeats 16000000
namespace Go.Proofs.YtjjmalchelniiaaGreatDoor
section
open Go.RowKit Go.Lib Go.Sort
abbrev Md:=@Classical.byContradiction
abbrev Me:=@getElem!_pos
abbrev Mf:=@World.ownsMap_made
abbrev Mg:=@size_sortWorldK_c
abbrev Mh:=@World.grownBy_alloc
abbrev Mi:=@wpList_len_own
abbrev Mj:=@List.getElem?_eq_some_iff
abbrev Mk:=@underlying298
abbrev Ml:=@HoldsK.cell
theorem kM (blk off size:Nat)(w:A5):CmpLays prog 261 #[] FV 3 LP blk off size w:=
 fun _ _ _ _ x y=>bB x y _
theorem lZ (blk off cap:Nat)(d:Array (ByteArray×Sym))(w:A5)(f:HoldsK FV 3 w blk off d)(a:blk<w.heap.size)(b:d.size<4611686018427387904):
  A9 prog 260 #[.slice (some ⟨blk,off,none⟩) d.size cap,.func (.func 261) #[] #[]] w fun e g=>
   e=.returned (.tuple #[])/\∃c n os,PermIn 0 d.size d c/\SortedIn (ltOf LP) 0 d.size c/\g=sortWorldK FV 3 w blk off n c os:=
 AnyQ.slices_SortFunc Tryz.lSortY 3 eA X8 FV (fun _=>rfl) S1 LP nQ 261 #[] blk off cap d w (enters_of func261 (by kernel_rfl) rfl) (kM blk off d.size w) f a b
end
section
open Go.RowKit Go.Maps Go.Sort
def F1 (l:List (ByteArray×Sym)):Nat:=l.foldl (fun a x=>max a x.1.size) 0
theorem qK (l:List (ByteArray×Sym))(j:Nat)(h:j<l.length):F1 (l.take (j+1))=max (F1 (l.take j)) l[j].1.size:=by
 unfold F1;rw[Bd h,Lu]
 rfl
def K4 (l:List (ByteArray×Sym)):Prop:=1<=l.length/\l.length<=256/\(∀x∈l,BM (AH x)=true)/\BY (l.map AH)/\(l.map (·.2)).Nodup
def Wl (l:List (ByteArray×Sym))(w:A5)(e:Ending)(a:A5):Prop:=
 (K4 l->∃b ds,e=.returned (.tuple #[.pointer (some ⟨b,0,none⟩),.int .i64 0])/\SV a w.heap.size a.heap.size b ds (F1 l:Nat)/\ds.Perm l/\ds.Pairwise fun x y=>leL (AH x) (AH y)=true)/\
 (¬ K4 l->e=.returned (.tuple #[.pointer none,.int .i64 1]))/\Below w.heap.size w a
theorem OV {l:List (ByteArray×Sym)}{w a:A5}(h:¬ K4 l)(b:Below w.heap.size w a):Wl l w (.returned (.tuple #[.pointer none,.int .i64 1])) a:=
 ⟨fun hm=>absurd hm h,fun _=>rfl,b⟩
def RE (w:A5)(n:Nat)(CP:List A0)(t4:A0)(x:A5):Prop:=
 ∃(a b:Nat) (q:Option Addr) (cap:Nat),t4=.pointer (some ⟨a,0,none⟩)/\x.heap[a]? =some (HU (some b) q n cap 0)/\x.ownsMap prog 272 (plainElem prog 9) b 0 (.map []:DataW Unit)/\x.ownsRow w.heap.size 274 3 (.slice q n cap) n CP/\Below w.heap.size w x/\w.heap.size<=a/\w.heap.size<=b
theorem pL {w:A5}{b o:Nat}{l:List (ByteArray×Sym)}(h:DQ w (some ⟨b,o,none⟩) l):∀j u,(CV l)[j]? =some u->w.cell? ⟨b,o+j,none⟩=some u:=by
 intro j u a;have hj:j<l.length*3:=by
  have:=(Mj.1 a).1;rwa [Wb] at this
 obtain⟨i,k,e,_,hc⟩:=h.at (by omega);cases e;have hi:j / 3<l.length:=by omega
 obtain⟨c,d,f⟩:=ON l (j / 3) hi;obtain⟨g,c1,c2⟩:=hc (j / 3) hi;rcases (by omega:j=j / 3*3\/j=j / 3*3+1\/j=j / 3*3+2) with e|e|e
 ·rw[e] at a ⊢;rw[c] at a;cases a;exact g
 ·rw[e] at a ⊢;rw[d] at a;cases a;exact c1
 ·rw[e] at a ⊢;rw[f] at a;cases a;exact c2
theorem Xh {w:A5}{base a e size n:Nat}{v:A0}{c:List A0}(h:w.ownsRow base e size v n c)(d:a<=base):w.ownsRow a e size v n c:=by
 refine⟨h.1,?_⟩;rcases h.2 with h|⟨g,cap,b,h1,h2,h3⟩
 ·exact .inl h
 ·exact .inr ⟨g,cap,b,h1,Ea d h2,h3⟩
theorem hI {w:A5}{base cb cap:Nat}{l:List (ByteArray×Sym)}(h:w.ownsRow base 274 3 (.slice (some ⟨cb,0,none⟩) l.length cap) l.length (CV l)):HoldsK FV 3 w cb 0 l.toArray:=by
 intro j hj;rw[size_flatK,Cg] at hj;have hi:j / 3<l.length:=by omega
 have b:w.frozen? ⟨cb,0+j,none⟩=false:=by
  rcases h.2 with ⟨h1,_⟩|⟨g,d,c,h1,_,f,_⟩
  ·cases h1
  ·cases h1;exact Er w cb _ c _ f
 refine⟨?_,b⟩;have a:l.toArray[j / 3]! =l[j / 3]:=by rw[Me _ (j / 3) (by simpa using hi)];simp
 rw[get_flatK _ _ _ _ (by simpa using hj),a];obtain⟨i,k,m⟩:=ON l (j / 3) hi;rcases (by omega:j%3=0\/j%3=1\/j%3=2) with e|e|e
 ·have:=Di (g:=cb) h rfl (j / 3*3) _ i;rw[Lp,show 0+j / 3*3=0+j by omega] at this;rw[this,e];rfl
 ·have:=Di (g:=cb) h rfl (j / 3*3+1) _ k;rw[Lp,show 0+(j / 3*3+1)=0+j by omega] at this;rw[this,e];rfl
 ·have:=Di (g:=cb) h rfl (j / 3*3+2) _ m;rw[Lp,show 0+(j / 3*3+2)=0+j by omega] at this;rw[this,e];rfl
theorem ZI {w:A5}{cb:Nat}{d:Array (ByteArray×Sym)}(h:HoldsK FV 3 w cb 0 d)(c:cb<w.heap.size):DQ w (some ⟨cb,0,none⟩) d.toList:=by
 refine .inr ⟨cb,0,rfl,c,fun i hi=>?_⟩;have a:i<d.size:=by simpa using hi
 have b:d[i]! =d.toList[i]:=by rw[Me d i a];simp
 have e:=(Ml h a (by decide:0<3)).1;have c1:=(Ml h a (by decide:1<3)).1;have c2:=(Ml h a (by decide:2<3)).1;rw[b] at e c1 c2;exact⟨e,c1,c2⟩
theorem aO {w:A5}{g n:Nat}{os:Array Obj}(d:Array (ByteArray×Sym)):w.grownBy (sortWorldK FV 3 w g 0 n d os) (some g):=by
 refine⟨rfl,rfl,rfl,Mg FV 3 w g 0 n d os,fun k b a=>?_⟩;unfold sortWorldK putRowK;rw[heap_grow_old _ _ (by simpa using b)];have:g≠k:=fun e=>a (by rw[e]);simp[putRow,mapBlock,Sort.ahead,Array.getElem?_modify,this]
theorem ZS {d:Array (ByteArray×Sym)}(h:SortedIn (ltOf LP) 0 d.size d):d.toList.Pairwise fun x y=>leL (AH x) (AH y)=true:=by
 rw[K9];intro i j hi hj b;have c:i<d.size:=by simpa using hi
 have a:j<d.size:=by simpa using hj
 have:=h i j (Dn _) b a;rw[Me d i c,Me d j a] at this;unfold ltOf LP at this;rw[OK] at this
 simpa using this
theorem gG {d a:Array (ByteArray×Sym)}(h:PermIn 0 d.size d a):a.toList.Perm d.toList:=by
 have h1:=h.1;have h3:=h.2.2;have b:a.extract 0 d.size=a:=by rw[<-h1];simp
 have c:d.extract 0 d.size=d:=by simp
 rw[b,c] at h3;exact h3
theorem bA (base cb cap:Nat)(l:List (ByteArray×Sym))(w:A5)(h:w.ownsRow base 274 3 (.slice (some ⟨cb,0,none⟩) l.length cap) l.length (CV l))(a:cb<w.heap.size)(hn:l.length<=256):
  A9 prog 260 #[.slice (some ⟨cb,0,none⟩) l.length cap,.func (.func 261) #[] #[]] w fun e g=>
   e=.returned (.tuple #[])/\∃ds:List (ByteArray×Sym),ds.Perm l/\(ds.Pairwise fun x y=>leL (AH x) (AH y)=true)/\DQ g (some ⟨cb,0,none⟩) ds/\w.grownBy g (some cb):=by
 have i:=hI h;have hs:=lZ cb 0 cap l.toArray w i a (by simp;omega);rw[Cg] at hs;refine hs.mono ?_;rintro e k ⟨rfl,c,n,os,j,d,rfl⟩;have b:PermIn 0 l.toArray.size l.toArray c:=j;have f:c.size=l.length:=b.1;refine⟨rfl,c.toList,gG b,ZS (by rw[f];exact d),?_,aO c⟩
 exact ZI (holdsK_sortWorldK_c FV 3 w cb 0 l.toArray c n os i a b.1) (Bg a (Mg FV 3 w cb 0 n c os))
theorem VQ {w:A5}{b c n:Nat}{cs:Array A0}{T:TypeId}{e:Nat×Nat}{D:DataW Unit}(h:w.heap[b]? =some (.cells cs T e))(ho:w.ownsMap prog 272 (plainElem prog 9) c n D):b≠c:=by
 rintro rfl;obtain⟨f,a,d,_⟩:=ho;rw[h] at d;cases d
theorem YM {w:A5}{base e size n:Nat}{v:A0}{a:List A0}(h:w.ownsRow base e size v n a):w.drew.ownsRow base e size v n a:=h
theorem Qr {w:A5}{base e size n:Nat}{v:A0}{f:List A0}(h:w.ownsRow base e size v n f){b:Nat}{o:Obj}(a:w.heap[b]? =some o)(c:∀cs,o≠.cells cs e (0,0)):v.ownBlock=none\/v.ownBlock≠some b:=by
 rcases h.2 with ⟨rfl,_⟩|⟨g,cap,i,rfl,_,j,_⟩
 ·exact .inl rfl
 ·right
  intro d;injection d with d;obtain rfl:g=b:=d;rw[j] at a;injection a with a;exact c _ a.symm
theorem Us {w x:A5}(h:Below w.heap.size w x)(row:Option Nat):w.grownBy x row:=⟨h.os,h.tape,h.output,h.size,fun k a _=>h.block k a⟩
theorem lR (b o c:Nat)(l:List (ByteArray×Sym))(w:A5)(hn:l.length<=256)(hc:∀j u,(CV l)[j]? =some u->w.cell? ⟨b,o+j,none⟩=some u):
  A9 prog 259 #[.slice (some ⟨b,o,none⟩) l.length c] w fun e d=>∃q cap,e=.returned (.slice q l.length cap)/\d.ownsRow w.heap.size 274 3 (.slice q l.length cap) l.length (CV l)/\Below w.heap.size w d:=by
 refine(ZY b o l.length c (CV l) w (Wb l) (by omega) hc (fK l)).mono ?_;rintro e g ⟨v,rfl,a,_,f⟩;obtain⟨q,cap,rfl,_⟩:=Xx a;exact⟨q,cap,rfl,a,f⟩
theorem oU {ds:List (ByteArray×Sym)}(hs:ds.Pairwise fun x y=>leL (AH x) (AH y)=true):(∃i,∃h:i+1<ds.length,(AH ds[i]).isPrefixOf (AH ds[i+1])=true)↔¬ BY (ds.map AH):=by
 constructor
 ·rintro⟨i,h,a⟩ b;have:=Pd.1 b i (i+1) (by simp;omega) (by simpa using h) (by omega);rw[Kr,Kr,a] at this;cases this
 ·intro b;apply Md;intro c;apply b;refine RV (by rw[List.pairwise_map];exact hs) fun i hi=>?_;rw[Kr,Kr];cases a:(AH (ds[i]'(by simp at hi;omega))).isPrefixOf (AH (ds[i+1]'(by simpa using hi))) with
  |false=>rfl
  |true=>exact absurd ⟨i,by simpa using hi,a⟩ c
theorem jQ (ds:List (ByteArray×Sym))(n:Nat)(hn:ds.length=n)(p:Option Addr)(cap:Nat)(w:A5)(r:Bool)(hs:ds.Pairwise fun x y=>leL (AH x) (AH y)=true)(hr:r=true↔¬ BY (ds.map AH))(hc:DQ w p ds)(hm:n<=256):
  A9 prog 262 #[.slice p n cap] w fun e a=>e=.returned (.bool r)/\Below w.heap.size w a:=by
 subst hn;exact mZ ds p cap w r (hr.trans (oU hs).symm) hc (by omega)
theorem Z6 (w:A5)(n:Int):(Instr.makeMap 298 (some (.int .i64 n))).run prog w=.ok (.map (some w.heap.size)) (w.alloc (.map #[] 0)):=by
 simp[Instr.makeMap,run_underlying underlying298,asInt,asIntOf,Result.andThen]
set_option maxRecDepth 100000 in
theorem sU (l:List (ByteArray×Sym))(p:Option Addr)(cap:Nat)(w:A5)(hc:DQ w p l)(hm:l.length<=maxLen)(hl:∀x∈l,x.1.size<=maxLen):
  A9 prog 246 #[.slice p l.length cap] w (Wl l w):=by
 unfold maxLen at hm;have bq:=Dl hl;clear hl;by_cases h0:l.length=0
 ·have F:=Dl (show ¬ K4 l from fun h=>by have:=h.1;omega);have t0:((l.length:Int)==0)=true:=by rw[Bm];omega
  clear h0
  go_enter func246,ntmps246
  go_wp2
  go_ret2
  exact OV F.out (Dm _ _)
 by_cases h1:256<l.length
 ·have F:=Dl (show ¬ K4 l from fun h=>by have:=h.2.1;omega);have t0:((l.length:Int)==0)=false:=by rw[Ez];omega
  have t1:decide (256<(l.length:Int))=true:=by simp;omega
  clear h0
  go_enter func246,ntmps246
  go_wp2
  go_ret2
  exact OV F.out (Dm _ _)
 obtain⟨b,o,rfl,aj,z⟩:=hc.at (by omega);have hE:∀x,Below w.heap.size w x->DQ x (some ⟨b,o,none⟩) l:=fun x hx=>hc.below hx;have bi:=Dl hE;have h2:l.length<=256:=by omega
 have h3:1<=l.length:=by omega
 have t0:((l.length:Int)==0)=false:=by rw[Ez];omega
 have t1:decide (256<(l.length:Int))=false:=by simp;omega
 have S:∀(x:A5),Below w.heap.size w x->∀j u,(CV l)[j]? =some u->x.cell? ⟨b,o+j,none⟩=some u:=fun x hx=>pL (hE x hx);have a3:=Dl S;have a4:=fun(w:A5)=>Z6 w (l.length:Int);clear h0 h1 hE z S hc aj
 go_enter func246,ntmps246
 go_upto_region 3 with (fail)
 go_cut [4] from 15 to 21 (fun t4 x=>RE w l.length (CV l) t4 x)
 case first=>
  go_wp2
  go_region_with (go_at_call 259;refine(lR b o cap l _ h2 ?_).mono ?_;(intro j u hu;first|exact a3.out _ ((Dm _ _).drew) j u hu|exact a3.out _ (((Dm _ _).drew).alloc (Ba _) _) j u hu);rintro e m ⟨q,A,rfl,c,f⟩)
  ·have v:m.ownsMap prog 272 (plainElem prog 9) w.heap.size 0 (.map []:DataW Unit):=((Mf w _ _ _).drew).kept (Us f none) (by simp);have H:Below w.heap.size w m:=(((Dm _ w).alloc (Ba _) _).drew).trans (f.mono (by simp));have br:=f.size
   have d:RE w l.length (CV l) (.pointer (some ⟨m.heap.size,0,none⟩)) (m.alloc (HU (some w.heap.size) q l.length A 0)):=
    ⟨m.heap.size,w.heap.size,q,A,rfl,heap_alloc_new m _,v.alloc _,(Xh c (by simp)).alloc _,H.alloc H.size _,H.size,Ba _⟩
   have ae:=Dl d;clear d v c f
   go_wp2
   go_meet
   case rel=>exact ae.out
  ·have H:Below w.heap.size w m:=((Dm _ w).drew).trans f;have d:RE w l.length (CV l) (.pointer (some ⟨m.heap.size+1,0,none⟩)) ((m.alloc (.map #[] 0)).alloc (HU (some m.heap.size) q l.length A 0)):=
    ⟨m.heap.size+1,m.heap.size,q,A,rfl,by rw[show m.heap.size+1=(m.alloc (.map #[] 0)).heap.size by simp];exact heap_alloc_new _ _,(Mf m _ _ _).alloc _,((Xh c (by simp)).alloc _).alloc _,(H.alloc H.size _).alloc (by have:=H.size;simp;omega) _,by have:=H.size;omega,H.size⟩
   have ae:=Dl d;clear d c f
   go_wp2
   go_meet
   case rel=>exact ae.out
 case rest=>
  obtain⟨s,I,q,A,rfl,y,v,c,Q,au,a5⟩:=hcut;obtain⟨B,hB⟩:=Ai w.heap.size;rw[hB] at bi a3 c Q au a5;have af:=Dl hB;clear hB a4 a3
  go_wp2
  go_loopw [24] (fun i wr=>∃j:Nat,j<=l.length/\i=.int .i64 j/\wr.heap[s]? =some (HU (some I) q l.length A (F1 (l.take j):Nat))/\wr.ownsMap prog 272 (plainElem prog 9) I j (JA (l.take j))/\wr.ownsRow B 274 3 (.slice q l.length A) l.length (CV l)/\Below B w wr/\Hid (∀a,(h:a<l.length)->a<j->BM (AH l[a])=true)) (fun i _=>l.length-(intOf i).toNat)
  case atStart=>exact⟨0,Dn _,rfl,y,v,c,Q,Dl (fun a _ h=>absurd h (Fc a))⟩
  case round=>
   clear y v c Q;obtain⟨j,hj,rfl,y,v,c,Q,ap⟩:=hrel;by_cases T:j<l.length
   ·obtain⟨b',o',e,aj,z⟩:=(bi.out wr Q).at (by omega);cases e;obtain⟨c0,c1,c2⟩:=z j T;have aq:=bq.out l[j] (Bl T);have bj:=Dl (zC l j T);have bk:=Dl (qK l j T);obtain⟨x,hx⟩:=Ai (l[j]);rw[hx] at c0 c1 c2 aq bj bk;have bl:=Dl hx;clear hx z
    go_wp2_with fail
    refine(kD x.1 aq _).mono ?_;rintro e m ⟨rfl,f⟩;have ag:wr.grownBy m none:=AO (Mh wr _ none) (Us f none);have t:m.heap[s]? =some (HU (some I) q l.length A (F1 (l.take j):Nat)):=(ag.block s (Dy.1 y).1 (by simp)).trans y;have J:=v.kept ag (by simp)
    have U:=c.kept ag (by cases hv:(Value.slice q l.length A).ownBlock <;> simp);have V:Below B w m:=(Q.alloc (by have:=Q.size;rw[af.out] at this;exact this) _).trans (f.mono (by have:=Q.size;rw[af.out] at this;simp;omega))
    have W:m.heap[wr.heap.size]? =some (.cells [.string x.1,.int .i64 (sA x.2),.int .i64 (sB x.2)].toArray 274 (0,0)):=(f.block wr.heap.size (by simp)).trans (heap_alloc_new wr _);have v0:m.cell? ⟨wr.heap.size,0,none⟩=some (.string x.1):=A2 W rfl;have v1:m.cell? ⟨wr.heap.size,1,none⟩=some (.int .i64 (sA x.2)):=A2 W rfl
    have v2:m.cell? ⟨wr.heap.size,2,none⟩=some (.int .i64 (sB x.2)):=A2 W rfl;clear ag f y v c Q c0 c1 c2;cases hk:BM x.1.data.toList with
    |false=>
     have F:=Dl (show ¬ K4 l from fun h=>by
      have:=h.2.2.1 x (by rw[<-bl.out];exact Bl T);rw[show BM (AH x)=BM x.1.data.toList from rfl,hk] at this;cases this)
     clear hk
     go_wp2
     go_ret2
     exact OV F.out (by rw[af.out];exact V)
    |true=>
     have a6:Hid (∀a,(h:a<l.length)->a<j+1->BM (AH l[a])=true):=Dl (fun a ha h=>by
      by_cases e:a=j
      ·subst e;rw[bl.out];exact hk
      ·exact ap.out a ha (by omega))
     clear hk ap;have t40:m.cell? ⟨s,0,none⟩=some (.map (some I)):=A2 t rfl
     go_wp2_with fail
     go_still_tail 8,(by kernel_rfl)
     change wpList _ _ _ _ _ m.drew;have E:m.drew.heap[s]? =some (HU (some I) q l.length A (F1 (l.take j):Nat)):=t;have G:=J.drew;have C:=YM U;have O:Below B w m.drew:=V.drew;have K:m.drew.heap[wr.heap.size]? =some (.cells [.string x.1,.int .i64 (sA x.2),.int .i64 (sB x.2)].toArray 274 (0,0)):=W;generalize m.drew=x0 at E G C O K ⊢
     clear t J U V W v0 v1 v2 t40;have ak:=VQ E G;have av:=VQ K G;have aw:∀es D,x0.heap[I]? =some (.map es D)->(Value.slice q l.length A).ownBlock=none\/(Value.slice q l.length A).ownBlock≠some I:=fun es D h=>Qr C h (fun cs=>by simp);obtain⟨es,D,X,_⟩:=id G;have L:=aw es D X
     have M:=Qr C E (fun cs=>by unfold HU;intro e;injection e with _ e;exact absurd e (by decide));have a7:=Dl L;have a8:=Dl M;have bs:wr.heap.size<x0.heap.size:=(Dy.1 K).1;have bt:s<x0.heap.size:=(Dy.1 E).1;clear aw X L M
     go_wp2_with (at_mapUpdate;refine wpList_mapUpdate_own _ rfl _ _ _ 298 rfl 272 9 UK Mk _ I j (JA (l.take j)) rfl G (by unfold maxLen;omega) _ _ (KW x) rfl rfl (Tt x.2) (LF x) [] (plainElem_string Dt aq) ?_;intro w2 al Y;have Z:w2.heap[s]? =some (HU (some I) q l.length A (F1 (l.take j):Nat)):=(Y.block s bt (by intro e;injection e with e;exact ak e)).trans E;have am:w2.heap[wr.heap.size]? =some (.cells [.string x.1,.int .i64 (sA x.2),.int .i64 (sB x.2)].toArray 274 (0,0)):=(Y.block _ bs (by intro e;injection e with e;exact av e)).trans K;have aa:=C.kept Y a7.out;have N:Below B w w2:=O.grown Y (by have:=O.size;rw[af.out] at this;exact this) (by intro k hk;injection hk with hk;omega);clear G Y E K C O)
     have v0:w2.cell? ⟨wr.heap.size,0,none⟩=some (.string x.1):=A2 am rfl;have t2:w2.cell? ⟨s,2,none⟩=some (.int .i64 (F1 (l.take j):Nat)):=A2 Z rfl
     go_still_tail 11,(by kernel_rfl)
     change wpList _ _ _ _ _ w2.drew;have P:w2.drew.heap[s]? =some (HU (some I) q l.length A (F1 (l.take j):Nat)):=Z;have an:=al.drew;have ab:=YM aa;have ao:Below B w w2.drew:=N.drew;generalize w2.drew=x1 at P an ab ao ⊢;clear Z al aa N am v0 t2;have tf:=AW (o:=2) P
     have t2:x1.cell? ⟨s,2,none⟩=some (.int .i64 (F1 (l.take j):Nat)):=A2 P rfl;have d:(x1.setCell ⟨s,2,none⟩ (.int .i64 (max ((F1 (l.take j):Nat):Int) (x.1.size:Int)))).heap[s]? =some (HU (some I) q l.length A (F1 (l.take (j+1)):Nat))/\
       (x1.setCell ⟨s,2,none⟩ (.int .i64 (max ((F1 (l.take j):Nat):Int) (x.1.size:Int)))).ownsMap prog 272 (plainElem prog 9) I (j+1) (JA (l.take (j+1)))/\
       (x1.setCell ⟨s,2,none⟩ (.int .i64 (max ((F1 (l.take j):Nat):Int) (x.1.size:Int)))).ownsRow B 274 3 (.slice q l.length A) l.length (CV l)/\
       Below B w (x1.setCell ⟨s,2,none⟩ (.int .i64 (max ((F1 (l.take j):Nat):Int) (x.1.size:Int)))):=by
      have hg:=DC x1 ⟨s,2,none⟩ (.int .i64 (max ((F1 (l.take j):Nat):Int) (x.1.size:Int)));refine⟨?_,?_,ab.kept hg a8.out,ao.setCell au _⟩
      ·rw[bk.out,show ((max (F1 (l.take j)) x.1.size:Nat):Int)=max ((F1 (l.take j):Nat):Int) (x.1.size:Int) by omega];exact B3 (o:=2) _ P
      ·rw[bj.out];exact an.setCell (Ne.symm ak) _
     have ae:=Dl d;clear d
     go_wp2_with fail
     go_roundw
     case rel=>exact⟨j+1,by omega,by go_num,ae.out.1,ae.out.2.1,ae.out.2.2.1,ae.out.2.2.2,a6⟩
     case measure=>simp[intOf];omega
   ·obtain rfl:j=l.length:=by omega
    rw[Jv] at y v;obtain⟨cb,rfl,ah⟩:∃cb,q=some ⟨cb,0,none⟩/\cb<wr.heap.size/\B<=cb/\l.length<=A/\A<=maxLen:=by
     rcases c.2 with ⟨_,h⟩|⟨g,bn,bu,h1,h2,hg,h4,h5,_⟩
     ·omega
     ·cases h1;exact⟨g,rfl,(Dy.1 hg).1,h2,h4,h5⟩
    have M:=Qr c y (fun cs=>by unfold HU;intro e;injection e with _ e;exact absurd e (by decide));obtain⟨es,D,X,_⟩:=id v;have L:=Qr c X (fun cs=>by simp);have a9:cb≠s:=by
     rcases M with h|h
     ·cases h
     ·exact fun e=>h (by rw[e];rfl)
    have ba:cb≠I:=by
     rcases L with h|h
     ·cases h
     ·exact fun e=>h (by rw[e];rfl)
    have c1:wr.cell? ⟨s,1,none⟩=some (.slice (some ⟨cb,0,none⟩) l.length A):=A2 y rfl;obtain⟨ah,bb,bc,ax⟩:=ah;clear X L M
    go_wp2_with fail
    refine(bA B cb A l _ c ah h2).mono ?_;rintro e x2 ⟨rfl,ds,hp,ay,az,hg⟩;have t:x2.heap[s]? =some (HU (some I) (some ⟨cb,0,none⟩) l.length A (F1 l:Nat)):=(hg.block s (Dy.1 y).1 (by intro e;injection e with e;exact a9 e.symm)).trans y;have J:=v.kept hg (by intro e;injection e with e;exact ba e.symm)
    have f:Below B w x2:=Q.grown hg (by have:=Q.size;rw[af.out] at this;exact this) (by intro k hk;injection hk with hk;omega);have a0:ds.length=l.length:=hp.length_eq;have a1:cb<x2.heap.size:=Bg ah hg.size;have c0:x2.cell? ⟨s,0,none⟩=some (.map (some I)):=A2 t rfl;have c1:x2.cell? ⟨s,1,none⟩=some (.slice (some ⟨cb,0,none⟩) l.length A):=A2 t rfl
    obtain⟨a2,ac⟩:=jA l;obtain⟨n,hn⟩:=Ai (size (JA l));rw[hn] at a2 ac;have bo:=Dl hn;have bd:=Dl ac;have bf:=Dl hp;have bp:=Dl ay;have bg:=Dl a0;clear y v c Q hg hn ac hp ay a0;by_cases ar:n<l.length
    ·have F:=Dl (show ¬ K4 l from fun h=>by have:=bd.out.2 h.2.2.2.2;omega);have d0:decide (n<l.length)=true:=by simpa using ar
     have d1:decide ((n:Int)<(l.length:Int))=true:=by simp;omega
     clear ar
     go_wp2_with (at_len;refine Mi _ rfl _ 298 rfl 272 9 Mk _ I l.length (JA l) rfl J ?_;rw[bo.out])
     go_ret2
     exact OV F.out (by rw[af.out];exact f)
    ·obtain rfl:n=l.length:=by omega
     have bv:=Dl (bd.out.1 rfl);clear bd;have d0:decide (l.length<l.length)=false:=by simp
     have d1:decide ((l.length:Int)<(l.length:Int))=false:=by simp
     have bh:∃r:Bool,r=true↔¬ BY (ds.map AH):=by
      by_cases h:BY (ds.map AH)
      ·exact⟨false,by simp[h]⟩
      ·exact⟨true,by simp[h]⟩
     obtain⟨r,hr⟩:=bh;have R:=Dl hr;have ad:∀x∈l,BM (AH x)=true:=fun x hx=>by
      obtain⟨i,hi,rfl⟩:=Jz hx;exact ap.out i hi hi
     have bw:=Dl ad;clear ar hr ad
     go_wp2_with (at_len;refine Mi _ rfl _ 298 rfl 272 9 Mk _ I l.length (JA l) rfl J ?_;rw[bo.out])
     refine(jQ ds l.length bg.out _ A _ r bp.out R.out az h2).mono ?_;rintro e x3 ⟨rfl,ai⟩;have N:Below B w x3:=f.trans (ai.mono (by have:=f.size;rw[af.out] at this;exact this));cases r with
     |true=>
      have F:=Dl (show ¬ K4 l from fun h=>R.out.1 rfl ((NV (bf.out.map AH)).2 h.2.2.2.1))
      go_wp2
      go_ret2
      exact OV F.out (by rw[af.out];exact N)
     |false=>
      have d:SV x3 B x3.heap.size s ds (F1 l:Nat):=by
       refine⟨some I,some ⟨cb,0,none⟩,A,?_,?_,ax,az.below ai,?_⟩
       ·rw[bg.out];exact(ai.block s (Dy.1 t).1).trans t
       ·rw[bg.out];exact bc
       ·intro a ha;cases ha;exact⟨bb,Bg a1 ai.size⟩
      have ae:=Dl d
      go_wp2
      go_ret2
      exact⟨fun _=>⟨s,ds,rfl,by rw[af.out];exact ae.out,bf.out,bp.out⟩,fun hn=>absurd ⟨h3,h2,bw.out,(NV (bf.out.map AH)).1 (Md fun hf=>by have:=R.out.2 hf;cases this),bv.out⟩ hn,by rw[af.out];exact N⟩
end
section
open Go.RowKit Go.Lib Go.Sort
theorem fY (blk off size:Nat)(w:A5):CmpLays prog 251 #[] GD 2 LZ blk off size w:=
 fun _ _ _ _ x y=>pJ x y _
theorem nE (blk off cap:Nat)(d:Array (ByteArray×Int))(w:A5)(f:HoldsK GD 2 w blk off d)(a:blk<w.heap.size)(b:d.size<4611686018427387904):
  A9 prog 250 #[.slice (some ⟨blk,off,none⟩) d.size cap,.func (.func 251) #[] #[]] w fun e g=>
   e=.returned (.tuple #[])/\∃c n os,PermIn 0 d.size d c/\SortedIn (ltOf LZ) 0 d.size c/\g=sortWorldK GD 2 w blk off n c os:=
 AnyQ.slices_SortFunc Tryz.lSort 2 yN WU GD (fun _=>rfl) X4 LZ aJ 251 #[] blk off cap d w (enters_of func251 (by kernel_rfl) rfl) (fY blk off d.size w) f a b
end
end Go.Proofs.YtjjmalchelniiaaGreatDoor
