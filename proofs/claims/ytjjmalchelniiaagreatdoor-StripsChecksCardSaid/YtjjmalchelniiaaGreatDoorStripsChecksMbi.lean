/- StripsChecks, 35. No condition. -/
import Derived.Test.YtjjmalchelniiaaGreatDoorStripsChecksMg
import Derived.Test.YtjjmalchelniiaaGreatDoorStripsChecksMo
import Derived.Test.YtjjmalchelniiaaGreatDoorStripsChecksMbc
import Derived.Test.YtjjmalchelniiaaGreatDoorStripsChecksMbf
import Derived.Test.YtjjmalchelniiaaGreatDoorStripsChecksMbh
open Go.Proofs.Tryz
open Go renaming World->A5,Value->A0,Calls->A9
set_option maxHeartbeats 16000000
namespace Go.Proofs.YtjjmalchelniiaaGreatDoor
section
open Go.RowKit Go.Maps Go.Sort
abbrev Mn:=@underlying283
def EW (l:List (ByteArray×Int)):Nat:=l.foldl (fun a x=>max a x.1.size) 0
theorem jY (l:List (ByteArray×Int))(j:Nat)(h:j<l.length):EW (l.take (j+1))=max (EW (l.take j)) l[j].1.size:=by
 unfold EW;rw[Bd h,Lu]
 rfl
def mkP (l:List (ByteArray×Int)):Prop:=1<=l.length/\l.length<=256/\(∀x∈l,BM (AC x)=true)/\BY (l.map AC)/\(l.map (·.2)).Nodup
def Xd (l:List (ByteArray×Int))(w:A5)(e:Ending)(a:A5):Prop:=
 (mkP l->∃b ds,e=.returned (.tuple #[.pointer (some ⟨b,0,none⟩),.int .i64 0])/\Tb a w.heap.size a.heap.size b ds (EW l:Nat)/\ds.Perm l/\ds.Pairwise fun x y=>leL (AC x) (AC y)=true)/\
 (¬ mkP l->e=.returned (.tuple #[.pointer none,.int .i64 1]))/\Below w.heap.size w a
theorem OO {l:List (ByteArray×Int)}{w a:A5}(h:¬ mkP l)(b:Below w.heap.size w a):Xd l w (.returned (.tuple #[.pointer none,.int .i64 1])) a:=
 ⟨fun hm=>absurd hm h,fun _=>rfl,b⟩
def St (w:A5)(n:Nat)(CP:List A0)(t4:A0)(x:A5):Prop:=
 ∃(a b:Nat) (q:Option Addr) (cap:Nat),t4=.pointer (some ⟨a,0,none⟩)/\x.heap[a]? =some (I1 (some b) q n cap 0)/\x.ownsMap prog 3 (plainElem prog 9) b 0 (.map []:DataW Unit)/\x.ownsRow w.heap.size 286 2 (.slice q n cap) n CP/\Below w.heap.size w x/\w.heap.size<=a/\w.heap.size<=b
theorem nY {w:A5}{b o:Nat}{l:List (ByteArray×Int)}(h:Cds w (some ⟨b,o,none⟩) l):∀j u,(DB l)[j]? =some u->w.cell? ⟨b,o+j,none⟩=some u:=by
 intro j u a;have hj:j<l.length*2:=by
  have:=(Mj.1 a).1;rwa [VW] at this
 obtain⟨g,i,e,_,hc⟩:=h.at (by omega);cases e;have hi:j / 2<l.length:=by omega
 obtain⟨c,d⟩:=QS l (j / 2) hi;obtain⟨f,c1⟩:=hc (j / 2) hi;rcases (by omega:j=j / 2*2\/j=j / 2*2+1) with e|e
 ·rw[e] at a ⊢;rw[c] at a;cases a;exact f
 ·rw[e] at a ⊢;rw[d] at a;cases a;exact c1
theorem Yg {w:A5}{base a e size n:Nat}{v:A0}{c:List A0}(h:w.ownsRow base e size v n c)(d:a<=base):w.ownsRow a e size v n c:=by
 refine⟨h.1,?_⟩;rcases h.2 with h|⟨g,cap,b,h1,h2,h3⟩
 ·exact .inl h
 ·exact .inr ⟨g,cap,b,h1,Ea d h2,h3⟩
theorem qF {w:A5}{base cb cap:Nat}{l:List (ByteArray×Int)}(h:w.ownsRow base 286 2 (.slice (some ⟨cb,0,none⟩) l.length cap) l.length (DB l)):HoldsK GD 2 w cb 0 l.toArray:=by
 intro j hj;rw[size_flatK,Cg] at hj;have hi:j / 2<l.length:=by omega
 have b:w.frozen? ⟨cb,0+j,none⟩=false:=by
  rcases h.2 with ⟨h1,_⟩|⟨g,d,c,h1,_,f,_⟩
  ·cases h1
  ·cases h1;exact Er w cb _ c _ f
 refine⟨?_,b⟩;have a:l.toArray[j / 2]! =l[j / 2]:=by rw[Me _ (j / 2) (by simpa using hi)];simp
 rw[get_flatK _ _ _ _ (by simpa using hj),a];obtain⟨i,k⟩:=QS l (j / 2) hi;rcases (by omega:j%2=0\/j%2=1) with e|e
 ·have:=Di (g:=cb) h rfl (j / 2*2) _ i;rw[Lp,show 0+j / 2*2=0+j by omega] at this;rw[this,e];rfl
 ·have:=Di (g:=cb) h rfl (j / 2*2+1) _ k;rw[Lp,show 0+(j / 2*2+1)=0+j by omega] at this;rw[this,e];rfl
theorem eO {w:A5}{cb:Nat}{d:Array (ByteArray×Int)}(h:HoldsK GD 2 w cb 0 d)(c:cb<w.heap.size):Cds w (some ⟨cb,0,none⟩) d.toList:=by
 refine .inr ⟨cb,0,rfl,c,fun i hi=>?_⟩;have a:i<d.size:=by simpa using hi
 have b:d[i]! =d.toList[i]:=by rw[Me d i a];simp
 have e:=(Ml h a (by decide:0<2)).1;have c1:=(Ml h a (by decide:1<2)).1;rw[b] at e c1;exact⟨e,c1⟩
theorem gL {w:A5}{g n:Nat}{os:Array Obj}(d:Array (ByteArray×Int)):w.grownBy (sortWorldK GD 2 w g 0 n d os) (some g):=by
 refine⟨rfl,rfl,rfl,Mg GD 2 w g 0 n d os,fun k b a=>?_⟩;unfold sortWorldK putRowK;rw[heap_grow_old _ _ (by simpa using b)];have:g≠k:=fun e=>a (by rw[e]);simp[putRow,mapBlock,Sort.ahead,Array.getElem?_modify,this]
theorem aZ {d:Array (ByteArray×Int)}(h:SortedIn (ltOf LZ) 0 d.size d):d.toList.Pairwise fun x y=>leL (AC x) (AC y)=true:=by
 rw[K9];intro i j hi hj b;have c:i<d.size:=by simpa using hi
 have a:j<d.size:=by simpa using hj
 have:=h i j (Dn _) b a;rw[Me d i c,Me d j a] at this;unfold ltOf LZ at this;rw[OK] at this
 simpa using this
theorem bY {d a:Array (ByteArray×Int)}(h:PermIn 0 d.size d a):a.toList.Perm d.toList:=by
 have h1:=h.1;have h3:=h.2.2;have b:a.extract 0 d.size=a:=by rw[<-h1];simp
 have c:d.extract 0 d.size=d:=by simp
 rw[b,c] at h3;exact h3
theorem zD (base cb cap:Nat)(l:List (ByteArray×Int))(w:A5)(h:w.ownsRow base 286 2 (.slice (some ⟨cb,0,none⟩) l.length cap) l.length (DB l))(a:cb<w.heap.size)(hn:l.length<=256):
  A9 prog 250 #[.slice (some ⟨cb,0,none⟩) l.length cap,.func (.func 251) #[] #[]] w fun e g=>
   e=.returned (.tuple #[])/\∃ds:List (ByteArray×Int),ds.Perm l/\(ds.Pairwise fun x y=>leL (AC x) (AC y)=true)/\Cds g (some ⟨cb,0,none⟩) ds/\w.grownBy g (some cb):=by
 have i:=qF h;have hs:=nE cb 0 cap l.toArray w i a (by simp;omega);rw[Cg] at hs;refine hs.mono ?_;rintro e k ⟨rfl,c,n,os,j,d,rfl⟩;have b:PermIn 0 l.toArray.size l.toArray c:=j;have f:c.size=l.length:=b.1;refine⟨rfl,c.toList,bY b,aZ (by rw[f];exact d),?_,gL c⟩
 exact eO (holdsK_sortWorldK_c GD 2 w cb 0 l.toArray c n os i a b.1) (Bg a (Mg GD 2 w cb 0 n c os))
theorem X5 {w:A5}{b c n:Nat}{cs:Array A0}{T:TypeId}{e:Nat×Nat}{D:DataW Unit}(h:w.heap[b]? =some (.cells cs T e))(ho:w.ownsMap prog 3 (plainElem prog 9) c n D):b≠c:=by
 rintro rfl;obtain⟨f,a,d,_⟩:=ho;rw[h] at d;cases d
theorem Vh {w:A5}{base e size n:Nat}{v:A0}{a:List A0}(h:w.ownsRow base e size v n a):w.drew.ownsRow base e size v n a:=h
theorem PS {w:A5}{base e size n:Nat}{v:A0}{f:List A0}(h:w.ownsRow base e size v n f){b:Nat}{o:Obj}(a:w.heap[b]? =some o)(c:∀cs,o≠.cells cs e (0,0)):v.ownBlock=none\/v.ownBlock≠some b:=by
 rcases h.2 with ⟨rfl,_⟩|⟨g,cap,i,rfl,_,j,_⟩
 ·exact .inl rfl
 ·right
  intro d;injection d with d;obtain rfl:g=b:=d;rw[j] at a;injection a with a;exact c _ a.symm
theorem kV (b o c:Nat)(l:List (ByteArray×Int))(w:A5)(hn:l.length<=256)(hc:∀j u,(DB l)[j]? =some u->w.cell? ⟨b,o+j,none⟩=some u):
  A9 prog 248 #[.slice (some ⟨b,o,none⟩) l.length c] w fun e d=>∃q cap,e=.returned (.slice q l.length cap)/\d.ownsRow w.heap.size 286 2 (.slice q l.length cap) l.length (DB l)/\Below w.heap.size w d:=by
 refine(xN b o l.length c (DB l) w (VW l) (by omega) hc (cQ l)).mono ?_;rintro e g ⟨v,rfl,a,_,f⟩;obtain⟨q,cap,rfl,_⟩:=V3 a;exact⟨q,cap,rfl,a,f⟩
theorem nZ {ds:List (ByteArray×Int)}(hs:ds.Pairwise fun x y=>leL (AC x) (AC y)=true):(∃i,∃h:i+1<ds.length,(AC ds[i]).isPrefixOf (AC ds[i+1])=true)↔¬ BY (ds.map AC):=by
 constructor
 ·rintro⟨i,h,a⟩ b;have:=Pd.1 b i (i+1) (by simp;omega) (by simpa using h) (by omega);rw[Kr,Kr,a] at this;cases this
 ·intro b;apply Md;intro c;apply b;refine RV (by rw[List.pairwise_map];exact hs) fun i hi=>?_;rw[Kr,Kr];cases a:(AC (ds[i]'(by simp at hi;omega))).isPrefixOf (AC (ds[i+1]'(by simpa using hi))) with
  |false=>rfl
  |true=>exact absurd ⟨i,by simpa using hi,a⟩ c
theorem xH (ds:List (ByteArray×Int))(n:Nat)(hn:ds.length=n)(p:Option Addr)(cap:Nat)(w:A5)(r:Bool)(hs:ds.Pairwise fun x y=>leL (AC x) (AC y)=true)(hr:r=true↔¬ BY (ds.map AC))(hc:Cds w p ds)(hm:n<=256):
  A9 prog 253 #[.slice p n cap] w fun e a=>e=.returned (.bool r)/\Below w.heap.size w a:=by
 subst hn;exact iO ds p cap w r (hr.trans (nZ hs).symm) hc (by omega)
theorem uY (w:A5)(n:Int):(Instr.makeMap 283 (some (.int .i64 n))).run prog w=.ok (.map (some w.heap.size)) (w.alloc (.map #[] 0)):=by
 simp[Instr.makeMap,run_underlying underlying283,asInt,asIntOf,Result.andThen]
set_option maxRecDepth 100000 in
theorem sS (l:List (ByteArray×Int))(p:Option Addr)(cap:Nat)(w:A5)(hc:Cds w p l)(hm:l.length<=maxLen)(hl:∀x∈l,x.1.size<=maxLen/\(Lit.int .i64 x.2).wf=true):
  A9 prog 238 #[.slice p l.length cap] w (Xd l w):=by
 unfold maxLen at hm;have bs:=Dl hl;clear hl;by_cases h0:l.length=0
 ·have F:=Dl (show ¬ mkP l from fun h=>by have:=h.1;omega);have t0:((l.length:Int)==0)=true:=by rw[Bm];omega
  clear h0
  go_enter func238,ntmps238
  go_wp2
  go_ret2
  exact OO F.out (Dm _ _)
 by_cases h1:256<l.length
 ·have F:=Dl (show ¬ mkP l from fun h=>by have:=h.2.1;omega);have t0:((l.length:Int)==0)=false:=by rw[Ez];omega
  have t1:decide (256<(l.length:Int))=true:=by simp;omega
  clear h0
  go_enter func238,ntmps238
  go_wp2
  go_ret2
  exact OO F.out (Dm _ _)
 obtain⟨b,o,rfl,aj,z⟩:=hc.at (by omega);have hE:∀x,Below w.heap.size w x->Cds x (some ⟨b,o,none⟩) l:=fun x hx=>hc.below hx;have bj:=Dl hE;have h2:l.length<=256:=by omega
 have h3:1<=l.length:=by omega
 have t0:((l.length:Int)==0)=false:=by rw[Ez];omega
 have t1:decide (256<(l.length:Int))=false:=by simp;omega
 have S:∀(x:A5),Below w.heap.size w x->∀j u,(DB l)[j]? =some u->x.cell? ⟨b,o+j,none⟩=some u:=fun x hx=>nY (hE x hx);have a4:=Dl S;have a6:=fun(w:A5)=>uY w (l.length:Int);clear h0 h1 hE z S hc aj
 go_enter func238,ntmps238
 go_upto_region 3 with (fail)
 go_cut [4] from 15 to 21 (fun t4 x=>St w l.length (DB l) t4 x)
 case first=>
  go_wp2
  go_region_with (go_at_call 248;refine(kV b o cap l _ h2 ?_).mono ?_;(intro j u hu;first|exact a4.out _ ((Dm _ _).drew) j u hu|exact a4.out _ (((Dm _ _).drew).alloc (Ba _) _) j u hu);rintro e m ⟨q,A,rfl,c,f⟩)
  ·have v:m.ownsMap prog 3 (plainElem prog 9) w.heap.size 0 (.map []:DataW Unit):=((Mf w _ _ _).drew).kept (BR f none) (by simp);have J:Below w.heap.size w m:=(((Dm _ w).alloc (Ba _) _).drew).trans (f.mono (by simp));have bt:=f.size
   have d:St w l.length (DB l) (.pointer (some ⟨m.heap.size,0,none⟩)) (m.alloc (I1 (some w.heap.size) q l.length A 0)):=
    ⟨m.heap.size,w.heap.size,q,A,rfl,heap_alloc_new m _,v.alloc _,(Yg c (by simp)).alloc _,J.alloc J.size _,J.size,Ba _⟩
   have ae:=Dl d;clear d v c f
   go_wp2
   go_meet
   case rel=>exact ae.out
  ·have J:Below w.heap.size w m:=((Dm _ w).drew).trans f;have d:St w l.length (DB l) (.pointer (some ⟨m.heap.size+1,0,none⟩)) ((m.alloc (.map #[] 0)).alloc (I1 (some m.heap.size) q l.length A 0)):=
    ⟨m.heap.size+1,m.heap.size,q,A,rfl,by rw[show m.heap.size+1=(m.alloc (.map #[] 0)).heap.size by simp];exact heap_alloc_new _ _,(Mf m _ _ _).alloc _,((Yg c (by simp)).alloc _).alloc _,(J.alloc J.size _).alloc (by have:=J.size;simp;omega) _,by have:=J.size;omega,J.size⟩
   have ae:=Dl d;clear d c f
   go_wp2
   go_meet
   case rel=>exact ae.out
 case rest=>
  obtain⟨s,E,q,A,rfl,y,v,c,Q,au,a7⟩:=hcut;obtain⟨B,hB⟩:=Ai w.heap.size;rw[hB] at bj a4 c Q au a7;have af:=Dl hB;clear hB a6 a4
  go_wp2
  go_loopw [24] (fun i wr=>∃j:Nat,j<=l.length/\i=.int .i64 j/\wr.heap[s]? =some (I1 (some E) q l.length A (EW (l.take j):Nat))/\wr.ownsMap prog 3 (plainElem prog 9) E j (IH (l.take j))/\wr.ownsRow B 286 2 (.slice q l.length A) l.length (DB l)/\Below B w wr/\Hid (∀a,(h:a<l.length)->a<j->BM (AC l[a])=true)) (fun i _=>l.length-(intOf i).toNat)
  case atStart=>exact⟨0,Dn _,rfl,y,v,c,Q,Dl (fun a _ h=>absurd h (Fc a))⟩
  case round=>
   clear y v c Q;obtain⟨j,hj,rfl,y,v,c,Q,ap⟩:=hrel;by_cases T:j<l.length
   ·obtain⟨b',o',e,aj,z⟩:=(bj.out wr Q).at (by omega);cases e;obtain⟨c0,c1⟩:=z j T;obtain⟨aq,av⟩:=bs.out l[j] (Bl T);have bk:=Dl (qZ l j T);have bl:=Dl (jY l j T);obtain⟨x,hx⟩:=Ai (l[j]);rw[hx] at c0 c1 aq av bk bl;have bn:=Dl hx;clear hx z
    go_wp2_with fail
    refine(qS x.1 aq _).mono ?_;rintro e m ⟨rfl,f⟩;have ag:wr.grownBy m none:=AO (Mh wr _ none) (BR f none);have t:m.heap[s]? =some (I1 (some E) q l.length A (EW (l.take j):Nat)):=(ag.block s (Dy.1 y).1 (by simp)).trans y;have G:=v.kept ag (by simp)
    have U:=c.kept ag (by cases hv:(Value.slice q l.length A).ownBlock <;> simp);have V:Below B w m:=(Q.alloc (by have:=Q.size;rw[af.out] at this;exact this) _).trans (f.mono (by have:=Q.size;rw[af.out] at this;simp;omega));have ah:m.heap[wr.heap.size]? =some (.cells [.string x.1,.int .i64 x.2].toArray 286 (0,0)):=(f.block wr.heap.size (by simp)).trans (heap_alloc_new wr _)
    have v0:m.cell? ⟨wr.heap.size,0,none⟩=some (.string x.1):=A2 ah rfl;have v1:m.cell? ⟨wr.heap.size,1,none⟩=some (.int .i64 x.2):=A2 ah rfl;clear ag f y v c Q c0 c1;cases hk:BM x.1.data.toList with
    |false=>
     have F:=Dl (show ¬ mkP l from fun h=>by
      have:=h.2.2.1 x (by rw[<-bn.out];exact Bl T);rw[show BM (AC x)=BM x.1.data.toList from rfl,hk] at this;cases this)
     clear hk
     go_wp2
     go_ret2
     exact OO F.out (by rw[af.out];exact V)
    |true=>
     have a8:Hid (∀a,(h:a<l.length)->a<j+1->BM (AC l[a])=true):=Dl (fun a ha h=>by
      by_cases e:a=j
      ·subst e;rw[bn.out];exact hk
      ·exact ap.out a ha (by omega))
     clear hk ap;have t40:m.cell? ⟨s,0,none⟩=some (.map (some E)):=A2 t rfl
     go_wp2_with fail
     go_still_tail 8,(by kernel_rfl)
     change wpList _ _ _ _ _ m.drew;have H:m.drew.heap[s]? =some (I1 (some E) q l.length A (EW (l.take j):Nat)):=t;have I:=G.drew;have C:=Vh U;have O:Below B w m.drew:=V.drew;have K:m.drew.heap[wr.heap.size]? =some (.cells [.string x.1,.int .i64 x.2].toArray 286 (0,0)):=ah;generalize m.drew=x0 at H I C O K ⊢
     clear t G U V ah v0 v1 t40;have ak:=X5 H I;have aw:=X5 K I;have ax:∀es D,x0.heap[E]? =some (.map es D)->(Value.slice q l.length A).ownBlock=none\/(Value.slice q l.length A).ownBlock≠some E:=fun es D h=>PS C h (fun cs=>by simp);obtain⟨es,D,W,_⟩:=id I;have L:=ax es D W
     have M:=PS C H (fun cs=>by unfold I1;intro e;injection e with _ e;exact absurd e (by decide));have a9:=Dl L;have ba:=Dl M;have bu:wr.heap.size<x0.heap.size:=(Dy.1 K).1;have bv:s<x0.heap.size:=(Dy.1 H).1;clear ax W L M
     go_wp2_with (at_mapUpdate;refine wpList_mapUpdate_own _ rfl _ _ _ 283 rfl 3 9 nW Mn _ E j (IH (l.take j)) rfl I (by unfold maxLen;omega) _ _ (KP x) rfl rfl (keyOf_int_mk Ji av) (KT x) [] (plainElem_string Dt aq) ?_;intro w2 al X;have Y:w2.heap[s]? =some (I1 (some E) q l.length A (EW (l.take j):Nat)):=(X.block s bv (by intro e;injection e with e;exact ak e)).trans H;have am:w2.heap[wr.heap.size]? =some (.cells [.string x.1,.int .i64 x.2].toArray 286 (0,0)):=(X.block _ bu (by intro e;injection e with e;exact aw e)).trans K;have Z:=C.kept X a9.out;have N:Below B w w2:=O.grown X (by have:=O.size;rw[af.out] at this;exact this) (by intro k hk;injection hk with hk;omega);clear I X H K C O)
     have v0:w2.cell? ⟨wr.heap.size,0,none⟩=some (.string x.1):=A2 am rfl;have t2:w2.cell? ⟨s,2,none⟩=some (.int .i64 (EW (l.take j):Nat)):=A2 Y rfl
     go_still_tail 11,(by kernel_rfl)
     change wpList _ _ _ _ _ w2.drew;have P:w2.drew.heap[s]? =some (I1 (some E) q l.length A (EW (l.take j):Nat)):=Y;have an:=al.drew;have aa:=Vh Z;have ao:Below B w w2.drew:=N.drew;generalize w2.drew=x1 at P an aa ao ⊢;clear Y al Z N am v0 t2;have tf:=AW (o:=2) P
     have t2:x1.cell? ⟨s,2,none⟩=some (.int .i64 (EW (l.take j):Nat)):=A2 P rfl;have d:(x1.setCell ⟨s,2,none⟩ (.int .i64 (max ((EW (l.take j):Nat):Int) (x.1.size:Int)))).heap[s]? =some (I1 (some E) q l.length A (EW (l.take (j+1)):Nat))/\
       (x1.setCell ⟨s,2,none⟩ (.int .i64 (max ((EW (l.take j):Nat):Int) (x.1.size:Int)))).ownsMap prog 3 (plainElem prog 9) E (j+1) (IH (l.take (j+1)))/\
       (x1.setCell ⟨s,2,none⟩ (.int .i64 (max ((EW (l.take j):Nat):Int) (x.1.size:Int)))).ownsRow B 286 2 (.slice q l.length A) l.length (DB l)/\
       Below B w (x1.setCell ⟨s,2,none⟩ (.int .i64 (max ((EW (l.take j):Nat):Int) (x.1.size:Int)))):=by
      have hg:=DC x1 ⟨s,2,none⟩ (.int .i64 (max ((EW (l.take j):Nat):Int) (x.1.size:Int)));refine⟨?_,?_,aa.kept hg ba.out,ao.setCell au _⟩
      ·rw[bl.out,show ((max (EW (l.take j)) x.1.size:Nat):Int)=max ((EW (l.take j):Nat):Int) (x.1.size:Int) by omega];exact B3 (o:=2) _ P
      ·rw[bk.out];exact an.setCell (Ne.symm ak) _
     have ae:=Dl d;clear d
     go_wp2_with fail
     go_roundw
     case rel=>exact⟨j+1,by omega,by go_num,ae.out.1,ae.out.2.1,ae.out.2.2.1,ae.out.2.2.2,a8⟩
     case measure=>simp[intOf];omega
   ·obtain rfl:j=l.length:=by omega
    rw[Jv] at y v;obtain⟨cb,rfl,ai⟩:∃cb,q=some ⟨cb,0,none⟩/\cb<wr.heap.size/\B<=cb/\l.length<=A/\A<=maxLen:=by
     rcases c.2 with ⟨_,h⟩|⟨g,bo,bw,h1,h2,hg,h4,h5,_⟩
     ·omega
     ·cases h1;exact⟨g,rfl,(Dy.1 hg).1,h2,h4,h5⟩
    have M:=PS c y (fun cs=>by unfold I1;intro e;injection e with _ e;exact absurd e (by decide));obtain⟨es,D,W,_⟩:=id v;have L:=PS c W (fun cs=>by simp);have bb:cb≠s:=by
     rcases M with h|h
     ·cases h
     ·exact fun e=>h (by rw[e];rfl)
    have bc:cb≠E:=by
     rcases L with h|h
     ·cases h
     ·exact fun e=>h (by rw[e];rfl)
    have c1:wr.cell? ⟨s,1,none⟩=some (.slice (some ⟨cb,0,none⟩) l.length A):=A2 y rfl;obtain⟨ai,bd,bf,ay⟩:=ai;clear W L M
    go_wp2_with fail
    refine(zD B cb A l _ c ai h2).mono ?_;rintro e x2 ⟨rfl,ds,hp,az,a0,hg⟩;have t:x2.heap[s]? =some (I1 (some E) (some ⟨cb,0,none⟩) l.length A (EW l:Nat)):=(hg.block s (Dy.1 y).1 (by intro e;injection e with e;exact bb e.symm)).trans y;have G:=v.kept hg (by intro e;injection e with e;exact bc e.symm)
    have f:Below B w x2:=Q.grown hg (by have:=Q.size;rw[af.out] at this;exact this) (by intro k hk;injection hk with hk;omega);have a1:ds.length=l.length:=hp.length_eq;have a2:cb<x2.heap.size:=Bg ai hg.size;have c0:x2.cell? ⟨s,0,none⟩=some (.map (some E)):=A2 t rfl;have c1:x2.cell? ⟨s,1,none⟩=some (.slice (some ⟨cb,0,none⟩) l.length A):=A2 t rfl
    obtain⟨a3,ab⟩:=wW l;obtain⟨n,hn⟩:=Ai (size (IH l));rw[hn] at a3 ab;have bp:=Dl hn;have bg:=Dl ab;have a5:=Dl hp;have bq:=Dl az;have bh:=Dl a1;clear y v c Q hg hn ab hp az a1;by_cases ar:n<l.length
    ·have F:=Dl (show ¬ mkP l from fun h=>by have:=bg.out.2 h.2.2.2.2;omega);have d0:decide (n<l.length)=true:=by simpa using ar
     have d1:decide ((n:Int)<(l.length:Int))=true:=by simp;omega
     clear ar
     go_wp2_with (at_len;refine Mi _ rfl _ 283 rfl 3 9 Mn _ E l.length (IH l) rfl G ?_;rw[bp.out])
     go_ret2
     exact OO F.out (by rw[af.out];exact f)
    ·obtain rfl:n=l.length:=by omega
     have br:=Dl (bg.out.1 rfl);clear bg;have d0:decide (l.length<l.length)=false:=by simp
     have d1:decide ((l.length:Int)<(l.length:Int))=false:=by simp
     have bi:∃r:Bool,r=true↔¬ BY (ds.map AC):=by
      by_cases h:BY (ds.map AC)
      ·exact⟨false,by simp[h]⟩
      ·exact⟨true,by simp[h]⟩
     obtain⟨r,hr⟩:=bi;have R:=Dl hr;have ac:∀x∈l,BM (AC x)=true:=fun x hx=>by
      obtain⟨i,hi,rfl⟩:=Jz hx;exact ap.out i hi hi
     have bx:=Dl ac;clear ar hr ac
     go_wp2_with (at_len;refine Mi _ rfl _ 283 rfl 3 9 Mn _ E l.length (IH l) rfl G ?_;rw[bp.out])
     refine(xH ds l.length bh.out _ A _ r bq.out R.out a0 h2).mono ?_;rintro e x3 ⟨rfl,ad⟩;have N:Below B w x3:=f.trans (ad.mono (by have:=f.size;rw[af.out] at this;exact this));cases r with
     |true=>
      have F:=Dl (show ¬ mkP l from fun h=>R.out.1 rfl ((NV (a5.out.map AC)).2 h.2.2.2.1))
      go_wp2
      go_ret2
      exact OO F.out (by rw[af.out];exact N)
     |false=>
      have d:Tb x3 B x3.heap.size s ds (EW l:Nat):=by
       refine⟨some E,some ⟨cb,0,none⟩,A,?_,?_,ay,a0.below ad,?_,?_⟩
       ·rw[bh.out];exact(ad.block s (Dy.1 t).1).trans t
       ·rw[bh.out];exact bf
       ·exact(show OM x2 (some E) ds from .inr ⟨E,l.length,l,rfl,G,br.out,a5.out.symm⟩).below ad
       ·intro a ha;cases ha;exact⟨bd,Bg a2 ad.size⟩
      have ae:=Dl d
      go_wp2
      go_ret2
      exact⟨fun _=>⟨s,ds,rfl,by rw[af.out];exact ae.out,a5.out,bq.out⟩,fun hn=>absurd ⟨h3,h2,bx.out,(NV (a5.out.map AC)).1 (Md fun hf=>by have:=R.out.2 hf;cases this),br.out⟩ hn,by rw[af.out];exact N⟩
end
section
def DF (intra:Bool):List (ByteArray×Int):=(List.range 16).map (IG intra)
def ptk (intra:Bool)(b:List UInt8):Int×Int×Nat:=
 if (tk ((DF intra).map AC) b 25 1).1=0 then
  match (DF intra).find? (fun x=>AC x==b.take (tk ((DF intra).map AC) b 25 1).2) with
  |some x=>(x.2,0,(tk ((DF intra).map AC) b 25 1).2)
  |none=>(0,0,0)
 else (0,(tk ((DF intra).map AC) b 25 1).1,0)
theorem Ri (intra:Bool):BY ((DF intra).map AC):=by
 cases intra <;> (unfold BY;decide +kernel)
theorem Ta (intra:Bool):∀x∈DF intra,BM (AC x)=true:=by
 cases intra <;> decide +kernel
theorem ZM (intra:Bool):∀x∈DF intra,(Lit.int .i64 x.2).wf=true:=by
 cases intra <;> decide +kernel
theorem sL (intra:Bool){i:Nat}(h:i<16):IG intra i∈DF intra:=Kq (Bq.2 h)
theorem Pw (intra:Bool)(q:List UInt8):FI intra q 16=(DF intra).filter fun x=>q.isPrefixOf (AC x):=rfl
theorem tT (intra:Bool){c:UInt8}(hc:c=48\/c=49):mkP (FI intra [c] 16):=by
 have b:BY ((FI intra [c] 16).map AC):=by
  rw[Pw];exact(Ri intra).sublist ((List.filter_sublist).map AC)
 have ho:∀x∈FI intra [c] 16,BM (AC x)=true:=fun x a=>by
  rw[Pw] at a;exact Ta intra x (Js.1 a).1
 refine⟨?_,Ea (S9 intra [c] 16) (by omega),ho,b,?_⟩
 ·rcases hc with rfl|rfl <;> cases intra <;> decide +kernel
 ·rcases hc with rfl|rfl <;> cases intra <;> decide +kernel
theorem xX (intra:Bool){b:List UInt8}{c:UInt8}(h:b.take 1=[c]){ds:List (ByteArray×Int)}(d:ds.Perm (FI intra [c] 16)):tk (ds.map AC) b 25 1=tk ((DF intra).map AC) b 25 1:=by
 have hl:1<=b.length:=by
  cases b with
  |nil=>cases h
  |cons a l=>simp
 rw[Sq (d.map AC),Tx ((DF intra).map AC) b hl 25 1 (Ba _),Pw,List.filter_map,h]
 rfl
theorem nP (intra:Bool){x y:ByteArray×Int}(b:x∈DF intra)(c:y∈DF intra)(h:AC x=AC y):x=y:=by
 obtain⟨i,hi,rfl⟩:=Jz b;obtain⟨j,hj,rfl⟩:=Jz c;by_cases a:i=j
 ·subst a;rfl
 ·exfalso;have:=Pd.1 (Ri intra) i j (by simpa using hi) (by simpa using hj) a;rw[Kr,Kr,h,IF] at this;cases this
theorem fZ (intra:Bool){x:ByteArray×Int}(a:x∈DF intra){q:List UInt8}(b:AC x=q):(DF intra).find? (fun y=>AC y==q)=some x:=by
 cases h:(DF intra).find? (fun y=>AC y==q) with
 |none=>
  have:=Kt.1 h x a;rw[b] at this;simp at this
 |some y=>
  have h1:=Kw h;have h2:=Ks h;rw[nP intra h2 a (by rw[b];simpa using h1)]
theorem Zx (intra:Bool){b:List UInt8}{n:Nat}{x:ByteArray×Int}(ht:tk ((DF intra).map AC) b 25 1=(0,n))(a:x∈DF intra)(c:AC x=b.take n):
  ptk intra b=(x.2,0,n):=by
 unfold ptk;rw[ht,Bc rfl,fZ intra a c]
theorem W2 (intra:Bool){b:List UInt8}{n:Nat}{f:Int}(ht:tk ((DF intra).map AC) b 25 1=(f,n))(a:f≠0):ptk intra b=(0,f,0):=by
 unfold ptk;rw[ht,Bb a]
end
section
open Go.RowKit Go.Lib
def Qw (intra:Bool)(s:ByteArray)(rb p:Nat)(w:A5)(e:Ending)(a:A5):Prop:=
 e=.returned (.tuple #[.int .i64 (ptk intra ((AA s.data.toList).drop p)).1,.int .i64 (ptk intra ((AA s.data.toList).drop p)).2.1])/\
  AG a rb s (p+(ptk intra ((AA s.data.toList).drop p)).2.2)/\w.grownBy a (some rb)
theorem Ze {intra:Bool}{s:ByteArray}{rb p n:Nat}{w b:A5}{a f:Int}(h:ptk intra ((AA s.data.toList).drop p)=(a,f,n))(hr:AG b rb s (p+n))(c:w.grownBy b (some rb)):
  Qw intra s rb p w (.returned (.tuple #[.int .i64 a,.int .i64 f])) b:=by
 unfold Qw;rw[h];exact⟨rfl,hr,c⟩
theorem Xt (s:ByteArray)(p:Nat)(h:p+1<=8*s.size):∃t:Nat,AD s.data.toList p 1=t/\(t=0\/t=1)/\((AA s.data.toList).drop p).take 1=[UInt8.ofNat (48+t)]:=by
 obtain⟨hn,hd⟩:=P6 s.data.toList p 0 h;have a:=EA s.data.toList p 1;have a:AD s.data.toList p 1<2:=a;have b:AD s.data.toList p (0+1)=AD s.data.toList p 1:=rfl;rw[b] at hd;have c:((AA s.data.toList).drop p).take 1=[((AA s.data.toList).drop p)[0]]:=by
  rw[Bd hn];rfl
 rcases hd with ⟨h1,h2⟩|⟨h1,h2⟩
 ·have ht:AD s.data.toList p 1=0:=by omega
  exact⟨0,ht,.inl rfl,by rw[c,h1];rfl⟩
 ·have ht:AD s.data.toList p 1=1:=by omega
  exact⟨1,ht,.inr rfl,by rw[c,h1];rfl⟩
theorem jK (intra:Bool)(c:UInt8):∀x∈FI intra [c] 16,x.1.size<=maxLen/\(Lit.int .i64 x.2).wf=true:=fun x a=>by
 rw[Pw] at a;have hm:=(Js.1 a).1;have h:=(GI (Ta intra x hm)).2.1;have e:(AC x).length=x.1.size:=rfl;refine⟨?_,ZM intra x hm⟩;unfold maxLen;omega
theorem sQ {l ds:List (ByteArray×Int)}(h:mkP l)(a:ds.Perm l):BY (ds.map AC)/\∀x∈ds,BM (AC x)=true:=
 ⟨(NV (a.map AC)).2 h.2.2.2.1,fun x b=>h.2.2.1 x (a.mem_iff.1 b)⟩
set_option maxRecDepth 100000 in
theorem eZ (intra:Bool)(w:A5)(rb:Nat)(s:ByteArray)(p:Nat)(A:IK w)(hr:AG w rb s p):
  A9 prog 227 #[.pointer (some ⟨rb,0,none⟩),.bool intra] w (Qw intra s rb p w):=by
 obtain⟨P,j⟩:=Ai ((AA s.data.toList).drop p);have E:P.length=8*s.size-p:=by rw[<-j,Bj,BB];rfl
 have ai:=hr.2.1;have ae:=hr.lt;have G:=Dl j;by_cases R:8*s.size<p+1
 ·have g:ask s.data.toList p 1=(0,2):=FG (by omega) (by have:s.data.toList.length=s.size:=rfl;omega);have F:=Dl (W2 intra (b:=P) (n:=0) (f:=2) (by
   cases P with
   |nil=>rfl
   |cons a l=>simp at E;omega) (by decide))
  clear R E j
  go_enter func227,ntmps227
  go_wp2_with fail
  refine(FD _ _ _ _ 1 hr).mono ?_;rintro e w1 ⟨rfl,c⟩;rw[g];have u:=hr.below c;have aa:w.grownBy w1 (some rb):=⟨c.os,c.tape,c.output,c.size,fun k r _=>c.block k r⟩
  go_wp2
  go_ret2
  exact Ze (n:=0) (by rw[G.out];exact F.out) u aa
 obtain⟨t,ht,H,c⟩:=Xt s p (by omega);have g:ask s.data.toList p 1=((t:Int),0):=by
  have:=E7 (l:=s.data.toList) (p:=p) (n:=1) (by omega) (by have:s.data.toList.length=s.size:=rfl;omega);rw[this,show (1:Int).toNat=1 from rfl,ht]
 rw[j] at c;have hc:UInt8.ofNat (48+t)=48\/UInt8.ofNat (48+t)=49:=by rcases H with rfl|rfl <;> simp
 obtain⟨L,Z⟩:=Ai (FI intra [UInt8.ofNat (48+t)] 16);have I:=tT intra hc;have m:=jK intra (UInt8.ofNat (48+t));have S:=S9 intra [UInt8.ofNat (48+t)] 16;have T:=fun(ds:List (ByteArray×Int)) (A:ds.Perm L)=>xX intra c (ds:=ds) (by rw[Z];exact A);have U:∀x∈L,x∈DF intra:=fun x Q=>by
  rw[<-Z,Pw] at Q;exact(Js.1 Q).1
 have B:=fun x Q=>fQ intra t H x Q;rw[Z] at I m S B;have af:=Dl I;have aj:=Dl T;have ab:=Dl U;clear I T U Z c hc ht H R E j
 go_enter func227,ntmps227
 go_wp2_with fail
 refine(FD _ _ _ _ 1 hr).mono ?_;rintro e w1 ⟨rfl,c⟩;rw[g];have u:=hr.below c;have V:=A.below c
 go_wp2_with fail
 refine(B _ V).mono ?_;rintro e w2 ⟨v,rfl,C,J⟩;obtain⟨q,cap,rfl,D⟩:=V3 C;have K:=u.below J;have o:Below w.heap.size w w2:=c.trans (J.mono c.size);have W:rb<w2.heap.size:=K.lt;clear C J u c hr g V A
 go_wp2_with fail
 refine(sS L q cap _ D (by unfold maxLen;omega) m).mono ?_;rintro e w3 ⟨hy,_,M⟩;obtain⟨tb,ds,rfl,ht,A,hs⟩:=hy af.out;obtain⟨hf,ho⟩:=sQ af.out A;have X:=K.below M;have d:Below w.heap.size w w3:=o.trans (M.mono o.size);have ak:=Dl hs;have al:=Dl hf;have am:=Dl ho;have ag:=Dl A;have an:=Dl ht;clear hy hs hf ho A ht K M o D m S
 go_wp2_with fail
 refine(pK _ _ _ tb rb ds _ s p an.out X (.inl W) ak.out al.out am.out).mono ?_;rintro e w4 ⟨v,rfl,y,z,N,i⟩;rw[G.out,aj.out ds ag.out] at y z N ⊢;obtain⟨f,n,r⟩:∃f n,tk ((DF intra).map AC) P 25 1=(f,n):=⟨_,_,rfl⟩;rw[r] at y z N ⊢;have O:=R6 ((DF intra).map AC) P 25 1;rw[r] at O;have Y:w.grownBy w4 (some rb):=by
  refine⟨i.os.trans d.os,i.tape.trans d.tape,i.output.trans d.output,Ea d.size i.size,fun k r hn=>?_⟩;exact(i.block k (Bg r d.size) hn).trans (d.block k r)
 have ah:ptk intra P=(v,f,n):=by
  by_cases h0:f=0
  ·subst h0;obtain⟨x,Q,ac,ad⟩:=y rfl;rw[Zx intra r (ab.out x (ag.out.mem_iff.1 Q)) ac,ad]
  ·obtain rfl:=z h0;have hn:n=0:=by
    rcases O with h|h|h
    ·exact absurd h h0
    ·exact h.2
    ·exact h.2
   rw[W2 intra r h0,hn]
 have F:=Dl ah;clear ah r y z i X d O
 go_wp2
 go_ret2
 exact Ze (by rw[G.out];exact F.out) N Y
end
end Go.Proofs.YtjjmalchelniiaaGreatDoor
