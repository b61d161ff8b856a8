/- StripsWrites, 34. No condition. -/
import Derived.Test.YtjjmalchelniiaaGreatDoorStripsWritesMg
import Derived.Test.YtjjmalchelniiaaGreatDoorStripsWritesMm
import Derived.Test.YtjjmalchelniiaaGreatDoorStripsWritesMbb
import Derived.Test.YtjjmalchelniiaaGreatDoorStripsWritesMbe
import Derived.Test.YtjjmalchelniiaaGreatDoorStripsWritesMbg
open Go.Proofs.Tryz
open Go renaming World->A5,Value->A0,Calls->A9
set_option maxHeartbeats 16000000
namespace Go.Proofs.YtjjmalchelniiaaGreatDoor
section
open Go.RowKit Go.Maps Go.Sort
abbrev Ms:=@underlying283
def FB (l:List (ByteArray×Int)):Nat:=l.foldl (fun a x=>max a x.1.size) 0
theorem xR (l:List (ByteArray×Int))(j:Nat)(h:j<l.length):FB (l.take (j+1))=max (FB (l.take j)) l[j].1.size:=by
 unfold FB;rw[Be h,Kt]
 rfl
def mkP (l:List (ByteArray×Int)):Prop:=1<=l.length/\l.length<=256/\(∀x∈l,BX (AC x)=true)/\CH (l.map AC)/\(l.map (·.2)).Nodup
def V6 (l:List (ByteArray×Int))(w:A5)(e:Ending)(a:A5):Prop:=
 (mkP l->∃b ds,e=.returned (.tuple #[.pointer (some ⟨b,0,none⟩),.int .i64 0])/\TP a w.heap.size a.heap.size b ds (FB l:Nat)/\ds.Perm l/\ds.Pairwise fun x y=>leL (AC x) (AC y)=true)/\
 (¬ mkP l->e=.returned (.tuple #[.pointer none,.int .i64 1]))/\Below w.heap.size w a
theorem PT {l:List (ByteArray×Int)}{w a:A5}(h:¬ mkP l)(b:Below w.heap.size w a):V6 l w (.returned (.tuple #[.pointer none,.int .i64 1])) a:=
 ⟨fun hm=>absurd hm h,fun _=>rfl,b⟩
def T5 (w:A5)(n:Nat)(D2:List A0)(t4:A0)(x:A5):Prop:=
 ∃(a b:Nat) (q:Option Addr) (cap:Nat),t4=.pointer (some ⟨a,0,none⟩)/\x.heap[a]? =some (IT (some b) q n cap 0)/\x.ownsMap prog 3 (plainElem prog 9) b 0 (.map []:DataW Unit)/\x.ownsRow w.heap.size 286 2 (.slice q n cap) n D2/\Below w.heap.size w x/\w.heap.size<=a/\w.heap.size<=b
theorem gQ {w:A5}{b o:Nat}{l:List (ByteArray×Int)}(h:Cds w (some ⟨b,o,none⟩) l):∀j u,(DN l)[j]? =some u->w.cell? ⟨b,o+j,none⟩=some u:=by
 intro j u a;have hj:j<l.length*2:=by
  have:=(Mo.1 a).1;rwa [Xv] at this
 obtain⟨g,i,e,_,hc⟩:=h.at (by omega);cases e;have hi:j / 2<l.length:=by omega
 obtain⟨c,d⟩:=R8 l (j / 2) hi;obtain⟨f,c1⟩:=hc (j / 2) hi;rcases (by omega:j=j / 2*2\/j=j / 2*2+1) with e|e
 ·rw[e] at a ⊢;rw[c] at a;cases a;exact f
 ·rw[e] at a ⊢;rw[d] at a;cases a;exact c1
theorem Xd {w:A5}{base a e size n:Nat}{v:A0}{c:List A0}(h:w.ownsRow base e size v n c)(d:a<=base):w.ownsRow a e size v n c:=by
 refine⟨h.1,?_⟩;rcases h.2 with h|⟨g,cap,b,h1,h2,h3⟩
 ·exact .inl h
 ·exact .inr ⟨g,cap,b,h1,Eg d h2,h3⟩
theorem Y3j {w:A5}{base cb cap:Nat}{l:List (ByteArray×Int)}(h:w.ownsRow base 286 2 (.slice (some ⟨cb,0,none⟩) l.length cap) l.length (DN l)):HoldsK GO 2 w cb 0 l.toArray:=by
 intro j hj;rw[size_flatK,Cj] at hj;have hi:j / 2<l.length:=by omega
 have b:w.frozen? ⟨cb,0+j,none⟩=false:=by
  rcases h.2 with ⟨h1,_⟩|⟨g,d,c,h1,_,f,_⟩
  ·cases h1
  ·cases h1;exact Ex w cb _ c _ f
 refine⟨?_,b⟩;have a:l.toArray[j / 2]! =l[j / 2]:=by rw[Mj _ (j / 2) (by simpa using hi)];simp
 rw[get_flatK _ _ _ _ (by simpa using hj),a];obtain⟨i,k⟩:=R8 l (j / 2) hi;rcases (by omega:j%2=0\/j%2=1) with e|e
 ·have:=Dm (g:=cb) h rfl (j / 2*2) _ i;rw[Kr,show 0+j / 2*2=0+j by omega] at this;rw[this,e];rfl
 ·have:=Dm (g:=cb) h rfl (j / 2*2+1) _ k;rw[Kr,show 0+(j / 2*2+1)=0+j by omega] at this;rw[this,e];rfl
theorem bU {w:A5}{cb:Nat}{d:Array (ByteArray×Int)}(h:HoldsK GO 2 w cb 0 d)(c:cb<w.heap.size):Cds w (some ⟨cb,0,none⟩) d.toList:=by
 refine .inr ⟨cb,0,rfl,c,fun i hi=>?_⟩;have a:i<d.size:=by simpa using hi
 have b:d[i]! =d.toList[i]:=by rw[Mj d i a];simp
 have e:=(Mq h a (by decide:0<2)).1;have c1:=(Mq h a (by decide:1<2)).1;rw[b] at e c1;exact⟨e,c1⟩
theorem gG {w:A5}{g n:Nat}{os:Array Obj}(d:Array (ByteArray×Int)):w.grownBy (sortWorldK GO 2 w g 0 n d os) (some g):=by
 refine⟨rfl,rfl,rfl,Ml GO 2 w g 0 n d os,fun k b a=>?_⟩;unfold sortWorldK putRowK;rw[heap_grow_old _ _ (by simpa using b)];have:g≠k:=fun e=>a (by rw[e]);simp[putRow,mapBlock,Sort.ahead,Array.getElem?_modify,this]
theorem nM {d:Array (ByteArray×Int)}(h:SortedIn (ltOf N1) 0 d.size d):d.toList.Pairwise fun x y=>leL (AC x) (AC y)=true:=by
 rw[K9];intro i j hi hj b;have c:i<d.size:=by simpa using hi
 have a:j<d.size:=by simpa using hj
 have:=h i j (Ds _) b a;rw[Mj d i c,Mj d j a] at this;unfold ltOf N1 at this;rw[Pp] at this
 simpa using this
theorem yH {d a:Array (ByteArray×Int)}(h:PermIn 0 d.size d a):a.toList.Perm d.toList:=by
 have h1:=h.1;have h3:=h.2.2;have b:a.extract 0 d.size=a:=by rw[<-h1];simp
 have c:d.extract 0 d.size=d:=by simp
 rw[b,c] at h3;exact h3
theorem yM (base cb cap:Nat)(l:List (ByteArray×Int))(w:A5)(h:w.ownsRow base 286 2 (.slice (some ⟨cb,0,none⟩) l.length cap) l.length (DN l))(a:cb<w.heap.size)(hn:l.length<=256):
  A9 prog 250 #[.slice (some ⟨cb,0,none⟩) l.length cap,.func (.func 251) #[] #[]] w fun e g=>
   e=.returned (.tuple #[])/\∃ds:List (ByteArray×Int),ds.Perm l/\(ds.Pairwise fun x y=>leL (AC x) (AC y)=true)/\Cds g (some ⟨cb,0,none⟩) ds/\w.grownBy g (some cb):=by
 have i:=Y3j h;have hs:=sZ cb 0 cap l.toArray w i a (by simp;omega);rw[Cj] at hs;refine hs.mono ?_;rintro e k ⟨rfl,c,n,os,j,d,rfl⟩;have b:PermIn 0 l.toArray.size l.toArray c:=j;have f:c.size=l.length:=b.1;refine⟨rfl,c.toList,yH b,nM (by rw[f];exact d),?_,gG c⟩
 exact bU (holdsK_sortWorldK_c GO 2 w cb 0 l.toArray c n os i a b.1) (Bg a (Ml GO 2 w cb 0 n c os))
theorem X8 {w:A5}{b c n:Nat}{cs:Array A0}{T:TypeId}{e:Nat×Nat}{D:DataW Unit}(h:w.heap[b]? =some (.cells cs T e))(ho:w.ownsMap prog 3 (plainElem prog 9) c n D):b≠c:=by
 rintro rfl;obtain⟨f,a,d,_⟩:=ho;rw[h] at d;cases d
theorem XZ {w:A5}{base e size n:Nat}{v:A0}{a:List A0}(h:w.ownsRow base e size v n a):w.drew.ownsRow base e size v n a:=h
theorem QM {w:A5}{base e size n:Nat}{v:A0}{f:List A0}(h:w.ownsRow base e size v n f){b:Nat}{o:Obj}(a:w.heap[b]? =some o)(c:∀cs,o≠.cells cs e (0,0)):v.ownBlock=none\/v.ownBlock≠some b:=by
 rcases h.2 with ⟨rfl,_⟩|⟨g,cap,i,rfl,_,j,_⟩
 ·exact .inl rfl
 ·right
  intro d;injection d with d;obtain rfl:g=b:=d;rw[j] at a;injection a with a;exact c _ a.symm
theorem uJ (b o c:Nat)(l:List (ByteArray×Int))(w:A5)(hn:l.length<=256)(hc:∀j u,(DN l)[j]? =some u->w.cell? ⟨b,o+j,none⟩=some u):
  A9 prog 248 #[.slice (some ⟨b,o,none⟩) l.length c] w fun e d=>∃q cap,e=.returned (.slice q l.length cap)/\d.ownsRow w.heap.size 286 2 (.slice q l.length cap) l.length (DN l)/\Below w.heap.size w d:=by
 refine(Qcp b o l.length c (DN l) w (Xv l) (by omega) hc (Ywa l)).mono ?_;rintro e g ⟨v,rfl,a,_,f⟩;obtain⟨q,cap,rfl,_⟩:=VE a;exact⟨q,cap,rfl,a,f⟩
theorem rI {ds:List (ByteArray×Int)}(hs:ds.Pairwise fun x y=>leL (AC x) (AC y)=true):(∃i,∃h:i+1<ds.length,(AC ds[i]).isPrefixOf (AC ds[i+1])=true)↔¬ CH (ds.map AC):=by
 constructor
 ·rintro⟨i,h,a⟩ b;have:=PF.1 b i (i+1) (by simp;omega) (by simpa using h) (by omega);rw[Kq,Kq,a] at this;cases this
 ·intro b;apply Mi;intro c;apply b;refine Tc (by rw[List.pairwise_map];exact hs) fun i hi=>?_;rw[Kq,Kq];cases a:(AC (ds[i]'(by simp at hi;omega))).isPrefixOf (AC (ds[i+1]'(by simpa using hi))) with
  |false=>rfl
  |true=>exact absurd ⟨i,by simpa using hi,a⟩ c
theorem Y3w (ds:List (ByteArray×Int))(n:Nat)(hn:ds.length=n)(p:Option Addr)(cap:Nat)(w:A5)(r:Bool)(hs:ds.Pairwise fun x y=>leL (AC x) (AC y)=true)(hr:r=true↔¬ CH (ds.map AC))(hc:Cds w p ds)(hm:n<=256):
  A9 prog 253 #[.slice p n cap] w fun e a=>e=.returned (.bool r)/\Below w.heap.size w a:=by
 subst hn;exact Y3u ds p cap w r (hr.trans (rI hs).symm) hc (by omega)
theorem cV (w:A5)(n:Int):(Instr.makeMap 283 (some (.int .i64 n))).run prog w=.ok (.map (some w.heap.size)) (w.alloc (.map #[] 0)):=by
 simp[Instr.makeMap,run_underlying underlying283,asInt,asIntOf,Result.andThen]
set_option maxRecDepth 100000 in
theorem rF (l:List (ByteArray×Int))(p:Option Addr)(cap:Nat)(w:A5)(hc:Cds w p l)(hm:l.length<=maxLen)(hl:∀x∈l,x.1.size<=maxLen/\(Lit.int .i64 x.2).wf=true):
  A9 prog 238 #[.slice p l.length cap] w (V6 l w):=by
 unfold maxLen at hm;have bs:=Dp hl;clear hl;by_cases h0:l.length=0
 ·have F:=Dp (show ¬ mkP l from fun h=>by have:=h.1;omega);have t0:((l.length:Int)==0)=true:=by rw[Bm];omega
  clear h0
  go_enter func238,ntmps238
  go_wp2
  go_ret2
  exact PT F.out (Dq _ _)
 by_cases h1:256<l.length
 ·have F:=Dp (show ¬ mkP l from fun h=>by have:=h.2.1;omega);have t0:((l.length:Int)==0)=false:=by rw[Fg];omega
  have t1:decide (256<(l.length:Int))=true:=by simp;omega
  clear h0
  go_enter func238,ntmps238
  go_wp2
  go_ret2
  exact PT F.out (Dq _ _)
 obtain⟨b,o,rfl,aj,z⟩:=hc.at (by omega);have hE:∀x,Below w.heap.size w x->Cds x (some ⟨b,o,none⟩) l:=fun x hx=>hc.below hx;have bj:=Dp hE;have h2:l.length<=256:=by omega
 have h3:1<=l.length:=by omega
 have t0:((l.length:Int)==0)=false:=by rw[Fg];omega
 have t1:decide (256<(l.length:Int))=false:=by simp;omega
 have S:∀(x:A5),Below w.heap.size w x->∀j u,(DN l)[j]? =some u->x.cell? ⟨b,o+j,none⟩=some u:=fun x hx=>gQ (hE x hx);have a4:=Dp S;have a6:=fun(w:A5)=>cV w (l.length:Int);clear h0 h1 hE z S hc aj
 go_enter func238,ntmps238
 go_upto_region 3 with (fail)
 go_cut [4] from 15 to 21 (fun t4 x=>T5 w l.length (DN l) t4 x)
 case first=>
  go_wp2
  go_region_with (go_at_call 248;refine(uJ b o cap l _ h2 ?_).mono ?_;(intro j u hu;first|exact a4.out _ ((Dq _ _).drew) j u hu|exact a4.out _ (((Dq _ _).drew).alloc (Ba _) _) j u hu);rintro e m ⟨q,A,rfl,c,f⟩)
  ·have v:m.ownsMap prog 3 (plainElem prog 9) w.heap.size 0 (.map []:DataW Unit):=((Mk w _ _ _).drew).kept (BZ f none) (by simp);have J:Below w.heap.size w m:=(((Dq _ w).alloc (Ba _) _).drew).trans (f.mono (by simp));have bt:=f.size
   have d:T5 w l.length (DN l) (.pointer (some ⟨m.heap.size,0,none⟩)) (m.alloc (IT (some w.heap.size) q l.length A 0)):=
    ⟨m.heap.size,w.heap.size,q,A,rfl,heap_alloc_new m _,v.alloc _,(Xd c (by simp)).alloc _,J.alloc J.size _,J.size,Ba _⟩
   have ae:=Dp d;clear d v c f
   go_wp2
   go_meet
   case rel=>exact ae.out
  ·have J:Below w.heap.size w m:=((Dq _ w).drew).trans f;have d:T5 w l.length (DN l) (.pointer (some ⟨m.heap.size+1,0,none⟩)) ((m.alloc (.map #[] 0)).alloc (IT (some m.heap.size) q l.length A 0)):=
    ⟨m.heap.size+1,m.heap.size,q,A,rfl,by rw[show m.heap.size+1=(m.alloc (.map #[] 0)).heap.size by simp];exact heap_alloc_new _ _,(Mk m _ _ _).alloc _,((Xd c (by simp)).alloc _).alloc _,(J.alloc J.size _).alloc (by have:=J.size;simp;omega) _,by have:=J.size;omega,J.size⟩
   have ae:=Dp d;clear d c f
   go_wp2
   go_meet
   case rel=>exact ae.out
 case rest=>
  obtain⟨s,E,q,A,rfl,y,v,c,Q,au,a7⟩:=hcut;obtain⟨B,hB⟩:=Ah w.heap.size;rw[hB] at bj a4 c Q au a7;have af:=Dp hB;clear hB a6 a4
  go_wp2
  go_loopw [24] (fun i wr=>∃j:Nat,j<=l.length/\i=.int .i64 j/\wr.heap[s]? =some (IT (some E) q l.length A (FB (l.take j):Nat))/\wr.ownsMap prog 3 (plainElem prog 9) E j (JI (l.take j))/\wr.ownsRow B 286 2 (.slice q l.length A) l.length (DN l)/\Below B w wr/\Hid (∀a,(h:a<l.length)->a<j->BX (AC l[a])=true)) (fun i _=>l.length-(intOf i).toNat)
  case atStart=>exact⟨0,Ds _,rfl,y,v,c,Q,Dp (fun a _ h=>absurd h (Fk a))⟩
  case round=>
   clear y v c Q;obtain⟨j,hj,rfl,y,v,c,Q,ap⟩:=hrel;by_cases T:j<l.length
   ·obtain⟨b',o',e,aj,z⟩:=(bj.out wr Q).at (by omega);cases e;obtain⟨c0,c1⟩:=z j T;obtain⟨aq,av⟩:=bs.out l[j] (Bn T);have bk:=Dp (oN l j T);have bl:=Dp (xR l j T);obtain⟨x,hx⟩:=Ah (l[j]);rw[hx] at c0 c1 aq av bk bl;have bn:=Dp hx;clear hx z
    go_wp2_with fail
    refine(Y1k x.1 aq _).mono ?_;rintro e m ⟨rfl,f⟩;have ag:wr.grownBy m none:=AR (Mm wr _ none) (BZ f none);have t:m.heap[s]? =some (IT (some E) q l.length A (FB (l.take j):Nat)):=(ag.block s (Ed.1 y).1 (by simp)).trans y;have G:=v.kept ag (by simp)
    have U:=c.kept ag (by cases hv:(Value.slice q l.length A).ownBlock <;> simp);have V:Below B w m:=(Q.alloc (by have:=Q.size;rw[af.out] at this;exact this) _).trans (f.mono (by have:=Q.size;rw[af.out] at this;simp;omega));have ah:m.heap[wr.heap.size]? =some (.cells [.string x.1,.int .i64 x.2].toArray 286 (0,0)):=(f.block wr.heap.size (by simp)).trans (heap_alloc_new wr _)
    have v0:m.cell? ⟨wr.heap.size,0,none⟩=some (.string x.1):=AA ah rfl;have v1:m.cell? ⟨wr.heap.size,1,none⟩=some (.int .i64 x.2):=AA ah rfl;clear ag f y v c Q c0 c1;cases hk:BX x.1.data.toList with
    |false=>
     have F:=Dp (show ¬ mkP l from fun h=>by
      have:=h.2.2.1 x (by rw[<-bn.out];exact Bn T);rw[show BX (AC x)=BX x.1.data.toList from rfl,hk] at this;cases this)
     clear hk
     go_wp2
     go_ret2
     exact PT F.out (by rw[af.out];exact V)
    |true=>
     have a8:Hid (∀a,(h:a<l.length)->a<j+1->BX (AC l[a])=true):=Dp (fun a ha h=>by
      by_cases e:a=j
      ·subst e;rw[bn.out];exact hk
      ·exact ap.out a ha (by omega))
     clear hk ap;have t40:m.cell? ⟨s,0,none⟩=some (.map (some E)):=AA t rfl
     go_wp2_with fail
     go_still_tail 8,(by kernel_rfl)
     change wpList _ _ _ _ _ m.drew;have H:m.drew.heap[s]? =some (IT (some E) q l.length A (FB (l.take j):Nat)):=t;have I:=G.drew;have C:=XZ U;have O:Below B w m.drew:=V.drew;have K:m.drew.heap[wr.heap.size]? =some (.cells [.string x.1,.int .i64 x.2].toArray 286 (0,0)):=ah;generalize m.drew=x0 at H I C O K ⊢
     clear t G U V ah v0 v1 t40;have ak:=X8 H I;have aw:=X8 K I;have ax:∀es D,x0.heap[E]? =some (.map es D)->(Value.slice q l.length A).ownBlock=none\/(Value.slice q l.length A).ownBlock≠some E:=fun es D h=>QM C h (fun cs=>by simp);obtain⟨es,D,W,_⟩:=id I;have L:=ax es D W
     have M:=QM C H (fun cs=>by unfold IT;intro e;injection e with _ e;exact absurd e (by decide));have a9:=Dp L;have ba:=Dp M;have bu:wr.heap.size<x0.heap.size:=(Ed.1 K).1;have bv:s<x0.heap.size:=(Ed.1 H).1;clear ax W L M
     go_wp2_with (at_mapUpdate;refine wpList_mapUpdate_own _ rfl _ _ _ 283 rfl 3 9 oD Ms _ E j (JI (l.take j)) rfl I (by unfold maxLen;omega) _ _ (LD x) rfl rfl (keyOf_int_mk Ji av) (LL x) [] (plainElem_string Dx aq) ?_;intro w2 al X;have Y:w2.heap[s]? =some (IT (some E) q l.length A (FB (l.take j):Nat)):=(X.block s bv (by intro e;injection e with e;exact ak e)).trans H;have am:w2.heap[wr.heap.size]? =some (.cells [.string x.1,.int .i64 x.2].toArray 286 (0,0)):=(X.block _ bu (by intro e;injection e with e;exact aw e)).trans K;have Z:=C.kept X a9.out;have N:Below B w w2:=O.grown X (by have:=O.size;rw[af.out] at this;exact this) (by intro k hk;injection hk with hk;omega);clear I X H K C O)
     have v0:w2.cell? ⟨wr.heap.size,0,none⟩=some (.string x.1):=AA am rfl;have t2:w2.cell? ⟨s,2,none⟩=some (.int .i64 (FB (l.take j):Nat)):=AA Y rfl
     go_still_tail 11,(by kernel_rfl)
     change wpList _ _ _ _ _ w2.drew;have P:w2.drew.heap[s]? =some (IT (some E) q l.length A (FB (l.take j):Nat)):=Y;have an:=al.drew;have aa:=XZ Z;have ao:Below B w w2.drew:=N.drew;generalize w2.drew=x1 at P an aa ao ⊢;clear Y al Z N am v0 t2;have tf:=AZ (o:=2) P
     have t2:x1.cell? ⟨s,2,none⟩=some (.int .i64 (FB (l.take j):Nat)):=AA P rfl;have d:(x1.setCell ⟨s,2,none⟩ (.int .i64 (max ((FB (l.take j):Nat):Int) (x.1.size:Int)))).heap[s]? =some (IT (some E) q l.length A (FB (l.take (j+1)):Nat))/\
       (x1.setCell ⟨s,2,none⟩ (.int .i64 (max ((FB (l.take j):Nat):Int) (x.1.size:Int)))).ownsMap prog 3 (plainElem prog 9) E (j+1) (JI (l.take (j+1)))/\
       (x1.setCell ⟨s,2,none⟩ (.int .i64 (max ((FB (l.take j):Nat):Int) (x.1.size:Int)))).ownsRow B 286 2 (.slice q l.length A) l.length (DN l)/\
       Below B w (x1.setCell ⟨s,2,none⟩ (.int .i64 (max ((FB (l.take j):Nat):Int) (x.1.size:Int)))):=by
      have hg:=DM x1 ⟨s,2,none⟩ (.int .i64 (max ((FB (l.take j):Nat):Int) (x.1.size:Int)));refine⟨?_,?_,aa.kept hg ba.out,ao.setCell au _⟩
      ·rw[bl.out,show ((max (FB (l.take j)) x.1.size:Nat):Int)=max ((FB (l.take j):Nat):Int) (x.1.size:Int) by omega];exact BF (o:=2) _ P
      ·rw[bk.out];exact an.setCell (Ne.symm ak) _
     have ae:=Dp d;clear d
     go_wp2_with fail
     go_roundw
     case rel=>exact⟨j+1,by omega,by go_num,ae.out.1,ae.out.2.1,ae.out.2.2.1,ae.out.2.2.2,a8⟩
     case measure=>simp[intOf];omega
   ·obtain rfl:j=l.length:=by omega
    rw[Js] at y v;obtain⟨cb,rfl,ai⟩:∃cb,q=some ⟨cb,0,none⟩/\cb<wr.heap.size/\B<=cb/\l.length<=A/\A<=maxLen:=by
     rcases c.2 with ⟨_,h⟩|⟨g,bo,bw,h1,h2,hg,h4,h5,_⟩
     ·omega
     ·cases h1;exact⟨g,rfl,(Ed.1 hg).1,h2,h4,h5⟩
    have M:=QM c y (fun cs=>by unfold IT;intro e;injection e with _ e;exact absurd e (by decide));obtain⟨es,D,W,_⟩:=id v;have L:=QM c W (fun cs=>by simp);have bb:cb≠s:=by
     rcases M with h|h
     ·cases h
     ·exact fun e=>h (by rw[e];rfl)
    have bc:cb≠E:=by
     rcases L with h|h
     ·cases h
     ·exact fun e=>h (by rw[e];rfl)
    have c1:wr.cell? ⟨s,1,none⟩=some (.slice (some ⟨cb,0,none⟩) l.length A):=AA y rfl;obtain⟨ai,bd,bf,ay⟩:=ai;clear W L M
    go_wp2_with fail
    refine(yM B cb A l _ c ai h2).mono ?_;rintro e x2 ⟨rfl,ds,hp,az,a0,hg⟩;have t:x2.heap[s]? =some (IT (some E) (some ⟨cb,0,none⟩) l.length A (FB l:Nat)):=(hg.block s (Ed.1 y).1 (by intro e;injection e with e;exact bb e.symm)).trans y;have G:=v.kept hg (by intro e;injection e with e;exact bc e.symm)
    have f:Below B w x2:=Q.grown hg (by have:=Q.size;rw[af.out] at this;exact this) (by intro k hk;injection hk with hk;omega);have a1:ds.length=l.length:=hp.length_eq;have a2:cb<x2.heap.size:=Bg ai hg.size;have c0:x2.cell? ⟨s,0,none⟩=some (.map (some E)):=AA t rfl;have c1:x2.cell? ⟨s,1,none⟩=some (.slice (some ⟨cb,0,none⟩) l.length A):=AA t rfl
    obtain⟨a3,ab⟩:=nF l;obtain⟨n,hn⟩:=Ah (size (JI l));rw[hn] at a3 ab;have bp:=Dp hn;have bg:=Dp ab;have a5:=Dp hp;have bq:=Dp az;have bh:=Dp a1;clear y v c Q hg hn ab hp az a1;by_cases ar:n<l.length
    ·have F:=Dp (show ¬ mkP l from fun h=>by have:=bg.out.2 h.2.2.2.2;omega);have d0:decide (n<l.length)=true:=by simpa using ar
     have d1:decide ((n:Int)<(l.length:Int))=true:=by simp;omega
     clear ar
     go_wp2_with (at_len;refine Mn _ rfl _ 283 rfl 3 9 Ms _ E l.length (JI l) rfl G ?_;rw[bp.out])
     go_ret2
     exact PT F.out (by rw[af.out];exact f)
    ·obtain rfl:n=l.length:=by omega
     have br:=Dp (bg.out.1 rfl);clear bg;have d0:decide (l.length<l.length)=false:=by simp
     have d1:decide ((l.length:Int)<(l.length:Int))=false:=by simp
     have bi:∃r:Bool,r=true↔¬ CH (ds.map AC):=by
      by_cases h:CH (ds.map AC)
      ·exact⟨false,by simp[h]⟩
      ·exact⟨true,by simp[h]⟩
     obtain⟨r,hr⟩:=bi;have R:=Dp hr;have ac:∀x∈l,BX (AC x)=true:=fun x hx=>by
      obtain⟨i,hi,rfl⟩:=Jv hx;exact ap.out i hi hi
     have bx:=Dp ac;clear ar hr ac
     go_wp2_with (at_len;refine Mn _ rfl _ 283 rfl 3 9 Ms _ E l.length (JI l) rfl G ?_;rw[bp.out])
     refine(Y3w ds l.length bh.out _ A _ r bq.out R.out a0 h2).mono ?_;rintro e x3 ⟨rfl,ad⟩;have N:Below B w x3:=f.trans (ad.mono (by have:=f.size;rw[af.out] at this;exact this));cases r with
     |true=>
      have F:=Dp (show ¬ mkP l from fun h=>R.out.1 rfl ((OU (a5.out.map AC)).2 h.2.2.2.1))
      go_wp2
      go_ret2
      exact PT F.out (by rw[af.out];exact N)
     |false=>
      have d:TP x3 B x3.heap.size s ds (FB l:Nat):=by
       refine⟨some E,some ⟨cb,0,none⟩,A,?_,?_,ay,a0.below ad,?_,?_⟩
       ·rw[bh.out];exact(ad.block s (Ed.1 t).1).trans t
       ·rw[bh.out];exact bf
       ·exact(show PL x2 (some E) ds from .inr ⟨E,l.length,l,rfl,G,br.out,a5.out.symm⟩).below ad
       ·intro a ha;cases ha;exact⟨bd,Bg a2 ad.size⟩
      have ae:=Dp d
      go_wp2
      go_ret2
      exact⟨fun _=>⟨s,ds,rfl,by rw[af.out];exact ae.out,a5.out,bq.out⟩,fun hn=>absurd ⟨h3,h2,bx.out,(OU (a5.out.map AC)).1 (Mi fun hf=>by have:=R.out.2 hf;cases this),br.out⟩ hn,by rw[af.out];exact N⟩
end
section
def DO (intra:Bool):List (ByteArray×Int):=(List.range 16).map (JN intra)
def ptk (intra:Bool)(b:List UInt8):Int×Int×Nat:=
 if (tk ((DO intra).map AC) b 25 1).1=0 then
  match (DO intra).find? (fun x=>AC x==b.take (tk ((DO intra).map AC) b 25 1).2) with
  |some x=>(x.2,0,(tk ((DO intra).map AC) b 25 1).2)
  |none=>(0,0,0)
 else (0,(tk ((DO intra).map AC) b 25 1).1,0)
theorem UD (intra:Bool):CH ((DO intra).map AC):=by
 cases intra <;> (unfold CH;decide +kernel)
theorem RU (intra:Bool):∀x∈DO intra,BX (AC x)=true:=by
 cases intra <;> decide +kernel
theorem iQ (intra:Bool):∀x∈DO intra,(Lit.int .i64 x.2).wf=true:=by
 cases intra <;> decide +kernel
theorem rW (intra:Bool){i:Nat}(h:i<16):JN intra i∈DO intra:=Ko (Bt.2 h)
theorem PE (intra:Bool)(q:List UInt8):FO intra q 16=(DO intra).filter fun x=>q.isPrefixOf (AC x):=rfl
theorem fH (intra:Bool){c:UInt8}(hc:c=48\/c=49):mkP (FO intra [c] 16):=by
 have b:CH ((FO intra [c] 16).map AC):=by
  rw[PE];exact(UD intra).sublist ((List.filter_sublist).map AC)
 have ho:∀x∈FO intra [c] 16,BX (AC x)=true:=fun x a=>by
  rw[PE] at a;exact RU intra x (Jp.1 a).1
 refine⟨?_,Eg (Sb intra [c] 16) (by omega),ho,b,?_⟩
 ·rcases hc with rfl|rfl <;> cases intra <;> decide +kernel
 ·rcases hc with rfl|rfl <;> cases intra <;> decide +kernel
theorem jO (intra:Bool){b:List UInt8}{c:UInt8}(h:b.take 1=[c]){ds:List (ByteArray×Int)}(d:ds.Perm (FO intra [c] 16)):tk (ds.map AC) b 25 1=tk ((DO intra).map AC) b 25 1:=by
 have hl:1<=b.length:=by
  cases b with
  |nil=>cases h
  |cons a l=>simp
 rw[T8 (d.map AC),Sf ((DO intra).map AC) b hl 25 1 (Ba _),PE,List.filter_map,h]
 rfl
theorem uB (intra:Bool){x y:ByteArray×Int}(b:x∈DO intra)(c:y∈DO intra)(h:AC x=AC y):x=y:=by
 obtain⟨i,hi,rfl⟩:=Jv b;obtain⟨j,hj,rfl⟩:=Jv c;by_cases a:i=j
 ·subst a;rfl
 ·exfalso;have:=PF.1 (UD intra) i j (by simpa using hi) (by simpa using hj) a;rw[Kq,Kq,h,JO] at this;cases this
theorem lX (intra:Bool){x:ByteArray×Int}(a:x∈DO intra){q:List UInt8}(b:AC x=q):(DO intra).find? (fun y=>AC y==q)=some x:=by
 cases h:(DO intra).find? (fun y=>AC y==q) with
 |none=>
  have:=Ku.1 h x a;rw[b] at this;simp at this
 |some y=>
  have h1:=Kx h;have h2:=Ks h;rw[uB intra h2 a (by rw[b];simpa using h1)]
theorem XQ (intra:Bool){b:List UInt8}{n:Nat}{x:ByteArray×Int}(ht:tk ((DO intra).map AC) b 25 1=(0,n))(a:x∈DO intra)(c:AC x=b.take n):
  ptk intra b=(x.2,0,n):=by
 unfold ptk;rw[ht,Bc rfl,lX intra a c]
theorem YE (intra:Bool){b:List UInt8}{n:Nat}{f:Int}(ht:tk ((DO intra).map AC) b 25 1=(f,n))(a:f≠0):ptk intra b=(0,f,0):=by
 unfold ptk;rw[ht,Bb a]
end
section
open Go.RowKit Go.Lib
def Q4 (intra:Bool)(s:ByteArray)(rb p:Nat)(w:A5)(e:Ending)(a:A5):Prop:=
 e=.returned (.tuple #[.int .i64 (ptk intra ((A2 s.data.toList).drop p)).1,.int .i64 (ptk intra ((A2 s.data.toList).drop p)).2.1])/\
  AI a rb s (p+(ptk intra ((A2 s.data.toList).drop p)).2.2)/\w.grownBy a (some rb)
theorem Zk {intra:Bool}{s:ByteArray}{rb p n:Nat}{w b:A5}{a f:Int}(h:ptk intra ((A2 s.data.toList).drop p)=(a,f,n))(hr:AI b rb s (p+n))(c:w.grownBy b (some rb)):
  Q4 intra s rb p w (.returned (.tuple #[.int .i64 a,.int .i64 f])) b:=by
 unfold Q4;rw[h];exact⟨rfl,hr,c⟩
theorem Wj (s:ByteArray)(p:Nat)(h:p+1<=8*s.size):∃t:Nat,AE s.data.toList p 1=t/\(t=0\/t=1)/\((A2 s.data.toList).drop p).take 1=[UInt8.ofNat (48+t)]:=by
 obtain⟨hn,hd⟩:=P4 s.data.toList p 0 h;have a:=F1 s.data.toList p 1;have a:AE s.data.toList p 1<2:=a;have b:AE s.data.toList p (0+1)=AE s.data.toList p 1:=rfl;rw[b] at hd;have c:((A2 s.data.toList).drop p).take 1=[((A2 s.data.toList).drop p)[0]]:=by
  rw[Be hn];rfl
 rcases hd with ⟨h1,h2⟩|⟨h1,h2⟩
 ·have ht:AE s.data.toList p 1=0:=by omega
  exact⟨0,ht,.inl rfl,by rw[c,h1];rfl⟩
 ·have ht:AE s.data.toList p 1=1:=by omega
  exact⟨1,ht,.inr rfl,by rw[c,h1];rfl⟩
theorem wK (intra:Bool)(c:UInt8):∀x∈FO intra [c] 16,x.1.size<=maxLen/\(Lit.int .i64 x.2).wf=true:=fun x a=>by
 rw[PE] at a;have hm:=(Jp.1 a).1;have h:=(GK (RU intra x hm)).2.1;have e:(AC x).length=x.1.size:=rfl;refine⟨?_,iQ intra x hm⟩;unfold maxLen;omega
theorem tG {l ds:List (ByteArray×Int)}(h:mkP l)(a:ds.Perm l):CH (ds.map AC)/\∀x∈ds,BX (AC x)=true:=
 ⟨(OU (a.map AC)).2 h.2.2.2.1,fun x b=>h.2.2.1 x (a.mem_iff.1 b)⟩
set_option maxRecDepth 100000 in
theorem lK (intra:Bool)(w:A5)(rb:Nat)(s:ByteArray)(p:Nat)(A:JA w)(hr:AI w rb s p):
  A9 prog 227 #[.pointer (some ⟨rb,0,none⟩),.bool intra] w (Q4 intra s rb p w):=by
 obtain⟨P,j⟩:=Ah ((A2 s.data.toList).drop p);have E:P.length=8*s.size-p:=by rw[<-j,Bj,BO];rfl
 have ai:=hr.2.1;have ae:=hr.lt;have G:=Dp j;by_cases R:8*s.size<p+1
 ·have g:ask s.data.toList p 1=(0,2):=FM (by omega) (by have:s.data.toList.length=s.size:=rfl;omega);have F:=Dp (YE intra (b:=P) (n:=0) (f:=2) (by
   cases P with
   |nil=>rfl
   |cons a l=>simp at E;omega) (by decide))
  clear R E j
  go_enter func227,ntmps227
  go_wp2_with fail
  refine(FU _ _ _ _ 1 hr).mono ?_;rintro e w1 ⟨rfl,c⟩;rw[g];have u:=hr.below c;have aa:w.grownBy w1 (some rb):=⟨c.os,c.tape,c.output,c.size,fun k r _=>c.block k r⟩
  go_wp2
  go_ret2
  exact Zk (n:=0) (by rw[G.out];exact F.out) u aa
 obtain⟨t,ht,H,c⟩:=Wj s p (by omega);have g:ask s.data.toList p 1=((t:Int),0):=by
  have:=EL (l:=s.data.toList) (p:=p) (n:=1) (by omega) (by have:s.data.toList.length=s.size:=rfl;omega);rw[this,show (1:Int).toNat=1 from rfl,ht]
 rw[j] at c;have hc:UInt8.ofNat (48+t)=48\/UInt8.ofNat (48+t)=49:=by rcases H with rfl|rfl <;> simp
 obtain⟨L,Z⟩:=Ah (FO intra [UInt8.ofNat (48+t)] 16);have I:=fH intra hc;have m:=wK intra (UInt8.ofNat (48+t));have S:=Sb intra [UInt8.ofNat (48+t)] 16;have T:=fun(ds:List (ByteArray×Int)) (A:ds.Perm L)=>jO intra c (ds:=ds) (by rw[Z];exact A);have U:∀x∈L,x∈DO intra:=fun x Q=>by
  rw[<-Z,PE] at Q;exact(Jp.1 Q).1
 have B:=fun x Q=>Y2x intra t H x Q;rw[Z] at I m S B;have af:=Dp I;have aj:=Dp T;have ab:=Dp U;clear I T U Z c hc ht H R E j
 go_enter func227,ntmps227
 go_wp2_with fail
 refine(FU _ _ _ _ 1 hr).mono ?_;rintro e w1 ⟨rfl,c⟩;rw[g];have u:=hr.below c;have V:=A.below c
 go_wp2_with fail
 refine(B _ V).mono ?_;rintro e w2 ⟨v,rfl,C,J⟩;obtain⟨q,cap,rfl,D⟩:=VE C;have K:=u.below J;have o:Below w.heap.size w w2:=c.trans (J.mono c.size);have W:rb<w2.heap.size:=K.lt;clear C J u c hr g V A
 go_wp2_with fail
 refine(rF L q cap _ D (by unfold maxLen;omega) m).mono ?_;rintro e w3 ⟨hy,_,M⟩;obtain⟨tb,ds,rfl,ht,A,hs⟩:=hy af.out;obtain⟨hf,ho⟩:=tG af.out A;have X:=K.below M;have d:Below w.heap.size w w3:=o.trans (M.mono o.size);have ak:=Dp hs;have al:=Dp hf;have am:=Dp ho;have ag:=Dp A;have an:=Dp ht;clear hy hs hf ho A ht K M o D m S
 go_wp2_with fail
 refine(mM _ _ _ tb rb ds _ s p an.out X (.inl W) ak.out al.out am.out).mono ?_;rintro e w4 ⟨v,rfl,y,z,N,i⟩;rw[G.out,aj.out ds ag.out] at y z N ⊢;obtain⟨f,n,r⟩:∃f n,tk ((DO intra).map AC) P 25 1=(f,n):=⟨_,_,rfl⟩;rw[r] at y z N ⊢;have O:=Tz ((DO intra).map AC) P 25 1;rw[r] at O;have Y:w.grownBy w4 (some rb):=by
  refine⟨i.os.trans d.os,i.tape.trans d.tape,i.output.trans d.output,Eg d.size i.size,fun k r hn=>?_⟩;exact(i.block k (Bg r d.size) hn).trans (d.block k r)
 have ah:ptk intra P=(v,f,n):=by
  by_cases h0:f=0
  ·subst h0;obtain⟨x,Q,ac,ad⟩:=y rfl;rw[XQ intra r (ab.out x (ag.out.mem_iff.1 Q)) ac,ad]
  ·obtain rfl:=z h0;have hn:n=0:=by
    rcases O with h|h|h
    ·exact absurd h h0
    ·exact h.2
    ·exact h.2
   rw[YE intra r h0,hn]
 have F:=Dp ah;clear ah r y z i X d O
 go_wp2
 go_ret2
 exact Zk (by rw[G.out];exact F.out) N Y
end
end Go.Proofs.YtjjmalchelniiaaGreatDoor
