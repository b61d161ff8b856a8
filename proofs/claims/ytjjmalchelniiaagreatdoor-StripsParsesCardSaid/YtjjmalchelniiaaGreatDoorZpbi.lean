/- No condition. -/
import Derived.Test.YtjjmalchelniiaaGreatDoorZpd
import Derived.Test.YtjjmalchelniiaaGreatDoorZpg
import Derived.Test.YtjjmalchelniiaaGreatDoorZpm
import Derived.Test.YtjjmalchelniiaaGreatDoorZps
import Derived.Test.YtjjmalchelniiaaGreatDoorZpt
import Derived.Test.YtjjmalchelniiaaGreatDoorZpbc
import Derived.Test.YtjjmalchelniiaaGreatDoorZpbf
import Derived.Test.YtjjmalchelniiaaGreatDoorZpbh
open Go.Proofs.Tryz
open Go renaming World->A5,Value->A0,Calls->A9
set_option maxHeartbeats 16000000
namespace Go.Proofs.YtjjmalchelniiaaGreatDoor
section
open Go.RowKit Go.Maps Go.Sort
theorem Wek{p:Prop}(h:p:=by
 clear h0
 go_enter func238,ntmps238
 go_wp2
 go_ret2
 exact QW F.out (Dn _ _)):p:=h
theorem Wej{p:Prop}(h:p:=by
 go_enter func95,ntmps95
 go_wp2_with fail
 refine(Uv _).mono ?_;rintro e B ⟨rfl,d,a⟩
 go_wp2_with fail
 refine(c _ _ d).mono ?_;rintro e C ⟨j,rfl,b,_,g⟩;rw[v.out] at b ⊢;obtain⟨k,hv⟩:=A.out j (b rfl);have F:=Dm hv;have u:=a.trans (g.mono a.size);clear hv b d a g
 go_wp2
 go_ret3
 exact T2 F.out rfl u):p:=h
theorem yP{p:Prop}(h:p:=by unfold IN;intro e;injection e with _ e;exact absurd e (by decide)):p:=h
abbrev Na:=@underlying283
def F6 (l:List (ByteArray×Int)):Nat:=l.foldl (fun a x=>max a x.1.size) 0
theorem Qa8 (l:List (ByteArray×Int))(j:Nat)(h:j<l.length):F6 (l.take (j+1))=max (F6 (l.take j)) l[j].1.size:=by
 unfold F6;rw[Bd h,Mc]
 rfl
def mkP (l:List (ByteArray×Int)):Prop:=1<=l.length/\l.length<=256/\(∀x∈l,BW (rowC x)=true)/\CJ (l.map rowC)/\(l.map (·.2)).Nodup
def dD (l:List (ByteArray×Int))(w:A5)(e:Ending)(a:A5):Prop:=
 (mkP l->∃b ds,e=.returned (.tuple #[.pointer (some ⟨b,0,none⟩),.int .i64 0])/\Uk a w.heap.size a.heap.size b ds (F6 l:Nat)/\ds.Perm l/\ds.Pairwise fun x y=>leL (rowC x) (rowC y)=true)/\
 (¬ mkP l->e=.returned (.tuple #[.pointer none,.int .i64 1]))/\Below w.heap.size w a
theorem QW {l:List (ByteArray×Int)}{w a:A5}(h:¬ mkP l)(b:Below w.heap.size w a):dD l w (.returned (.tuple #[.pointer none,.int .i64 1])) a:=
 ⟨fun hm=>absurd hm h,fun _=>rfl,b⟩
def Wt (w:A5)(n:Nat)(D1:List A0)(t4:A0)(x:A5):Prop:=
 ∃(a b:Nat) (q:Option Addr) (cap:Nat),t4=.pointer (some ⟨a,0,none⟩)/\x.heap[a]? =some (IN (some b) q n cap 0)/\x.ownsMap prog 3 (plainElem prog 9) b 0 (.map []:DataW Unit)/\x.ownsRow w.heap.size 286 2 (.slice q n cap) n D1/\Below w.heap.size w x/\w.heap.size<=a/\w.heap.size<=b
theorem gJ {w:A5}{b o:Nat}{l:List (ByteArray×Int)}(h:Cds w (some ⟨b,o,none⟩) l):∀j u,(DQ l)[j]? =some u->w.cell? ⟨b,o+j,none⟩=some u:=by
 intro j u a;have hj:j<l.length*2:=by
  have:=(Mz.1 a).1;rwa [Zz] at this
 obtain⟨f,g,e,_,hc⟩:=h.at sX;cases e;have hi:j / 2<l.length:=sX;obtain⟨c,d⟩:=Sw l (j / 2) hi;obtain⟨c0,c1⟩:=hc (j / 2) hi;rcases (by omega:j=j / 2*2\/j=j / 2*2+1) with e|e
 ·rw[e] at a ⊢;rw[c] at a;cases a;exact c0
 ·rw[e] at a ⊢;rw[d] at a;cases a;exact c1
theorem Zj {w:A5}{base a e size n:Nat}{v:A0}{c:List A0}(h:w.ownsRow base e size v n c)(d:a<=base):w.ownsRow a e size v n c:=by
 refine⟨h.1,?_⟩;rcases h.2 with h|⟨g,cap,b,h1,h2,h3⟩
 ·exact .inl h
 ·exact .inr ⟨g,cap,b,h1,Ef d h2,h3⟩
theorem Y5r {w:A5}{base cb cap:Nat}{l:List (ByteArray×Int)}(h:w.ownsRow base 286 2 (.slice (some ⟨cb,0,none⟩) l.length cap) l.length (DQ l)):HoldsK GV 2 w cb 0 l.toArray:=by
 intro j hj;rw[size_flatK,Cl] at hj;have hi:j / 2<l.length:=sX;have b:w.frozen? ⟨cb,0+j,none⟩=false:=by
  rcases h.2 with ⟨h1,_⟩|⟨g,d,c,h1,_,hg,_⟩
  ·cases h1
  ·cases h1;exact Ew w cb _ c _ hg
 refine⟨?_,b⟩;have a:l.toArray[j / 2]! =l[j / 2]:=by rw[Mu _ (j / 2) (by simpa using hi)];simp
 rw[get_flatK _ _ _ _ vQ,a];obtain⟨f,i⟩:=Sw l (j / 2) hi;rcases (by omega:j%2=0\/j%2=1) with e|e
 ·have:=Di (g:=cb) h rfl (j / 2*2) _ f;rw[Ki,show 0+j / 2*2=0+j by omega] at this;rw[this,e];rfl
 ·have:=Di (g:=cb) h rfl (j / 2*2+1) _ i;rw[Ki,show 0+(j / 2*2+1)=0+j by omega] at this;rw[this,e];rfl
theorem nR {w:A5}{cb:Nat}{d:Array (ByteArray×Int)}(h:HoldsK GV 2 w cb 0 d)(c:cb<w.heap.size):Cds w (some ⟨cb,0,none⟩) d.toList:=by
 refine .inr ⟨cb,0,rfl,c,fun i hi=>?_⟩;have a:i<d.size:=tW;have b:d[i]! =d.toList[i]:=by rw[Mu d i a];simp
 have c0:=(N4 h a (by decide:0<2)).1;have c1:=(N4 h a (by decide:1<2)).1;rw[b] at c0 c1;exact⟨c0,c1⟩
theorem Y1q {w:A5}{g n:Nat}{os:Array Obj}(d:Array (ByteArray×Int)):w.grownBy (sortWorldK GV 2 w g 0 n d os) (some g):=by
 refine⟨rfl,rfl,rfl,Mw GV 2 w g 0 n d os,fun k hk a=>?_⟩;unfold sortWorldK putRowK;rw[heap_grow_old _ _ (by simpa using hk)];have:g≠k:=fun e=>a (by rw[e]);simp[putRow,mapBlock,Sort.ahead,Array.getElem?_modify,this]
theorem gW {d:Array (ByteArray×Int)}(h:SortedIn (ltOf NM) 0 d.size d):d.toList.Pairwise fun x y=>leL (rowC x) (rowC y)=true:=by
 rw[Jo];intro i j hi hj b;have c:i<d.size:=tW;have a:j<d.size:=vQ;have:=h i j (Do _) b a;rw[Mu d i c,Mu d j a] at this;unfold ltOf NM at this;rw[P2] at this
 simpa using this
theorem rF {d a:Array (ByteArray×Int)}(h:PermIn 0 d.size d a):a.toList.Perm d.toList:=by
 have h1:=h.1;have h3:=h.2.2;have e1:a.extract 0 d.size=a:=by rw[<-h1];simp
 have e2:d.extract 0 d.size=d:=sZ;rw[e1,e2] at h3;exact h3
theorem pE (base cb cap:Nat)(l:List (ByteArray×Int))(w:A5)(h:w.ownsRow base 286 2 (.slice (some ⟨cb,0,none⟩) l.length cap) l.length (DQ l))(a:cb<w.heap.size)(hn:l.length<=256):
  A9 prog 250 #[.slice (some ⟨cb,0,none⟩) l.length cap,.func (.func 251) #[] #[]] w fun e g=>
   e=.returned (.tuple #[])/\∃ds:List (ByteArray×Int),ds.Perm l/\(ds.Pairwise fun x y=>leL (rowC x) (rowC y)=true)/\Cds g (some ⟨cb,0,none⟩) ds/\w.grownBy g (some cb):=by
 have i:=Y5r h;have hs:=mS cb 0 cap l.toArray w i a tO;rw[Cl] at hs;refine hs.mono ?_;rintro e k ⟨rfl,c,n,os,j,d,rfl⟩;have b:PermIn 0 l.toArray.size l.toArray c:=j;have f:c.size=l.length:=b.1;refine⟨rfl,c.toList,rF b,gW (by rw[f];exact d),?_,Y1q c⟩;exact nR (holdsK_sortWorldK_c GV 2 w cb 0 l.toArray c n os i a b.1) (Bc a (Mw GV 2 w cb 0 n c os))
theorem Zf {w:A5}{b c n:Nat}{cs:Array A0}{T:TypeId}{e:Nat×Nat}{D:DataW Unit}(h:w.heap[b]? =some (.cells cs T e))(ho:w.ownsMap prog 3 (plainElem prog 9) c n D):b≠c:=by
 rintro rfl;obtain⟨f,a,d,_⟩:=ho;rw[h] at d;cases d
theorem Xw {w:A5}{base e size n:Nat}{v:A0}{a:List A0}(h:w.ownsRow base e size v n a):w.drew.ownsRow base e size v n a:=h
theorem RX {w:A5}{base e size n:Nat}{v:A0}{d:List A0}(h:w.ownsRow base e size v n d){b:Nat}{o:Obj}(a:w.heap[b]? =some o)(c:∀cs,o≠.cells cs e (0,0)):v.ownBlock=none\/v.ownBlock≠some b:=by
 rcases h.2 with ⟨rfl,_⟩|⟨g,cap,f,rfl,_,hg,_⟩
 ·exact .inl rfl
 ·right
  intro hk;injection hk with hk;obtain rfl:g=b:=hk;rw[hg] at a;injection a with a;exact c _ a.symm
theorem qV (b o c:Nat)(l:List (ByteArray×Int))(w:A5)(hn:l.length<=256)(hc:∀j u,(DQ l)[j]? =some u->w.cell? ⟨b,o+j,none⟩=some u):
  A9 prog 248 #[.slice (some ⟨b,o,none⟩) l.length c] w fun e d=>∃q cap,e=.returned (.slice q l.length cap)/\d.ownsRow w.heap.size 286 2 (.slice q l.length cap) l.length (DQ l)/\Below w.heap.size w d:=by
 refine(qH b o l.length c (DQ l) w (Zz l) sX hc (Yx4 l)).mono ?_;rintro e g ⟨v,rfl,a,_,f⟩;obtain⟨q,cap,rfl,_⟩:=bT a;exact⟨q,cap,rfl,a,f⟩
theorem pB {ds:List (ByteArray×Int)}(hs:ds.Pairwise fun x y=>leL (rowC x) (rowC y)=true):(∃i,∃h:i+1<ds.length,(rowC ds[i]).isPrefixOf (rowC ds[i+1])=true)↔¬ CJ (ds.map rowC):=by
 constructor
 ·rintro⟨i,h,a⟩ b;have:=QI.1 b i (i+1) tO vT sX;rw[Ke,Ke,a] at this;cases this
 ·intro b;apply Mt;intro c;apply b;refine VJ (by rw[List.pairwise_map];exact hs) fun i hi=>?_;rw[Ke,Ke];cases a:(rowC (ds[i]'(by simp at hi;omega))).isPrefixOf (rowC (ds[i+1]' tW)) with
  |false=>rfl
  |true=>exact absurd ⟨i,tW,a⟩ c
theorem Y53 (ds:List (ByteArray×Int))(n:Nat)(hn:ds.length=n)(p:Option Addr)(cap:Nat)(w:A5)(r:Bool)(hs:ds.Pairwise fun x y=>leL (rowC x) (rowC y)=true)(hr:r=true↔¬ CJ (ds.map rowC))(hc:Cds w p ds)(hm:n<=256):
  A9 prog 253 #[.slice p n cap] w fun e a=>e=.returned (.bool r)/\Below w.heap.size w a:=by
 subst hn;exact Y51 ds p cap w r (hr.trans (pB hs).symm) hc sX
theorem Y2x (w:A5)(n:Int):(Instr.makeMap 283 (some (.int .i64 n))).run prog w=.ok (.map (some w.heap.size)) (w.alloc (.map #[] 0)):=by
 simp[Instr.makeMap,run_underlying underlying283,asInt,asIntOf,Result.andThen]
set_option maxRecDepth 100000 in
theorem rG (l:List (ByteArray×Int))(p:Option Addr)(cap:Nat)(w:A5)(hc:Cds w p l)(hm:l.length<=maxLen)(hl:∀x∈l,x.1.size<=maxLen/\(Lit.int .i64 x.2).wf=true):
  A9 prog 238 #[.slice p l.length cap] w (dD l w):=by
 unfold maxLen at hm;have br:=Dm hl;clear hl;by_cases h0:l.length=0
 ·have F:=Dm (show ¬ mkP l from fun h=>by have:=h.1;omega);have t0:((l.length:Int)==0)=true:=uE;exact Wek
 by_cases h1:256<l.length
 ·have F:=Dm (show ¬ mkP l from fun h=>by have:=h.2.1;omega);have t0:((l.length:Int)==0)=false:=uC;have t1:decide (256<(l.length:Int))=true:=tO;exact Wek
 obtain⟨b,o,rfl,aj,z⟩:=hc.at sX;have hE:∀x,Below w.heap.size w x->Cds x (some ⟨b,o,none⟩) l:=fun x hx=>hc.below hx;have bj:=Dm hE;have h2:l.length<=256:=sX;have h3:1<=l.length:=sX;have t0:((l.length:Int)==0)=false:=uC;have t1:decide (256<(l.length:Int))=false:=tO;have S:∀(x:A5),Below w.heap.size w x->∀j u,(DQ l)[j]? =some u->x.cell? ⟨b,o+j,none⟩=some u:=fun x hx=>gJ (hE x hx);have a4:=Dm S;have a6:=fun(w:A5)=>Y2x w (l.length:Int);clear h0 h1 hE z S hc aj
 go_enter func238,ntmps238
 go_upto_region 3 with (fail)
 go_cut [4] from 15 to 21 (fun t4 x=>Wt w l.length (DQ l) t4 x)
 case first=>
  go_wp2
  go_region_with (go_at_call 248;refine(qV b o cap l _ h2 ?_).mono ?_;(intro j u hu;first|exact a4.out _ ((Dn _ _).drew) j u hu|exact a4.out _ (((Dn _ _).drew).alloc (B9 _) _) j u hu);rintro e m ⟨q,A,rfl,c,f⟩)
  ·have v:m.ownsMap prog 3 (plainElem prog 9) w.heap.size 0 (.map []:DataW Unit):=((Mv w _ _ _).drew).kept (BF f none) sZ;have J:Below w.heap.size w m:=(((Dn _ w).alloc (B9 _) _).drew).trans (f.mono sZ);have bs:=f.size;have d:Wt w l.length (DQ l) (.pointer (some ⟨m.heap.size,0,none⟩)) (m.alloc (IN (some w.heap.size) q l.length A 0)):=
    ⟨m.heap.size,w.heap.size,q,A,rfl,heap_alloc_new m _,v.alloc _,(Zj c sZ).alloc _,J.alloc J.size _,J.size,B9 _⟩
   have ae:=Dm d;clear d v c f
   go_wp2
   go_meet
   case rel=>exact ae.out
  ·have J:Below w.heap.size w m:=((Dn _ w).drew).trans f;have d:Wt w l.length (DQ l) (.pointer (some ⟨m.heap.size+1,0,none⟩)) ((m.alloc (.map #[] 0)).alloc (IN (some m.heap.size) q l.length A 0)):=
    ⟨m.heap.size+1,m.heap.size,q,A,rfl,yI,(Mv m _ _ _).alloc _,((Zj c sZ).alloc _).alloc _,(J.alloc J.size _).alloc (by have:=J.size;simp;omega) _,by have:=J.size;omega,J.size⟩
   have ae:=Dm d;clear d c f
   go_wp2
   go_meet
   case rel=>exact ae.out
 case rest=>
  obtain⟨s,E,q,A,rfl,y,v,c,Q,au,a7⟩:=hcut;obtain⟨B,hB⟩:=Ah w.heap.size;rw[hB] at bj a4 c Q au a7;have af:=Dm hB;clear hB a6 a4
  go_wp2
  go_loopw [24] (fun i wr=>∃j:Nat,j<=l.length/\i=.int .i64 j/\wr.heap[s]? =some (IN (some E) q l.length A (F6 (l.take j):Nat))/\wr.ownsMap prog 3 (plainElem prog 9) E j (JP (l.take j))/\wr.ownsRow B 286 2 (.slice q l.length A) l.length (DQ l)/\Below B w wr/\Hid (∀a,(h:a<l.length)->a<j->BW (rowC l[a])=true)) (fun i _=>l.length-(intOf i).toNat)
  case atStart=>exact⟨0,Do _,rfl,y,v,c,Q,Dm (fun a _ h=>absurd h (Fi a))⟩
  case round=>
   clear y v c Q;obtain⟨j,hj,rfl,y,v,c,Q,ap⟩:=hrel;by_cases T:j<l.length
   ·obtain⟨b',o',e,aj,z⟩:=(bj.out wr Q).at sX;cases e;obtain⟨c0,c1⟩:=z j T;obtain⟨aq,av⟩:=br.out l[j] (Bl T);have bk:=Dm (rX l j T);have L1:=Dm (Qa8 l j T);obtain⟨x,hx⟩:=Ah (l[j]);rw[hx] at c0 c1 aq av bk L1;have bl:=Dm hx;clear hx z
    go_wp2_with fail
    refine(Y3v x.1 aq _).mono ?_;rintro e m ⟨rfl,f⟩;have ag:wr.grownBy m none:=AP (Mx wr _ none) (BF f none);have t:m.heap[s]? =some (IN (some E) q l.length A (F6 (l.take j):Nat)):=(ag.block s (E9.1 y).1 sZ).trans y;have G:=v.kept ag sZ;have U:=c.kept ag yM;have V:Below B w m:=(Q.alloc yJ _).trans (f.mono (by have:=Q.size;rw[af.out] at this;simp;omega));have ah:m.heap[wr.heap.size]? =some (.cells [.string x.1,.int .i64 x.2].toArray 286 (0,0)):=(f.block wr.heap.size sZ).trans (heap_alloc_new wr _);have v0:m.cell? ⟨wr.heap.size,0,none⟩=some (.string x.1):=AA ah rfl;have v1:m.cell? ⟨wr.heap.size,1,none⟩=some (.int .i64 x.2):=AA ah rfl;clear ag f y v c Q c0 c1;cases hk:BW x.1.data.toList with
    |false=>
     have F:=Dm (show ¬ mkP l from fun h=>by
      have:=h.2.2.1 x (by rw[<-bl.out];exact Bl T);rw[show BW (rowC x)=BW x.1.data.toList from rfl,hk] at this;cases this)
     clear hk
     go_wp2
     go_ret2
     exact QW F.out (by rw[af.out];exact V)
    |true=>
     have a8:Hid (∀a,(h:a<l.length)->a<j+1->BW (rowC l[a])=true):=Dm (fun a ha h=>by
      by_cases e:a=j
      ·subst e;rw[bl.out];exact hk
      ·exact ap.out a ha sX)
     clear hk ap;have t40:m.cell? ⟨s,0,none⟩=some (.map (some E)):=AA t rfl
     go_wp2_with fail
     go_still_tail 8,tN
     change wpList _ _ _ _ _ m.drew;have H:m.drew.heap[s]? =some (IN (some E) q l.length A (F6 (l.take j):Nat)):=t;have I:=G.drew;have C:=Xw U;have O:Below B w m.drew:=V.drew;have K:m.drew.heap[wr.heap.size]? =some (.cells [.string x.1,.int .i64 x.2].toArray 286 (0,0)):=ah;generalize m.drew=x0 at H I C O K ⊢;clear t G U V ah v0 v1 t40;have ak:=Zf H I;have aw:=Zf K I;have ax:∀es D,x0.heap[E]? =some (.map es D)->(Value.slice q l.length A).ownBlock=none\/(Value.slice q l.length A).ownBlock≠some E:=fun es D h=>RX C h (fun cs=>sZ);obtain⟨es,D,W,_⟩:=id I;have L:=ax es D W;have M:=RX C H (fun cs=>yP);have a9:=Dm L;have ba:=Dm M;have bt:wr.heap.size<x0.heap.size:=(E9.1 K).1;have bu:s<x0.heap.size:=(E9.1 H).1;clear ax W L M
     go_wp2_with (at_mapUpdate;refine wpList_mapUpdate_own _ rfl _ _ _ 283 rfl 3 9 Qo2 Na _ E j (JP (l.take j)) rfl I tK _ _ (MD x) rfl rfl (keyOf_int_mk J7 av) (LK x) [] (plainElem_string Du aq) ?_;intro w2 al X;have Y:w2.heap[s]? =some (IN (some E) q l.length A (F6 (l.take j):Nat)):=(X.block s bu (by intro e;injection e with e;exact ak e)).trans H;have am:w2.heap[wr.heap.size]? =some (.cells [.string x.1,.int .i64 x.2].toArray 286 (0,0)):=(X.block _ bt (by intro e;injection e with e;exact aw e)).trans K;have Z:=C.kept X a9.out;have N:Below B w w2:=O.grown X (by have:=O.size;rw[af.out] at this;exact this) yK;clear I X H K C O)
     have v0:w2.cell? ⟨wr.heap.size,0,none⟩=some (.string x.1):=AA am rfl;have t2:w2.cell? ⟨s,2,none⟩=some (.int .i64 (F6 (l.take j):Nat)):=AA Y rfl
     go_still_tail 11,tN
     change wpList _ _ _ _ _ w2.drew;have P:w2.drew.heap[s]? =some (IN (some E) q l.length A (F6 (l.take j):Nat)):=Y;have an:=al.drew;have aa:=Xw Z;have ao:Below B w w2.drew:=N.drew;generalize w2.drew=x1 at P an aa ao ⊢;clear Y al Z N am v0 t2;have tf:=AL (o:=2) P;have t2:x1.cell? ⟨s,2,none⟩=some (.int .i64 (F6 (l.take j):Nat)):=AA P rfl;have d:(x1.setCell ⟨s,2,none⟩ (.int .i64 (max ((F6 (l.take j):Nat):Int) (x.1.size:Int)))).heap[s]? =some (IN (some E) q l.length A (F6 (l.take (j+1)):Nat))/\
       (x1.setCell ⟨s,2,none⟩ (.int .i64 (max ((F6 (l.take j):Nat):Int) (x.1.size:Int)))).ownsMap prog 3 (plainElem prog 9) E (j+1) (JP (l.take (j+1)))/\
       (x1.setCell ⟨s,2,none⟩ (.int .i64 (max ((F6 (l.take j):Nat):Int) (x.1.size:Int)))).ownsRow B 286 2 (.slice q l.length A) l.length (DQ l)/\
       Below B w (x1.setCell ⟨s,2,none⟩ (.int .i64 (max ((F6 (l.take j):Nat):Int) (x.1.size:Int)))):=by
      have hg:=D3 x1 ⟨s,2,none⟩ (.int .i64 (max ((F6 (l.take j):Nat):Int) (x.1.size:Int)));refine⟨?_,?_,aa.kept hg ba.out,ao.setCell au _⟩
      ·rw[L1.out,show ((max (F6 (l.take j)) x.1.size:Nat):Int)=max ((F6 (l.take j):Nat):Int) (x.1.size:Int) by omega];exact B3 (o:=2) _ P
      ·rw[bk.out];exact an.setCell (Ne.symm ak) _
     have ae:=Dm d;clear d
     go_wp2_with fail
     go_roundw
     case rel=>exact⟨j+1,sX,tP,ae.out.1,ae.out.2.1,ae.out.2.2.1,ae.out.2.2.2,a8⟩
     case measure=>simp[intOf];omega
   ·obtain rfl:j=l.length:=sX;rw[Jk] at y v;obtain⟨cb,rfl,ai⟩:∃cb,q=some ⟨cb,0,none⟩/\cb<wr.heap.size/\B<=cb/\l.length<=A/\A<=maxLen:=by
     rcases c.2 with ⟨_,h⟩|⟨g,bn,bv,h1,h2,hg,h4,h5,_⟩
     ·omega
     ·cases h1;exact⟨g,rfl,(E9.1 hg).1,h2,h4,h5⟩
    have M:=RX c y (fun cs=>yP);obtain⟨es,D,W,_⟩:=id v;have L:=RX c W (fun cs=>sZ);have bb:cb≠s:=by
     rcases M with h|h
     ·cases h
     ·exact fun e=>h uJ
    have bc:cb≠E:=by
     rcases L with h|h
     ·cases h
     ·exact fun e=>h uJ
    have c1:wr.cell? ⟨s,1,none⟩=some (.slice (some ⟨cb,0,none⟩) l.length A):=AA y rfl;obtain⟨ai,bd,bf,ay⟩:=ai;clear W L M
    go_wp2_with fail
    refine(pE B cb A l _ c ai h2).mono ?_;rintro e x2 ⟨rfl,ds,hp,az,a0,hg⟩;have t:x2.heap[s]? =some (IN (some E) (some ⟨cb,0,none⟩) l.length A (F6 l:Nat)):=(hg.block s (E9.1 y).1 (by intro e;injection e with e;exact bb e.symm)).trans y;have G:=v.kept hg (by intro e;injection e with e;exact bc e.symm);have f:Below B w x2:=Q.grown hg yJ yK;have a1:ds.length=l.length:=hp.length_eq;have a2:cb<x2.heap.size:=Bc ai hg.size;have c0:x2.cell? ⟨s,0,none⟩=some (.map (some E)):=AA t rfl;have c1:x2.cell? ⟨s,1,none⟩=some (.slice (some ⟨cb,0,none⟩) l.length A):=AA t rfl;obtain⟨a3,ab⟩:=Qao l;obtain⟨n,hn⟩:=Ah (size (JP l));rw[hn] at a3 ab;have bo:=Dm hn;have bg:=Dm ab;have a5:=Dm hp;have bp:=Dm az;have bh:=Dm a1;clear y v c Q hg hn ab hp az a1;by_cases ar:n<l.length
    ·have F:=Dm (show ¬ mkP l from fun h=>by have:=bg.out.2 h.2.2.2.2;omega);have d0:decide (n<l.length)=true:=by simpa using ar
     have d1:decide ((n:Int)<(l.length:Int))=true:=tO;clear ar
     go_wp2_with (at_len;refine My _ rfl _ 283 rfl 3 9 Na _ E l.length (JP l) rfl G ?_;rw[bo.out])
     go_ret2
     exact QW F.out (by rw[af.out];exact f)
    ·obtain rfl:n=l.length:=sX;have bq:=Dm (bg.out.1 rfl);clear bg;have d0:decide (l.length<l.length)=false:=sZ;have d1:decide ((l.length:Int)<(l.length:Int))=false:=sZ;have bi:∃r:Bool,r=true↔¬ CJ (ds.map rowC):=by
      by_cases h:CJ (ds.map rowC)
      ·exact⟨false,by simp[h]⟩
      ·exact⟨true,by simp[h]⟩
     obtain⟨r,hr⟩:=bi;have R:=Dm hr;have ac:∀x∈l,BW (rowC x)=true:=fun x hx=>by
      obtain⟨i,hi,rfl⟩:=Jh hx;exact ap.out i hi hi
     have bw:=Dm ac;clear ar hr ac
     go_wp2_with (at_len;refine My _ rfl _ 283 rfl 3 9 Na _ E l.length (JP l) rfl G ?_;rw[bo.out])
     refine(Y53 ds l.length bh.out _ A _ r bp.out R.out a0 h2).mono ?_;rintro e x3 ⟨rfl,ad⟩;have N:Below B w x3:=f.trans (ad.mono (by have:=f.size;rw[af.out] at this;exact this));cases r with
     |true=>
      have F:=Dm (show ¬ mkP l from fun h=>R.out.1 rfl ((P1 (a5.out.map rowC)).2 h.2.2.2.1))
      go_wp2
      go_ret2
      exact QW F.out yN
     |false=>
      have d:Uk x3 B x3.heap.size s ds (F6 l:Nat):=by
       refine⟨some E,some ⟨cb,0,none⟩,A,?_,?_,ay,a0.below ad,?_,?_⟩
       ·rw[bh.out];exact(ad.block s (E9.1 t).1).trans t
       ·rw[bh.out];exact bf
       ·exact(show QN x2 (some E) ds from .inr ⟨E,l.length,l,rfl,G,bq.out,a5.out.symm⟩).below ad
       ·intro a ha;cases ha;exact⟨bd,Bc a2 ad.size⟩
      have ae:=Dm d
      go_wp2
      go_ret2
      exact⟨fun _=>⟨s,ds,rfl,by rw[af.out];exact ae.out,a5.out,bp.out⟩,fun hn=>absurd ⟨h3,h2,bw.out,(P1 (a5.out.map rowC)).1 (Mt fun hf=>by have:=R.out.2 hf;cases this),bq.out⟩ hn,yN⟩
end
section
def CW (intra:Bool):List (ByteArray×Int):=(List.range 16).map (IM intra)
def ptk (intra:Bool)(b:List UInt8):Int×Int×Nat:=
 if (tk ((CW intra).map rowC) b 25 1).1=0 then
  match (CW intra).find? (fun x=>rowC x==b.take (tk ((CW intra).map rowC) b 25 1).2) with
  |some x=>(x.2,0,(tk ((CW intra).map rowC) b 25 1).2)
  |none=>(0,0,0)
 else (0,(tk ((CW intra).map rowC) b 25 1).1,0)
theorem VV (intra:Bool):CJ ((CW intra).map rowC):=by
 cases intra <;> (unfold CJ;decide +kernel)
theorem Wy (intra:Bool):∀x∈CW intra,BW (rowC x)=true:=by
 cases intra <;> decide +kernel
theorem Qn5 (intra:Bool):∀x∈CW intra,(Lit.int .i64 x.2).wf=true:=by
 cases intra <;> decide +kernel
theorem aK (intra:Bool){i:Nat}(h:i<16):IM intra i∈CW intra:=Kc (Bs.2 h)
theorem Q5 (intra:Bool)(q:List UInt8):FO intra q 16=(CW intra).filter fun x=>q.isPrefixOf (rowC x):=rfl
theorem jW (intra:Bool){c:UInt8}(hc:c=48\/c=49):mkP (FO intra [c] 16):=by
 have b:CJ ((FO intra [c] 16).map rowC):=by
  rw[Q5];exact(VV intra).sublist ((List.filter_sublist).map rowC)
 have ho:∀x∈FO intra [c] 16,BW (rowC x)=true:=fun x a=>by
  rw[Q5] at a;exact Wy intra x (Jf.1 a).1
 refine⟨?_,Ef (Vl intra [c] 16) sX,ho,b,?_⟩
 ·rcases hc with rfl|rfl <;> cases intra <;> decide +kernel
 ·rcases hc with rfl|rfl <;> cases intra <;> decide +kernel
theorem Qm0 (intra:Bool){b:List UInt8}{c:UInt8}(h:b.take 1=[c]){ds:List (ByteArray×Int)}(d:ds.Perm (FO intra [c] 16)):tk (ds.map rowC) b 25 1=tk ((CW intra).map rowC) b 25 1:=by
 have hl:1<=b.length:=by
  cases b with
  |nil=>cases h
  |cons a l=>simp
 rw[Rp (d.map rowC),TR ((CW intra).map rowC) b hl 25 1 (B9 _),Q5,List.filter_map,h]
 rfl
theorem iJ (intra:Bool){x y:ByteArray×Int}(b:x∈CW intra)(c:y∈CW intra)(h:rowC x=rowC y):x=y:=by
 obtain⟨i,hi,rfl⟩:=Jh b;obtain⟨j,hj,rfl⟩:=Jh c;by_cases a:i=j
 ·subst a;rfl
 ·exfalso;have:=QI.1 (VV intra) i j tW vQ a;rw[Ke,Ke,h,JE] at this;cases this
theorem mF (intra:Bool){x:ByteArray×Int}(a:x∈CW intra){q:List UInt8}(b:rowC x=q):(CW intra).find? (fun y=>rowC y==q)=some x:=by
 cases h:(CW intra).find? (fun y=>rowC y==q) with
 |none=>
  have:=Kn.1 h x a;rw[b] at this;simp at this
 |some y=>
  have h1:=Kp h;have h2:=Kj h;rw[iJ intra h2 a (by rw[b];simpa using h1)]
theorem V4 (intra:Bool){b:List UInt8}{n:Nat}{x:ByteArray×Int}(ht:tk ((CW intra).map rowC) b 25 1=(0,n))(a:x∈CW intra)(c:rowC x=b.take n):
  ptk intra b=(x.2,0,n):=by
 unfold ptk;rw[ht,Bb rfl,mF intra a c]
theorem UW (intra:Bool){b:List UInt8}{n:Nat}{f:Int}(ht:tk ((CW intra).map rowC) b 25 1=(f,n))(a:f≠0):ptk intra b=(0,f,0):=by
 unfold ptk;rw[ht,Ba a]
end
section
open Go.RowKit Go.Lib
def SO (intra:Bool)(s:ByteArray)(rb p:Nat)(w:A5)(e:Ending)(a:A5):Prop:=
 e=.returned (.tuple #[.int .i64 (ptk intra ((A2 s.data.toList).drop p)).1,.int .i64 (ptk intra ((A2 s.data.toList).drop p)).2.1])/\
  AE a rb s (p+(ptk intra ((A2 s.data.toList).drop p)).2.2)/\w.grownBy a (some rb)
theorem Xk {intra:Bool}{s:ByteArray}{rb p n:Nat}{w b:A5}{a f:Int}(h:ptk intra ((A2 s.data.toList).drop p)=(a,f,n))(hr:AE b rb s (p+n))(hg:w.grownBy b (some rb)):
  SO intra s rb p w (.returned (.tuple #[.int .i64 a,.int .i64 f])) b:=by
 unfold SO;rw[h];exact⟨rfl,hr,hg⟩
theorem Yn (s:ByteArray)(p:Nat)(h:p+1<=8*s.size):∃t:Nat,AB s.data.toList p 1=t/\(t=0\/t=1)/\((A2 s.data.toList).drop p).take 1=[UInt8.ofNat (48+t)]:=by
 obtain⟨hn,hd⟩:=QH s.data.toList p 0 h;have a:=EB s.data.toList p 1;have a:AB s.data.toList p 1<2:=a;have b:AB s.data.toList p (0+1)=AB s.data.toList p 1:=rfl;rw[b] at hd;have c:((A2 s.data.toList).drop p).take 1=[((A2 s.data.toList).drop p)[0]]:=by
  rw[Bd hn];rfl
 rcases hd with ⟨h1,h2⟩|⟨h1,h2⟩
 ·have ht:AB s.data.toList p 1=0:=sX;exact⟨0,ht,.inl rfl,by rw[c,h1];rfl⟩
 ·have ht:AB s.data.toList p 1=1:=sX;exact⟨1,ht,.inr rfl,by rw[c,h1];rfl⟩
theorem Qc6 (intra:Bool)(c:UInt8):∀x∈FO intra [c] 16,x.1.size<=maxLen/\(Lit.int .i64 x.2).wf=true:=fun x a=>by
 rw[Q5] at a;have hm:=(Jf.1 a).1;have h:=(GS (Wy intra x hm)).2.1;have e:(rowC x).length=x.1.size:=rfl;refine⟨?_,Qn5 intra x hm⟩;unfold maxLen;omega
theorem oT {l ds:List (ByteArray×Int)}(h:mkP l)(a:ds.Perm l):CJ (ds.map rowC)/\∀x∈ds,BW (rowC x)=true:=
 ⟨(P1 (a.map rowC)).2 h.2.2.2.1,fun x b=>h.2.2.1 x (a.mem_iff.1 b)⟩
set_option maxRecDepth 100000 in
theorem Qbw (intra:Bool)(w:A5)(rb:Nat)(s:ByteArray)(p:Nat)(y:JN w)(hr:AE w rb s p):
  A9 prog 227 #[.pointer (some ⟨rb,0,none⟩),.bool intra] w (SO intra s rb p w):=by
 obtain⟨N,i⟩:=Ah ((A2 s.data.toList).drop p);have C:N.length=8*s.size-p:=by rw[<-i,Bf,AZ];rfl
 have ah:=hr.2.1;have ad:=hr.lt;have D:=Dm i;by_cases P:8*s.size<p+1
 ·have g:ask s.data.toList p 1=(0,2):=FS sX xY;have F:=Dm (UW intra (b:=N) (n:=0) (f:=2) (by
   cases N with
   |nil=>rfl
   |cons a l=>simp at C;omega) sY)
  clear P C i
  go_enter func227,ntmps227
  go_wp2_with fail
  refine(FP _ _ _ _ 1 hr).mono ?_;rintro e w1 ⟨rfl,c⟩;rw[g];have o:=hr.below c;have Z:w.grownBy w1 (some rb):=⟨c.os,c.tape,c.output,c.size,fun k hk _=>c.block k hk⟩
  go_wp2
  go_ret2
  exact Xk (n:=0) yE o Z
 obtain⟨t,ht,E,c⟩:=Yn s p sX;have g:ask s.data.toList p 1=((t:Int),0):=by
  have:=EK (l:=s.data.toList) (p:=p) (n:=1) sX xY;rw[this,show (1:Int).toNat=1 from rfl,ht]
 rw[i] at c;have hc:UInt8.ofNat (48+t)=48\/UInt8.ofNat (48+t)=49:=by rcases E with rfl|rfl <;> simp
 obtain⟨L,X⟩:=Ah (FO intra [UInt8.ofNat (48+t)] 16);have G:=jW intra hc;have j:=Qc6 intra (UInt8.ofNat (48+t));have Q:=Vl intra [UInt8.ofNat (48+t)] 16;have R:=fun(ds:List (ByteArray×Int)) (y:ds.Perm L)=>Qm0 intra c (ds:=ds) (by rw[X];exact y);have S:∀x∈L,x∈CW intra:=fun x O=>by
  rw[<-X,Q5] at O;exact(Jf.1 O).1
 have z:=fun x O=>rE intra t E x O;rw[X] at G j Q z;have ae:=Dm G;have ai:=Dm R;have aa:=Dm S;clear G R S X c hc ht E P C i
 go_enter func227,ntmps227
 go_wp2_with fail
 refine(FP _ _ _ _ 1 hr).mono ?_;rintro e w1 ⟨rfl,c⟩;rw[g];have o:=hr.below c;have T:=y.below c
 go_wp2_with fail
 refine(z _ T).mono ?_;rintro e w2 ⟨v,rfl,A,H⟩;obtain⟨q,cap,rfl,B⟩:=bT A;have I:=o.below H;have m:Below w.heap.size w w2:=c.trans (H.mono c.size);have U:rb<w2.heap.size:=I.lt;clear A H o c hr g T y
 go_wp2_with fail
 refine(rG L q cap _ B tK j).mono ?_;rintro e w3 ⟨hy,_,J⟩;obtain⟨tb,ds,rfl,ht,y,hs⟩:=hy ae.out;obtain⟨hf,ho⟩:=oT ae.out y;have V:=I.below J;have d:Below w.heap.size w w3:=m.trans (J.mono m.size);have aj:=Dm hs;have ak:=Dm hf;have al:=Dm ho;have af:=Dm y;have am:=Dm ht;clear hy hs hf ho y ht I J m B j Q
 go_wp2_with fail
 refine(Qir _ _ _ tb rb ds _ s p am.out V (.inl U) aj.out ak.out al.out).mono ?_;rintro e w4 ⟨v,rfl,r,u,K,hg4⟩;rw[D.out,ai.out ds af.out] at r u K ⊢;obtain⟨f,n,hk⟩:∃f n,tk ((CW intra).map rowC) N 25 1=(f,n):=⟨_,_,rfl⟩;rw[hk] at r u K ⊢;have M:=Qf ((CW intra).map rowC) N 25 1;rw[hk] at M;have W:w.grownBy w4 (some rb):=by
  refine⟨hg4.os.trans d.os,hg4.tape.trans d.tape,hg4.output.trans d.output,Ef d.size hg4.size,fun k hk hn=>?_⟩;exact(hg4.block k (Bc hk d.size) hn).trans (d.block k hk)
 have ag:ptk intra N=(v,f,n):=by
  by_cases Y:f=0
  ·subst Y;obtain⟨x,O,ab,ac⟩:=r rfl;rw[V4 intra hk (aa.out x (af.out.mem_iff.1 O)) ab,ac]
  ·obtain rfl:=u Y;have hn:n=0:=by
    rcases M with h|h|h
    ·exact absurd h Y
    ·exact h.2
    ·exact h.2
   rw[UW intra hk Y,hn]
 have F:=Dm ag;clear ag hk r u hg4 V d M
 go_wp2
 go_ret2
 exact Xk yE K W
theorem rI:LC.map (fun x=>x.data.toList)=((CW true).map rowC).reverse:=uB
theorem Qd1 (intra:Bool):(CW intra).map rowC=(CW true).map rowC:=by
 cases intra
 ·decide +kernel
 ·rfl
theorem Qpw (intra:Bool)(b:List UInt8):tk (LC.map fun x=>x.data.toList) b 25 1=tk ((CW intra).map rowC) b 25 1:=by
 rw[rI,Rp (List.reverse_perm _),Qd1 intra]
def St (intra:Bool)(b:List UInt8)(at_:Nat)(w:A5)(e:Ending)(a:A5):Prop:=
 e=.returned (.tuple #[.int .i64 (ptk intra b).1,.int .i64 ((at_+(ptk intra b).2.2:Nat):Int),.int .i64 (ptk intra b).2.1])/\Below w.heap.size w a
theorem T2 {intra:Bool}{b:List UInt8}{at_ n z:Nat}{w c:A5}{a f:Int}(h:ptk intra b=(a,f,n))(ht:at_+n=z)(d:Below w.heap.size w c):
  St intra b at_ w (.returned (.tuple #[.int .i64 a,.int .i64 (z:Int),.int .i64 f])) c:=by
 subst ht;unfold St;rw[h];exact⟨rfl,d⟩
set_option maxRecDepth 100000 in
theorem mX (intra:Bool)(s:ByteArray)(at_:Nat)(w:A5)(hs:s.size<=1048576)(D:at_<=s.size):
  A9 prog 95 #[.string s,.int .i64 (at_:Int),.bool intra] w (St intra (s.data.toList.drop at_) at_ w):=by
 obtain⟨o,r⟩:=Ah (s.data.toList.drop at_);have c:=fun(q:Option Addr) (x:A5) (E:DN x q LC)=>SB LC q 16 s at_ x E sY hs D;rw[Xs] at c;rw[r] at c ⊢;clear r;obtain⟨f,n,hk⟩:∃f n,tk ((CW intra).map rowC) o 25 1=(f,n):=⟨_,_,rfl⟩;have l:=Qf ((CW intra).map rowC) o 25 1;have z:=Dm hk;have v:=Dm ((Qpw intra o).trans hk);rw[hk] at l;clear hk;by_cases p:f=0
 ·subst p;clear l;have m:∀j:Nat,(∃h:j<LC.length,LC[j].data.toList=o.take n)->j<16/\ptk intra o=(if intra then 15-(j:Int) else (j:Int),0,n):=by
   rintro j ⟨hj,y⟩;have k:j<16:=hj;refine⟨k,?_⟩;have t:rowC (IM intra (15-j))=o.take n:=by
    rw[Sj intra (15-j) sX,<-y,Qph j k]
    rfl
   rw[V4 intra z.out (aK intra (i:=15-j) sX) t,Sj intra (15-j) sX];unfold EX;cases intra
   ·simp;omega
   ·simp;omega
  have A:=Dm m;clear m;cases intra with
  |true=>
   exact Wej
  |false=>
   exact Wej
 ·have hn:n=0:=by
   rcases l with h|h|h
   ·exact absurd h p
   ·exact h.2
   ·exact h.2
  subst hn;have F:=Dm (UW intra z.out p);have G:=Dm p;have H:(f==0)=false:=by rw[Fe];exact p
  clear p l
  go_enter func95,ntmps95
  go_wp2_with fail
  refine(Uv _).mono ?_;rintro e B ⟨rfl,d,a⟩
  go_wp2_with fail
  refine(c _ _ d).mono ?_;rintro e C ⟨j,rfl,_,b,g⟩;rw[v.out] at b ⊢;obtain rfl:=b G.out;have u:=a.trans (g.mono a.size);clear b d a g
  go_wp2
  go_ret3
  exact T2 F.out (C6 _) u
end
end Go.Proofs.YtjjmalchelniiaaGreatDoor
