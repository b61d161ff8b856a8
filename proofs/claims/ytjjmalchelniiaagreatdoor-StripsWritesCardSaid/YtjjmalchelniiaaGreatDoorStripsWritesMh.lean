/- StripsWrites, 8. No condition. -/
import Derived.Test.YtjjmalchelniiaaGreatDoorStripsWritesMb
import Derived.Test.YtjjmalchelniiaaGreatDoorStripsWritesMe
import Derived.Test.YtjjmalchelniiaaGreatDoorStripsWritesMf
import Derived.WalkKit
import Derived.Lib.Hide
import Derived.Test.YtjjmalchelniiaaGreatDoorChecked
import Derived.Deep.AppendLies
open Go.Proofs.Tryz
open Go renaming World->A5,Addr->Aa,TypeId->A7,Value->A0,Program->A3,DataW->Ab,MemPlace->Ac,Oper->A4,Operand->A8
namespace Go.Proofs.YtjjmalchelniiaaGreatDoor
section
open Go.RowKit Go.Lib Go.ChangeShapes Go.WideShapes Go.ChangeAt
abbrev Fy:=@Lib.hid
abbrev Fz:=@List.mem_singleton
abbrev G0:=@Bool.and_eq_true
abbrev G1:=@Nat.zero_le
abbrev G3:=@World.cell?_of_block
abbrev G4:=@List.eq_nil_of_length_eq_zero
abbrev G6:=@List.getElem?_eq_getElem
abbrev G7:=@Array.all_eq_true_iff_forall_mem
abbrev G8:=@List.flatMap_cons
abbrev G9:=@List.length_map
abbrev Ga:=@List.setIfInBounds_toArray
abbrev Gb:=@List.getElem?_append_right
abbrev Gc:=@Addr.add_mid
abbrev Gd:=@List.getElem?_eq_some_iff
abbrev Ge:=@World.ownsRow.cells
abbrev Gf:=@List.mem_map
abbrev Gg:=@List.getElem?_eq_none
abbrev Gh:=@DataW.trod_struct
abbrev Gi:=@DataW.trod_int
abbrev Gj:=@DataW.trod_bool
abbrev Gk:=@Go.Deep.open_slice
abbrev Gl:=@List.length_range
abbrev Gm:=@List.foldl_append
abbrev Gn:=@List.getElem_map
def KM (w:A5)(p:Option Aa)(n:Nat)(f:Nat->Int):Prop:=n=0\/∃b o,p=some ⟨b,o,none⟩/\b<w.heap.size/\∀i,i<n->w.cell? ⟨b,o+i,none⟩=some (.int .i64 (f i))
theorem KM.below {w a:A5}{p:Option Aa}{n:Nat}{f:Nat->Int}(h:KM w p n f)(c:Below w.heap.size w a):KM a p n f:=by
 rcases h with h|⟨b,o,rfl,hl,h⟩
 ·exact .inl h
 ·exact .inr ⟨b,o,rfl,by have:=c.size;omega,fun i hi=>(c.cell (p:=⟨b,o+i,none⟩) hl).trans (h i hi)⟩
theorem KM.congr {w:A5}{p:Option Aa}{n:Nat}{f g:Nat->Int}(h:KM w p n f)(a:∀i,i<n->f i=g i):KM w p n g:=by
 rcases h with h|⟨b,o,rfl,hl,h⟩
 ·exact .inl h
 ·exact .inr ⟨b,o,rfl,hl,fun i hi=>by rw[<-a i hi];exact h i hi⟩
def CA (w:A5)(p:Option Aa)(l:List Int):Prop:=KM w p l.length fun i=>l.getD i 0
theorem CA.below {w a:A5}{p:Option Aa}{l:List Int}(h:CA w p l)(b:Below w.heap.size w a):CA a p l:=KM.below h b
theorem CA.nil (w:A5)(p:Option Aa):CA w p []:=.inl rfl
theorem xH {w:A5}{p:Option Aa}{n:Nat}{f:Nat->Int}(h:KM w p n f):∃l:List Int,l.length=n/\CA w p l:=by
 refine⟨(List.range n).map f,by simp,?_⟩;unfold CA;rw[G9,Gl];refine h.congr fun i hi=>?_;simp[List.getD,hi]
theorem CA.hold {w:A5}{p:Option Aa}{l:List Int}(h:CA w p l)(d:0<l.length):∃b o,p=some ⟨b,o,none⟩/\b<w.heap.size/\∀x,Below w.heap.size w x->∀i,i<l.length->x.cell? ⟨b,o+i,none⟩=some (.int .i64 (l.getD i 0)):=by
 rcases h with h|⟨b,o,rfl,hl,h⟩
 ·omega
 ·exact⟨b,o,rfl,hl,fun x c i hi=>(G3 (a:=⟨b,o+i,none⟩) (c.block b hl)).trans (h i hi)⟩
section
variable {H:Type}{enc:A7×A0->H}{P:A3}
theorem xZ {w:A5}{base d:Nat}{u:Nat->Bool}{g:Bool}{t e:A7}{v:A0}{x:Ab H×List Ac}
  (ht:P.underlying t=some (.slice e))(z:P.underlying e=some (.int .i64))(A:P.cellsOf e=1)
  (B:DataW.trod enc P w base u g d t [v]=some x):∃p len cap f,v=.slice p len cap/\len<=maxLen/\KM w p len f:=by
 rcases Go.Deep.open_slice1 ht A B with ⟨h1,_⟩|⟨a,len,cap,m,n,V,D,G,h1,I,hl,hm,j,_,C⟩
 ·injection h1 with h1;exact⟨none,0,0,fun _=>0,h1,G1 _,.inl rfl⟩
 ·injection h1 with h1;subst h1;have E:len<=m:=by rw[j];split <;> omega
  have each:∀i,i<len->∃y:Int,w.cell? (a.add i)=some (.int .i64 y):=by
   intro i hi;obtain⟨h1,h2⟩:=C i (by omega);obtain⟨y,k,_,_⟩:=Gi z h2;injection k with k;exact⟨y,by rw[h1,k]⟩
  refine⟨some a,len,cap,fun i=>match w.cell? (a.add i) with|some (.int _ y)=>y|_=>0,rfl,by omega,?_⟩;by_cases F:len=0
  ·exact .inl F
  ·right
   obtain⟨y0,c⟩:=each 0 (by omega);have l:a=⟨a.block,a.off,none⟩:=by
    have:a.add 0=a:=by cases a with|mk b o s=>cases s <;> simp[Addr.add]
    rw[this] at c;exact bI c
   have q:w.cell? ⟨a.block,a.off+0,none⟩=some (.int .i64 y0):=by
    rw[l] at c
    simpa [Addr.add] using c
   refine⟨a.block,a.off,by rw[<-l],Fc w ⟨a.block,a.off+0,none⟩ q,fun i hi=>?_⟩;obtain⟨y,r⟩:=each i hi;have h:a.add i=⟨a.block,a.off+i,none⟩:=by rw[l];simp[Addr.add]
   simp only[r];rw[<-h];exact r
end
def NM (l:List Int):List A0:=l.map fun x=>.int .i64 x
theorem ZM (l:List Int)(x:Int):NM (l++[x])=NM l++[.int .i64 x]:=by simp[NM]
theorem UL {w:A5}{base e:Nat}{v:A0}{l:List Int}{n:Nat}(hl:l.length=n)(h:w.ownsRow base e 1 v n (NM l)):
  ∃(q:Option Aa) (cap:Nat),v=.slice q n cap/\CA w q l:=by
 subst hl;have a:=h;rcases h.2 with ⟨rfl,h1⟩|⟨g,cap,b,rfl,_,c,_⟩
 ·exact⟨none,0,by rw[h1],.inl h1⟩
 ·refine⟨_,cap,rfl,.inr ⟨g,0,rfl,(Ed.1 c).1,fun i hi=>?_⟩⟩;have:=Ge (g:=g) a rfl i (.int .i64 (l.getD i 0)) (by simp[NM,List.getD,hi]);rwa [Gc] at this
theorem iV {P:A3}{w:A5}{o:A4}{a:Act}{K:Act->A5->Prop}{Q:Exit->Act->A5->Prop}{sl x:A8}{t base e c:Nat}{i:TypeInfo}{z v:A0}{n:Nat}{l:List A0}{B:Nat}{y0:Int}
  (ho:o.op=.call {callee:=.builtin .append,args:=#[sl,x],argTypes:=#[t,t]})
  (ht:P.underlying t=some (.slice e))(hi:P.info? e=some i)(r:i.zero=some z)(m:z.cells.size=1)(b:i.size=1)(p:i.bytes=8)
  (hs:a.eval sl=v)(f:w.ownsRow base e 1 v n l)(s:a.eval x=.slice (some ⟨B,0,none⟩) 1 c)(y:w.cell? ⟨B,0,none⟩=some (.int .i64 y0))(hn:n<=1048576)(d:base<=w.heap.size)
  (h:∀k g,g.ownsRow base e 1 k (n+1) (l++[.int .i64 y0])->w.grownBy g v.ownBlock->K (a.put o.dst k) g):o.wp P a w K Q:=
 wp_append_own w sl x t ho base e i z 1 8 ht hi r b p m (by decide) v n l hs f ⟨B,0,none⟩ 1 c [.int .i64 y0] s rfl
  (fun j u hj=>by
   match j,hj with
   |0,hj=>cases hj;exact y)
  (by intro u q;rw[Fz] at q;subst q;rfl) (by unfold maxLen;omega) (by omega) d
  fun k g h1 h2 _=>h k g h1 h2
theorem Qi6:(prog.info? 3).map (fun i=>(i.zero,i.size,i.bytes))=some (some (.int .i64 0),1,8):=by kernel_rfl
def DY (b a:Int):Bool:=decide (0<=b)&&decide (b<=63)&&decide (-127<=a)&&decide (a<=127) && !(a==0)
theorem JK {b a:Int}:DY b a=true↔0<=b/\b<=63∧-127<=a/\a<=127/\a≠0:=by
 unfold DY;simp[Bool.and_eq_true,and_assoc]
def C3 (last:Bool)(b a:Int):Obj:=.cells [.bool last,.int .i64 b,.int .i64 a].toArray 153 (0,0)
theorem Sp (last:Bool)(b a:Int)(w:A5):Calls prog 223 #[.agg #[.bool last,.int .i64 b,.int .i64 a]] w fun e g=>e=.returned (.bool (DY b a))/\Below w.heap.size w g:=by
 have c:∀o,Below w.heap.size w (w.alloc o):=fun o=>(Ea _ w).alloc (Ba _) o;have f:DY b a=(decide (0<=b)&&decide (b<=63)&&decide (-127<=a)&&decide (a<=127) && !(a==0)):=rfl;have d:=Fy f;clear f;cases g0:decide (0<=b)
 ·go_enter func223,ntmps223
  go_wp2
  go_ret
  exact⟨AH (by rw[d.out,g0];rfl),c _⟩
 cases g1:decide (b<=63)
 ·go_enter func223,ntmps223
  go_wp2
  go_ret
  exact⟨AH (by rw[d.out,g0,g1];rfl),c _⟩
 cases g2:decide (-127<=a)
 ·go_enter func223,ntmps223
  go_wp2
  go_ret
  exact⟨AH (by rw[d.out,g0,g1,g2];rfl),c _⟩
 cases g3:decide (a<=127)
 ·go_enter func223,ntmps223
  go_wp2
  go_ret
  exact⟨AH (by rw[d.out,g0,g1,g2,g3];rfl),c _⟩
 cases g4:a==0
 all_goals
  have h:=Fy (show (a != 0) = !(a==0) from rfl)
  go_enter func223,ntmps223
  go_wp2
  go_ret
  exact⟨AH (by rw[d.out,h.out,g0,g1,g2,g3,g4];rfl),c _⟩
theorem YP (last:Bool)(b a:Int)(w:A5):Calls prog 164 #[.agg #[.bool last,.int .i64 b,.int .i64 a]] w fun e g=>e=.returned (.bool (DY b a))/\Below w.heap.size w g:=by
 have c:∀o,Below w.heap.size w (w.alloc o):=fun o=>(Ea _ w).alloc (Ba _) o;have f:DY b a=(decide (0<=b)&&decide (b<=63)&&decide (-127<=a)&&decide (a<=127) && !(a==0)):=rfl;have d:=Fy f;clear f;cases g0:decide (0<=b)
 ·go_enter func164,ntmps164
  go_wp2
  go_ret
  exact⟨AH (by rw[d.out,g0];rfl),c _⟩
 cases g1:decide (b<=63)
 ·go_enter func164,ntmps164
  go_wp2
  go_ret
  exact⟨AH (by rw[d.out,g0,g1];rfl),c _⟩
 cases g2:decide (-127<=a)
 ·go_enter func164,ntmps164
  go_wp2
  go_ret
  exact⟨AH (by rw[d.out,g0,g1,g2];rfl),c _⟩
 cases g3:decide (a<=127)
 ·go_enter func164,ntmps164
  go_wp2
  go_ret
  exact⟨AH (by rw[d.out,g0,g1,g2,g3];rfl),c _⟩
 cases g4:a==0
 all_goals
  have h:=Fy (show (a != 0) = !(a==0) from rfl)
  go_enter func164,ntmps164
  go_wp2
  go_ret
  exact⟨AH (by rw[d.out,h.out,g0,g1,g2,g3,g4];rfl),c _⟩
def OL (x:Bool×Nat×Int):A0:=.agg #[.bool x.1,.int .i64 (x.2.1:Int),.int .i64 x.2.2]
theorem EE {x:A5}{B:Nat}{last:Bool}{r v:Int}(h:x.heap[B]? =some (C3 last r v)):
  x.cell? ⟨B,0,none⟩=some (.bool last)/\x.cell? ⟨B,1,none⟩=some (.int .i64 r)/\x.cell? ⟨B,2,none⟩=some (.int .i64 v)/\x.frozen? ⟨B,0,none⟩=false/\x.frozen? ⟨B,1,none⟩=false/\x.frozen? ⟨B,2,none⟩=false:=
 ⟨AA h rfl,AA h rfl,AA h rfl,AZ (o:=0) h,AZ (o:=1) h,AZ (o:=2) h⟩
theorem U6 {x:A5}{B:Nat}{last:Bool}{r v:Int}(h:x.heap[B]? =some (C3 last r v))(k:Int):(x.setCell ⟨B,1,none⟩ (.int .i64 k)).heap[B]? =some (C3 last k v):=BF (o:=1) (.int .i64 k) h
theorem pN {x:A5}{B:Nat}{last:Bool}{r v:Int}(h:x.heap[B]? =some (C3 last r v))(k:Int):(x.setCell ⟨B,2,none⟩ (.int .i64 k)).heap[B]? =some (C3 last r k):=BF (o:=2) (.int .i64 k) h
theorem Qmz {x:A5}{B:Nat}{last:Bool}{r v:Int}(h:x.heap[B]? =some (C3 last r v))(k:Bool):(x.setCell ⟨B,0,none⟩ (.bool k)).heap[B]? =some (C3 k r v):=BF (o:=0) (.bool k) h
theorem OZ {x:A5}{B:Nat}{last:Bool}{r v:Int}(h:x.heap[B]? =some (C3 last r v))(l':Bool)(r' a:Int):
  (((x.setCell ⟨B,0,none⟩ (.bool l')).setCell ⟨B,1,none⟩ (.int .i64 r')).setCell ⟨B,2,none⟩ (.int .i64 a)).heap[B]? =some (C3 l' r' a):=pN (U6 (Qmz h l') r') a
theorem QG {P:A3}{w:A5}{ops:Array A4}{rest:List A4}{o:A4}{a:Act}{Q:Exit->Act->A5->Prop}{sl x:A8}{t base e c:Nat}{i:TypeInfo}{z v:A0}{n:Nat}{l:List A0}{K:Nat}{y0:Bool}{y1 y2:Int}
  (m:o.guard=none)(ho:o.op=.call {callee:=.builtin .append,args:=#[sl,x],argTypes:=#[t,t]})
  (ht:P.underlying t=some (.slice e))(hi:P.info? e=some i)(s:i.zero=some z)(p:z.cells.size=3)(b:i.size=3)(q:i.bytes=24)
  (hs:a.eval sl=v)(g:w.ownsRow base e 3 v n l)(y:a.eval x=.slice (some ⟨K,0,none⟩) 1 c)(A:w.cell? ⟨K,0,none⟩=some (.bool y0))(c1:w.cell? ⟨K,1,none⟩=some (.int .i64 y1))(c2:w.cell? ⟨K,2,none⟩=some (.int .i64 y2))(hn:n<=1048576)(d:base<=w.heap.size)
  (h:∀f k,k.ownsRow base e 3 f (n+1) (l++[.bool y0,.int .i64 y1,.int .i64 y2])->w.grownBy k v.ownBlock->(f.ownBlock=v.ownBlock\/f.ownBlock=some w.heap.size)->wpList P ops Q rest (a.put o.dst f) k):wpList P ops Q (o::rest) a w:=
 wpList_append_own_at w m sl x t ho base e i z 3 24 ht hi s b q p (by decide) v n l hs g ⟨K,0,none⟩ 1 c [.bool y0,.int .i64 y1,.int .i64 y2] y rfl
  (fun j u hj=>by
   match j,hj with
   |0,hj=>cases hj;exact A
   |1,hj=>cases hj;exact c1
   |2,hj=>cases hj;exact c2)
  (by intro u r;simp only[Ei,Ej,Eo] at r;rcases r with rfl|rfl|rfl <;> rfl) (by unfold maxLen;omega) (by omega) d
  fun f k h1 h2 _ h4=>h f k h1 h2 h4
theorem sY:(prog.info? 153).map (fun i=>(i.zero,i.size,i.bytes))=some (some (.agg #[.bool false,.int .i64 0,.int .i64 0]),3,24):=by kernel_rfl
def MG (f:Nat->Int):List A0:=(List.range 64).map fun i=>.int .i64 (f i)
theorem Qq (f:Nat->Int):(MG f).length=64:=by simp[MG]
theorem Q5 (f:Nat->Int){i:Nat}(h:i<64):(MG f)[i]? =some (.int .i64 (f i)):=by simp[MG,h]
theorem uN (f:Nat->Int):∀v∈MG f,v.oneCell'=true:=by
 intro v hv;obtain⟨i,_,rfl⟩:=Gf.1 hv
 rfl
def GQ (f:Nat->Int)(i:Nat)(v:Int):Nat->Int:=fun k=>if k=i then v else f k
theorem Qhu (f:Nat->Int){i:Nat}(v:Int):(MG f).set i (.int .i64 v)=MG (GQ f i v):=by
 refine List.ext_getElem? fun k=>?_;rw[List.getElem?_set,Qq];by_cases a:k<64
 ·by_cases e:i=k
  ·subst e;rw[Bc rfl,Bc a,Q5 _ a];simp[GQ]
  ·rw[Bb e,Q5 _ a,Q5 _ a];unfold GQ;rw[Bb (fun h=>e h.symm)]
 ·by_cases e:i=k
  ·subst e;rw[Bc rfl,Bb a,Gg (by rw[Qq];omega)]
  ·rw[Bb e,Gg (by rw[Qq];omega),Gg (by rw[Qq];omega)]
def CY (f:Nat->Int):Array A0:=(MG f).toArray
theorem KC (f:Nat->Int):(CY f).size=64:=Qq f
theorem mJ (f:Nat->Int){i:Nat}(h:i<64):(CY f)[i]? =some (.int .i64 (f i)):=by
 unfold CY;rw[List.getElem?_toArray];exact Q5 f h
theorem NF (f:Nat->Int):(CY f).all (·.oneCell')=true:=by
 rw[G7];intro v hv;exact uN f v (by simpa [CY] using hv)
def HB (f:Nat->Int):Obj:=.cells (CY f) 180 (0,0)
theorem iH:(prog.info? 180).map (·.size)=some 64:=by kernel_rfl
theorem NP (f:Nat->Int):(prog.info? 180).map (·.size)=some (CY f).size:=by rw[KC];exact iH
theorem QF:∃i,prog.info? 3=some i:=by
 cases h:prog.info? 3 with
 |some i=>exact⟨i,rfl⟩
 |none=>
  have h2:(prog.info? 3).isSome=true:=by kernel_rfl
  rw[h] at h2;cases h2
theorem Pt:prog.cellsOf 3=1:=by kernel_rfl
theorem MS:prog.plainKey 3=true:=by kernel_rfl
theorem PJ (w:A5):(zeroValue 180).run prog w=.ok (.agg (CY fun _=>0)) w:=by
 have h:(prog.info? 180).map (fun i=>i.zero)=some (some (.agg (CY fun _=>0))):=by kernel_rfl
 generalize (CY fun _=>0)=Z at h ⊢;cases hq:prog.info? 180 with
 |none=>simp[hq] at h
 |some i=>
  simp[hq] at h;simp[zeroValue,typeInfo,hq,h]
theorem Wx {w:A5}{B i:Nat}{f:Nat->Int}(h:w.heap[B]? =some (HB f))(hi:i<64):w.cell? ⟨B,i,none⟩=some (.int .i64 (f i)):=by
 rw[cell_of_row w B i _ _ _ h];exact mJ f hi
theorem aN {w:A5}{B i:Nat}{f:Nat->Int}(h:w.heap[B]? =some (HB f)):w.frozen? ⟨B,i,none⟩=false:=Ex w B i _ _ h
theorem YT {w:A5}{B i:Nat}{f:Nat->Int}(v:Int)(h:w.heap[B]? =some (HB f)):(w.setCell ⟨B,i,none⟩ (.int .i64 v)).heap[B]? =some (HB (GQ f i v)):=by
 rw[heap_setCell_same w B i _ _ _ h];unfold HB;rw[show (CY f).setIfInBounds i (.int .i64 v)=CY (GQ f i v) by unfold CY;rw[Ga,Qhu]]
theorem B4 {P:A3}{ops:Array A4}{rest:List A4}{op:A4}{a:Act}{w:A5}{Q:Exit->Act->A5->Prop}(d:op.guard=none)(ty:A7)(x y:A8)(ho:op.op=.store ty x y)
  (b:Nat)(Z c:Array A0)(i:a.eval x=.pointer (some ⟨b,0,none⟩))(j:a.eval y=.agg Z)(T:A7)(g:w.heap[b]? =some (.cells c T (0,0)))(hi:(P.info? ty).map (·.size)=some Z.size)(hs:c.size=Z.size)(h1:Z.all (·.oneCell')=true)
  (h:∀f,f.heap[b]? =some (.cells Z T (0,0))->w.grownBy f (some b)->wpList P ops Q rest (a.put op.dst undef) f):wpList P ops Q (op::rest) a w:=
 wpList_store_row d ty x y ho b Z i j T c g hi hs h1 (h _ (Et w b c Z T (0,0) g) ⟨rfl,rfl,rfl,by simp,fun k _ l=>Es w b k _ (by intro e;exact l (by rw[e]))⟩)
theorem NI {P:A3}{ops:Array A4}{rest:List A4}{o:A4}{a:Act}{w:A5}{Q:Exit->Act->A5->Prop}(c:Region.wanted o (yielded ops a.tmps)=true)(ty:A7)(x:A8)(ho:o.op=.load ty x)
  (g:Nat)(e:a.eval x=.pointer (some ⟨g,0,none⟩))(t:A7)(cs:Array A0)(b:Nat×Nat)(d:TypeDesc)(f:w.heap[g]? =some (.cells cs t b))
  (i:P.underlying ty=some d)(hd:(match d with|.struct _|.array _ _=>true|_=>false)=true)(hi:(P.info? ty).map (·.size)=some cs.size)
  (h:wpList P ops Q rest (a.put o.dst (.agg cs)) w):wpList P ops Q (o::rest) a w:=by
 unfold wpList;rw[Bc c];exact .inl (wp_load_row ty x ho g e t cs b d f i hd hi h)
section
variable {H:Type}{enc:A7×A0->H}{P:A3}
end
end
section
open Go.RowKit
abbrev Ev:=Bool×Int×Int
def RE (x:Ev):List A0:=[.bool x.1,.int .i64 x.2.1,.int .i64 x.2.2]
def JB (l:List Ev):List A0:=l.flatMap RE
theorem WZ (l:List Ev)(x:Ev):JB (l++[x])=JB l++RE x:=by simp[JB]
theorem fF (l:List Ev):∀(i:Nat) (h:i<l.length),(JB l)[3*i]? =some (.bool l[i].1)/\(JB l)[3*i+1]? =some (.int .i64 l[i].2.1)/\(JB l)[3*i+2]? =some (.int .i64 l[i].2.2):=by
 induction l with
 |nil=>intro i h;cases h
 |cons p l a=>
  intro i h
  match i with
  |0=>exact⟨rfl,rfl,rfl⟩
  |i+1=>
   have:=a i (by simpa using h);rw[JB,G8,show 3*(i+1)=(RE p).length+3*i by simp[RE];omega];rw[Gb (by omega),Bv,Bz,Bz,Gb (by omega),Gb (by omega),Bv,Bv];exact this
def evs (f:Nat->Int)(a:Nat):Nat->List Ev×Nat
 |0=>([],0)
 |k+1=>if k<a then evs f a k else if f k=0 then ((evs f a k).1,(evs f a k).2+1) else ((evs f a k).1++[(false,((evs f a k).2:Int),f k)],0)
def okl (v:Int):Bool:=decide (-127<=v)&&decide (v<=127)
def bad (f:Nat->Int)(a:Nat):Nat->Bool
 |0=>false
 |k+1=>bad f a k || (decide (a<=k) && !okl (f k))
def lvS (a:Nat)(l:List Ev):Nat×(Nat->Int):=l.foldl (fun s e=>(s.1+e.2.1.toNat+1,GQ s.2 (s.1+e.2.1.toNat) e.2.2)) (a,fun _=>0)
theorem WR (a:Nat)(l:List Ev)(e:Ev):lvS a (l++[e])=((lvS a l).1+e.2.1.toNat+1,GQ (lvS a l).2 ((lvS a l).1+e.2.1.toNat) e.2.2):=by
 unfold lvS;rw[Gm]
 rfl
theorem Rh (a:Nat)(l:List Ev){j:Nat}(h:j<l.length):lvS a (l.take (j+1))=((lvS a (l.take j)).1+l[j].2.1.toNat+1,GQ (lvS a (l.take j)).2 ((lvS a (l.take j)).1+l[j].2.1.toNat) l[j].2.2):=by
 rw[Be h,WR]
def EN (a:Nat)(l:List Ev)(j:Nat)(e:Ev):Bool:=DY e.2.1 e.2.2&&(e.1==decide (j+1=l.length))&&decide ((lvS a (l.take j)).1+e.2.1.toNat<64)
def DQ (a:Nat)(l:List Ev):Nat->Bool
 |0=>false
 |j+1=>DQ a l j || (match l[j]? with|some e=>!EN a l j e|none=>false)
theorem X3 {a:Nat}{l:List Ev}{k:Nat}(h:DQ a l k=true):∀d,DQ a l (k+d)=true
 |0=>h
 |d+1=>by rw[<-Bz,DQ,X3 h d];rfl
theorem To {a:Nat}{l:List Ev}{j:Nat}(hj:j<l.length)(h:EN a l j l[j]=false):DQ a l l.length=true:=by
 have h1:DQ a l (j+1)=true:=by
  rw[DQ,G6 hj];simp[h]
 have:=X3 h1 (l.length-(j+1));rwa [show j+1+(l.length-(j+1))=l.length by omega] at this
theorem Q3 {a:Nat}{l:List Ev}:∀k,k<=l.length->(∀j,(h:j<l.length)->j<k->EN a l j l[j]=true)->DQ a l k=false
 |0,_,_=>rfl
 |k+1,hk,h=>by
  rw[DQ,Q3 k (by omega) fun j h1 h2=>h j h1 (by omega),G6 (by omega)];simp[h k (by omega) (by omega)]
theorem Pu {a:Nat}{l:List Ev}(h:DQ a l l.length=false){j:Nat}(hj:j<l.length):EN a l j l[j]=true:=by
 cases h2:EN a l j l[j] with
 |true=>rfl
 |false=>rw[To hj h2] at h;cases h
def lvG (l:List Ev)(a:Int):(Nat->Int)×Int:=if a=0\/a=1 then (if DQ a.toNat l l.length then (fun _=>0,7) else ((lvS a.toNat l).2,0)) else (fun _=>0,1)
end
section
open Go.RowKit Go.Lib Go.ChangeShapes Go.WideShapes Go.ChangeAt
def D3 (w:A5)(p:Option Aa)(l:List Ev):Prop:=
 l=[]\/∃b o,p=some ⟨b,o,none⟩/\b<w.heap.size/\∀i,(h:i<l.length)->w.cell? ⟨b,o+i*3,none⟩=some (.bool l[i].1)/\w.cell? ⟨b,o+i*3+1,none⟩=some (.int .i64 l[i].2.1)/\w.cell? ⟨b,o+i*3+2,none⟩=some (.int .i64 l[i].2.2)
theorem D3.below {w c:A5}{p:Option Aa}{l:List Ev}(h:D3 w p l)(a:Below w.heap.size w c):D3 c p l:=by
 rcases h with h|⟨b,o,h1,h2,h3⟩
 ·exact .inl h
 ·refine .inr ⟨b,o,h1,Bg h2 a.size,fun i hi=>?_⟩;rw[a.cell (p:=⟨b,o+i*3,none⟩) h2,a.cell (p:=⟨b,o+i*3+1,none⟩) h2,a.cell (p:=⟨b,o+i*3+2,none⟩) h2];exact h3 i hi
theorem D3.at {w:A5}{p:Option Aa}{l:List Ev}(h:D3 w p l)(a:0<l.length):
  ∃b o,p=some ⟨b,o,none⟩/\b<w.heap.size/\∀i,(h:i<l.length)->w.cell? ⟨b,o+i*3,none⟩=some (.bool l[i].1)/\w.cell? ⟨b,o+i*3+1,none⟩=some (.int .i64 l[i].2.1)/\w.cell? ⟨b,o+i*3+2,none⟩=some (.int .i64 l[i].2.2):=by
 rcases h with rfl|h
 ·cases a
 ·exact h
theorem tU {w:A5}{base e:Nat}{v:A0}{l:List Ev}(h:w.ownsRow base e 3 v l.length (JB l)):∃(q:Option Aa) (cap:Nat),v=.slice q l.length cap/\D3 w q l:=by
 have a:=h;rcases h.2 with ⟨rfl,h1⟩|⟨g,cap,b,rfl,_,c,_⟩
 ·exact⟨none,0,by rw[h1],.inl (G4 h1)⟩
 ·refine⟨_,cap,rfl,.inr ⟨g,0,rfl,(Ed.1 c).1,fun i hi=>?_⟩⟩;obtain⟨d,f,j⟩:=fF l i hi;rw[Bo,C9 i 3];exact⟨(a.cellAt (3*i) (by omega)).trans d,(a.cellAt (3*i+1) (by omega)).trans f,(a.cellAt (3*i+2) (by omega)).trans j⟩
def Lq (vs:List A0):Prop:=∃(b:Bool) (x y:Int),vs=[.bool b,.int .i64 x,.int .i64 y]/\(Lit.int .i64 x).wf=true/\(Lit.int .i64 y).wf=true
section
variable {H:Type}{enc:A7×A0->H}{P:A3}
theorem jB {w:A5}{base:Nat}{d:Nat->Bool}{a:Bool}{e f c:A7}{f0 f1 f2:Field}
  (q:P.underlying e=some (.struct #[f0,f1,f2]))(r:P.underlying f=some .bool)(hi:P.underlying c=some (.int .i64))(s:f0.type=f)(t:f1.type=c)(u:f2.type=c)(v:f0.offset=0)(x:f1.offset=1)(z:f2.offset=2)(cb:P.cellsOf f=1)(m:P.cellsOf c=1):
  ∀k (vs:List A0) y,vs.length=3->DataW.trod enc P w base d a k e vs=some y->Lq vs:=by
 intro k vs y hl h;obtain⟨A,k,H,B,_,g,b⟩:=Gh q h
 match A,g,vs,hl with
 |[y0,y1,y2],_,[v0,v1,v2],_=>
  have n:=b 0 f0 rfl;have o:=b 1 f1 rfl;have p:=b 2 f2 rfl;rw[s,v,cb] at n;rw[t,x,m] at o;rw[u,z,m] at p;obtain⟨C,i,_⟩:=Gj r (show DataW.trod _ P w base d a k f [v0]=some y0 from n);obtain⟨D,j,_,E⟩:=Gi hi (show DataW.trod _ P w base d a k c [v1]=some y1 from o)
  obtain⟨F,l,_,G⟩:=Gi hi (show DataW.trod _ P w base d a k c [v2]=some y2 from p);injection i with i;injection j with j;injection l with l;subst i j l;exact⟨C,D,F,rfl,E,G⟩
end
theorem P1 {W:A5}{p:Option Aa}{len:Nat}(h:SQ W Lq 3 p len):∃l:List Ev,l.length=len/\D3 W p l/\∀i,(h:i<l.length)->(Lit.int .i64 l[i].2.1).wf=true/\(Lit.int .i64 l[i].2.2).wf=true:=by
 rcases h with rfl|⟨b,o,c,d,hc⟩
 ·exact⟨[],rfl,.inl rfl,fun i h=>by cases h⟩
 ·have each:∀i,∃e:Ev,i<len->(W.cell? ⟨b,o+i*3,none⟩=some (.bool e.1)/\W.cell? ⟨b,o+i*3+1,none⟩=some (.int .i64 e.2.1)/\W.cell? ⟨b,o+i*3+2,none⟩=some (.int .i64 e.2.2))/\(Lit.int .i64 e.2.1).wf=true/\(Lit.int .i64 e.2.2).wf=true:=by
   intro i;by_cases hi:i<len
   ·obtain⟨vs,_,⟨x,y,z,rfl,f,g⟩,hv⟩:=hc i hi;exact⟨(x,y,z),fun _=>⟨⟨hv 0 _ rfl,hv 1 _ rfl,hv 2 _ rfl⟩,f,g⟩⟩
   ·exact⟨(false,0,0),fun h=>absurd h hi⟩
  refine⟨(List.range len).map fun i=>Classical.choose (each i),by simp,.inr ⟨b,o,c,d,fun i hi=>?_⟩,fun i hi=>?_⟩
  ·have a:i<len:=by simpa using hi
   simp only[Gn,List.getElem_range];exact(Classical.choose_spec (each i) a).1
  ·have a:i<len:=by simpa using hi
   simp only[Gn,List.getElem_range];exact(Classical.choose_spec (each i) a).2
section
variable {H:Type}{enc:A7×A0->H}{P:A3}
theorem LU {w:A5}{base g:Nat}{u:Nat->Bool}{d:Bool}{t e:A7}{v:A0}{x:Ab H×List Ac}(c:Nat)(Q:List A0->Prop)
  (ht:P.underlying t=some (.slice e))(A:P.cellsOf e=c)(hc:0<c)(B:∀k vs y,vs.length=c->DataW.trod enc P w base u d k e vs=some y->Q vs)
  (C:DataW.trod enc P w base u d g t [v]=some x):∃p len cap,v=.slice p len cap/\len<=maxLen/\SQ w Q c p len:=by
 rcases Gk ht C with ⟨h1,_⟩|⟨h,a,l,m,n,D,J,h1,K,hl,hm,q,_,E⟩
 ·injection h1 with h1;exact⟨none,0,0,h1,G1 _,.inl rfl⟩
 ·injection h1 with h1;refine⟨some h,a,l,h1,by omega,?_⟩;have F:a<=m:=by rw[q];split <;> omega
  have each:∀i,i<a->∃vs:List A0,vs.length=c/\Q vs/\∀(j:Nat) v,vs[j]? =some v->w.cell? (h.add (i*c+j))=some v:=by
   intro i o;obtain⟨r,h1,h2⟩:=E i (by omega);rw[A] at h1;obtain⟨_,b,f⟩:=World.cells?_some h1;refine⟨r,b,B _ _ _ b h2,fun j v hj=>?_⟩;have s:j<c:=by rw[<-b];exact(Gd.1 hj).1
   have:=f j s;rw[Go.Deep.add_add] at this;rw[this,hj]
  by_cases G:a=0
  ·exact .inl G
  ·right
   obtain⟨vs,I,_,hv⟩:=each 0 (by omega);have ca:=hv 0 _ (G6 (by omega));rw[show 0*c+0=0 by omega] at ca;have ca:w.cell? h=_:=ca;have z:=bI ca;refine⟨h.block,h.off,by rw[<-z],vH ca,fun i o=>?_⟩;obtain⟨vs,h1,h2,h3⟩:=each i o;refine⟨vs,h1,h2,fun j v hj=>?_⟩;have:=h3 j v hj;rw[z,Gc,<-Bz] at this;exact this
end
end
section
open Go.RowKit Go.Lib
structure Cel where
 stuff:Int
 skip:Bool
 kind:Int
 step:Int
 mx:Int
 my:Int
 dc:Nat->Int
 ev:Nat->List Ev
def Ec:Cel:=⟨0,false,0,0,0,0,fun _=>0,fun _=>[]⟩
def six {α:Type}(a b c d e f:α):Nat->α
 |0=>a
 |1=>b
 |2=>c
 |3=>d
 |4=>e
 |_=>f
def AJ (c:Cel)(sl:Nat->A0):List A0:=
 [.int .i64 c.stuff,.bool c.skip,.int .i64 c.kind,.int .i64 c.step,.int .i64 c.mx,.int .i64 c.my,
  .int .i64 (c.dc 0),.int .i64 (c.dc 1),.int .i64 (c.dc 2),.int .i64 (c.dc 3),.int .i64 (c.dc 4),.int .i64 (c.dc 5),sl 0,sl 1,sl 2,sl 3,sl 4,sl 5]
def nilS:Nat->A0:=fun _=>.slice none 0 0
theorem JM (c:Cel)(sl:Nat->A0):∀i,i<6->(AJ c sl)[6+i]? =some (.int .i64 (c.dc i))
 |0,_=>rfl
 |1,_=>rfl
 |2,_=>rfl
 |3,_=>rfl
 |4,_=>rfl
 |5,_=>rfl
theorem JZ (c:Cel)(sl:Nat->A0):∀i,i<6->(AJ c sl)[12+i]? =some (sl i)
 |0,_=>rfl
 |1,_=>rfl
 |2,_=>rfl
 |3,_=>rfl
 |4,_=>rfl
 |5,_=>rfl
def Tv (c d:Cel):Bool:=c.stuff==d.stuff&&c.skip==d.skip&&c.kind==d.kind&&c.step==d.step&&(c.mx==d.mx&&c.my==d.my)&&(List.range 6).all fun i=>c.dc i==d.dc i
def evB (c d:Cel):Bool:=(List.range 6).all fun i=>decide (c.ev i=d.ev i)
def MO (c d:Cel):Bool:=evB c d&&Tv c d
theorem rP {c d:Cel}(h:∀i,i<6->c.ev i=d.ev i):evB c d=true:=by
 unfold evB;rw[Bu];intro i hi
 simpa using h i (Bt.1 hi)
def GZ (w:A5)(c:Cel)(p:Nat->Option Aa)(n:Nat->Nat):Prop:=∀i,i<6->n i=(c.ev i).length/\n i<=1048576/\D3 w (p i) (c.ev i)
theorem GZ.below {w x:A5}{c:Cel}{p:Nat->Option Aa}{n:Nat->Nat}(h:GZ w c p n)(a:Below w.heap.size w x):GZ x c p n:=
 fun i hi=>⟨(h i hi).1,(h i hi).2.1,(h i hi).2.2.below a⟩
end
section
open Go.RowKit Go.Lib Go.ChangeShapes Go.WideShapes Go.ChangeAt
section
variable {H:Type}{enc:A7×A0->H}{P:A3}
theorem Y30 {w:A5}{base f:Nat}{g:Nat->Bool}{c:Bool}{t e:A7}{h c1:A0}{x:Ab H×List Ac}
  (ht:P.underlying t=some (.array 2 e))(l:P.underlying e=some (.int .i64))(i:P.cellsOf e=1)(n:DataW.trod enc P w base g c f t [h,c1]=some x):
  ∃a b:Int,h=.int .i64 a/\c1=.int .i64 b/\(Lit.int .i64 a).wf=true/\(Lit.int .i64 b).wf=true:=by
 obtain⟨o,m,_,_,_,hl,d⟩:=DataW.trod_array ht n;rw[i] at d
 match o,hl with
 |[y0,y1],_=>
  obtain⟨p,j,_,w0⟩:=Gi l (show DataW.trod _ P w base g c m e [h]=some y0 from d 0 (by omega));obtain⟨q,k,_,r⟩:=Gi l (show DataW.trod _ P w base g c m e [c1]=some y1 from d 1 (by omega));injection j with j;injection k with k;exact⟨p,q,j,k,w0,r⟩
theorem Ym {w:A5}{base d:Nat}{c:Nat->Bool}{a:Bool}{t e:A7}{j c1 c2 c3 c4 k:A0}{x:Ab H×List Ac}
  (ht:P.underlying t=some (.array 6 e))(f:P.cellsOf e=1)(l:DataW.trod enc P w base c a d t [j,c1,c2,c3,c4,k]=some x):
  ∃(m:Nat) (y0 y1 y2 g h i:Ab H×List Ac),DataW.trod enc P w base c a m e [j]=some y0/\DataW.trod enc P w base c a m e [c1]=some y1/\DataW.trod enc P w base c a m e [c2]=some y2/\DataW.trod enc P w base c a m e [c3]=some g/\DataW.trod enc P w base c a m e [c4]=some h/\DataW.trod enc P w base c a m e [k]=some i:=by
 obtain⟨n,m,_,_,_,hl,b⟩:=DataW.trod_array ht l;rw[f] at b
 match n,hl with
 |[y0,y1,y2,g,h,i],_=>exact⟨m,y0,y1,y2,g,h,i,b 0 (by omega),b 1 (by omega),b 2 (by omega),b 3 (by omega),b 4 (by omega),b 5 (by omega)⟩
theorem GU {w:A5}{base b:Nat}{f:Nat->Bool}{d:Bool}{e:A7}{c:A0}{x:Ab H×List Ac}(g:P.underlying e=some (.int .i64))(i:DataW.trod enc P w base f d b e [c]=some x):
  ∃a:Int,c=.int .i64 a/\(Lit.int .i64 a).wf=true:=by
 obtain⟨a,q,_,h⟩:=Gi g i;injection q with q;exact⟨a,q,h⟩
end
end
end Go.Proofs.YtjjmalchelniiaaGreatDoor
