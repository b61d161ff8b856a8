/- No condition. -/
import Derived.Test.YtjjmalchelniiaaGreatDoorZpb
import Derived.Test.YtjjmalchelniiaaGreatDoorZpe
import Derived.Test.YtjjmalchelniiaaGreatDoorZpf
import Derived.WalkKit
import Derived.Lib.Hide
import Derived.Test.YtjjmalchelniiaaGreatDoorChecked
import Derived.Deep.Slices
import Derived.Deep.AppendLies
open Go.Proofs.Tryz
open Go renaming World->A5,Addr->Aa,TypeId->A7,Value->A0,Program->A3,Oper->A4,Operand->A8,TypeInfo->Ab
set_option maxHeartbeats 2000000
namespace Go.Proofs.YtjjmalchelniiaaGreatDoor
section
open Go.RowKit Go.Lib Go.ChangeShapes Go.WideShapes Go.ChangeAt
theorem Wb0{p:Prop}(h:p:=by
 go_wp2
 go_ret
 exact⟨AJ (by rw[c.out,g0,g1,g2];rfl),b _⟩):p:=h
theorem Wbz{p:Prop}(h:p:=by
 go_wp2
 go_ret
 exact⟨AJ (by rw[c.out,g0,g1,g2,g3];rfl),b _⟩):p:=h
theorem Wby{p:Prop}(h:p:=by
 go_wp2
 go_ret
 exact⟨AJ (by rw[c.out,g.out,g0,g1,g2,g3,g4];rfl),b _⟩):p:=h
theorem Wbx{p:Prop}(h:p:=by
 go_wp2
 go_region
 go_wp2
 go_ret
 exact⟨AJ F.out.symm,a⟩):p:=h
theorem uN{p:Prop}(h:p:=by kernel_rfl):p:=h
theorem uO{p:Prop}(h:p:=by go_num):p:=h
theorem uP{p:Prop}(h:p:=by unfold maxLen;omega):p:=h
theorem uQ{p:Prop}(h:p:=by simpa using h):p:=h
abbrev Fx:=@Lib.hid
abbrev Fy:=@List.mem_singleton
abbrev Fz:=@beq_eq_false_iff_ne
abbrev G0:=@Bool.and_eq_true
abbrev G1:=@Nat.zero_le
abbrev G3:=@decide_eq_true_iff
abbrev G4:=@World.cell?_of_block
abbrev G6:=@List.eq_nil_of_length_eq_zero
abbrev G7:=@List.setIfInBounds_toArray
abbrev G8:=@Nat.not_lt_zero
abbrev G9:=@List.getElem?_eq_getElem
abbrev Ga:=@List.getElem?_append_right
abbrev Gb:=@Array.all_eq_true_iff_forall_mem
abbrev Gc:=@List.flatMap_cons
abbrev Gd:=@decide_eq_false_iff_not
abbrev Ge:=@Nat.le_of_eq
abbrev Gf:=@List.getElem?_eq_none
abbrev Gg:=@World.ownsRow.cells
abbrev Gh:=@Addr.add_mid
abbrev Gi:=@List.mem_map
abbrev Gj:=@List.all_eq_false
abbrev Gk:=@List.foldl_append
def Q2 (w:A5)(p:Option Aa)(n:Nat)(f:Nat->Int):Prop:=n=0\/∃b o,p=some ⟨b,o,none⟩/\b<w.heap.size/\∀i,i<n->w.cell? ⟨b,o+i,none⟩=some (.int .i64 (f i))
theorem Q2.below {w a:A5}{p:Option Aa}{n:Nat}{f:Nat->Int}(h:Q2 w p n f)(c:Below w.heap.size w a):Q2 a p n f:=by
 rcases h with h|⟨b,o,rfl,hl,h⟩
 ·exact .inl h
 ·exact .inr ⟨b,o,rfl,by have:=c.size;omega,fun i hi=>(c.cell (p:=⟨b,o+i,none⟩) hl).trans (h i hi)⟩
def BO (w:A5)(p:Option Aa)(l:List Int):Prop:=Q2 w p l.length fun i=>l.getD i 0
theorem BO.below {w a:A5}{p:Option Aa}{l:List Int}(h:BO w p l)(b:Below w.heap.size w a):BO a p l:=Q2.below h b
theorem BO.nil (w:A5)(p:Option Aa):BO w p []:=.inl rfl
theorem BO.hold {w:A5}{p:Option Aa}{l:List Int}(h:BO w p l)(d:0<l.length):∃b o,p=some ⟨b,o,none⟩/\b<w.heap.size/\∀x,Below w.heap.size w x->∀i,i<l.length->x.cell? ⟨b,o+i,none⟩=some (.int .i64 (l.getD i 0)):=by
 rcases h with h|⟨b,o,rfl,hl,h⟩
 ·omega
 ·exact⟨b,o,rfl,hl,fun x c i hi=>(G4 (a:=⟨b,o+i,none⟩) (c.block b hl)).trans (h i hi)⟩
section
variable {H:Type}{enc:A7×A0->H}{P:A3}
end
def LF (l:List Int):List A0:=l.map fun x=>.int .i64 x
theorem KX (l:List Int)(x:Int):LF (l++[x])=LF l++[.int .i64 x]:=by simp[LF]
theorem OK {w:A5}{base e:Nat}{v:A0}{l:List Int}{n:Nat}(hl:l.length=n)(h:w.ownsRow base e 1 v n (LF l)):
  ∃(q:Option Aa) (cap:Nat),v=.slice q n cap/\BO w q l:=by
 subst hl;have a:=h;rcases h.2 with ⟨rfl,h1⟩|⟨g,cap,b,rfl,_,hg,_⟩
 ·exact⟨none,0,by rw[h1],.inl h1⟩
 ·refine⟨_,cap,rfl,.inr ⟨g,0,rfl,(E9.1 hg).1,fun i hi=>?_⟩⟩;have:=Gg (g:=g) a rfl i (.int .i64 (l.getD i 0)) (by simp[LF,List.getD,hi]);rwa [Gh] at this
theorem OM {P:A3}{w:A5}{ops:Array A4}{rest:List A4}{o:A4}{a:Act}{Q:Exit->Act->A5->Prop}{sl x:A8}{t base e c:Nat}{i:Ab}{z v:A0}{n:Nat}{l:List A0}{K:Nat}{y0:Int}
  (m:o.guard=none)(ho:o.op=.call {callee:=.builtin .append,args:=#[sl,x],argTypes:=#[t,t]})
  (ht:P.underlying t=some (.slice e))(hi:P.info? e=some i)(s:i.zero=some z)(p:z.cells.size=1)(b:i.size=1)(q:i.bytes=8)
  (hs:a.eval sl=v)(f:w.ownsRow base e 1 v n l)(y:a.eval x=.slice (some ⟨K,0,none⟩) 1 c)(c0:w.cell? ⟨K,0,none⟩=some (.int .i64 y0))(hn:n<=1048576)(d:base<=w.heap.size)
  (h:∀k g,g.ownsRow base e 1 k (n+1) (l++[.int .i64 y0])->w.grownBy g v.ownBlock->wpList P ops Q rest (a.put o.dst k) g):wpList P ops Q (o::rest) a w:=
 wpList_append_own w m sl x t ho base e i z 1 8 ht hi s b q p sY v n l hs f ⟨K,0,none⟩ 1 c [.int .i64 y0] y rfl
  (fun j u hj=>by
   match j,hj with
   |0,hj=>cases hj;exact c0)
  (by intro u r;rw[Fy] at r;subst r;rfl) uP sX d
  fun k g h1 h2 _=>h k g h1 h2
theorem pQ {P:A3}{w:A5}{o:A4}{a:Act}{K:Act->A5->Prop}{Q:Exit->Act->A5->Prop}{sl x:A8}{t base e c:Nat}{i:Ab}{z v:A0}{n:Nat}{l:List A0}{B:Nat}{y0:Int}
  (ho:o.op=.call {callee:=.builtin .append,args:=#[sl,x],argTypes:=#[t,t]})
  (ht:P.underlying t=some (.slice e))(hi:P.info? e=some i)(r:i.zero=some z)(m:z.cells.size=1)(b:i.size=1)(p:i.bytes=8)
  (hs:a.eval sl=v)(f:w.ownsRow base e 1 v n l)(s:a.eval x=.slice (some ⟨B,0,none⟩) 1 c)(c0:w.cell? ⟨B,0,none⟩=some (.int .i64 y0))(hn:n<=1048576)(d:base<=w.heap.size)
  (h:∀k g,g.ownsRow base e 1 k (n+1) (l++[.int .i64 y0])->w.grownBy g v.ownBlock->K (a.put o.dst k) g):o.wp P a w K Q:=
 wp_append_own w sl x t ho base e i z 1 8 ht hi r b p m sY v n l hs f ⟨B,0,none⟩ 1 c [.int .i64 y0] s rfl
  (fun j u hj=>by
   match j,hj with
   |0,hj=>cases hj;exact c0)
  (by intro u q;rw[Fy] at q;subst q;rfl) uP sX d
  fun k g h1 h2 _=>h k g h1 h2
theorem YC:(prog.info? 3).map (fun i=>(i.zero,i.size,i.bytes))=some (some (.int .i64 0),1,8):=uN
def DL (run a:Int):Bool:=decide (0<=run)&&decide (run<=63)&&decide (-127<=a)&&decide (a<=127) && !(a==0)
theorem KQ {run a:Int}:DL run a=true↔0<=run/\run<=63∧-127<=a/\a<=127/\a≠0:=by
 unfold DL;simp[Bool.and_eq_true,and_assoc]
def BD (last:Bool)(run a:Int):Obj:=.cells [.bool last,.int .i64 run,.int .i64 a].toArray 153 (0,0)
theorem T5 (last:Bool)(run a:Int)(w:A5):Calls prog 223 #[.agg #[.bool last,.int .i64 run,.int .i64 a]] w fun e f=>e=.returned (.bool (DL run a))/\Below w.heap.size w f:=by
 have b:∀o,Below w.heap.size w (w.alloc o):=fun o=>(Ea _ w).alloc (B9 _) o;have d:DL run a=(decide (0<=run)&&decide (run<=63)&&decide (-127<=a)&&decide (a<=127) && !(a==0)):=rfl;have c:=Fx d;clear d;cases g0:decide (0<=run)
 ·go_enter func223,ntmps223
  go_wp2
  go_ret
  exact⟨AJ (by rw[c.out,g0];rfl),b _⟩
 cases g1:decide (run<=63)
 ·go_enter func223,ntmps223
  go_wp2
  go_ret
  exact⟨AJ (by rw[c.out,g0,g1];rfl),b _⟩
 cases g2:decide (-127<=a)
 ·go_enter func223,ntmps223
  exact Wb0
 cases g3:decide (a<=127)
 ·go_enter func223,ntmps223
  exact Wbz
 cases g4:a==0
 all_goals
  have g:=Fx (show (a != 0) = !(a==0) from rfl)
  go_enter func223,ntmps223
  exact Wby
theorem Yr (last:Bool)(run a:Int)(w:A5):Calls prog 164 #[.agg #[.bool last,.int .i64 run,.int .i64 a]] w fun e f=>e=.returned (.bool (DL run a))/\Below w.heap.size w f:=by
 have b:∀o,Below w.heap.size w (w.alloc o):=fun o=>(Ea _ w).alloc (B9 _) o;have d:DL run a=(decide (0<=run)&&decide (run<=63)&&decide (-127<=a)&&decide (a<=127) && !(a==0)):=rfl;have c:=Fx d;clear d;cases g0:decide (0<=run)
 ·go_enter func164,ntmps164
  go_wp2
  go_ret
  exact⟨AJ (by rw[c.out,g0];rfl),b _⟩
 cases g1:decide (run<=63)
 ·go_enter func164,ntmps164
  go_wp2
  go_ret
  exact⟨AJ (by rw[c.out,g0,g1];rfl),b _⟩
 cases g2:decide (-127<=a)
 ·go_enter func164,ntmps164
  exact Wb0
 cases g3:decide (a<=127)
 ·go_enter func164,ntmps164
  exact Wbz
 cases g4:a==0
 all_goals
  have g:=Fx (show (a != 0) = !(a==0) from rfl)
  go_enter func164,ntmps164
  exact Wby
def NC (x:Bool×Nat×Int):A0:=.agg #[.bool x.1,.int .i64 (x.2.1:Int),.int .i64 x.2.2]
theorem CI {x:A5}{B:Nat}{last:Bool}{r v:Int}(h:x.heap[B]? =some (BD last r v)):
  x.cell? ⟨B,0,none⟩=some (.bool last)/\x.cell? ⟨B,1,none⟩=some (.int .i64 r)/\x.cell? ⟨B,2,none⟩=some (.int .i64 v)/\x.frozen? ⟨B,0,none⟩=false/\x.frozen? ⟨B,1,none⟩=false/\x.frozen? ⟨B,2,none⟩=false:=
 ⟨AA h rfl,AA h rfl,AA h rfl,AL (o:=0) h,AL (o:=1) h,AL (o:=2) h⟩
theorem U2 {x:A5}{B:Nat}{last:Bool}{r v:Int}(h:x.heap[B]? =some (BD last r v))(k:Int):(x.setCell ⟨B,1,none⟩ (.int .i64 k)).heap[B]? =some (BD last k v):=B3 (o:=1) (.int .i64 k) h
theorem aV {x:A5}{B:Nat}{last:Bool}{r v:Int}(h:x.heap[B]? =some (BD last r v))(k:Int):(x.setCell ⟨B,2,none⟩ (.int .i64 k)).heap[B]? =some (BD last r k):=B3 (o:=2) (.int .i64 k) h
theorem Qou {x:A5}{B:Nat}{last:Bool}{r v:Int}(h:x.heap[B]? =some (BD last r v))(k:Bool):(x.setCell ⟨B,0,none⟩ (.bool k)).heap[B]? =some (BD k r v):=B3 (o:=0) (.bool k) h
theorem HR {x:A5}{B:Nat}{last:Bool}{r v:Int}(h:x.heap[B]? =some (BD last r v))(l':Bool)(r' a:Int):
  (((x.setCell ⟨B,0,none⟩ (.bool l')).setCell ⟨B,1,none⟩ (.int .i64 r')).setCell ⟨B,2,none⟩ (.int .i64 a)).heap[B]? =some (BD l' r' a):=aV (U2 (Qou h l') r') a
theorem O1 {P:A3}{w:A5}{ops:Array A4}{rest:List A4}{o:A4}{a:Act}{Q:Exit->Act->A5->Prop}{sl x:A8}{t base e c:Nat}{i:Ab}{z v:A0}{n:Nat}{l:List A0}{K:Nat}{y0:Bool}{y1 y2:Int}
  (m:o.guard=none)(ho:o.op=.call {callee:=.builtin .append,args:=#[sl,x],argTypes:=#[t,t]})
  (ht:P.underlying t=some (.slice e))(hi:P.info? e=some i)(s:i.zero=some z)(p:z.cells.size=3)(b:i.size=3)(q:i.bytes=24)
  (hs:a.eval sl=v)(g:w.ownsRow base e 3 v n l)(y:a.eval x=.slice (some ⟨K,0,none⟩) 1 c)(c0:w.cell? ⟨K,0,none⟩=some (.bool y0))(c1:w.cell? ⟨K,1,none⟩=some (.int .i64 y1))(c2:w.cell? ⟨K,2,none⟩=some (.int .i64 y2))(hn:n<=1048576)(d:base<=w.heap.size)
  (h:∀f k,k.ownsRow base e 3 f (n+1) (l++[.bool y0,.int .i64 y1,.int .i64 y2])->w.grownBy k v.ownBlock->(f.ownBlock=v.ownBlock\/f.ownBlock=some w.heap.size)->wpList P ops Q rest (a.put o.dst f) k):wpList P ops Q (o::rest) a w:=
 wpList_append_own_at w m sl x t ho base e i z 3 24 ht hi s b q p sY v n l hs g ⟨K,0,none⟩ 1 c [.bool y0,.int .i64 y1,.int .i64 y2] y rfl
  (fun j u hj=>by
   match j,hj with
   |0,hj=>cases hj;exact c0
   |1,hj=>cases hj;exact c1
   |2,hj=>cases hj;exact c2)
  (by intro u r;simp only[Ee,Eg,Ep] at r;rcases r with rfl|rfl|rfl <;> rfl) uP sX d
  fun f k h1 h2 _ h4=>h f k h1 h2 h4
theorem T3:(prog.info? 153).map (fun i=>(i.zero,i.size,i.bytes))=some (some (.agg #[.bool false,.int .i64 0,.int .i64 0]),3,24):=uN
def NI (f:Nat->Int):List A0:=(List.range 64).map fun i=>.int .i64 (f i)
theorem QU (f:Nat->Int):(NI f).length=64:=by simp[NI]
theorem Tf (f:Nat->Int){i:Nat}(h:i<64):(NI f)[i]? =some (.int .i64 (f i)):=by simp[NI,h]
theorem Qjt (f:Nat->Int):∀v∈NI f,v.oneCell'=true:=by
 intro v hv;obtain⟨i,_,rfl⟩:=Gi.1 hv
 rfl
def IH (f:Nat->Int)(i:Nat)(v:Int):Nat->Int:=fun k=>if k=i then v else f k
theorem Qju (f:Nat->Int){i:Nat}(v:Int):(NI f).set i (.int .i64 v)=NI (IH f i v):=by
 refine List.ext_getElem? fun k=>?_;rw[List.getElem?_set,QU];by_cases hk:k<64
 ·by_cases e:i=k
  ·subst e;rw[Bb rfl,Bb hk,Tf _ hk];simp[IH]
  ·rw[Ba e,Tf _ hk,Tf _ hk];unfold IH;rw[Ba (fun h=>e h.symm)]
 ·by_cases e:i=k
  ·subst e;rw[Bb rfl,Ba hk,Gf (by rw[QU];omega)]
  ·rw[Ba e,Gf (by rw[QU];omega),Gf (by rw[QU];omega)]
def Ec (f:Nat->Int):Array A0:=(NI f).toArray
theorem NT (f:Nat->Int):(Ec f).size=64:=QU f
theorem Qn9 (f:Nat->Int){i:Nat}(h:i<64):(Ec f)[i]? =some (.int .i64 (f i)):=by
 unfold Ec;rw[List.getElem?_toArray];exact Tf f h
theorem Tj (f:Nat->Int):(Ec f).all (·.oneCell')=true:=by
 rw[Gb];intro v hv;exact Qjt f v (by simpa [Ec] using hv)
def KV (f:Nat->Int):Obj:=.cells (Ec f) 180 (0,0)
theorem nW:(prog.info? 180).map (·.size)=some 64:=uN
theorem Tp (f:Nat->Int):(prog.info? 180).map (·.size)=some (Ec f).size:=by rw[NT];exact nW
theorem VE:∃i,prog.info? 3=some i:=by
 cases h:prog.info? 3 with
 |some i=>exact⟨i,rfl⟩
 |none=>
  have h2:(prog.info? 3).isSome=true:=uN;rw[h] at h2;cases h2
theorem RA:prog.cellsOf 3=1:=uN
theorem NB:prog.plainKey 3=true:=uN
theorem U8 (w:A5):(zeroValue 180).run prog w=.ok (.agg (Ec fun _=>0)) w:=by
 have h:(prog.info? 180).map (fun i=>i.zero)=some (some (.agg (Ec fun _=>0))):=uN;generalize (Ec fun _=>0)=Z at h ⊢;cases hq:prog.info? 180 with
 |none=>simp[hq] at h
 |some i=>
  simp[hq] at h;simp[zeroValue,typeInfo,hq,h]
theorem gU {w:A5}{B i:Nat}{f:Nat->Int}(h:w.heap[B]? =some (KV f))(hi:i<64):w.cell? ⟨B,i,none⟩=some (.int .i64 (f i)):=by
 rw[cell_of_row w B i _ _ _ h];exact Qn9 f hi
theorem Qjw {w:A5}{B i:Nat}{f:Nat->Int}(h:w.heap[B]? =some (KV f)):w.frozen? ⟨B,i,none⟩=false:=Ew w B i _ _ h
theorem jZ {w:A5}{B i:Nat}{f:Nat->Int}(v:Int)(h:w.heap[B]? =some (KV f)):(w.setCell ⟨B,i,none⟩ (.int .i64 v)).heap[B]? =some (KV (IH f i v)):=by
 rw[heap_setCell_same w B i _ _ _ h];unfold KV;rw[show (Ec f).setIfInBounds i (.int .i64 v)=Ec (IH f i v) by unfold Ec;rw[G7,Qju]]
theorem AK {P:A3}{ops:Array A4}{rest:List A4}{op:A4}{a:Act}{w:A5}{Q:Exit->Act->A5->Prop}(d:op.guard=none)(ty:A7)(x y:A8)(ho:op.op=.store ty x y)
  (b:Nat)(Z c:Array A0)(g:a.eval x=.pointer (some ⟨b,0,none⟩))(i:a.eval y=.agg Z)(T:A7)(hg:w.heap[b]? =some (.cells c T (0,0)))(hi:(P.info? ty).map (·.size)=some Z.size)(hs:c.size=Z.size)(h1:Z.all (·.oneCell')=true)
  (h:∀f,f.heap[b]? =some (.cells Z T (0,0))->w.grownBy f (some b)->wpList P ops Q rest (a.put op.dst undef) f):wpList P ops Q (op::rest) a w:=
 wpList_store_row d ty x y ho b Z g i T c hg hi hs h1 (h _ (Es w b c Z T (0,0) hg) ⟨rfl,rfl,rfl,sZ,fun k _ hk=>En w b k _ tX⟩)
theorem OZ {P:A3}{ops:Array A4}{rest:List A4}{o:A4}{a:Act}{w:A5}{Q:Exit->Act->A5->Prop}(c:Region.wanted o (yielded ops a.tmps)=true)(ty:A7)(x:A8)(ho:o.op=.load ty x)
  (g:Nat)(e:a.eval x=.pointer (some ⟨g,0,none⟩))(t:A7)(cs:Array A0)(b:Nat×Nat)(d:TypeDesc)(hg:w.heap[g]? =some (.cells cs t b))
  (f:P.underlying ty=some d)(hd:(match d with|.struct _|.array _ _=>true|_=>false)=true)(hi:(P.info? ty).map (·.size)=some cs.size)
  (h:wpList P ops Q rest (a.put o.dst (.agg cs)) w):wpList P ops Q (o::rest) a w:=by
 unfold wpList;rw[Bb c];exact .inl (wp_load_row ty x ho g e t cs b d hg f hd hi h)
section
variable {H:Type}{enc:A7×A0->H}{P:A3}
end
end
section
open Go.RowKit
abbrev Ev:=Bool×Int×Int
def S7 (x:Ev):List A0:=[.bool x.1,.int .i64 x.2.1,.int .i64 x.2.2]
def HG (l:List Ev):List A0:=l.flatMap S7
theorem Tb (l:List Ev)(x:Ev):HG (l++[x])=HG l++S7 x:=by simp[HG]
theorem Qeo (l:List Ev):∀(i:Nat) (h:i<l.length),(HG l)[3*i]? =some (.bool l[i].1)/\(HG l)[3*i+1]? =some (.int .i64 l[i].2.1)/\(HG l)[3*i+2]? =some (.int .i64 l[i].2.2):=by
 induction l with
 |nil=>intro i h;cases h
 |cons p l a=>
  intro i h
  match i with
  |0=>exact⟨rfl,rfl,rfl⟩
  |i+1=>
   have:=a i uQ;rw[HG,Gc,show 3*(i+1)=(S7 p).length+3*i by simp[S7];omega];rw[Ga sX,Bm,By,By,Ga sX,Ga sX,Bm,Bm];exact this
def evs (f:Nat->Int)(a:Nat):Nat->List Ev×Nat
 |0=>([],0)
 |k+1=>if k<a then evs f a k else if f k=0 then ((evs f a k).1,(evs f a k).2+1) else ((evs f a k).1++[(false,((evs f a k).2:Int),f k)],0)
def okl (v:Int):Bool:=decide (-127<=v)&&decide (v<=127)
def bad (f:Nat->Int)(a:Nat):Nat->Bool
 |0=>false
 |k+1=>bad f a k || (decide (a<=k) && !okl (f k))
def lvS (a:Nat)(l:List Ev):Nat×(Nat->Int):=l.foldl (fun s e=>(s.1+e.2.1.toNat+1,IH s.2 (s.1+e.2.1.toNat) e.2.2)) (a,fun _=>0)
theorem dV (a:Nat)(l:List Ev)(e:Ev):lvS a (l++[e])=((lvS a l).1+e.2.1.toNat+1,IH (lvS a l).2 ((lvS a l).1+e.2.1.toNat) e.2.2):=by
 unfold lvS;rw[Gk]
 rfl
theorem UN (a:Nat)(l:List Ev){j:Nat}(h:j<l.length):lvS a (l.take (j+1))=((lvS a (l.take j)).1+l[j].2.1.toNat+1,IH (lvS a (l.take j)).2 ((lvS a (l.take j)).1+l[j].2.1.toNat) l[j].2.2):=by
 rw[Bd h,dV]
def GK (a:Nat)(l:List Ev)(j:Nat)(e:Ev):Bool:=DL e.2.1 e.2.2&&(e.1==decide (j+1=l.length))&&decide ((lvS a (l.take j)).1+e.2.1.toNat<64)
def EV (a:Nat)(l:List Ev):Nat->Bool
 |0=>false
 |j+1=>EV a l j || (match l[j]? with|some e=>!GK a l j e|none=>false)
theorem YV {a:Nat}{l:List Ev}{k:Nat}(h:EV a l k=true):∀d,EV a l (k+d)=true
 |0=>h
 |d+1=>by rw[<-By,EV,YV h d];rfl
theorem Xv {a:Nat}{l:List Ev}{j:Nat}(hj:j<l.length)(h:GK a l j l[j]=false):EV a l l.length=true:=by
 have h1:EV a l (j+1)=true:=by
  rw[EV,G9 hj];simp[h]
 have:=YV h1 (l.length-(j+1));rwa [show j+1+(l.length-(j+1))=l.length by omega] at this
theorem V6 {a:Nat}{l:List Ev}:∀k,k<=l.length->(∀j,(h:j<l.length)->j<k->GK a l j l[j]=true)->EV a l k=false
 |0,_,_=>rfl
 |k+1,hk,h=>by
  rw[EV,V6 k sX fun j h1 h2=>h j h1 sX,G9 sX];simp[h k (by omega) (by omega)]
theorem PE {a:Nat}{l:List Ev}(h:EV a l l.length=false){j:Nat}(hj:j<l.length):GK a l j l[j]=true:=by
 cases h2:GK a l j l[j] with
 |true=>rfl
 |false=>rw[Xv hj h2] at h;cases h
def lvG (l:List Ev)(a:Int):(Nat->Int)×Int:=if a=0\/a=1 then (if EV a.toNat l l.length then (fun _=>0,7) else ((lvS a.toNat l).2,0)) else (fun _=>0,1)
end
section
open Go.RowKit Go.Lib Go.ChangeShapes Go.WideShapes Go.ChangeAt
def CX (w:A5)(p:Option Aa)(l:List Ev):Prop:=
 l=[]\/∃b o,p=some ⟨b,o,none⟩/\b<w.heap.size/\∀i,(h:i<l.length)->w.cell? ⟨b,o+i*3,none⟩=some (.bool l[i].1)/\w.cell? ⟨b,o+i*3+1,none⟩=some (.int .i64 l[i].2.1)/\w.cell? ⟨b,o+i*3+2,none⟩=some (.int .i64 l[i].2.2)
theorem CX.below {w c:A5}{p:Option Aa}{l:List Ev}(h:CX w p l)(a:Below w.heap.size w c):CX c p l:=by
 rcases h with h|⟨b,o,h1,h2,h3⟩
 ·exact .inl h
 ·refine .inr ⟨b,o,h1,Bc h2 a.size,fun i hi=>?_⟩;rw[a.cell (p:=⟨b,o+i*3,none⟩) h2,a.cell (p:=⟨b,o+i*3+1,none⟩) h2,a.cell (p:=⟨b,o+i*3+2,none⟩) h2];exact h3 i hi
theorem CX.at {w:A5}{p:Option Aa}{l:List Ev}(h:CX w p l)(a:0<l.length):
  ∃b o,p=some ⟨b,o,none⟩/\b<w.heap.size/\∀i,(h:i<l.length)->w.cell? ⟨b,o+i*3,none⟩=some (.bool l[i].1)/\w.cell? ⟨b,o+i*3+1,none⟩=some (.int .i64 l[i].2.1)/\w.cell? ⟨b,o+i*3+2,none⟩=some (.int .i64 l[i].2.2):=by
 rcases h with rfl|h
 ·cases a
 ·exact h
theorem ZN {w:A5}{base e:Nat}{v:A0}{l:List Ev}(h:w.ownsRow base e 3 v l.length (HG l)):∃(q:Option Aa) (cap:Nat),v=.slice q l.length cap/\CX w q l:=by
 have a:=h;rcases h.2 with ⟨rfl,h1⟩|⟨g,cap,b,rfl,_,hg,_⟩
 ·exact⟨none,0,by rw[h1],.inl (G6 h1)⟩
 ·refine⟨_,cap,rfl,.inr ⟨g,0,rfl,(E9.1 hg).1,fun i hi=>?_⟩⟩;obtain⟨c,d,f⟩:=Qeo l i hi;rw[Bn,Ca i 3];exact⟨(a.cellAt (3*i) sX).trans c,(a.cellAt (3*i+1) sX).trans d,(a.cellAt (3*i+2) sX).trans f⟩
section
variable {H:Type}{enc:A7×A0->H}{P:A3}
end
theorem Qhm {l m:List Ev}(hl:l.length=m.length){i:Nat}(h:∀j,(h1:j<l.length)->(h2:j<m.length)->j<i->l[j]=m[j])(h3:l.length<=i):l=m:=
 List.ext_getElem hl fun j h1 h2=>h j h1 h2 sX
set_option maxRecDepth 100000 in
theorem iC (p q:Option Aa)(l m:List Ev)(c c':Nat)(w:A5)(C:CX w p l)(D:CX w q m)(hm:l.length<=1048576):Calls prog 90 #[.slice p l.length c,.slice q m.length c'] w fun e H=>e=.returned (.bool (decide (l=m)))/\Below w.heap.size w H:=by
 by_cases hl:l.length=m.length
 ·have E:=Fx hl;obtain⟨n,hn⟩:∃n,l.length=n:=⟨_,rfl⟩;have G:=Fx hn;rw[<-hl,hn];rw[hn] at hm;clear hl hn
  go_enter func90,ntmps90
  go_wp2
  go_loopw [5] (fun z wr=>∃i:Nat,i<=n/\z=.int .i64 i/\Hid (∀j,(h1:j<l.length)->(h2:j<m.length)->j<i->l[j]=m[j])/\Below w.heap.size w wr) (fun z _=>n-(intOf z).toNat)
  case atStart=>exact⟨0,G1 _,rfl,Fx fun j _ _ h=>absurd h (G8 j),Ea _ _⟩
  case round=>
   obtain⟨i,hi,rfl,hs,g⟩:=hrel;by_cases k:i<n
   ·have t0:decide ((i:Int)<(n:Int))=true:=tT;have t1:decide (i<n)=true:=by simpa using k
    have r:i<l.length:=by rw[G.out];exact k
    have v:i<m.length:=by rw[<-E.out];exact r
    obtain⟨b,o,rfl,y,hc⟩:=(C.below g).at sX;obtain⟨K,L,rfl,s,hd⟩:=(D.below g).at sX;obtain⟨c0,c1,c2⟩:=hc i r;obtain⟨d0,d1,d2⟩:=hd i v;have I:∀j,j<i+1->j<i\/j=i:=fun j h=>sX;obtain⟨⟨A,x1,x2⟩,d⟩:∃x,l[i]=x:=⟨_,rfl⟩;obtain⟨⟨y0,y1,y2⟩,f⟩:∃x,m[i]=x:=⟨_,rfl⟩;rw[d] at c0 c1 c2;rw[f] at d0 d1 d2;simp only at c0 c1 c2 d0 d1 d2;have t:=Fx d;have u:=Fx f;clear hc hd y s d f;by_cases e:A=y0/\x1=y1/\x2=y2
    ·obtain⟨rfl,rfl,rfl⟩:=e;have J:=Fx (show∀j,(h1:j<l.length)->(h2:j<m.length)->j<i+1->l[j]=m[j] from fun j h1 h2 h3=>by
      rcases I j h3 with h|h
      ·exact hs.out j h1 h2 h
      ·subst h;rw[t.out,u.out])
     clear hs;have a:=g.drew
     go_wp2
     go_region
     go_wp2
     go_roundw
     case rel=>exact⟨i+1,sX,uO,J.out,a⟩
     case measure=>simp[intOf];omega
    ·have F:=Fx (show decide (l=m)=false by
      rw[Gd];intro h;subst h;have h2:=t.out.symm.trans u.out;injection h2 with h2 h3;injection h3 with h3 h4;exact e ⟨h2,h3,h4⟩)
     have a:=g.drew;clear hs;by_cases e0:A=y0
     ·subst e0;by_cases e1:x1=y1
      ·subst e1;have M:(x2==y2)=false:=by rw[Fz];intro h;exact e ⟨rfl,rfl,h⟩
       exact Wbx
      ·have N:(x1==y1)=false:=by rw[Fz];exact e1
       exact Wbx
     ·have B:(A==y0)=false:=by rw[Fz];exact e0
      exact Wbx
   ·obtain rfl:i=n:=sX;have t0:decide ((i:Int)<(i:Int))=false:=sZ;have t1:decide (i<i)=false:=sZ;have F:=Fx (show decide (l=m)=true by rw[G3];exact Qhm E.out hs.out (Ge G.out))
    go_wp2
    go_ret
    exact⟨AJ F.out.symm,g⟩
 ·have F:=Fx (show decide (l=m)=false by rw[Gd];intro e;exact hl (by rw[e]));have B:((l.length:Int)==(m.length:Int))=false:=by rw[Fz];omega
  clear C D;generalize l.length=O at hl B hm ⊢;generalize m.length=P at hl B ⊢
  go_enter func90,ntmps90
  go_wp2
  go_ret
  exact⟨AJ F.out.symm,Ea _ _⟩
end
section
open Go.RowKit Go.Lib
structure Cel where
 stuff:Int
 skip:Bool
 kind:Int
 step:Int
 mx:Int
 my:Int
 dc:Nat->Int
 ev:Nat->List Ev
def Bx:Cel:=⟨0,false,0,0,0,0,fun _=>0,fun _=>[]⟩
def AD (c:Cel)(sl:Nat->A0):List A0:=
 [.int .i64 c.stuff,.bool c.skip,.int .i64 c.kind,.int .i64 c.step,.int .i64 c.mx,.int .i64 c.my,
  .int .i64 (c.dc 0),.int .i64 (c.dc 1),.int .i64 (c.dc 2),.int .i64 (c.dc 3),.int .i64 (c.dc 4),.int .i64 (c.dc 5),sl 0,sl 1,sl 2,sl 3,sl 4,sl 5]
def nilS:Nat->A0:=fun _=>.slice none 0 0
theorem PM (c:Cel)(sl:Nat->A0):∀i,i<6->(AD c sl)[6+i]? =some (.int .i64 (c.dc i))
 |0,_=>rfl
 |1,_=>rfl
 |2,_=>rfl
 |3,_=>rfl
 |4,_=>rfl
 |5,_=>rfl
theorem OF (c:Cel)(sl:Nat->A0):∀i,i<6->(AD c sl)[12+i]? =some (sl i)
 |0,_=>rfl
 |1,_=>rfl
 |2,_=>rfl
 |3,_=>rfl
 |4,_=>rfl
 |5,_=>rfl
def IR (c d:Cel):Bool:=c.stuff==d.stuff&&c.skip==d.skip&&c.kind==d.kind&&c.step==d.step&&(c.mx==d.mx&&c.my==d.my)&&(List.range 6).all fun i=>c.dc i==d.dc i
def evB (c d:Cel):Bool:=(List.range 6).all fun i=>decide (c.ev i=d.ev i)
def FH (c d:Cel):Bool:=evB c d&&IR c d
theorem Qel (c:Cel):FH c c=true:=by simp[FH,evB,IR]
theorem Qos {c d:Cel}{i:Nat}(hi:i<6)(h:c.ev i≠d.ev i):evB c d=false:=by
 unfold evB;rw[Gj];exact⟨i,Bs.2 hi,uQ⟩
theorem WH {c d:Cel}(h:∀i,i<6->c.ev i=d.ev i):evB c d=true:=by
 unfold evB;rw[Bw];intro i hi
 simpa using h i (Bs.1 hi)
def IF (w:A5)(c:Cel)(p:Nat->Option Aa)(n:Nat->Nat):Prop:=∀i,i<6->n i=(c.ev i).length/\n i<=1048576/\CX w (p i) (c.ev i)
theorem IF.below {w x:A5}{c:Cel}{p:Nat->Option Aa}{n:Nat->Nat}(h:IF w c p n)(a:Below w.heap.size w x):IF x c p n:=
 fun i hi=>⟨(h i hi).1,(h i hi).2.1,(h i hi).2.2.below a⟩
end
end Go.Proofs.YtjjmalchelniiaaGreatDoor
