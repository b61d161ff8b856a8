/- No condition. -/
import Derived.Test.YtnamlooifcpoaaaGreatDoorScreensNextMa
import Derived.Test.YtnamlooifcpoaaaGreatDoorScreensNextMg
import Derived.Test.YtnamlooifcpoaaaGreatDoorScreensNextMh
import Derived.Test.YtnamlooifcpoaaaGreatDoorScreensNextMo
import Derived.Test.YtnamlooifcpoaaaGreatDoorScreensNextMs
import Derived.Test.YtnamlooifcpoaaaGreatDoorScreensNextMt
import Derived.Laws.IdiomCopy
import Derived.Laws.BytesArg
import Derived.Laws.World
import Derived.WalkMore
import Derived.Laws.Slices
namespace Go.Proofs.YtnamlooifcpoaaaGreatDoor
open Go.RowKit Go.Lib Go.ChangeShapes Go.WideShapes Go.ChangeAt
def frL (k:Int)(v:Nat→Value):List Value:=[.int .i64 k,v 0,v 1,v 2]
def frA (k:Int)(v:Nat→Value):Array Value:=(frL k v).toArray
def frO (T:TypeId)(k:Int)(v:Nat→Value):Obj:=.cells (frA k v) T (0,0)
def Ycf:Nat→Value:=fun _=>.slice none 0 0
def Y0t (v:Nat→Value)(p:Nat)(x:Value):Nat→Value:=fun q=>if q=p then x else v q
section
variable {w:World}{B:Nat}{T:TypeId}{k:Int}{v:Nat→Value}
theorem Ybn (h:w.heap[B]? =some (frO T k v)):w.cell? ⟨B,0,none⟩=some (.int .i64 k):=Yac (cs:=frL k v) h rfl
theorem Yce (h:w.heap[B]? =some (frO T k v)){p:Nat}(hp:p<3):w.cell? ⟨B,1+p,none⟩=some (v p):=by
 refine Yac (cs:=frL k v) h ?_
 match p,hp with
 |0,_=>rfl
 |1,_=>rfl
 |2,_=>rfl
theorem Yp3 (h:w.heap[B]? =some (frO T k v))(o:Nat):w.frozen? ⟨B,o,none⟩=false:=Ycb (cs:=frL k v) h
theorem Ywe (h:w.heap[B]? =some (frO T k v)){p:Nat}(hp:p<3)(x:Value):(w.setCell ⟨B,1+p,none⟩ x).heap[B]? =some (frO T k (Y0t v p x)):=by
 have e:=Yev (cs:=frL k v) (o:=1+p) x h;rw[e]
 match p,hp with
 |0,_=>rfl
 |1,_=>rfl
 |2,_=>rfl
end
theorem Y2v (v:Nat→Value)(p:Nat)(x:Value):Y0t v p x p=x:=by unfold Y0t;rw[if_pos rfl]
theorem Ylr (v:Nat→Value){p q:Nat}(x:Value)(h:q≠p):Y0t v p x q=v q:=by unfold Y0t;rw[if_neg h]
theorem Ya1 {T:TypeId}(h:(Tryz.prog.info? T).map (·.size)=some 4)(k:Int)(v:Nat→Value):(Tryz.prog.info? T).map (·.size)=some (frA k v).size:=h
theorem Ycx (k:Int)(v:Nat→Value)(h:∀p,p<3→(v p).oneCell'=true):(frA k v).all (·.oneCell')=true:=by
 rw[Array.all_eq_true_iff_forall_mem];intro x hx;simp only[frA,frL,List.mem_toArray,List.mem_cons,List.not_mem_nil,or_false] at hx;rcases hx with rfl|rfl|rfl|rfl
 ·rfl
 ·exact h 0 (by omega)
 ·exact h 1 (by omega)
 ·exact h 2 (by omega)
theorem Yvq:∃i,Tryz.prog.info? 22=some i:=by
 cases h:Tryz.prog.info? 22 with
 |some i=>exact⟨i,rfl⟩
 |none=>
  have h2:(Tryz.prog.info? 22).isSome=true:=by kernel_rfl
  rw[h] at h2;cases h2
theorem Ys2:Tryz.prog.cellsOf 22=1:=by kernel_rfl
theorem Yiy (v:Nat→Value){p:Nat}(hp:p<3)(w:World):(Instr.index 23 (.agg #[v 0,v 1,v 2]) (.int .i64 (p:Int))).run Tryz.prog w=.ok (v p) w:=by
 obtain⟨j,hj⟩:=Yvq;have h1:(0:Int)≤(p:Int)∧(p:Int)<((3:Nat):Int):=by omega
 have hx:#[v 0,v 1,v 2][p]? =some (v p):=by
  match p,hp with
  |0,_=>rfl
  |1,_=>rfl
  |2,_=>rfl
 simp only[Instr.index,asIntOf,Sem.run_bind,Sem.run_pure,Result.andThen_ok,run_underlying Tryz.underlying23,if_pos h1,run_sizeOf w hj,Ys2,Nat.mul_one,Int.toNat_natCast];simp[part,isAgg,run_underlying Tryz.underlying22,hx]
def Ykg (w:World)(v:Value)(n:Nat)(f:Nat→Int):Prop:=∃p c,v=.slice p n c∧n≤c∧(n=0∨∃b o,p=some ⟨b,o,none⟩∧∀i,i<n→w.cell? ⟨b,o+i,none⟩=some (.int .u8 (f i))∧0≤f i∧f i≤255)
theorem Ykg.one {w:World}{v:Value}{n:Nat}{f:Nat→Int}(h:Ykg w v n f):v.oneCell'=true:=by
 obtain⟨p,c,rfl,_⟩:=h
 rfl
theorem Ykg.below {w w':World}{v:Value}{n:Nat}{f:Nat→Int}(h:Ykg w v n f)(hb:Below w.heap.size w w'):Ykg w' v n f:=by
 obtain⟨p,c,rfl,hc,h⟩:=h;refine⟨p,c,rfl,hc,?_⟩;rcases h with h|⟨b,o,rfl,h⟩
 ·exact .inl h
 ·refine .inr ⟨b,o,rfl,fun i hi=>?_⟩;obtain⟨h1,h2⟩:=h i hi;exact⟨(hb.cell (p:=⟨b,o+i,none⟩) (World.block_lt_of_cell? w ⟨b,o+i,none⟩ h1)).trans h1,h2⟩
theorem Ykg.nil (w:World)(f:Nat→Int):Ykg w (.slice none 0 0) 0 f:=⟨none,0,rfl,Nat.le_refl _,.inl rfl⟩
theorem Ykg.range {w:World}{v:Value}{n:Nat}{f:Nat→Int}(h:Ykg w v n f):∀i,i<n→0≤f i∧f i≤255:=by
 obtain⟨p,c,rfl,hc,h⟩:=h;rcases h with h|⟨b,o,rfl,h⟩
 ·intro i hi;omega
 ·intro i hi;exact(h i hi).2
def Yfs (w:World)(v:Nat→Value)(n:Nat→Nat)(f:Nat→Nat→Int):Prop:=∀p,p<3→Ykg w (v p) (n p) (f p)
theorem Yfs.below {w w':World}{v:Nat→Value}{n:Nat→Nat}{f:Nat→Nat→Int}(h:Yfs w v n f)(hb:Below w.heap.size w w'):Yfs w' v n f:=fun p hp=>(h p hp).below hb
theorem Yfs.nil (w:World):Yfs w Ycf (fun _=>0) (fun _ _=>0):=fun _ _=>Ykg.nil w _
def byL (n:Nat)(f:Nat→Int):List Int:=(List.range n).map f
theorem Ymh (n:Nat)(f:Nat→Int):(byL n f).length=n:=by simp[byL]
theorem Y3c {n:Nat}(f:Nat→Int){i:Nat}(h:i<n):(byL n f).getD i 0=f i:=by simp[byL,h]
def Ysz (n:Nat)(f:Nat→Int):ByteArray:=strOfNums (byL n f)
theorem Ykg.text {w:World}{v:Value}{n:Nat}{f:Nat→Int}(h:Ykg w v n f):(convert 22 9 v).run Tryz.prog w=.ok (.string (Ysz n f)) w:=by
 obtain⟨p,c,rfl,hc,h⟩:=h;by_cases h0:n=0
 ·subst h0;rw[run_convert_bytes_string w 22 9 5 p 0 c Tryz.underlying22 Tryz.underlying5 Tryz.underlying9];cases p <;> simp[Conv.bytesToString,loadCells]
  all_goals rfl
 ·rcases h with h|⟨b,o,rfl,h⟩
  ·exact absurd h h0
  ·exact run_convert_bytes_arg w 22 5 Tryz.underlying22 Tryz.underlying5 b o n c (byL n f) (Ymh n f) (fun i hi=>by rw[Y3c f hi];exact(h i hi).1) 9 Tryz.underlying9
def Yfc (n:Nat)(f:Nat→Int)(m:Nat)(g:Nat→Int):Bool:=decide (n=m)&&(List.range n).all fun i=>f i==g i
theorem Yhr {n m:Nat}{f g:Nat→Int}:Yfc n f m g=true↔n=m∧∀i,i<n→f i=g i:=by simp[Yfc]
theorem Yn1 {n m:Nat}{f g:Nat→Int}(hf:∀i,i<n→0≤f i∧f i≤255)(hg:∀i,i<m→0≤g i∧g i≤255):Ysz n f=Ysz m g↔Yfc n f m g=true:=by
 rw[Yhr];constructor
 ·intro h;have e:(Ysz n f).data.toList=(Ysz m g).data.toList:=by rw[h]
  unfold Ysz at e;rw[strOfNums_data,strOfNums_data] at e;have hl:n=m:=by simpa [byL] using congrArg List.length e
  subst hl;refine⟨rfl,fun i hi=>?_⟩;have e2:=congrArg (fun l=>l[i]?) e;simp only[byL,List.map_map,List.getElem?_map,List.getElem?_range hi,Option.map_some,Option.some.injEq,Function.comp] at e2;have e3:=congrArg UInt8.toNat e2;have h1:=hf i hi;have h2:=hg i hi;rw[UInt8.toNat_ofNat',UInt8.toNat_ofNat',Nat.mod_eq_of_lt (by omega),Nat.mod_eq_of_lt (by omega)] at e3;omega
 ·rintro⟨rfl,h⟩;unfold Ysz byL;rw[List.map_congr_left fun i hi=>h i (List.mem_range.1 hi)]
def Yfp (k:Int)(n:Nat→Nat)(f:Nat→Nat→Int)(k':Int)(n':Nat→Nat)(f':Nat→Nat→Int):Bool:=
 decide (k=k')&&(Yfc (n 0) (f 0) (n' 0) (f' 0)&&(Yfc (n 1) (f 1) (n' 1) (f' 1)&&Yfc (n 2) (f 2) (n' 2) (f' 2)))
theorem Yfd {k k':Int}{n n':Nat→Nat}{f f':Nat→Nat→Int}:Yfp k n f k' n' f'=true↔k=k'∧∀p,p<3→Yfc (n p) (f p) (n' p) (f' p)=true:=by
 unfold Yfp;simp only[Bool.and_eq_true,decide_eq_true_iff];constructor
 ·rintro⟨rfl,h0,h1,h2⟩;refine⟨rfl,fun p hp=>?_⟩
  match p,hp with
  |0,_=>exact h0
  |1,_=>exact h1
  |2,_=>exact h2
 ·rintro⟨rfl,h⟩;exact⟨rfl,h 0 (by omega),h 1 (by omega),h 2 (by omega)⟩
theorem Ylp (k:Int)(n:Nat→Nat)(f:Nat→Nat→Int):Yfp k n f k n f=true:=Yfd.2 ⟨rfl,fun _ _=>Yhr.2 ⟨rfl,fun _ _=>rfl⟩⟩
def Ydg (w:World)(v:Value)(g n:Nat)(f:Nat→Int):Prop:=∃c,v=.slice (some ⟨g,0,none⟩) n c∧n≤c∧∀i,i<n→w.cell? ⟨g,i,none⟩=some (.int .u8 (f i))∧w.frozen? ⟨g,i,none⟩=false∧0≤f i∧f i≤255
section
variable {w w':World}{v:Value}{g n:Nat}{f:Nat→Int}
theorem Ydg.at (h:Ydg w v g n f):Ykg w v n f:=by
 obtain⟨c,rfl,hc,h⟩:=h;exact⟨_,c,rfl,hc,.inr ⟨g,0,rfl,fun i hi=>⟨by rw[Nat.zero_add];exact(h i hi).1,(h i hi).2.2⟩⟩⟩
theorem Ydg.one (h:Ydg w v g n f):v.oneCell'=true:=h.at.one
theorem Ydg.lt (h:Ydg w v g n f)(hn:0<n):g<w.heap.size:=by
 obtain⟨c,rfl,hc,h⟩:=h;exact World.block_lt_of_cell? w ⟨g,0,none⟩ (h 0 hn).1
theorem Ydg.keep (h:Ydg w v g n f)(hk:w'.heap[g]? =w.heap[g]?):Ydg w' v g n f:=by
 obtain⟨c,rfl,hc,h⟩:=h;refine⟨c,rfl,hc,fun i hi=>?_⟩;obtain⟨h1,h2,h3⟩:=h i hi;exact⟨(World.cell?_of_block (a:=⟨g,i,none⟩) hk).trans h1,(World.frozen?_of_block (a:=⟨g,i,none⟩) hk).trans h2,h3⟩
theorem Ydg.congr (h:Ydg w v g n f){f':Nat→Int}(hf:∀i,i<n→f i=f' i):Ydg w v g n f':=by
 obtain⟨c,rfl,hc,h⟩:=h;refine⟨c,rfl,hc,fun i hi=>?_⟩;rw[←hf i hi];exact h i hi
theorem Ydg.set (h:Ydg w v g n f)(i:Nat)(x:Int)(hx:0≤x∧x≤255)(hi:i<n):Ydg (w.setCell ⟨g,i,none⟩ (.int .u8 x)) v g n (fun j=>if j=i then x else f j):=by
 obtain⟨c,rfl,hc,h⟩:=h;refine⟨c,rfl,hc,fun j hj=>?_⟩;obtain⟨h1,h2,h3⟩:=h j hj;rw[World.frozen?_setCell];show _=some (Value.int .u8 (if j=i then x else f j))∧_∧0≤(if j=i then x else f j)∧(if j=i then x else f j)≤255;by_cases e:j=i
 ·subst e;rw[if_pos rfl];exact⟨World.cell?_setCell_same _ _ _ h1,h2,hx⟩
 ·rw[if_neg e];exact⟨(World.cell?_setCell_other _ _ _ _ (by intro e2;injection e2 with _ e2;exact e e2.symm)).trans h1,h2,h3⟩
theorem Ydg.sets (h:Ydg w v g n f)(o m:Nat)(r:Nat→Int)(hr:∀i,i<m→0≤r i∧r i≤255)(hi:o+m≤n):Ydg (w.setCells g o ((byL m r).map (Value.int .u8))) v g n (fun j=>if o≤j∧j<o+m then r (j-o) else f j):=by
 obtain⟨c,rfl,hc,h⟩:=h;have hl:((byL m r).map (Value.int .u8)).length=m:=by rw[List.length_map,Ymh]
 refine⟨c,rfl,hc,fun j hj=>?_⟩;obtain⟨h1,h2,h3⟩:=h j hj;rw[World.frozen?_setCells];show _=some (Value.int .u8 (if o≤j∧j<o+m then r (j-o) else f j))∧_∧0≤(if o≤j∧j<o+m then r (j-o) else f j)∧(if o≤j∧j<o+m then r (j-o) else f j)≤255;by_cases e:o≤j∧j<o+m
 ·rw[if_pos e];obtain⟨d,rfl⟩:∃d,j=o+d:=⟨j-o,by omega⟩;rw[World.cell?_setCells_in g _ o w (fun i hi2=>by rw[hl] at hi2;rw[(h (o+i) (by omega)).1];rfl) d (by rw[hl];omega)];rw[Nat.add_sub_cancel_left];exact⟨by simp[byL],h2,hr d (by omega)⟩
 ·rw[if_neg e,World.cell?_setCells_out g _ o w _ (fun _ _=>by rw[hl];show j<o∨o+m≤j;omega)];exact⟨h1,h2,h3⟩
end
theorem Yht (b:Nat):∀(vs:List Value) (o:Nat) (w:World),(w.setCells b o vs).heap.size=w.heap.size
 |[],_,_=>rfl
 |v::r,o,w=>by rw[World.setCells,Yht b r];simp[World.setCell]
theorem Yc2 (b:Nat):∀(vs:List Value) (o:Nat) (w:World) (k:Nat),k≠b→(w.setCells b o vs).heap[k]? =w.heap[k]?
 |[],_,_,_,_=>rfl
 |v::r,o,w,k,h=>by rw[World.setCells,Yc2 b r _ _ _ h];exact heap_setCell_other w ⟨b,o,none⟩ k v h
theorem Yc3 (b:Nat):∀(vs:List Value) (o:Nat) (w:World),w.grownBy (w.setCells b o vs) (some b)
 |[],_,_=>⟨rfl,rfl,rfl,Nat.le_refl _,fun _ _ _=>rfl⟩
 |v::r,o,w=>Yal (Ya8 w ⟨b,o,none⟩ v) (Yc3 b r (o+1) _)
structure Ybu (w:World) (lo:Nat) (v:Nat→Value) (g n:Nat→Nat) (f:Nat→Nat→Int):Prop where
 pl:∀p,p<3→Ydg w (v p) (g p) (n p) (f p)
 from_:∀p,p<3→lo≤g p
 apart:∀p q,p<3→q<3→p≠q→g p≠g q
section
variable {w w':World}{lo:Nat}{v:Nat→Value}{g n:Nat→Nat}{f f':Nat→Nat→Int}
theorem Ybu.at (h:Ybu w lo v g n f):Yfs w v n f:=fun p hp=>(h.pl p hp).at
theorem Ybu.keep (h:Ybu w lo v g n f)(hk:∀p,p<3→w'.heap[g p]? =w.heap[g p]?):Ybu w' lo v g n f:=⟨fun p hp=>(h.pl p hp).keep (hk p hp),h.from_,h.apart⟩
theorem Ybu.congr (h:Ybu w lo v g n f)(hf:∀p,p<3→∀i,i<n p→f p i=f' p i):Ybu w lo v g n f':=⟨fun p hp=>(h.pl p hp).congr (hf p hp),h.from_,h.apart⟩
theorem Ybu.mono (h:Ybu w lo v g n f){lo':Nat}(hl:lo'≤lo):Ybu w lo' v g n f:=⟨h.pl,fun p hp=>Nat.le_trans hl (h.from_ p hp),h.apart⟩
theorem Ybu.ones (h:Ybu w lo v g n f):∀p,p<3→(v p).oneCell'=true:=fun p hp=>(h.pl p hp).one
theorem Ybu.below (h:Ybu w lo v g n f)(hn:∀p,p<3→0<n p)(hb:Below w.heap.size w w'):Ybu w' lo v g n f:=h.keep fun p hp=>hb.block _ ((h.pl p hp).lt (hn p hp))
theorem Ybu.set (h:Ybu w lo v g n f){p:Nat}(hp:p<3)(i:Nat)(x:Int)(hx:0≤x∧x≤255)(hi:i<n p):Ybu (w.setCell ⟨g p,i,none⟩ (.int .u8 x)) lo v g n (fun q j=>if q=p∧j=i then x else f q j):=by
 refine⟨fun q hq=>?_,h.from_,h.apart⟩;by_cases e:q=p
 ·subst e;refine((h.pl q hq).set i x hx hi).congr fun j _=>?_;by_cases e2:j=i <;> simp[e2]
 ·refine((h.pl q hq).keep (heap_setCell_other w ⟨g p,i,none⟩ (g q) _ (h.apart q p hq hp e))).congr fun j _=>?_;show f q j=(if q=p∧j=i then x else f q j);rw[if_neg (by intro e2;exact e e2.1)]
theorem Ybu.sets (h:Ybu w lo v g n f){p:Nat}(hp:p<3)(o m:Nat)(r:Nat→Int)(hr:∀i,i<m→0≤r i∧r i≤255)(hi:o+m≤n p):Ybu (w.setCells (g p) o ((byL m r).map (Value.int .u8))) lo v g n (fun q j=>if q=p∧o≤j∧j<o+m then r (j-o) else f q j):=by
 refine⟨fun q hq=>?_,h.from_,h.apart⟩;by_cases e:q=p
 ·subst e;refine((h.pl q hq).sets o m r hr hi).congr fun j _=>?_;show (if o≤j∧j<o+m then r (j-o) else f q j)=(if q=q∧o≤j∧j<o+m then r (j-o) else f q j);by_cases e2:o≤j∧j<o+m
  ·rw[if_pos e2,if_pos ⟨rfl,e2⟩]
  ·rw[if_neg e2,if_neg (fun e3=>e2 e3.2)]
 ·refine((h.pl q hq).keep (Yc2 (g p) _ o w (g q) (h.apart q p hq hp e))).congr fun j _=>?_;show f q j=(if q=p∧o≤j∧j<o+m then r (j-o) else f q j);rw[if_neg (by intro e2;exact e e2.1)]
end
structure Yb3 (g:Nat→Nat) (w w':World):Prop where
 os:w'.os=w.os
 tape:w'.tape=w.tape
 output:w'.output=w.output
 size:w.heap.size≤w'.heap.size
 block:∀k,k<w.heap.size→(∀p,p<3→k≠g p)→w'.heap[k]? =w.heap[k]?
theorem Yb3.refl (g:Nat→Nat)(w:World):Yb3 g w w:=⟨rfl,rfl,rfl,Nat.le_refl _,fun _ _ _=>rfl⟩
theorem Yb3.trans {g:Nat→Nat}{a b c:World}(h:Yb3 g a b)(k:Yb3 g b c):Yb3 g a c:=
 ⟨k.os.trans h.os,k.tape.trans h.tape,k.output.trans h.output,Nat.le_trans h.size k.size,fun i hi hn=>(k.block i (Nat.lt_of_lt_of_le hi h.size) hn).trans (h.block i hi hn)⟩
theorem Yb3.of_below {g:Nat→Nat}{a b:World}(h:Below a.heap.size a b):Yb3 g a b:=⟨h.os,h.tape,h.output,h.size,fun i hi _=>h.block i hi⟩
theorem Yb3.of_grown {g:Nat→Nat}{a b:World}{r p:Nat}(hp:p<3)(hr:r=g p)(h:a.grownBy b (some r)):Yb3 g a b:=
 ⟨h.os,h.tape,h.output,h.size,fun i hi hn=>h.block i hi (by intro e;injection e with e;exact hn p hp (e.trans hr))⟩
theorem Yb3.to_below {g:Nat→Nat}{B:Nat}{a b:World}(h:Yb3 g a b)(hB:B≤a.heap.size)(hg:∀p,p<3→B≤g p):Below B a b:=
 ⟨h.os,h.tape,h.output,h.size,fun i hi=>h.block i (by omega) (fun p hp=>by have:=hg p hp;omega)⟩
end Go.Proofs.YtnamlooifcpoaaaGreatDoor
namespace Go.Proofs.YtnamlooifcpoaaaGreatDoor
open Go.RowKit Go.Lib
theorem Yie (s:Int)(w:World):Calls Tryz.prog 76 #[.int .i64 s] w fun e w'=>e=.returned (.int .u8 (Yax s 0 255))∧w=w':=by
 have c:=fun w=>Ybs s 0 255 w;have h1:=Ybl s 0 255;have h2:=Ybk s 0 255 (by omega);generalize Yax s 0 255=y at c h1 h2 ⊢;have hw:IntKind.u8.wrap y=y:=by rw[IntKind.wrap_u8];omega
 go_enter Tryz.func76,Tryz.ntmps76
 go_wp2_with (with_reducible refine(c _).mono ?_;rintro e w1 ⟨rfl,rfl⟩)
 go_ret
 exact⟨rfl,rfl⟩
theorem Yex (k:Int)(p:Nat)(hp:p<3)(w:World):Calls Tryz.prog 26 #[.int .i64 k,.int .i64 (p:Int)] w fun e w'=>e=.returned (.int .i64 (siz k p:Int))∧w=w':=by
 have c:=fun w=>Yg0 k p w;rw[Yp2 k p hp] at c;have hs:(wid k p:Int)*(hei k p:Int)=(siz k p:Int):=(Int.natCast_mul _ _).symm;have hw:IntKind.i64.wrap (siz k p:Int)=(siz k p:Int):=Yde (by have:=Ydx k p;omega);generalize wid k p=a at *;generalize hei k p=b at *;generalize siz k p=m at *
 go_enter Tryz.func26,Tryz.ntmps26
 go_wp2_with (with_reducible refine(c _).mono ?_;rintro e w1 ⟨rfl,rfl⟩)
 go_ret
 exact⟨rfl,rfl⟩
theorem Yhl (k:Int)(w:World):Calls Tryz.prog 27 #[.int .i64 k] w fun e w'=>e=.returned (.bool (Yb6 k))∧w=w':=by
 have c:=fun w=>Ygb k w;generalize Yb6 k=y at *;generalize Yd3 k=a at *;generalize Yd6 k=b at *
 go_enter Tryz.func27,Tryz.ntmps27
 go_wp2_with (with_reducible refine(c _).mono ?_;rintro e w1 ⟨rfl,rfl⟩)
 go_ret
 exact⟨rfl,rfl⟩
theorem Yok (k n:Int)(w:World):Calls Tryz.prog 55 #[.int .i64 k,.int .i64 n] w fun e w'=>e=.returned (.bool (Yoi k n))∧w=w':=by
 have c:=fun w=>Ydu k w;obtain⟨h1,h2,_⟩:=Yb5 k;rw[←h1,←h2] at c;have hs:(acr k:Int)*(dow k:Int)=(Ybg k:Int):=(Int.natCast_mul _ _).symm;have hw:IntKind.i64.wrap (Ybg k:Int)=(Ybg k:Int):=Yde (by have:=Ydr k;omega);have hq:=Lib.hid (show Yoi k n=(decide (0≤n)&&decide (n<(Ybg k:Int))) from rfl);generalize Yoi k n=y at *;clear h1 h2;generalize acr k=a at *;generalize dow k=b at *
 generalize Ybg k=m at *;cases t0:decide (0≤n)
 ·rw[t0] at hq
  go_enter Tryz.func55,Tryz.ntmps55
  go_wp2_with (with_reducible refine(c _).mono ?_;rintro e w1 ⟨rfl,rfl⟩)
  go_ret
  exact⟨Yad (by rw[hq.out];rfl),rfl⟩
 ·rw[t0] at hq
  go_enter Tryz.func55,Tryz.ntmps55
  go_wp2_with (with_reducible refine(c _).mono ?_;rintro e w1 ⟨rfl,rfl⟩)
  go_ret
  exact⟨Yad (by rw[hq.out];rfl),rfl⟩
def Yl8 (p first width:Nat):Array Value:=#[.int .i64 (p:Int),.int .i64 (first:Int),.int .i64 (width:Int)]
set_option maxHeartbeats 2000000 in
theorem Yu3 (k:Int)(n b:Nat)(w:World)(hn:n<Ybg k)(hb:b<6):Calls Tryz.prog 56 #[.int .i64 k,.int .i64 (n:Int),.int .i64 (b:Int)] w fun e w'=>e=.returned (.agg (Yl8 (plc b) (Yni k n b) (wid k (plc b))))∧Below w.heap.size w w':=by
 have c1:=fun w=>Ydu k w;have c2:=fun w=>Yg0 k (plc b) w;rw[Yp2 k _ (Ygd hb)] at c2;obtain⟨h1,h2,_⟩:=Yb5 k;rw[←h1,←h2] at c1;obtain⟨ha,hx,hy⟩:=Ydq hn;have hl:=Yp5 (y:=0) hn hb (by omega);have hlm:=Yi2 hn hb;have hcm:=Yiw hn hb;have hwm:=Ygg k (plc b);have hsm:=Ydx k (plc b);have hnm:=Ydr k;have L:lin k n b=if b<4 then 2*(n / acr k)+b / 2 else n / acr k:=rfl
 have C:col k n b=if b<4 then 2*(n%acr k)+b%2 else n%acr k:=rfl
 have hF:Yni k n b=8*(lin k n b*wid k (plc b)+col k n b):=rfl;have r1:(n:Int).tmod (acr k:Int)=((n%acr k:Nat):Int):=by rw[Int.tmod_eq_emod_of_nonneg (by omega)];rfl
 have r2:(n:Int).tdiv (acr k:Int)=((n / acr k:Nat):Int):=by rw[Int.tdiv_eq_ediv_of_nonneg (by omega)];rfl
 have r3:IntKind.i64.wrap ((n / acr k:Nat):Int)=((n / acr k:Nat):Int):=Ya7 (by have:=Nat.div_le_self n (acr k);omega);have hd:n / acr k≤n:=Nat.div_le_self n (acr k);have z0:((acr k:Int)==0)=false:=by simp;omega
 generalize hfb:Yni k n b=F at *;obtain⟨m,hm⟩:∃m,lin k n b*wid k (plc b)=m:=⟨_,rfl⟩;rw[hm] at hF;have M:((lin k n b:Nat):Int)*((wid k (plc b):Nat):Int)=(m:Int):=by rw[←hm];exact(Int.natCast_mul _ _).symm
 generalize lin k n b=l at *;generalize col k n b=c at *;generalize n / acr k=y at *;generalize n%acr k=x at *;generalize hei k (plc b)=H at *;generalize siz k (plc b)=S at *;generalize hWW:wid k (plc b)=W at *;have hb6:b=0∨b=1∨b=2∨b=3∨b=4∨b=5:=by omega
 clear hfb hm h1 h2 hn hWW;rcases hb6 with rfl|rfl|rfl|rfl|rfl|rfl
 case _=>
  replace c2:∀w,Calls Tryz.prog 47 #[.int .i64 k,.int .i64 0] w fun e w'=>e=.returned (.tuple #[.int .i64 (W:Int),.int .i64 (H:Int)])∧w=w':=c2
  replace L:l=2*y:=by rw[L,if_pos (by omega)];all_goals omega
  replace C:c=2*x:=by rw[C,if_pos (by omega)];all_goals omega
  subst L C
  replace M:(2*(y:Int))*(W:Int)=(m:Int):=M
  have HF:=Lib.hid hF;have hF8:F≤1622016:=by omega
  go_enter Tryz.func56,Tryz.ntmps56
  go_wp2_with (first|(with_reducible refine(c1 _).mono ?_;rintro e w1 ⟨rfl,rfl⟩)|(with_reducible refine(c2 _).mono ?_;rintro e w1 ⟨rfl,rfl⟩))
  go_region
  go_wp2_with (first|(with_reducible refine(c1 _).mono ?_;rintro e w1 ⟨rfl,rfl⟩)|(with_reducible refine(c2 _).mono ?_;rintro e w1 ⟨rfl,rfl⟩))
  refine bodyPost_ret (results_cell_row rfl _ _ w.heap.size 103 _ (0,0) _ rfl (heap_alloc_new w _) Tryz.underlying103 rfl (by kernel_rfl)) rfl ⟨by rw[HF.out];rfl,((Below.refl _ w).alloc (Nat.le_refl _) _).drew⟩
 case _=>
  replace c2:∀w,Calls Tryz.prog 47 #[.int .i64 k,.int .i64 0] w fun e w'=>e=.returned (.tuple #[.int .i64 (W:Int),.int .i64 (H:Int)])∧w=w':=c2
  replace L:l=2*y:=by rw[L,if_pos (by omega)];all_goals omega
  replace C:c=2*x+1:=by rw[C,if_pos (by omega)];all_goals omega
  subst L C
  replace M:(2*(y:Int))*(W:Int)=(m:Int):=M
  have HF:=Lib.hid hF;have hF8:F≤1622016:=by omega
  go_enter Tryz.func56,Tryz.ntmps56
  go_wp2_with (first|(with_reducible refine(c1 _).mono ?_;rintro e w1 ⟨rfl,rfl⟩)|(with_reducible refine(c2 _).mono ?_;rintro e w1 ⟨rfl,rfl⟩))
  go_region
  go_wp2_with (first|(with_reducible refine(c1 _).mono ?_;rintro e w1 ⟨rfl,rfl⟩)|(with_reducible refine(c2 _).mono ?_;rintro e w1 ⟨rfl,rfl⟩))
  refine bodyPost_ret (results_cell_row rfl _ _ w.heap.size 103 _ (0,0) _ rfl (heap_alloc_new w _) Tryz.underlying103 rfl (by kernel_rfl)) rfl ⟨by rw[HF.out];rfl,((Below.refl _ w).alloc (Nat.le_refl _) _).drew⟩
 case _=>
  replace c2:∀w,Calls Tryz.prog 47 #[.int .i64 k,.int .i64 0] w fun e w'=>e=.returned (.tuple #[.int .i64 (W:Int),.int .i64 (H:Int)])∧w=w':=c2
  replace L:l=2*y+1:=by rw[L,if_pos (by omega)];all_goals omega
  replace C:c=2*x:=by rw[C,if_pos (by omega)];all_goals omega
  subst L C
  replace M:(2*(y:Int)+1)*(W:Int)=(m:Int):=M
  have HF:=Lib.hid hF;have hF8:F≤1622016:=by omega
  go_enter Tryz.func56,Tryz.ntmps56
  go_wp2_with (first|(with_reducible refine(c1 _).mono ?_;rintro e w1 ⟨rfl,rfl⟩)|(with_reducible refine(c2 _).mono ?_;rintro e w1 ⟨rfl,rfl⟩))
  go_region
  go_wp2_with (first|(with_reducible refine(c1 _).mono ?_;rintro e w1 ⟨rfl,rfl⟩)|(with_reducible refine(c2 _).mono ?_;rintro e w1 ⟨rfl,rfl⟩))
  refine bodyPost_ret (results_cell_row rfl _ _ w.heap.size 103 _ (0,0) _ rfl (heap_alloc_new w _) Tryz.underlying103 rfl (by kernel_rfl)) rfl ⟨by rw[HF.out];rfl,((Below.refl _ w).alloc (Nat.le_refl _) _).drew⟩
 case _=>
  replace c2:∀w,Calls Tryz.prog 47 #[.int .i64 k,.int .i64 0] w fun e w'=>e=.returned (.tuple #[.int .i64 (W:Int),.int .i64 (H:Int)])∧w=w':=c2
  replace L:l=2*y+1:=by rw[L,if_pos (by omega)];all_goals omega
  replace C:c=2*x+1:=by rw[C,if_pos (by omega)];all_goals omega
  subst L C
  replace M:(2*(y:Int)+1)*(W:Int)=(m:Int):=M
  have HF:=Lib.hid hF;have hF8:F≤1622016:=by omega
  go_enter Tryz.func56,Tryz.ntmps56
  go_wp2_with (first|(with_reducible refine(c1 _).mono ?_;rintro e w1 ⟨rfl,rfl⟩)|(with_reducible refine(c2 _).mono ?_;rintro e w1 ⟨rfl,rfl⟩))
  go_region
  go_wp2_with (first|(with_reducible refine(c1 _).mono ?_;rintro e w1 ⟨rfl,rfl⟩)|(with_reducible refine(c2 _).mono ?_;rintro e w1 ⟨rfl,rfl⟩))
  refine bodyPost_ret (results_cell_row rfl _ _ w.heap.size 103 _ (0,0) _ rfl (heap_alloc_new w _) Tryz.underlying103 rfl (by kernel_rfl)) rfl ⟨by rw[HF.out];rfl,((Below.refl _ w).alloc (Nat.le_refl _) _).drew⟩
 case _=>
  replace c2:∀w,Calls Tryz.prog 47 #[.int .i64 k,.int .i64 1] w fun e w'=>e=.returned (.tuple #[.int .i64 (W:Int),.int .i64 (H:Int)])∧w=w':=c2
  replace L:l=y:=by rw[L,if_neg (by omega)]
  replace C:c=x:=by rw[C,if_neg (by omega)]
  subst L C;have HF:=Lib.hid hF;have hF8:F≤1622016:=by omega
  go_enter Tryz.func56,Tryz.ntmps56
  go_wp2_with (first|(with_reducible refine(c1 _).mono ?_;rintro e w1 ⟨rfl,rfl⟩)|(with_reducible refine(c2 _).mono ?_;rintro e w1 ⟨rfl,rfl⟩))
  go_region
  go_wp2_with (first|(with_reducible refine(c1 _).mono ?_;rintro e w1 ⟨rfl,rfl⟩)|(with_reducible refine(c2 _).mono ?_;rintro e w1 ⟨rfl,rfl⟩))
  refine bodyPost_ret (results_cell_row rfl _ _ w.heap.size 103 _ (0,0) _ rfl (heap_alloc_new w _) Tryz.underlying103 rfl (by kernel_rfl)) rfl ⟨by rw[HF.out];rfl,((Below.refl _ w).alloc (Nat.le_refl _) _).drew⟩
 case _=>
  replace c2:∀w,Calls Tryz.prog 47 #[.int .i64 k,.int .i64 2] w fun e w'=>e=.returned (.tuple #[.int .i64 (W:Int),.int .i64 (H:Int)])∧w=w':=c2
  replace L:l=y:=by rw[L,if_neg (by omega)]
  replace C:c=x:=by rw[C,if_neg (by omega)]
  subst L C;have HF:=Lib.hid hF;have hF8:F≤1622016:=by omega
  go_enter Tryz.func56,Tryz.ntmps56
  go_wp2_with (first|(with_reducible refine(c1 _).mono ?_;rintro e w1 ⟨rfl,rfl⟩)|(with_reducible refine(c2 _).mono ?_;rintro e w1 ⟨rfl,rfl⟩))
  go_region
  go_wp2_with (first|(with_reducible refine(c1 _).mono ?_;rintro e w1 ⟨rfl,rfl⟩)|(with_reducible refine(c2 _).mono ?_;rintro e w1 ⟨rfl,rfl⟩))
  refine bodyPost_ret (results_cell_row rfl _ _ w.heap.size 103 _ (0,0) _ rfl (heap_alloc_new w _) Tryz.underlying103 rfl (by kernel_rfl)) rfl ⟨by rw[HF.out];rfl,((Below.refl _ w).alloc (Nat.le_refl _) _).drew⟩
theorem Yst (p f W:Nat):(Tryz.prog.info? 103).map (·.size)=some (Yl8 p f W).size:=by
 have h:(Tryz.prog.info? 103).map (·.size)=some 3:=by kernel_rfl
 exact h
set_option maxRecDepth 100000 in
set_option maxHeartbeats 2000000 in
theorem Ywx (p F W y n o c b:Nat)(v:Nat→Value)(w:World)(hp:p<3)(hv:v p=.slice (some ⟨b,o,none⟩) n c)(hc:n≤c)(hF:F+y*W+8≤n)(hn:n≤1073741824):
  Calls Tryz.prog 58 #[.agg (Yl8 p F W),.agg #[v 0,v 1,v 2],.int .i64 (y:Int)] w fun e w'=>e=.returned (.slice (some ⟨b,o+(F+y*W),none⟩) 8 (c-(F+y*W)))∧Below w.heap.size w w':=by
 have hb2:∀o1 o2,Below w.heap.size w ((w.alloc o1).alloc o2):=fun o1 o2=>((Below.refl _ w).alloc (Nat.le_refl _) _).alloc (by simp) _;obtain⟨m,hm⟩:∃m,y*W=m:=⟨_,rfl⟩;rw[hm] at hF ⊢;have M:(y:Int)*(W:Int)=(m:Int):=by rw[←hm];exact(Int.natCast_mul _ _).symm
 unfold Yl8;clear hm;have hp3:p=0∨p=1∨p=2:=by omega
 obtain⟨s,hs⟩:∃s,F+m=s:=⟨_,rfl⟩;have S:(F:Int)+(m:Int)=(s:Int):=by omega
 rw[hs];have t1:(c==s)=false:=by simp;omega
 rcases hp3 with rfl|rfl|rfl
 all_goals
  rw[hv];clear hv
  try generalize v 0=v0
  try generalize v 1=v1
  try generalize v 2=v2
  go_enter Tryz.func58,Tryz.ntmps58
  go_wp2
  rw[show s+8-s=8 by omega]
  go_ret
  exact⟨rfl,hb2 _ _⟩
def Yb7 (k:Int)(n:Nat→Nat):Bool:=Yb6 k&&(decide (n 0=siz k 0)&&(decide (n 1=siz k 1)&&decide (n 2=siz k 2)))
theorem Yfa {k:Int}{n:Nat→Nat}:Yb7 k n=true↔Yb6 k=true∧∀p,p<3→n p=siz k p:=by
 unfold Yb7;simp only[Bool.and_eq_true,decide_eq_true_iff];constructor
 ·rintro⟨h,h0,h1,h2⟩;refine⟨h,fun p hp=>?_⟩
  match p,hp with
  |0,_=>exact h0
  |1,_=>exact h1
  |2,_=>exact h2
 ·rintro⟨h,hp⟩;exact⟨h,hp 0 (by omega),hp 1 (by omega),hp 2 (by omega)⟩
theorem Ymx {a b:Nat}(h:a=b):((a:Int) != (b:Int))=false:=by simp[h]
theorem Ymy {a b:Nat}(h:a≠b):((a:Int) != (b:Int))=true:=by simp[bne];omega
set_option maxRecDepth 100000 in
set_option maxHeartbeats 2000000 in
theorem Yet (k:Int)(v:Nat→Value)(n:Nat→Nat)(w:World)(hv:∀p,p<3→∃a c,v p=.slice a (n p) c):
  Calls Tryz.prog 14 #[.agg (frA k v)] w fun e w'=>e=.returned (.bool (Yb7 k n))∧Below w.heap.size w w':=by
 have hb1:∀o,Below w.heap.size w (w.alloc o):=fun o=>(Below.refl _ w).alloc (Nat.le_refl _) _;have c0:∀w,Calls Tryz.prog 26 #[.int .i64 k,.int .i64 0] w fun e w'=>e=.returned (.int .i64 (siz k 0:Int))∧w=w':=fun w=>Yex k 0 (by omega) w;have c1:∀w,Calls Tryz.prog 26 #[.int .i64 k,.int .i64 1] w fun e w'=>e=.returned (.int .i64 (siz k 1:Int))∧w=w':=fun w=>Yex k 1 (by omega) w
 have c2:∀w,Calls Tryz.prog 26 #[.int .i64 k,.int .i64 2] w fun e w'=>e=.returned (.int .i64 (siz k 2:Int))∧w=w':=fun w=>Yex k 2 (by omega) w;have c3:=fun w=>Yhl k w;have hR:=Lib.hid (show Yb7 k n=(Yb6 k&&(decide (n 0=siz k 0)&&(decide (n 1=siz k 1)&&decide (n 2=siz k 2)))) from rfl);obtain⟨a0,b0,hv0⟩:=hv 0 (by omega);obtain⟨a1,b1,hv1⟩:=hv 1 (by omega);obtain⟨a2,b2,hv2⟩:=hv 2 (by omega)
 have x0:∀w,(Instr.index 23 (.agg #[v 0,v 1,v 2]) (.int .i64 0)).run Tryz.prog w=.ok (v 0) w:=fun w=>Yiy v (p:=0) (by omega) w;have x1:∀w,(Instr.index 23 (.agg #[v 0,v 1,v 2]) (.int .i64 1)).run Tryz.prog w=.ok (v 1) w:=fun w=>Yiy v (p:=1) (by omega) w;have x2:∀w,(Instr.index 23 (.agg #[v 0,v 1,v 2]) (.int .i64 2)).run Tryz.prog w=.ok (v 2) w:=fun w=>Yiy v (p:=2) (by omega) w;unfold frA frL
 rw[hv0,hv1,hv2] at x0 x1 x2 ⊢;clear hv hv0 hv1 hv2;generalize Yb6 k=y at *;generalize Yb7 k n=z at *;generalize siz k 0=s0 at *;generalize siz k 1=s1 at *;generalize siz k 2=s2 at *;generalize n 0=n0 at *;generalize n 1=n1 at *;generalize n 2=n2 at *
 go_enter Tryz.func14,Tryz.ntmps14
 go_wp2
 go_loopw [7] (fun z wr=>∃i:Nat,i≤3∧z=.int .i64 i∧wr=w.alloc (.cells #[.int .i64 k,.slice a0 n0 b0,.slice a1 n1 b1,.slice a2 n2 b2] 25 (0,0))∧Hid ((1≤i→n0=s0)∧(2≤i→n1=s1)∧(3≤i→n2=s2))) (fun z _=>3-(intOf z).toNat)
 case atStart=>exact⟨0,by omega,rfl,rfl,by show _∧_;omega⟩
 case round=>
  obtain⟨i,hi,rfl,rfl,HH⟩:=hrel;obtain⟨k0,k1,k2⟩:=HH.out;clear HH;have hi4:i=0∨i=1∨i=2∨i=3:=by omega
  rcases hi4 with rfl|rfl|rfl|rfl
  case _=>
   by_cases e:n0=s0
   ·have t:=Ymx e;have HE:=Lib.hid e;clear e k0 k1 k2
    go_wp2_with (with_reducible refine(c0 _).mono ?_;rintro e w1 ⟨rfl,rfl⟩)
    go_roundw
    case rel=>exact⟨1,by omega,rfl,(by trivial),⟨fun _=>HE.out,by omega,by omega⟩⟩
    case measure=>simp[intOf]
   ·have t:=Ymy e
    go_wp2_with (with_reducible refine(c0 _).mono ?_;rintro e w1 ⟨rfl,rfl⟩)
    go_ret
    exact⟨Yad (by rw[hR.out,decide_eq_false e];simp),hb1 _⟩
  case _=>
   have e0:=k0 (by omega);by_cases e:n1=s1
   ·have t:=Ymx e;have HE:=Lib.hid e;have HE0:=Lib.hid e0;clear e e0 k0 k1 k2
    go_wp2_with (with_reducible refine(c1 _).mono ?_;rintro e w1 ⟨rfl,rfl⟩)
    go_roundw
    case rel=>exact⟨2,by omega,rfl,(by trivial),⟨fun _=>HE0.out,fun _=>HE.out,by omega⟩⟩
    case measure=>simp[intOf]
   ·have t:=Ymy e;clear e0 k0 k1 k2
    go_wp2_with (with_reducible refine(c1 _).mono ?_;rintro e w1 ⟨rfl,rfl⟩)
    go_ret
    exact⟨Yad (by rw[hR.out,decide_eq_false e];simp),hb1 _⟩
  case _=>
   have e0:=k0 (by omega);have e1:=k1 (by omega);by_cases e:n2=s2
   ·have t:=Ymx e;have HE:=Lib.hid e;have HE0:=Lib.hid e0;have HE1:=Lib.hid e1;clear e e0 e1 k0 k1 k2
    go_wp2_with (with_reducible refine(c2 _).mono ?_;rintro e w1 ⟨rfl,rfl⟩)
    go_roundw
    case rel=>exact⟨3,by omega,rfl,(by trivial),⟨fun _=>HE0.out,fun _=>HE1.out,fun _=>HE.out⟩⟩
    case measure=>simp[intOf]
   ·have t:=Ymy e;clear e0 e1 k0 k1 k2
    go_wp2_with (with_reducible refine(c2 _).mono ?_;rintro e w1 ⟨rfl,rfl⟩)
    go_ret
    exact⟨Yad (by rw[hR.out,decide_eq_false e];simp),hb1 _⟩
  case _=>
   have e0:=k0 (by omega);have e1:=k1 (by omega);have e2:=k2 (by omega);subst e0 e1 e2;clear k0 k1 k2
   go_wp2_with (with_reducible refine(c3 _).mono ?_;rintro e w1 ⟨rfl,rfl⟩)
   go_ret
   exact⟨Yad (by rw[hR.out];simp),hb1 _⟩
theorem Ye9 {a b c a' b' c':Int}(h1:a=a')(h2:b=b')(h3:c=c'):Ending.returned (.tuple #[.int .i64 a,.int .i64 b,.int .i64 c])=.returned (.tuple #[.int .i64 a',.int .i64 b',.int .i64 c']):=by rw[h1,h2,h3]
set_option maxRecDepth 100000 in
theorem Ygt (k:Int)(w:World):Calls Tryz.prog 61 #[.int .i64 k] w fun e w'=>e=.returned (.int .i64 (acr k:Int))∧Below w.heap.size w w':=by
 have c:=fun w=>Yc9 k w;obtain⟨d1,-⟩:=Yl4 k;obtain⟨-,-,-,-,m1,m2⟩:=Yb5 k;have w1:IntKind.i64.wrap (acr k:Int)=(acr k:Int):=Yde (by omega);have ix0:=fun w=>(Yca (Yd3 k) (Yd6 k) (Yga k) (Ygz k) w).1;have ix1:=fun w=>(Yca (Yd3 k) (Yd6 k) (Yga k) (Ygz k) w).2;unfold Yrw at c;clear m1 m2;generalize acr k=a at *;generalize Yd3 k=W at *;generalize Yd6 k=H at *;generalize Yga k=R at *
 generalize Ygz k=L at *
 go_enter Tryz.func61,Tryz.ntmps61
 go_wp2_with fail
 refine(c _).mono ?_;rintro e x1 ⟨rfl,hb1⟩
 go_wp2
 go_ret
 exact⟨rfl,hb1⟩
set_option maxRecDepth 100000 in
set_option maxHeartbeats 1000000 in
theorem Yhu (k:Int)(p:Nat)(hp:p<3)(w:World):Calls Tryz.prog 38 #[.int .i64 k,.int .i64 (p:Int)] w fun e w'=>e=.returned (.int .i64 (wid k p:Int))∧Below w.heap.size w w':=by
 have c:=fun w=>Yc9 k w;obtain⟨-,-,d1,-⟩:=Yl4 k;obtain⟨-,-,h3,-,m1,m2⟩:=Yb5 k;have w1:IntKind.i64.wrap ((8*acr k:Nat):Int)=((8*acr k:Nat):Int):=Yde (by omega);have hw:wid k p=if p=0 then 16*acr k else 8*acr k:=rfl
 have ix0:=fun w=>(Yca (Yd3 k) (Yd6 k) (Yga k) (Ygz k) w).1;have ix1:=fun w=>(Yca (Yd3 k) (Yd6 k) (Yga k) (Ygz k) w).2;unfold Yrw at c;clear m1 m2;by_cases h0:p=0
 ·subst h0
  replace hw:((wid k 0:Nat):Int)=Yd3 k:=by rw[h3];exact Int.natCast_mul 16 _
  generalize wid k 0=m at *;clear d1 w1 h3;generalize Yd3 k=W at *;subst hw
  go_enter Tryz.func38,Tryz.ntmps38
  go_wp2_with fail
  refine(c _).mono ?_;rintro e x1 ⟨rfl,hb1⟩
  go_wp2
  go_ret
  exact⟨rfl,hb1⟩
 ·have t:((p:Int)==0)=false:=by simp;omega
  rw[if_neg h0] at hw;rw[←hw] at d1 w1;generalize wid k p=m at *;clear hw h3 h0;generalize Yd3 k=W at *
  go_enter Tryz.func38,Tryz.ntmps38
  go_wp2_with fail
  refine(c _).mono ?_;rintro e x1 ⟨rfl,hb1⟩
  go_wp2
  go_ret
  exact⟨rfl,hb1⟩
set_option maxRecDepth 100000 in
set_option maxHeartbeats 1000000 in
theorem Yol (k:Int)(p:Nat)(hp:p<3)(w:World):Calls Tryz.prog 39 #[.int .i64 k,.int .i64 (p:Int)] w fun e w'=>e=.returned (.int .i64 (hei k p:Int))∧Below w.heap.size w w':=by
 have c:=fun w=>Yc9 k w;obtain⟨-,-,-,d1⟩:=Yl4 k;obtain⟨-,-,-,h3,m1,m2⟩:=Yb5 k;have w1:IntKind.i64.wrap ((8*dow k:Nat):Int)=((8*dow k:Nat):Int):=Yde (by omega);have hw:hei k p=if p=0 then 16*dow k else 8*dow k:=rfl
 have ix0:=fun w=>(Yca (Yd3 k) (Yd6 k) (Yga k) (Ygz k) w).1;have ix1:=fun w=>(Yca (Yd3 k) (Yd6 k) (Yga k) (Ygz k) w).2;unfold Yrw at c;clear m1 m2;by_cases h0:p=0
 ·subst h0
  replace hw:((hei k 0:Nat):Int)=Yd6 k:=by rw[h3];exact Int.natCast_mul 16 _
  generalize hei k 0=m at *;clear d1 w1 h3;generalize Yd6 k=W at *;subst hw
  go_enter Tryz.func39,Tryz.ntmps39
  go_wp2_with fail
  refine(c _).mono ?_;rintro e x1 ⟨rfl,hb1⟩
  go_wp2
  go_ret
  exact⟨rfl,hb1⟩
 ·have t:((p:Int)==0)=false:=by simp;omega
  rw[if_neg h0] at hw;rw[←hw] at d1 w1;generalize hei k p=m at *;clear hw h3 h0;generalize Yd6 k=W at *
  go_enter Tryz.func39,Tryz.ntmps39
  go_wp2_with fail
  refine(c _).mono ?_;rintro e x1 ⟨rfl,hb1⟩
  go_wp2
  go_ret
  exact⟨rfl,hb1⟩
set_option maxRecDepth 100000 in
set_option maxHeartbeats 4000000 in
theorem Ylf (k:Int)(n b i:Nat)(w:World)(hn:n<Ybg k)(hb:b<6)(hi:i<64):Calls Tryz.prog 43 #[.int .i64 k,.int .i64 (n:Int),.int .i64 (b:Int),.int .i64 (i:Int)] w fun e w'=>e=.returned (.tuple #[.int .i64 (plc b:Int),.int .i64 ((8*col k n b+i%8:Nat):Int),.int .i64 ((8*lin k n b+i / 8:Nat):Int)])∧Below w.heap.size w w':=by
 have c:=fun w=>Ygt k w;obtain⟨-,-,-,-,h1,h2⟩:=Yb5 k;obtain⟨ha,hx,hy⟩:=Ydq hn;have hnm:=Ydr k;have L:lin k n b=if b<4 then 2*(n / acr k)+b / 2 else n / acr k:=rfl
 have C:col k n b=if b<4 then 2*(n%acr k)+b%2 else n%acr k:=rfl
 have r1:(n:Int).tmod (acr k:Int)=((n%acr k:Nat):Int):=by rw[Int.tmod_eq_emod_of_nonneg (by omega)];rfl
 have r2:(n:Int).tdiv (acr k:Int)=((n / acr k:Nat):Int):=by rw[Int.tdiv_eq_ediv_of_nonneg (by omega)];rfl
 have hd:n / acr k≤n:=Nat.div_le_self n (acr k);have r3:IntKind.i64.wrap ((n / acr k:Nat):Int)=((n / acr k:Nat):Int):=Ya7 (by omega);have r4:(i:Int).tmod 8=((i%8:Nat):Int):=by rw[Int.tmod_eq_emod_of_nonneg (by omega)];rfl
 have r5:(i:Int).tdiv 8=((i / 8:Nat):Int):=by rw[Int.tdiv_eq_ediv_of_nonneg (by omega)];rfl
 have r6:IntKind.i64.wrap ((i / 8:Nat):Int)=((i / 8:Nat):Int):=Ya7 (by omega);have r7:(i:Int) / 8=((i / 8:Nat):Int):=rfl;have r8:(i:Int)%8=((i%8:Nat):Int):=rfl;have z0:((acr k:Int)==0)=false:=by simp;omega
 have i1:i%8<8:=Nat.mod_lt _ (by omega);have i2:i / 8<8:=by omega
 generalize lin k n b=l at *;generalize col k n b=cc at *;generalize n / acr k=y at *;generalize n%acr k=x at *;generalize i / 8=u at *;generalize i%8=v at *;have hb6:b=0∨b=1∨b=2∨b=3∨b=4∨b=5:=by omega
 clear hn hb;rcases hb6 with rfl|rfl|rfl|rfl|rfl|rfl
 case _=>
  replace L:l=2*y:=by rw[L,if_pos (by omega)];all_goals omega
  replace C:cc=2*x:=by rw[C,if_pos (by omega)];all_goals omega
  subst L C
  go_enter Tryz.func43,Tryz.ntmps43
  go_wp2_with fail
  refine(c _).mono ?_;rintro e x1 ⟨rfl,hb1⟩
  go_wp2_with fail
  refine(c _).mono ?_;rintro e x2 ⟨rfl,hb2⟩;have hbx:=hb1.trans (hb2.mono hb1.size);clear hb1 hb2
  go_wp2
  go_ret3
  exact⟨Ye9 (by rfl) (by omega) (by omega),hbx⟩
 case _=>
  replace L:l=2*y:=by rw[L,if_pos (by omega)];all_goals omega
  replace C:cc=2*x+1:=by rw[C,if_pos (by omega)];all_goals omega
  subst L C
  go_enter Tryz.func43,Tryz.ntmps43
  go_wp2_with fail
  refine(c _).mono ?_;rintro e x1 ⟨rfl,hb1⟩
  go_wp2_with fail
  refine(c _).mono ?_;rintro e x2 ⟨rfl,hb2⟩;have hbx:=hb1.trans (hb2.mono hb1.size);clear hb1 hb2
  go_wp2
  go_ret3
  exact⟨Ye9 (by rfl) (by omega) (by omega),hbx⟩
 case _=>
  replace L:l=2*y+1:=by rw[L,if_pos (by omega)];all_goals omega
  replace C:cc=2*x:=by rw[C,if_pos (by omega)];all_goals omega
  subst L C
  go_enter Tryz.func43,Tryz.ntmps43
  go_wp2_with fail
  refine(c _).mono ?_;rintro e x1 ⟨rfl,hb1⟩
  go_wp2_with fail
  refine(c _).mono ?_;rintro e x2 ⟨rfl,hb2⟩;have hbx:=hb1.trans (hb2.mono hb1.size);clear hb1 hb2
  go_wp2
  go_ret3
  exact⟨Ye9 (by rfl) (by omega) (by omega),hbx⟩
 case _=>
  replace L:l=2*y+1:=by rw[L,if_pos (by omega)];all_goals omega
  replace C:cc=2*x+1:=by rw[C,if_pos (by omega)];all_goals omega
  subst L C
  go_enter Tryz.func43,Tryz.ntmps43
  go_wp2_with fail
  refine(c _).mono ?_;rintro e x1 ⟨rfl,hb1⟩
  go_wp2_with fail
  refine(c _).mono ?_;rintro e x2 ⟨rfl,hb2⟩;have hbx:=hb1.trans (hb2.mono hb1.size);clear hb1 hb2
  go_wp2
  go_ret3
  exact⟨Ye9 (by rfl) (by omega) (by omega),hbx⟩
 case _=>
  replace L:l=y:=by rw[L,if_neg (by omega)]
  replace C:cc=x:=by rw[C,if_neg (by omega)]
  subst L C
  go_enter Tryz.func43,Tryz.ntmps43
  go_wp2_with fail
  refine(c _).mono ?_;rintro e x1 ⟨rfl,hb1⟩
  go_wp2_with fail
  refine(c _).mono ?_;rintro e x2 ⟨rfl,hb2⟩;have hbx:=hb1.trans (hb2.mono hb1.size);clear hb1 hb2
  go_wp2
  go_ret3
  exact⟨Ye9 (by rfl) (by omega) (by omega),hbx⟩
 case _=>
  replace L:l=y:=by rw[L,if_neg (by omega)]
  replace C:cc=x:=by rw[C,if_neg (by omega)]
  subst L C
  go_enter Tryz.func43,Tryz.ntmps43
  go_wp2_with fail
  refine(c _).mono ?_;rintro e x1 ⟨rfl,hb1⟩
  go_wp2_with fail
  refine(c _).mono ?_;rintro e x2 ⟨rfl,hb2⟩;have hbx:=hb1.trans (hb2.mono hb1.size);clear hb1 hb2
  go_wp2
  go_ret3
  exact⟨Ye9 (by rfl) (by omega) (by omega),hbx⟩
set_option maxRecDepth 100000 in
set_option maxHeartbeats 2000000 in
theorem Ymb (k:Int)(v:Nat→Value)(n p x y:Nat)(f:Nat→Int)(w:World)(hp:p<3)(hv:Ykg w (v p) n f)(hn:n≤1073741824)(h:y*wid k p+x<n):
  Calls Tryz.prog 85 #[.agg (frA k v),.int .i64 (p:Int),.int .i64 (x:Int),.int .i64 (y:Int)] w fun e w'=>e=.returned (.int .i64 (f (y*wid k p+x)))∧Below w.heap.size w w':=by
 obtain⟨a,cp,hvp,hcp,hd⟩:=hv;obtain⟨b,o,rfl,hc⟩:∃b o,a=some ⟨b,o,none⟩∧∀i,i<n→w.cell? ⟨b,o+i,none⟩=some (.int .u8 (f i))∧0≤f i∧f i≤255:=by
  rcases hd with h0|h0
  ·omega
  ·exact h0
 obtain⟨q1,q2⟩:=hc _ h;obtain⟨m,hm⟩:∃m,y*wid k p=m:=⟨_,rfl⟩;rw[hm] at h q1 q2 ⊢;have M:(y:Int)*(wid k p:Int)=(m:Int):=by rw[←hm];exact(Int.natCast_mul _ _).symm
 obtain⟨s,hs⟩:∃s,m+x=s:=⟨_,rfl⟩;rw[hs] at h q1 q2 ⊢;have S:(m:Int)+(x:Int)=(s:Int):=by omega
 have W1:IntKind.i64.wrap (m:Int)=(m:Int):=Ya7 (by omega);have W2:IntKind.i64.wrap (s:Int)=(s:Int):=Ya7 (by omega);have W3:IntKind.i64.wrap (f s)=f s:=Yde (by omega);obtain⟨B,hB⟩:∃B,w.heap.size=B:=⟨_,rfl⟩;obtain⟨wA,hwA⟩:∃wA,w.alloc (.cells (frA k v) 25 (0,0))=wA:=⟨_,rfl⟩;have hA0:wA.heap[B]? =some (frO 25 k v):=by rw[←hwA,←hB];exact heap_alloc_new w _
 have hbA:Below B w wA:=by rw[←hwA,←hB];exact(Below.refl _ w).alloc (Nat.le_refl _) _
 have hzA:wA.heap.size=B+1:=by rw[←hwA,←hB];simp
 have hq:=World.block_lt_of_cell? w ⟨b,o+s,none⟩ q1;have HF:=Lib.hid (fun(x:World) (hx:Below (B+1) wA x)=>(⟨Ybn ((hx.block B (by omega)).trans hA0),(Yce ((hx.block B (by omega)).trans hA0) hp).trans (by rw[hvp])⟩:x.cell? ⟨B,0,none⟩=some (.int .i64 k)∧x.cell? ⟨B,1+p,none⟩=some (.slice (some ⟨b,o,none⟩) n cp)))
 have HG:=Lib.hid (fun(x:World) (hx:Below (B+1) wA x)=>((hx.cell (p:=⟨b,o+s,none⟩) (by show b<_;rw[hB] at hq;exact Nat.lt_succ_of_lt hq)).trans ((hbA.cell (p:=⟨b,o+s,none⟩) (by rw[←hB];exact hq)).trans q1):x.cell? ⟨b,o+s,none⟩=some (.int .u8 (f s))))
 have C1:=Lib.hid (fun(x:World) (hx:Below (B+1) wA x)=>((Yhu k p hp x).mono fun e y h=>⟨h.1,hx.trans (h.2.mono (by have:=hx.size;omega))⟩:Calls Tryz.prog 38 #[.int .i64 k,.int .i64 (p:Int)] x fun e y=>e=.returned (.int .i64 (wid k p:Int))∧Below (B+1) wA y));have HWA:=Lib.hid hwA;have HB:=Lib.hid hB;have HBA:=Lib.hid hbA;generalize f s=z at *;generalize wid k p=W at *;generalize frA k v=X at *
 clear hm hc hA0 hbA hzA hq hwA hB q1 hvp hd
 go_enter Tryz.func85,Tryz.ntmps85
 go_wp2
 rw[HWA.out,HB.out];refine Yaf (S:=fun x=>Below (B+1) wA x) 16 (by kernel_rfl) (by kernel_rfl) (Below.refl _ _).drew ?_;simp only[List.take_succ_cons,List.take_zero,List.drop_succ_cons,List.drop_zero];refine Yab (v:=?v0) (by kernel_rfl) ?m ?_;(case m=>(intro x _;go_simp;try with_reducible rfl));simp only[Yaa]
 refine Yab (v:=?v1) (by kernel_rfl) ?m ?_;(case m=>(intro x _;go_simp;try with_reducible rfl));simp only[Yaa];refine Yab (v:=?v2) (by kernel_rfl) ?m ?_;(case m=>(intro x _;go_simp;rw[if_pos (by omega)]));simp only[Yaa];refine Yag 22 _ ⟨B,1+p,none⟩ (.slice (some ⟨b,o,none⟩) n cp) (by kernel_rfl) rfl rfl (fun x hx=>by have c0:=(HF.out x hx).2;go_simp) ?_;simp only[Yaa]
 refine Yab (v:=?v4) (by kernel_rfl) ?m ?_;(case m=>(intro x _;go_simp;try with_reducible rfl));simp only[Yaa];refine Yab (v:=?v5) (by kernel_rfl) ?m ?_;(case m=>(intro x _;go_simp;try with_reducible rfl));simp only[Yaa];refine Yag 3 _ ⟨B,0,none⟩ (.int .i64 k) (by kernel_rfl) rfl rfl (fun x hx=>by have c0:=(HF.out x hx).1;go_simp) ?_;simp only[Yaa]
 refine Yab (v:=?v7) (by kernel_rfl) ?m ?_;(case m=>(intro x _;go_simp;try with_reducible rfl));simp only[Yaa];refine Yah (by kernel_rfl) C1.out (fun _=>by kernel_rfl) ?_;simp only[Yaa];refine Yab (v:=?v9) (by kernel_rfl) ?m ?_;(case m=>(intro x _;go_simp;try with_reducible rfl));simp only[Yaa];refine Yab (v:=?v10) (by kernel_rfl) ?m ?_;(case m=>(intro x _;go_simp;try with_reducible rfl))
 simp only[Yaa];refine Yab (v:=?v11) (by kernel_rfl) ?m ?_;(case m=>(intro x _;go_simp;try with_reducible rfl));simp only[Yaa];refine Yab (v:=?v12) (by kernel_rfl) ?m ?_;(case m=>(intro x _;go_simp;try with_reducible rfl));simp only[Yaa];refine Yag 5 _ ⟨b,o+s,none⟩ (.int .u8 z) (by kernel_rfl) rfl rfl (fun x hx=>by have c0:=(HG.out x hx);go_simp) ?_;simp only[Yaa]
 refine Yab (v:=?v14) (by kernel_rfl) ?m ?_;(case m=>(intro x _;go_simp;try with_reducible rfl));simp only[Yaa];refine Yab (v:=?v15) (by kernel_rfl) ?m ?_;(case m=>(intro x _;go_simp;try with_reducible rfl));simp only[Yaa];refine Yar fun x hx=>?_
 go_wp2
 go_ret
 exact⟨rfl,by rw[HB.out];exact HBA.out.trans (hx.mono (by omega))⟩
def Yki (a:Int):Int:=2*(a / 4)+if a%4=0 then 0 else 1
def Yid (v:Int):Int:=if Yax v (-64) 64<0 then -Yki (-Yax v (-64) 64) else Yki (Yax v (-64) 64)
theorem Ymk {a:Int}(h0:0≤a)(h1:a≤64):0≤Yki a∧Yki a≤32:=by unfold Yki;split <;> omega
theorem Yvw (v:Int):-32≤Yid v∧Yid v≤32:=by
 have h1:=Ybl v (-64) 64;have h2:=Ybk v (-64) 64 (by omega);unfold Yid
 split
 ·have:=Ymk (a:=-Yax v (-64) 64) (by omega) (by omega);omega
 ·have:=Ymk (a:=Yax v (-64) 64) (by omega) (by omega);omega
theorem Y1w {v:Int}(h1:-64≤v)(h2:v≤64):Yid v=if v<0 then -Yki (-v) else Yki v:=by unfold Yid;rw[Ygw v _ _ h1 h2]
set_option maxHeartbeats 1000000 in
theorem Yn3 (a:Int)(w:World)(h0:0≤a)(h1:a≤64):Calls Tryz.prog 107 #[.int .i64 a] w fun e w'=>e=.returned (.int .i64 (Yki a))∧w=w':=by
 have c:=fun w=>Ybs a (-64) 64 w;rw[Ygw a (-64) 64 (by omega) h1] at c;have t0:decide (a<0)=false:=by simp;omega
 have q1:a.tdiv 4=a / 4:=Int.tdiv_eq_ediv_of_nonneg h0;have q2:a.tmod 4=a%4:=Int.tmod_eq_emod_of_nonneg h0;have u1:0≤a / 4:=by omega
 have u2:a / 4≤16:=by omega
 have wu:IntKind.i64.wrap (a / 4)=a / 4:=Yde (by omega);have hz:=Lib.hid (show Yki a=2*(a / 4)+if a%4=0 then 0 else 1 from rfl);generalize Yki a=z at *;generalize a / 4=u at *;by_cases hr:a%4=0
 ·rw[if_pos hr] at hz;rw[hr] at q2;clear hr
  go_enter Tryz.func107,Tryz.ntmps107
  go_wp2_with (with_reducible refine(c _).mono ?_;rintro e w1 ⟨rfl,rfl⟩)
  go_ret
  exact⟨Ya6 (by have:=hz.out;omega),rfl⟩
 ·rw[if_neg hr] at hz;have t1:(a%4 != 0)=true:=by simpa [bne] using hr
  generalize a%4=r at *;clear hr
  go_enter Tryz.func107,Tryz.ntmps107
  go_wp2_with (with_reducible refine(c _).mono ?_;rintro e w1 ⟨rfl,rfl⟩)
  go_ret
  exact⟨Ya6 (by have:=hz.out;omega),rfl⟩
theorem Yjj (v:Int)(w:World):Calls Tryz.prog 107 #[.int .i64 v] w fun e w'=>e=.returned (.int .i64 (Yid v))∧w=w':=by
 have c:=fun w=>Ybs v (-64) 64 w;have h1:=Ybl v (-64) 64;have h2:=Ybk v (-64) 64 (by omega);have hz:=Lib.hid (show Yid v=if Yax v (-64) 64<0 then -Yki (-Yax v (-64) 64) else Yki (Yax v (-64) 64) from rfl);generalize Yid v=z at *;generalize Yax v (-64) 64=a at *;by_cases h0:a<0
 ·rw[if_pos h0] at hz;have c2:=fun w=>Yn3 (-a) w (by omega) (by omega);have t0:decide (a<0)=true:=by simpa using h0
  have q:=Ymk (a:=-a) (by omega) (by omega);generalize Yki (-a)=y at *;clear h0
  go_enter Tryz.func107,Tryz.ntmps107
  go_wp2_with (first|(with_reducible refine(c _).mono ?_;rintro e w1 ⟨rfl,rfl⟩)|(with_reducible refine(c2 _).mono ?_;rintro e w1 ⟨rfl,rfl⟩))
  go_ret
  exact⟨Ya6 hz.out.symm,rfl⟩
 ·rw[if_neg h0] at hz;have t0:decide (a<0)=false:=by simpa using h0
  have q1:a.tdiv 4=a / 4:=Int.tdiv_eq_ediv_of_nonneg (by omega);have q2:a.tmod 4=a%4:=Int.tmod_eq_emod_of_nonneg (by omega);have u1:0≤a / 4:=by omega
  have u2:a / 4≤16:=by omega
  have wu:IntKind.i64.wrap (a / 4)=a / 4:=Yde (by omega);have hy:=Lib.hid (show Yki a=2*(a / 4)+if a%4=0 then 0 else 1 from rfl);rw[hy.out] at hz;clear hy;generalize a / 4=u at *;by_cases hr:a%4=0
  ·rw[if_pos hr] at hz;rw[hr] at q2;clear hr h0
   go_enter Tryz.func107,Tryz.ntmps107
   go_wp2_with (with_reducible refine(c _).mono ?_;rintro e w1 ⟨rfl,rfl⟩)
   go_ret
   exact⟨Ya6 (by have:=hz.out;omega),rfl⟩
  ·rw[if_neg hr] at hz;have t1:(a%4 != 0)=true:=by simpa [bne] using hr
   generalize a%4=r at *;clear hr h0
   go_enter Tryz.func107,Tryz.ntmps107
   go_wp2_with (with_reducible refine(c _).mono ?_;rintro e w1 ⟨rfl,rfl⟩)
   go_ret
   exact⟨Ya6 (by have:=hz.out;omega),rfl⟩
set_option maxHeartbeats 2000000 in
theorem Ys6 (a:Int)(w:World)(h0:0≤a)(h1:a≤64):Calls Tryz.prog 65 #[.int .i64 a] w fun e w'=>e=.returned (.int .i64 (Yki a))∧w=w':=by
 have c:=fun w=>Ybm a (-64) 64 w;rw[Ygw a (-64) 64 (by omega) h1] at c;have t0:decide (a<0)=false:=by simp;omega
 have q2:a.tmod 4=a%4:=Int.tmod_eq_emod_of_nonneg h0;have hz:=Lib.hid (show Yki a=2*(a / 4)+if a%4=0 then 0 else 1 from rfl);generalize Yki a=z at *
 go_enter Tryz.func65,Tryz.ntmps65
 go_wp2_with (with_reducible refine(c _).mono ?_;rintro e w1 ⟨rfl,rfl⟩)
 go_loopw [3] (fun z wr=>∃j:Nat,z=.int .i64 (2*(j:Int))∧4*(j:Int)≤a∧wr=w) (fun z _=>64-(RowKit.intOf z).toNat)
 case atStart=>exact⟨0,rfl,by omega,rfl⟩
 case round=>
  obtain⟨j,rfl,hj,rfl⟩:=hrel;have e1:(2*(j:Int)).tdiv 2=(j:Int):=by rw[Int.tdiv_eq_ediv_of_nonneg (by omega)];omega
  have e2:IntKind.i64.wrap (j:Int)=(j:Int):=Yde (by omega);by_cases hlt:4*(j:Int)+4≤a
  ·have t2:decide (4*(j:Int)+4≤a)=true:=decide_eq_true hlt
   go_wp2
   go_roundw
   case rel=>exact⟨j+1,by go_num,by omega,trivial⟩
   case measure=>simp[RowKit.intOf];omega
  ·have t2:decide (4*(j:Int)+4≤a)=false:=decide_eq_false hlt;have hq:a / 4=(j:Int):=by omega
   rw[hq] at hz;clear hq hlt;by_cases hr:a%4=0
   ·rw[if_pos hr] at hz;rw[hr] at q2;clear hr
    go_wp2
    go_ret
    exact⟨Ya6 (by have:=hz.out;omega),rfl⟩
   ·rw[if_neg hr] at hz;have t1:(a%4 != 0)=true:=by simpa [bne] using hr
    generalize a%4=r at *;clear hr
    go_wp2
    go_ret
    exact⟨Ya6 (by have:=hz.out;omega),rfl⟩
set_option maxHeartbeats 2000000 in
theorem Yn4 (v:Int)(w:World):Calls Tryz.prog 65 #[.int .i64 v] w fun e w'=>e=.returned (.int .i64 (Yid v))∧w=w':=by
 have c:=fun w=>Ybm v (-64) 64 w;have h1:=Ybl v (-64) 64;have h2:=Ybk v (-64) 64 (by omega);have hz:=Lib.hid (show Yid v=if Yax v (-64) 64<0 then -Yki (-Yax v (-64) 64) else Yki (Yax v (-64) 64) from rfl);generalize Yid v=z at *;generalize Yax v (-64) 64=a at *;by_cases h0:a<0
 ·rw[if_pos h0] at hz;have c2:=fun w=>Ys6 (-a) w (by omega) (by omega);have t0:decide (a<0)=true:=by simpa using h0
  have q:=Ymk (a:=-a) (by omega) (by omega);generalize Yki (-a)=y at *;clear h0
  go_enter Tryz.func65,Tryz.ntmps65
  go_wp2_with (first|(with_reducible refine(c _).mono ?_;rintro e w1 ⟨rfl,rfl⟩)|(with_reducible refine(c2 _).mono ?_;rintro e w1 ⟨rfl,rfl⟩))
  go_ret
  exact⟨Ya6 hz.out.symm,rfl⟩
 ·rw[if_neg h0] at hz;have t0:decide (a<0)=false:=by simpa using h0
  have q2:a.tmod 4=a%4:=Int.tmod_eq_emod_of_nonneg (by omega);have hy:=Lib.hid (show Yki a=2*(a / 4)+if a%4=0 then 0 else 1 from rfl);rw[hy.out] at hz;clear hy
  go_enter Tryz.func65,Tryz.ntmps65
  go_wp2_with (with_reducible refine(c _).mono ?_;rintro e w1 ⟨rfl,rfl⟩)
  go_loopw [3] (fun z wr=>∃j:Nat,z=.int .i64 (2*(j:Int))∧4*(j:Int)≤a∧wr=w) (fun z _=>64-(RowKit.intOf z).toNat)
  case atStart=>exact⟨0,rfl,by omega,rfl⟩
  case round=>
   obtain⟨j,rfl,hj,rfl⟩:=hrel;have e1:(2*(j:Int)).tdiv 2=(j:Int):=by rw[Int.tdiv_eq_ediv_of_nonneg (by omega)];omega
   have e2:IntKind.i64.wrap (j:Int)=(j:Int):=Yde (by omega);by_cases hlt:4*(j:Int)+4≤a
   ·have t2:decide (4*(j:Int)+4≤a)=true:=decide_eq_true hlt
    go_wp2
    go_roundw
    case rel=>exact⟨j+1,by go_num,by omega,trivial⟩
    case measure=>simp[RowKit.intOf];omega
   ·have t2:decide (4*(j:Int)+4≤a)=false:=decide_eq_false hlt;have hq:a / 4=(j:Int):=by omega
    rw[hq] at hz;clear hq hlt;by_cases hr:a%4=0
    ·rw[if_pos hr] at hz;rw[hr] at q2;clear hr
     go_wp2
     go_ret
     exact⟨Ya6 (by have:=hz.out;omega),rfl⟩
    ·rw[if_neg hr] at hz;have t1:(a%4 != 0)=true:=by simpa [bne] using hr
     generalize a%4=r at *;clear hr
     go_wp2
     go_ret
     exact⟨Ya6 (by have:=hz.out;omega),rfl⟩
theorem Yjr (k n:Int)(w:World):Calls Tryz.prog 104 #[.int .i64 k,.int .i64 n] w fun e w'=>e=.returned (.bool (Yoi k n))∧w=w':=by
 have c:=fun w=>Ydu k w;obtain⟨h1,h2,_⟩:=Yb5 k;rw[←h1,←h2] at c;have hs:(acr k:Int)*(dow k:Int)=(Ybg k:Int):=(Int.natCast_mul _ _).symm;have hw:IntKind.i64.wrap (Ybg k:Int)=(Ybg k:Int):=Yde (by have:=Ydr k;omega);have hq:=Lib.hid (show Yoi k n=(decide (0≤n)&&decide (n<(Ybg k:Int))) from rfl);generalize Yoi k n=y at *;clear h1 h2;generalize acr k=a at *;generalize dow k=b at *
 generalize Ybg k=m at *;cases t0:decide (0≤n)
 ·rw[t0] at hq
  go_enter Tryz.func104,Tryz.ntmps104
  go_wp2_with (with_reducible refine(c _).mono ?_;rintro e w1 ⟨rfl,rfl⟩)
  go_ret
  exact⟨Yad (by rw[hq.out];rfl),rfl⟩
 ·rw[t0] at hq
  go_enter Tryz.func104,Tryz.ntmps104
  go_wp2_with (with_reducible refine(c _).mono ?_;rintro e w1 ⟨rfl,rfl⟩)
  go_ret
  exact⟨Yad (by rw[hq.out];rfl),rfl⟩
theorem Ylj (c m:Nat)(v:Int)(w:World)(hc:c≤1000)(hm:m≤1000):Calls Tryz.prog 123 #[.int .i64 (c:Int),.int .i64 (m:Int),.int .i64 v] w fun e w'=>e=.returned (.bool (Yb1 c m v))∧w=w':=by
 have hq:=Lib.hid (show Yb1 c m v=(decide (-32≤v∧v≤31)&&decide (0≤32*(c:Int)+v∧32*(c:Int)+v+30≤32*(m:Int)-2)) from rfl);generalize Yb1 c m v=y at *;by_cases h1:v < -32
 ·have t1:decide (v < -32)=true:=decide_eq_true h1;rw[decide_eq_false (show ¬ (-32≤v∧v≤31) by omega)] at hq
  go_enter Tryz.func123,Tryz.ntmps123
  go_wp2
  go_ret
  exact⟨Yad (by rw[hq.out];rfl),rfl⟩
 have t1:decide (v < -32)=false:=decide_eq_false h1;by_cases h2:31<v
 ·have t2:decide (31<v)=true:=decide_eq_true h2;rw[decide_eq_false (show ¬ (-32≤v∧v≤31) by omega)] at hq
  go_enter Tryz.func123,Tryz.ntmps123
  go_wp2
  go_ret
  exact⟨Yad (by rw[hq.out];rfl),rfl⟩
 have t2:decide (31<v)=false:=decide_eq_false h2;rw[decide_eq_true (show -32≤v∧v≤31 by omega)] at hq;by_cases h3:0≤32*(c:Int)+v
 ·have t3:decide (0≤32*(c:Int)+v)=true:=decide_eq_true h3;have hr:decide (0≤32*(c:Int)+v∧32*(c:Int)+v+30≤32*(m:Int)-2)=decide (32*(c:Int)+v+30≤2*(16*(m:Int)-1)):=by
   by_cases h:32*(c:Int)+v+30≤2*(16*(m:Int)-1)
   ·rw[decide_eq_true h,decide_eq_true];omega
   ·rw[decide_eq_false h,decide_eq_false];omega
  rw[hr] at hq;clear hr
  go_enter Tryz.func123,Tryz.ntmps123
  go_wp2
  go_ret
  exact⟨Yad (by rw[hq.out];rfl),rfl⟩
 ·have t3:decide (0≤32*(c:Int)+v)=false:=decide_eq_false h3;rw[decide_eq_false (show ¬ (0≤32*(c:Int)+v∧32*(c:Int)+v+30≤32*(m:Int)-2) by omega)] at hq
  go_enter Tryz.func123,Tryz.ntmps123
  go_wp2
  go_ret
  exact⟨Yad (by rw[hq.out];rfl),rfl⟩
theorem Ymj {k:Int}{n:Nat}(h:n<Ybg k):(n:Int).tmod (acr k:Int)=((n%acr k:Nat):Int)∧(n:Int).tdiv (acr k:Int)=((n / acr k:Nat):Int)∧IntKind.i64.wrap ((n / acr k:Nat):Int)=((n / acr k:Nat):Int)∧((acr k:Int)==0)=false∧n%acr k<acr k∧n / acr k<dow k∧acr k≤88∧dow k≤72:=by
 obtain⟨h0,h1,h2⟩:=Ydq h;obtain⟨-,-,-,-,h3,h4⟩:=Yb5 k;refine⟨by rw[Int.tmod_eq_emod_of_nonneg (by omega)];rfl,by rw[Int.tdiv_eq_ediv_of_nonneg (by omega)];rfl,Ya7 (by omega),by simp;omega,h1,h2,h3,h4⟩
set_option maxRecDepth 100000 in
set_option maxHeartbeats 2000000 in
theorem Ymu (k n a b:Int)(w:World):Calls Tryz.prog 97 #[.int .i64 k,.int .i64 n,.agg (Ygk a b)] w fun e w'=>e=.returned (.bool (Yi3 k n a b))∧Below w.heap.size w w':=by
 have c1:=fun w=>Yjr k n w;have c2:=fun w=>Ydu k w;obtain⟨e1,e2,-⟩:=Yb5 k;rw[←e1,←e2] at c2;clear e1 e2;have hq:=Lib.hid (show Yi3 k n a b=(Yoi k n&&(Yb1 (n.toNat%acr k) (acr k) a&&Yb1 (n.toNat / acr k) (dow k) b)) from rfl);generalize Yi3 k n a b=y at *;obtain⟨B,hB⟩:∃B,w.heap.size=B:=⟨_,rfl⟩;obtain⟨wA,hwA⟩:∃wA,w.alloc (.cells (Ygk a b) 43 (0,0))=wA:=⟨_,rfl⟩
 have hA:wA.heap[B]? =some (.cells (Ygk a b) 43 (0,0)):=by rw[←hwA,←hB];exact heap_alloc_new w _
 have hz:wA.heap.size=B+1:=by rw[←hwA,←hB];simp
 have HC:=Lib.hid (fun(x:World) (hx:Below (B+1) wA x)=>Ylz ((hx.block B (by omega)).trans hA));have hb:Below w.heap.size w wA:=by rw[←hwA];exact(Below.refl _ w).alloc (Nat.le_refl _) _
 have HE:=Lib.hid (fun(x:World) (hx:Below (B+1) wA x)=>(hb.trans (hx.mono (by omega)):Below w.heap.size w x));unfold Ygk at *;have HWA:=Lib.hid hwA;have HB:=Lib.hid hB;clear hA hz hb hwA hB;cases hc:Yoi k n with
 |false=>
  rw[hc] at c1 hq;clear hc
  go_enter Tryz.func97,Tryz.ntmps97
  go_wp2_with (first|(with_reducible refine(c1 _).mono ?_;rintro e w1 ⟨rfl,rfl⟩)|(with_reducible refine(c2 _).mono ?_;rintro e w1 ⟨rfl,rfl⟩))
  go_ret
  exact⟨Yad (by rw[hq.out];rfl),by rw[HWA.out];exact HE.out _ (Below.refl _ _)⟩
 |true=>
  rw[hc] at c1 hq;obtain⟨q0,q1⟩:=Ygc.1 hc;obtain⟨q,rfl⟩:∃q:Nat,n=(q:Int):=⟨n.toNat,by omega⟩;rw[Int.toNat_natCast] at hq q1;obtain⟨r1,r2,r3,z0,m1,m2,m3,m4⟩:=Ymj q1;have C3:=Lib.hid (fun x (hx:Below (B+1) wA x)=>(Ylj (q%acr k) (acr k) a x (by omega) (by omega)).mono fun e y h=>(⟨h.1,h.2▸hx⟩:e=.returned (.bool (Yb1 (q%acr k) (acr k) a))∧Below (B+1) wA y))
  have C4:=Lib.hid (fun x (hx:Below (B+1) wA x)=>(Ylj (q / acr k) (dow k) b x (by omega) (by omega)).mono fun e y h=>(⟨h.1,h.2▸hx⟩:e=.returned (.bool (Yb1 (q / acr k) (dow k) b))∧Below (B+1) wA y));clear hc q1 q0;generalize q%acr k=u at *;generalize q / acr k=v at *;generalize acr k=A at *;generalize dow k=D at *;cases hx:Yb1 u A a with
  |false=>
   rw[hx] at C3 hq
   go_enter Tryz.func97,Tryz.ntmps97
   go_wp2_with (first|(with_reducible refine(c1 _).mono ?_;rintro e w1 ⟨rfl,rfl⟩)|(with_reducible refine(c2 _).mono ?_;rintro e w1 ⟨rfl,rfl⟩))
   rw[HWA.out,HB.out];refine Yaf (S:=fun x=>Below (B+1) wA x) 17 (by kernel_rfl) (by kernel_rfl) (Below.refl _ _).drew ?_;simp only[List.take_succ_cons,List.take_zero,List.drop_succ_cons,List.drop_zero];refine Yab (v:=?vp0) (by kernel_rfl) ?m ?_;(case m=>(intro x _;go_simp;try with_reducible rfl));simp only[Yaa]
   refine Yab (v:=?vp1) (by kernel_rfl) ?m ?_;(case m=>(intro x _;go_simp;try with_reducible rfl));simp only[Yaa];refine Yab (v:=?vp2) (by kernel_rfl) ?m ?_;(case m=>(intro x _;go_simp;rw[if_neg (by omega)]));simp only[Yaa];refine Yab (v:=?vp3) (by kernel_rfl) ?m ?_;(case m=>(intro x _;go_simp;try with_reducible rfl));simp only[Yaa]
   refine Yab (v:=?vp4) (by kernel_rfl) ?m ?_;(case m=>(intro x _;go_simp;try with_reducible rfl));simp only[Yaa];refine Yag 3 _ ⟨B,0,none⟩ (.int .i64 a) (by kernel_rfl) rfl rfl (fun x hx=>by have c0:=(HC.out x hx).1;go_simp) ?_;simp only[Yaa];refine Yah (by kernel_rfl) C3.out (fun _=>by kernel_rfl) ?_;simp only[Yaa]
   refine Yab (v:=?vp7) (by kernel_rfl) ?m ?_;(case m=>(intro x _;go_simp;try with_reducible rfl));simp only[Yaa];refine Ybf (by kernel_rfl) ?_;simp only[Yaa];refine Ybf (by kernel_rfl) ?_;simp only[Yaa];refine Ybf (by kernel_rfl) ?_;simp only[Yaa];refine Ybf (by kernel_rfl) ?_;simp only[Yaa];refine Ybf (by kernel_rfl) ?_;simp only[Yaa];refine Ybf (by kernel_rfl) ?_;simp only[Yaa]
   refine Ybf (by kernel_rfl) ?_;simp only[Yaa];refine Yab (v:=?vp15) (by kernel_rfl) ?m ?_;(case m=>(intro x _;go_simp;try with_reducible rfl));simp only[Yaa];refine Yab (v:=?vp16) (by kernel_rfl) ?m ?_;(case m=>(intro x _;go_simp;try with_reducible rfl));simp only[Yaa];refine Yar fun x hx=>?_
   go_wp2
   go_ret
   exact⟨Yad (by rw[hq.out];rfl),HE.out _ hx⟩
  |true=>
   rw[hx] at C3 hq
   go_enter Tryz.func97,Tryz.ntmps97
   go_wp2_with (first|(with_reducible refine(c1 _).mono ?_;rintro e w1 ⟨rfl,rfl⟩)|(with_reducible refine(c2 _).mono ?_;rintro e w1 ⟨rfl,rfl⟩))
   rw[HWA.out,HB.out];refine Yaf (S:=fun x=>Below (B+1) wA x) 17 (by kernel_rfl) (by kernel_rfl) (Below.refl _ _).drew ?_;simp only[List.take_succ_cons,List.take_zero,List.drop_succ_cons,List.drop_zero];refine Yab (v:=?vq0) (by kernel_rfl) ?m ?_;(case m=>(intro x _;go_simp;try with_reducible rfl));simp only[Yaa]
   refine Yab (v:=?vq1) (by kernel_rfl) ?m ?_;(case m=>(intro x _;go_simp;try with_reducible rfl));simp only[Yaa];refine Yab (v:=?vq2) (by kernel_rfl) ?m ?_;(case m=>(intro x _;go_simp;rw[if_neg (by omega)]));simp only[Yaa];refine Yab (v:=?vq3) (by kernel_rfl) ?m ?_;(case m=>(intro x _;go_simp;try with_reducible rfl));simp only[Yaa]
   refine Yab (v:=?vq4) (by kernel_rfl) ?m ?_;(case m=>(intro x _;go_simp;try with_reducible rfl));simp only[Yaa];refine Yag 3 _ ⟨B,0,none⟩ (.int .i64 a) (by kernel_rfl) rfl rfl (fun x hx=>by have c0:=(HC.out x hx).1;go_simp) ?_;simp only[Yaa];refine Yah (by kernel_rfl) C3.out (fun _=>by kernel_rfl) ?_;simp only[Yaa]
   refine Yab (v:=?vq7) (by kernel_rfl) ?m ?_;(case m=>(intro x _;go_simp;try with_reducible rfl));simp only[Yaa];refine Yab (v:=?vq8) (by kernel_rfl) ?m ?_;(case m=>(intro x _;go_simp;try with_reducible rfl));simp only[Yaa];refine Yab (v:=?vq9) (by kernel_rfl) ?m ?_;(case m=>(intro x _;go_simp;try with_reducible rfl));simp only[Yaa]
   refine Yab (v:=?vq10) (by kernel_rfl) ?m ?_;(case m=>(intro x _;go_simp;rw[if_neg (by omega)]));simp only[Yaa];refine Yab (v:=?vq11) (by kernel_rfl) ?m ?_;(case m=>(intro x _;go_simp;try with_reducible rfl));simp only[Yaa];refine Yab (v:=?vq12) (by kernel_rfl) ?m ?_;(case m=>(intro x _;go_simp;try with_reducible rfl));simp only[Yaa]
   refine Yag 3 _ ⟨B,1,none⟩ (.int .i64 b) (by kernel_rfl) rfl rfl (fun x hx=>by have c0:=(HC.out x hx).2;go_simp) ?_;simp only[Yaa];refine Yah (by kernel_rfl) C4.out (fun _=>by kernel_rfl) ?_;simp only[Yaa];refine Yab (v:=?vq15) (by kernel_rfl) ?m ?_;(case m=>(intro x _;go_simp;try with_reducible rfl));simp only[Yaa]
   refine Yab (v:=?vq16) (by kernel_rfl) ?m ?_;(case m=>(intro x _;go_simp;try with_reducible rfl));simp only[Yaa];refine Yar fun x hx=>?_
   go_wp2
   go_ret
   exact⟨Yad (by rw[hq.out];rfl),HE.out _ hx⟩
def Yoh (f:Nat→Int)(W x y:Nat):Int:=(f (y / 2*W+x / 2)+f (y / 2*W+x / 2+x%2)+(f (y / 2*W+x / 2+y%2*W)+f (y / 2*W+x / 2+y%2*W+x%2))+2) / 4
theorem Yt8 {s:Int}(h0:0≤s)(h1:s≤1020):round s 2=(s+2) / 4:=by
 unfold round;rw[Ygw s _ _ (by omega) (by omega),if_neg (by decide +kernel)]
 rfl
def Yer (w:World)(lo:Nat)(c v:Value)(W:Nat):Prop:=∃r1 r2,c=.func (.func 133) #[] #[.pointer (some ⟨r1,0,none⟩),.pointer (some ⟨r2,0,none⟩)]∧w.cell? ⟨r1,0,none⟩=some (.int .i64 (W:Int))∧w.cell? ⟨r2,0,none⟩=some v∧lo≤r1∧lo≤r2
theorem Yer.below {w w':World}{lo:Nat}{c v:Value}{W:Nat}(h:Yer w lo c v W)(hb:Below w.heap.size w w'):Yer w' lo c v W:=by
 obtain⟨r1,r2,rfl,h1,h2,h3⟩:=h;exact⟨r1,r2,rfl,(hb.cell (p:=⟨r1,0,none⟩) (World.block_lt_of_cell? w ⟨r1,0,none⟩ h1)).trans h1,(hb.cell (p:=⟨r2,0,none⟩) (World.block_lt_of_cell? w ⟨r2,0,none⟩ h2)).trans h2,h3⟩
theorem Yer.grown {w w':World}{lo b:Nat}{c v:Value}{W:Nat}(h:Yer w lo c v W)(hg:w.grownBy w' (some b))(hb:b<lo):Yer w' lo c v W:=by
 obtain⟨r1,r2,rfl,h1,h2,h3,h4⟩:=h;have k1:=hg.block r1 (World.block_lt_of_cell? w ⟨r1,0,none⟩ h1) (by intro e;injection e with e;omega);have k2:=hg.block r2 (World.block_lt_of_cell? w ⟨r2,0,none⟩ h2) (by intro e;injection e with e;omega);exact⟨r1,r2,rfl,(World.cell?_of_block (a:=⟨r1,0,none⟩) k1).trans h1,(World.cell?_of_block (a:=⟨r2,0,none⟩) k2).trans h2,h3,h4⟩
theorem Yer.mono {w:World}{lo lo':Nat}{c v:Value}{W:Nat}(h:Yer w lo c v W)(hl:lo'≤lo):Yer w lo' c v W:=by
 obtain⟨r1,r2,rfl,h1,h2,h3,h4⟩:=h;exact⟨r1,r2,rfl,h1,h2,by omega,by omega⟩
set_option maxRecDepth 100000 in
set_option maxHeartbeats 4000000 in
theorem Yxb (k:Int)(v:Nat→Value)(p:Nat)(w:World)(hp:p<3)(hv:∀p,p<3→∃a n c,v p=.slice a n c):
  Calls Tryz.prog 105 #[.agg (frA k v),.int .i64 (p:Int)] w fun e w'=>∃c,e=.returned c∧Yer w' w.heap.size c (v p) (wid k p)∧Below w.heap.size w w':=by
 have cP:=fun w=>Yg0 k p w;rw[Yp2 k p hp] at cP;obtain⟨B,hB⟩:∃B,w.heap.size=B:=⟨_,rfl⟩;obtain⟨wA,hwA⟩:∃wA,w.alloc (.cells (frA k v) 25 (0,0))=wA:=⟨_,rfl⟩;have hA:wA.heap[B]? =some (frO 25 k v):=by rw[←hwA,←hB];exact heap_alloc_new w _
 have hz:wA.heap.size=B+1:=by rw[←hwA,←hB];simp
 have hb:Below B w wA:=by rw[←hwA,←hB];exact(Below.refl _ w).alloc (Nat.le_refl _) _
 have hmf:∀(fn:Fn) (first cap:Array Value) (w:World),(Instr.makeFunc fn first cap).run Tryz.prog w=.ok (.func fn first cap) w:=fun _ _ _ _=>rfl;have hc0:=Ybn hA;have hcp:=Yce hA hp;obtain⟨ad,nn,cc,hvp⟩:=hv p hp;rw[hvp] at hcp ⊢;generalize wid k p=W at *;generalize hei k p=H at *;have HWA:=Lib.hid hwA;have HB:=Lib.hid hB;clear hwA hB hA hvp
 go_enter Tryz.func105,Tryz.ntmps105
 go_wp2_with (first|(with_reducible refine(cP _).mono ?_;rintro e w1 ⟨rfl,rfl⟩)|rw[HWA.out,HB.out])
 go_ret
 have hq:=(Below.refl B wA).alloc (by omega) (.cells #[.slice ad nn cc] 22 (0,0));have hq2:=hq.alloc (by simp;omega) (.cells #[.int .i64 (W:Int)] 3 (0,0));rw[HB.out];refine⟨_,rfl,⟨B+1+1,B+1,rfl,?_,?_,by omega,by omega⟩,hb.trans hq2⟩
 ·exact Yac (cs:=[.int .i64 (W:Int)]) (by rw[←hz];have:=heap_alloc_new (wA.alloc (.cells #[.slice ad nn cc] 22 (0,0))) (.cells #[.int .i64 (W:Int)] 3 (0,0));simpa using this) rfl
 ·exact Yac (cs:=[.slice ad nn cc]) (by rw[←hz];exact Yap (heap_alloc_new wA _)) rfl
set_option maxRecDepth 100000 in
set_option maxHeartbeats 4000000 in
theorem Ywf (r1 r2 b o n c W x y:Nat)(f:Nat→Int)(w:World)(h1:w.cell? ⟨r1,0,none⟩=some (.int .i64 (W:Int)))(h2:w.cell? ⟨r2,0,none⟩=some (.slice (some ⟨b,o,none⟩) n c))(hn:n≤1073741824)(hy:y≤10000)
  (hf:∀i,i<n→w.cell? ⟨b,o+i,none⟩=some (.int .u8 (f i))∧0≤f i∧f i≤255)(hin:y / 2*W+x / 2+y%2*W+x%2<n):
  Calls Tryz.prog 133 #[.int .i64 (x:Int),.int .i64 (y:Int),.pointer (some ⟨r1,0,none⟩),.pointer (some ⟨r2,0,none⟩)] w fun e w'=>e=.returned (.int .i64 (Yoh f W x y))∧Below w.heap.size w w':=by
 have e1:(x:Int).tmod 2=((x%2:Nat):Int):=by rw[Int.tmod_eq_emod_of_nonneg (by omega)];rfl
 have e2:(y:Int).tmod 2=((y%2:Nat):Int):=by rw[Int.tmod_eq_emod_of_nonneg (by omega)];rfl
 have e3:(x:Int).tdiv 2=((x / 2:Nat):Int):=by rw[Int.tdiv_eq_ediv_of_nonneg (by omega)];rfl
 have e4:(y:Int).tdiv 2=((y / 2:Nat):Int):=by rw[Int.tdiv_eq_ediv_of_nonneg (by omega)];rfl
 have b1:x%2≤1:=by omega
 have b2:y%2≤1:=by omega
 have hq:=Lib.hid (show Yoh f W x y=(f (y / 2*W+x / 2)+f (y / 2*W+x / 2+x%2)+(f (y / 2*W+x / 2+y%2*W)+f (y / 2*W+x / 2+y%2*W+x%2))+2) / 4 from rfl);generalize Yoh f W x y=res at *;generalize x%2=xr at *;generalize x / 2=xq at *;generalize hyr:y%2=yr at *;generalize hyq:y / 2=yq at *;have hyq2:yq≤10000:=by omega
 clear hyr hyq;obtain⟨mb,hmb⟩:∃mb,yr*W=mb:=⟨_,rfl⟩;obtain⟨m,hm⟩:∃m,yq*W=m:=⟨_,rfl⟩;have M1:(yr:Int)*(W:Int)=(mb:Int):=by rw[←hmb];exact(Int.natCast_mul _ _).symm
 have M2:(yq:Int)*(W:Int)=(m:Int):=by rw[←hm];exact(Int.natCast_mul _ _).symm
 rw[hm,hmb] at hin hq;clear hm hmb;obtain⟨A,hA⟩:∃A,m+xq=A:=⟨_,rfl⟩;rw[hA] at hin hq;have M3:(m:Int)+(xq:Int)=(A:Int):=by omega
 have u1:IntKind.i64.wrap (mb:Int)=(mb:Int):=Ya7 (by omega);have u2:IntKind.i64.wrap (m:Int)=(m:Int):=Ya7 (by omega);have u3:IntKind.i64.wrap (xq:Int)=(xq:Int):=Ya7 (by omega);have u5:IntKind.i64.wrap (A:Int)=(A:Int):=Ya7 (by omega);have u4:IntKind.i64.wrap (yq:Int)=(yq:Int):=Ya7 (by omega);obtain⟨p0,q0⟩:=hf A (by omega);obtain⟨p1,q1⟩:=hf (A+xr) (by omega);obtain⟨p2,q2⟩:=hf (A+mb) (by omega)
 obtain⟨p3,q3⟩:=hf (A+mb+xr) (by omega);obtain⟨s1,hs1⟩:∃s,A+xr=s:=⟨_,rfl⟩;obtain⟨s2,hs2⟩:∃s,A+mb=s:=⟨_,rfl⟩;obtain⟨s3,hs3⟩:∃s,A+mb+xr=s:=⟨_,rfl⟩;have v1:(A:Int)+(xr:Int)=(s1:Int):=by omega
 have v2:(A:Int)+(mb:Int)=(s2:Int):=by omega
 have v3:(s2:Int)+(xr:Int)=(s3:Int):=by omega
 have u6:IntKind.i64.wrap (s1:Int)=(s1:Int):=Ya7 (by omega);have u7:IntKind.i64.wrap (s2:Int)=(s2:Int):=Ya7 (by omega);have u8:IntKind.i64.wrap (s3:Int)=(s3:Int):=Ya7 (by omega);have i0:A<n:=by omega
 have i1:s1<n:=by omega
 have i2:s2<n:=by omega
 have i3:s3<n:=by omega
 have hr:=Lib.hid (fun x=>Yll (f A+f (A+xr)+(f (A+mb)+f (A+mb+xr))) 2 x);rw[Yt8 (by omega) (by omega),←hq.out] at hr;rw[hs1] at p1 q1 hr;rw[hs3] at p3 q3 hr;rw[hs2] at p2 q2 hr;generalize f A=z0 at *;generalize f s1=z1 at *;generalize f s2=z2 at *;generalize f s3=z3 at *;clear hA hf hq hs1 hs2 hs3 hin
 have L:=fun{ad:Addr} {v:Value} (h:w.cell? ad=some v) (hs:ad=⟨ad.block,ad.off,none⟩) (x:World) (hx:Below w.heap.size w x)=>(hx.cell (p:=ad) (World.block_lt_of_cell? w ad h)).trans h;have HW:=Lib.hid (L h1 rfl);have HS:=Lib.hid (L h2 rfl);have P0:=Lib.hid (L p0 rfl);have P1:=Lib.hid (L p1 rfl);have P2:=Lib.hid (L p2 rfl);have P3:=Lib.hid (L p3 rfl);clear L h1 h2 p0 p1 p2 p3
 go_enter Tryz.func133,Tryz.ntmps133
 go_wp2
 refine Yaf (S:=fun x=>Below w.heap.size w x) 8 (by kernel_rfl) (by kernel_rfl) (Below.refl _ _).drew ?_;simp only[List.take_succ_cons,List.take_zero,List.drop_succ_cons,List.drop_zero];refine Yab (v:=?va0) (by kernel_rfl) ?m ?_;(case m=>(intro x _;go_simp;try with_reducible rfl));simp only[Yaa];refine Yab (v:=?va1) (by kernel_rfl) ?m ?_;(case m=>(intro x _;go_simp;try with_reducible rfl))
 simp only[Yaa];refine Yab (v:=?va2) (by kernel_rfl) ?m ?_;(case m=>(intro x _;go_simp;try with_reducible rfl));simp only[Yaa];refine Yab (v:=?va3) (by kernel_rfl) ?m ?_;(case m=>(intro x _;go_simp;try with_reducible rfl));simp only[Yaa];refine Yag 3 _ ⟨r1,0,none⟩ (.int .i64 (W:Int)) (by kernel_rfl) rfl rfl (fun x hx=>by have c0:=HW.out x hx;go_simp) ?_;simp only[Yaa]
 refine Yab (v:=?va5) (by kernel_rfl) ?m ?_;(case m=>(intro x _;go_simp;try with_reducible rfl));simp only[Yaa];refine Yab (v:=?va6) (by kernel_rfl) ?m ?_;(case m=>(intro x _;go_simp;try with_reducible rfl));simp only[Yaa];refine Yab (v:=?va7) (by kernel_rfl) ?m ?_;(case m=>(intro x _;go_simp;try with_reducible rfl));simp only[Yaa];refine Yar fun x hx=>?_;have l1:=HW.out x hx;have l2:=HS.out x hx
 have l3:=P0.out x hx;have l4:=P1.out x hx;have l5:=P2.out x hx;have l6:=P3.out x hx
 go_wp2
 refine Yaf (S:=fun x=>Below w.heap.size w x) 14 (by kernel_rfl) (by kernel_rfl) hx.drew ?_;simp only[List.take_succ_cons,List.take_zero,List.drop_succ_cons,List.drop_zero];clear l1 l2 l3 l4 l5 l6;refine Yag 22 _ ⟨r2,0,none⟩ (.slice (some ⟨b,o,none⟩) n c) (by kernel_rfl) rfl rfl (fun x hx=>by have c0:=HS.out x hx;go_simp) ?_;simp only[Yaa]
 refine Yab (v:=?vb1) (by kernel_rfl) ?m ?_;(case m=>(intro x _;go_simp;try with_reducible rfl));simp only[Yaa];refine Yab (v:=?vb2) (by kernel_rfl) ?m ?_;(case m=>(intro x _;go_simp;try with_reducible rfl));simp only[Yaa];refine Yag 5 _ ⟨b,o+A,none⟩ (.int .u8 z0) (by kernel_rfl) rfl rfl (fun x hx=>by have c0:=P0.out x hx;go_simp) ?_;simp only[Yaa]
 refine Yab (v:=?vb4) (by kernel_rfl) ?m ?_;(case m=>(intro x _;go_simp;try with_reducible rfl));simp only[Yaa];refine Yag 22 _ ⟨r2,0,none⟩ (.slice (some ⟨b,o,none⟩) n c) (by kernel_rfl) rfl rfl (fun x hx=>by have c0:=HS.out x hx;go_simp) ?_;simp only[Yaa];refine Yab (v:=?vb6) (by kernel_rfl) ?m ?_;(case m=>(intro x _;go_simp;try with_reducible rfl));simp only[Yaa]
 refine Yab (v:=?vb7) (by kernel_rfl) ?m ?_;(case m=>(intro x _;go_simp;try with_reducible rfl));simp only[Yaa];refine Yab (v:=?vb8) (by kernel_rfl) ?m ?_;(case m=>(intro x _;go_simp;try with_reducible rfl));simp only[Yaa];refine Yab (v:=?vb9) (by kernel_rfl) ?m ?_;(case m=>(intro x _;go_simp;try with_reducible rfl));simp only[Yaa]
 refine Yag 5 _ ⟨b,o+s1,none⟩ (.int .u8 z1) (by kernel_rfl) rfl rfl (fun x hx=>by have c0:=P1.out x hx;go_simp) ?_;simp only[Yaa];refine Yab (v:=?vb11) (by kernel_rfl) ?m ?_;(case m=>(intro x _;go_simp;try with_reducible rfl));simp only[Yaa];refine Yab (v:=?vb12) (by kernel_rfl) ?m ?_;(case m=>(intro x _;go_simp;try with_reducible rfl));simp only[Yaa]
 refine Yab (v:=?vb13) (by kernel_rfl) ?m ?_;(case m=>(intro x _;go_simp;try with_reducible rfl));simp only[Yaa];refine Yar fun x hx=>?_
 go_wp2
 refine Yaf (S:=fun x=>Below w.heap.size w x) 18 (by kernel_rfl) (by kernel_rfl) hx.drew ?_;simp only[List.take_succ_cons,List.take_zero,List.drop_succ_cons,List.drop_zero];refine Yag 22 _ ⟨r2,0,none⟩ (.slice (some ⟨b,o,none⟩) n c) (by kernel_rfl) rfl rfl (fun x hx=>by have c0:=HS.out x hx;go_simp) ?_;simp only[Yaa]
 refine Yab (v:=?vc1) (by kernel_rfl) ?m ?_;(case m=>(intro x _;go_simp;try with_reducible rfl));simp only[Yaa];refine Yab (v:=?vc2) (by kernel_rfl) ?m ?_;(case m=>(intro x _;go_simp;try with_reducible rfl));simp only[Yaa];refine Yab (v:=?vc3) (by kernel_rfl) ?m ?_;(case m=>(intro x _;go_simp;try with_reducible rfl));simp only[Yaa]
 refine Yab (v:=?vc4) (by kernel_rfl) ?m ?_;(case m=>(intro x _;go_simp;try with_reducible rfl));simp only[Yaa];refine Yag 5 _ ⟨b,o+s2,none⟩ (.int .u8 z2) (by kernel_rfl) rfl rfl (fun x hx=>by have c0:=P2.out x hx;go_simp) ?_;simp only[Yaa];refine Yab (v:=?vc6) (by kernel_rfl) ?m ?_;(case m=>(intro x _;go_simp;try with_reducible rfl));simp only[Yaa]
 refine Yag 22 _ ⟨r2,0,none⟩ (.slice (some ⟨b,o,none⟩) n c) (by kernel_rfl) rfl rfl (fun x hx=>by have c0:=HS.out x hx;go_simp) ?_;simp only[Yaa];refine Yab (v:=?vc8) (by kernel_rfl) ?m ?_;(case m=>(intro x _;go_simp;try with_reducible rfl));simp only[Yaa];refine Yab (v:=?vc9) (by kernel_rfl) ?m ?_;(case m=>(intro x _;go_simp;try with_reducible rfl));simp only[Yaa]
 refine Yab (v:=?vc10) (by kernel_rfl) ?m ?_;(case m=>(intro x _;go_simp;try with_reducible rfl));simp only[Yaa];refine Yab (v:=?vc11) (by kernel_rfl) ?m ?_;(case m=>(intro x _;go_simp;try with_reducible rfl));simp only[Yaa];refine Yab (v:=?vc12) (by kernel_rfl) ?m ?_;(case m=>(intro x _;go_simp;try with_reducible rfl));simp only[Yaa]
 refine Yab (v:=?vc13) (by kernel_rfl) ?m ?_;(case m=>(intro x _;go_simp;try with_reducible rfl));simp only[Yaa];refine Yag 5 _ ⟨b,o+s3,none⟩ (.int .u8 z3) (by kernel_rfl) rfl rfl (fun x hx=>by have c0:=P3.out x hx;go_simp) ?_;simp only[Yaa];refine Yab (v:=?vc15) (by kernel_rfl) ?m ?_;(case m=>(intro x _;go_simp;try with_reducible rfl));simp only[Yaa]
 refine Yab (v:=?vc16) (by kernel_rfl) ?m ?_;(case m=>(intro x _;go_simp;try with_reducible rfl));simp only[Yaa];refine Yab (v:=?vc17) (by kernel_rfl) ?m ?_;(case m=>(intro x _;go_simp;try with_reducible rfl));simp only[Yaa];refine Yar fun x hx=>?_
 go_wp2_with (with_reducible refine(hr.out _).mono ?_;rintro e w1 ⟨rfl,rfl⟩)
 go_ret
 exact⟨rfl,hx⟩
theorem Yyf {w:World}{lo:Nat}{s v:Value}{W n:Nat}{f:Nat→Int}(hs:Yer w lo s v W)(hv:Ykg w v n f)(hn:n≤1073741824)(x y:Nat)(hy:y≤10000)(hin:y / 2*W+x / 2+y%2*W+x%2<n):
  ∃r1 r2,s=.func (.func 133) #[] #[.pointer (some ⟨r1,0,none⟩),.pointer (some ⟨r2,0,none⟩)]∧Calls Tryz.prog 133 #[.int .i64 (x:Int),.int .i64 (y:Int),.pointer (some ⟨r1,0,none⟩),.pointer (some ⟨r2,0,none⟩)] w fun e w'=>e=.returned (.int .i64 (Yoh f W x y))∧Below w.heap.size w w':=by
 obtain⟨r1,r2,rfl,h1,h2,-⟩:=hs;obtain⟨p,c,rfl,-,h⟩:=hv;rcases h with h|⟨b,o,rfl,h⟩
 ·omega
 ·exact⟨r1,r2,rfl,Ywf r1 r2 b o n c W x y f w h1 h2 hn hy h hin⟩
def Yrn (f:Nat→Int)(W L T:Nat):Nat→Int:=fun i=>Yoh f W (L+2*(i%8)) (T+2*(i / 8))
def InT (n W L T:Nat):Prop:=∀i,i<64→(T+2*(i / 8)) / 2*W+(L+2*(i%8)) / 2+(T+2*(i / 8))%2*W+(L+2*(i%8))%2<n
set_option maxRecDepth 100000 in
set_option maxHeartbeats 8000000 in
theorem Yuv (s v:Value)(W n cl ln L T:Nat)(f:Nat→Int)(a b:Int)(w:World)(lo:Nat)(hs:Yer w lo s v W)(hv:Ykg w v n f)(hn:n≤1073741824)(hcl:cl≤1000)(hln:ln≤1000)(hL:16*(cl:Int)+a=(L:Int))(hT:16*(ln:Int)+b=(T:Int))(hL2:L≤9000)(hT2:T≤9000)(hin:InT n W L T):
  Calls Tryz.prog 106 #[s,.int .i64 (cl:Int),.int .i64 (ln:Int),.agg (Ygk a b)] w fun e w'=>e=.returned (.agg (Ybb (Yrn f W L T)))∧Below w.heap.size w w':=by
 obtain⟨B,wA,wB,wC,hB,hwA,hwB,hwC,hzA,hzB,hzC,hC0,hC1,hC2,hbC⟩:=Yjt w (.cells (Ygk a b) 43 (0,0)) (.cells (Ybb fun _=>0) 60 (0,0)) (.cells (Ybb fun _=>0) 60 (0,0))
 replace hC2:wC.heap[B+2]? =some (Ycv (Ybo (Yrn f W L T) 0)):=hC2
 have HT:=Lib.hid (fun(x:World) (hx:Below B w x) (i:Nat) (hi:i<64)=>Yyf (hs.below (by rw[hB];exact hx)) (hv.below (by rw[hB];exact hx)) hn (L+2*(i%8)) (T+2*(i / 8)) (by omega) (hin i hi));obtain⟨r1,r2,rfl,-⟩:=hs;have HP:=Lib.hid (fun(x:World) (hx:Below B w x) (i:Nat) (hi:i<64)=>(by
  obtain⟨q1,q2,e,c⟩:=HT.out x hx i hi;simp at e;obtain⟨rfl,rfl⟩:=e;exact c:Calls Tryz.prog 133 #[.int .i64 ((L+2*(i%8):Nat):Int),.int .i64 ((T+2*(i / 8):Nat):Int),.pointer (some ⟨r1,0,none⟩),.pointer (some ⟨r2,0,none⟩)] x fun e w'=>e=.returned (.int .i64 (Yrn f W L T i))∧Below x.heap.size x w'))
 clear HT;obtain⟨l0,l1⟩:=Ylz hC0;have hC0':=hC0;have hz0:=Ybx;have HSY:(Ybb fun _=>0).size=64:=Yak _;obtain⟨Y,hY⟩:∃Y,(Ybb fun _=>0)=Y:=⟨_,rfl⟩;rw[hY] at hwB hwC hz0 HSY hC1;obtain⟨X,hX⟩:∃X,Ygk a b=X:=⟨_,rfl⟩;have HS2:=Yfg a b;rw[hX] at hwA HS2 hC0 ⊢;have u1:IntKind.i64.wrap (16*(cl:Int))=16*(cl:Int):=Yde (by omega);have u2:IntKind.i64.wrap (16*(ln:Int))=16*(ln:Int):=Yde (by omega)
 have u3:IntKind.i64.wrap (L:Int)=(L:Int):=Ya7 (by omega);have u4:IntKind.i64.wrap (T:Int)=(T:Int):=Ya7 (by omega);have HY:=Lib.hid hY;have HWA:=Lib.hid hwA;have HWB:=Lib.hid hwB;have HWC:=Lib.hid hwC;have HB:=Lib.hid hB;have HLL:=Lib.hid hL;have HTT:=Lib.hid hT;have HC:=Lib.hid (fun(x:World) (hx:Below (B+3) wC x)=>Ylz ((hx.block B (by omega)).trans hC0'))
 clear hX hY hwA hwB hwC hB hin hv hC0' l0 l1
 go_enter Tryz.func106,Tryz.ntmps106
 go_wp2
 rw[HWA.out,HB.out,HWB.out,HWC.out];refine Yaf (S:=fun x=>Below (B+3) wC x) 12 (by kernel_rfl) (by kernel_rfl) (Below.refl _ _).drew ?_;simp only[List.take_succ_cons,List.take_zero,List.drop_succ_cons,List.drop_zero];refine Yab (v:=?v0) (by kernel_rfl) ?m ?_;(case m=>(intro x _;go_simp;try with_reducible rfl));simp only[Yaa]
 refine Yab (v:=?v1) (by kernel_rfl) ?m ?_;(case m=>(intro x _;go_simp;try with_reducible rfl));simp only[Yaa];refine Yab (v:=?v2) (by kernel_rfl) ?m ?_;(case m=>(intro x _;go_simp;try with_reducible rfl));simp only[Yaa];refine Yag 3 _ ⟨B,0,none⟩ (.int .i64 a) (by kernel_rfl) rfl rfl (fun x hx=>by have c0:=(HC.out x hx).1;go_simp) ?_;simp only[Yaa]
 refine Yab (v:=?v4) (by kernel_rfl) ?m ?_;(case m=>(intro x _;go_simp;try with_reducible rfl));simp only[Yaa];refine Yab (v:=?v5) (by kernel_rfl) ?m ?_;(case m=>(intro x _;go_simp;try with_reducible rfl));simp only[Yaa];refine Yab (v:=?v6) (by kernel_rfl) ?m ?_;(case m=>(intro x _;go_simp;try with_reducible rfl));simp only[Yaa]
 refine Yab (v:=?v7) (by kernel_rfl) ?m ?_;(case m=>(intro x _;go_simp;try with_reducible rfl));simp only[Yaa];refine Yag 3 _ ⟨B,1,none⟩ (.int .i64 b) (by kernel_rfl) rfl rfl (fun x hx=>by have c0:=(HC.out x hx).2;go_simp) ?_;simp only[Yaa];refine Yab (v:=?v9) (by kernel_rfl) ?m ?_;(case m=>(intro x _;go_simp;try with_reducible rfl));simp only[Yaa]
 refine Yab (v:=?v10) (by kernel_rfl) ?m ?_;(case m=>(intro x _;go_simp;try with_reducible rfl));simp only[Yaa];refine Yab (v:=?v11) (by kernel_rfl) ?m ?_;(case m=>(intro x _;go_simp;try with_reducible rfl));simp only[Yaa];refine Yar fun x hx=>?_;have h1:=(hx.block (B+1) (by omega)).trans hC1;have h2:=(hx.block (B+2) (by omega)).trans hC2;have hbx:=hbC.trans (hx.mono (by omega))
 have hzx:B+3≤x.heap.size:=by have:=hx.size;omega
 clear hC0 hC1 hC2 hbC hzA hzB hzC hL hT hx;have HQ:=Lib.hid (fun i=>show Ybo (Yrn f W L T) (i+1)=Ycr (Ybo (Yrn f W L T) i) i (Yrn f W L T i) from rfl);have HV64:=Lib.hid (Y0e (Yrn f W L T));obtain⟨g,hg⟩:∃g,Yrn f W L T=g:=⟨_,rfl⟩;rw[hg] at HP HQ HV64;have HG:=Lib.hid hg;clear hg
 go_wp2
 go_loopw [23] (fun z wr=>∃i:Nat,i≤64∧z=.int .i64 i∧wr.heap[B+1]? =some (.cells Y 60 (0,0))∧wr.heap[B+2]? =some (Ycv (Ybo g i))∧Below B w wr∧B+3≤wr.heap.size) (fun z _=>64-(intOf z).toNat)
 case atStart=>exact⟨0,by omega,rfl,h1,h2,hbx,hzx⟩
 case round=>
  clear h1 h2 hbx hzx;obtain⟨i,hi64,rfl,h1,h2,hb,hz⟩:=hrel;by_cases hlt:i<64
  ·have t0:decide ((i:Int)<64)=true:=by simp;omega
   have cs:=HP.out wr hb i hlt;have e1:(i:Int).tmod 8=((i%8:Nat):Int):=by rw[Int.tmod_eq_emod_of_nonneg (by omega)];rfl
   have e2:(i:Int).tdiv 8=((i / 8:Nat):Int):=by rw[Int.tdiv_eq_ediv_of_nonneg (by omega)];rfl
   have e3:IntKind.i64.wrap ((i / 8:Nat):Int)=((i / 8:Nat):Int):=Ya7 (by omega);have b1:i%8<8:=by omega
   have b2:i / 8<8:=by omega
   have S1:(L:Int)+((i%8:Nat):Int)*2=((L+2*(i%8):Nat):Int):=by omega
   have S2:(T:Int)+((i / 8:Nat):Int)*2=((T+2*(i / 8):Nat):Int):=by omega
   have S3:IntKind.i64.wrap ((L+2*(i%8):Nat):Int)=((L+2*(i%8):Nat):Int):=Ya7 (by omega);have S4:IntKind.i64.wrap ((T+2*(i / 8):Nat):Int)=((T+2*(i / 8):Nat):Int):=Ya7 (by omega);generalize L+2*(i%8)=xx at *;generalize T+2*(i / 8)=yy at *;generalize i%8=u at *;generalize i / 8=q at *;have S:=HQ.out i;generalize hy:g i=y at cs S
   go_wp2_with fail
   refine cs.mono ?_;rintro e x1 ⟨rfl,hb1⟩;have k1:=(hb1.block (B+1) (by omega)).trans h1;have k2:=(hb1.block (B+2) (by omega)).trans h2;have kb:=hb.trans (hb1.mono (by omega));have kz:B+3≤x1.heap.size:=by have:=hb1.size;omega
   have c2:=Ybj k2 hlt;have ff:=Ycs (i:=i) k2;generalize Ybo g i i=y2 at c2
   have PUT:=Lib.hid (⟨Yat k1 (by simp),by rw[S];exact Ydp y k2,kb.setCell (by simp;omega) _,by simp[World.setCell];omega⟩:(x1.setCell ⟨B+1+1,i,none⟩ (.int .i64 y)).heap[B+1]? =some (.cells Y 60 (0,0))∧(x1.setCell ⟨B+1+1,i,none⟩ (.int .i64 y)).heap[B+2]? =some (Ycv (Ybo g (i+1)))∧Below B w (x1.setCell ⟨B+1+1,i,none⟩ (.int .i64 y))∧B+3≤(x1.setCell ⟨B+1+1,i,none⟩ (.int .i64 y)).heap.size)
   clear h1 h2 hb hz k1 k2 kb kz S cs hb1 S1 S2 S3 S4
   go_wp2
   go_roundw
   case rel=>exact⟨i+1,by omega,by go_num,PUT.out⟩
   case measure=>simp[intOf] <;> omega
  ·obtain rfl:i=64:=by omega
   have t0:decide ((64:Int)<64)=false:=by simp
   obtain⟨V,hV⟩:∃V,Ybb g=V:=⟨_,rfl⟩;have hV2:Ybb (Ybo g 64)=V:=by rw[←hV];exact Yhz HV64.out
   have HV:=Lib.hid hV;have h2':wr.heap[B+2]? =some (.cells V 60 (0,0)):=by rw[←hV2];exact h2
   have HSV:(Tryz.prog.info? 60).map (·.size)=some V.size:=by rw[←hV];exact Yau _
   have HOV:V.all (·.oneCell')=true:=by rw[←hV];exact Ya9 _
   have HYV:Y.size=V.size:=by rw[←hV,HSY,Yak]
   clear hV hV2 h2
   go_wp2_with (first|(with_reducible refine wpList_load_row rfl 60 _ rfl (B+2) rfl 60 V (0,0) _ h2' Tryz.underlying60 rfl HSV ?_)|(with_reducible refine Yae rfl 60 _ _ rfl (B+1) V Y rfl rfl 60 h1 HSV HYV HOV ?_;intro w2 hh2 hg2))
   refine bodyPost_ret (results_cell_row rfl _ _ (B+1) 60 _ (0,0) _ rfl hh2 Tryz.underlying60 rfl HSV) rfl ?_;exact⟨by rw[HG.out,HV.out],by rw[HB.out];exact hb.grown hg2 (by omega) (fun k hk=>by injection hk with hk;omega)⟩
theorem Y1i {s1 s2:ByteArray}{b:Bool}(h:s1=s2↔b=true):(s1.toList==s2.toList)=b:=by
 rw[ByteArray.toList_eq,ByteArray.toList_eq];cases b with
 |true=>
  rw[h.2 rfl];simp
 |false=>
  refine beq_eq_false_iff_ne.2 fun e=>?_;have:=h.1 (Go.WideShapes.bytes_inj e);cases this
theorem Yo8 {k k':Int}{n n':Nat→Nat}{f f':Nat→Nat→Int}{p:Nat}(hp:p<3)(e:Yfc (n p) (f p) (n' p) (f' p)=false):Yfp k n f k' n' f'=false:=by
 cases hq:Yfp k n f k' n' f' with
 |false=>rfl
 |true=>
  have h:=(Yfd.1 hq).2 p hp;rw[e] at h;cases h
theorem Yo7 {k k':Int}{n n':Nat→Nat}{f f':Nat→Nat→Int}(h:∀p,p<3→Yfc (n p) (f p) (n' p) (f' p)=true):Yfp k n f k' n' f'=decide (k=k'):=by
 by_cases e:k=k'
 ·rw[decide_eq_true e];exact Yfd.2 ⟨e,h⟩
 ·rw[decide_eq_false e];cases hq:Yfp k n f k' n' f' with
  |false=>rfl
  |true=>exact absurd (Yfd.1 hq).1 e
theorem Ylo {n n':Nat→Nat}{f f':Nat→Nat→Int}{i:Nat}(h:∀p,p<i→Yfc (n p) (f p) (n' p) (f' p)=true)(e:Yfc (n i) (f i) (n' i) (f' i)=true):∀p,p<i+1→Yfc (n p) (f p) (n' p) (f' p)=true:=by
 intro p hp;by_cases h1:p=i
 ·subst h1;exact e
 ·exact h p (by omega)
set_option maxRecDepth 100000 in
theorem Ytc (v1 v2:Value)(n1 n2:Nat)(f1 f2:Nat→Int)(w:World)(h1:Ykg w v1 n1 f1)(h2:Ykg w v2 n2 f2):Calls Tryz.prog 20 #[v1,v2] w fun e w'=>e=.returned (.bool (Yfc n1 f1 n2 f2))∧w=w':=by
 have t1:=h1.text;have t2:=h2.text;have hs:=Lib.hid (Y1i (Yn1 h1.range h2.range));generalize Ysz n1 f1=s1 at *;generalize Ysz n2 f2=s2 at *;clear h1 h2
 go_enter Tryz.func20,Tryz.ntmps20
 go_wp2
 go_ret
 exact⟨Yad hs.out,rfl⟩
set_option maxRecDepth 100000 in
set_option maxHeartbeats 4000000 in
theorem Yjp (k k':Int)(v v':Nat→Value)(n n':Nat→Nat)(f f':Nat→Nat→Int)(w:World)(h:Yfs w v n f)(h':Yfs w v' n' f'):
  Calls Tryz.prog 10 #[.agg (frA k v),.agg (frA k' v')] w fun e w'=>e=.returned (.bool (Yfp k n f k' n' f'))∧Below w.heap.size w w':=by
 obtain⟨B,wA,wB,hB,hwA,hwB,hzA,hzB,hC0,hC1,hbC⟩:=Yej w (.cells (frA k v) 25 (0,0)) (.cells (frA k' v') 25 (0,0));have HF0:=Lib.hid (fun(x:World) (hx:Below (B+2) wB x)=>(⟨Ybn (T:=25) (v:=v) ((hx.block B (by omega)).trans hC0),Ybn (T:=25) (v:=v') ((hx.block (B+1) (by omega)).trans hC1)⟩:x.cell? ⟨B,0,none⟩=some (.int .i64 k)∧x.cell? ⟨B+1,0,none⟩=some (.int .i64 k')))
 have HF:=Lib.hid (fun(p:Nat) (hp:p<3) (x:World) (hx:Below (B+2) wB x)=>(⟨Yce (T:=25) (k:=k) ((hx.block B (by omega)).trans hC0) hp,Yce (T:=25) (k:=k') ((hx.block (B+1) (by omega)).trans hC1) hp⟩:x.cell? ⟨B,1+p,none⟩=some (v p)∧x.cell? ⟨B+1,1+p,none⟩=some (v' p)));have hbw:∀x,Below (B+2) wB x→Below w.heap.size w x:=fun x hx=>by rw[hB];exact hbC.trans (hx.mono (by omega))
 have HC:=Lib.hid (fun(p:Nat) (hp:p<3) (x:World) (hx:Below (B+2) wB x)=>((Ytc (v p) (v' p) _ _ _ _ x ((h p hp).below (hbw x hx)) ((h' p hp).below (hbw x hx))).mono fun e y h=>⟨h.1,h.2▸hx⟩:Calls Tryz.prog 20 #[v p,v' p] x fun e y=>e=.returned (.bool (Yfc (n p) (f p) (n' p) (f' p)))∧Below (B+2) wB y));have HW:=Lib.hid hbw;have hS0:Below (B+2) wB wB:=Below.refl _ _;generalize frA k v=X at *
 generalize frA k' v'=X' at *;have HWA:=Lib.hid hwA;have HWB:=Lib.hid hwB;have HB:=Lib.hid hB;clear hwA hwB hB h h' hbC hbw hC0 hC1 hzA hzB
 go_enter Tryz.func10,Tryz.ntmps10
 go_wp2
 rw[HWA.out,HB.out,HWB.out]
 go_loopw [6] (fun z wr=>∃i:Nat,i≤3∧z=.int .i64 i∧Below (B+2) wB wr∧Hid (∀p,p<i→Yfc (n p) (f p) (n' p) (f' p)=true)) (fun z _=>3-(intOf z).toNat)
 case atStart=>exact⟨0,by omega,rfl,hS0,fun p hp=>by omega⟩
 case round=>
  clear hS0;obtain⟨i,hi,rfl,hx,HH⟩:=hrel;have c00:=HF0.out wr hx;by_cases hlt:i<3
  ·have t0:decide ((i:Int)<3)=true:=by simp;omega
   have H1:=Lib.hid (HF.out i hlt);have C1:=Lib.hid (HC.out i hlt);have HH2:=Lib.hid (fun e=>Ylo (n:=n) (n':=n') (f:=f) (f':=f') HH.out e);have HH3:=Lib.hid (fun e=>Yo8 (k:=k) (k':=k') (n:=n) (n':=n') (f:=f) (f':=f') hlt e);generalize Yfc (n i) (f i) (n' i) (f' i)=y at C1 HH2 HH3;clear c00;generalize v i=a at *;generalize v' i=b at *
   go_wp2
   refine Yaf (S:=fun x=>Below (B+2) wB x) 10 (by kernel_rfl) (by kernel_rfl) hx.drew ?_;simp only[List.take_succ_cons,List.take_zero,List.drop_succ_cons,List.drop_zero];refine Yab (v:=?v0) (by kernel_rfl) ?m ?_;(case m=>(intro x _;go_simp;try with_reducible rfl));simp only[Yaa];refine Yab (v:=?v1) (by kernel_rfl) ?m ?_;(case m=>(intro x _;go_simp;try with_reducible rfl));simp only[Yaa]
   refine Yab (v:=?v2) (by kernel_rfl) ?m ?_;(case m=>(intro x _;go_simp;rw[if_pos (by omega)]));simp only[Yaa];refine Yag 22 _ ⟨B,1+i,none⟩ (a) (by kernel_rfl) rfl rfl (fun x hx=>by have c0:=(H1.out x hx).1;go_simp) ?_;simp only[Yaa];refine Yab (v:=?v4) (by kernel_rfl) ?m ?_;(case m=>(intro x _;go_simp;try with_reducible rfl));simp only[Yaa]
   refine Yab (v:=?v5) (by kernel_rfl) ?m ?_;(case m=>(intro x _;go_simp;try with_reducible rfl));simp only[Yaa];refine Yab (v:=?v6) (by kernel_rfl) ?m ?_;(case m=>(intro x _;go_simp;rw[if_pos (by omega)]));simp only[Yaa];refine Yag 22 _ ⟨B+1,1+i,none⟩ (b) (by kernel_rfl) rfl rfl (fun x hx=>by have c0:=(H1.out x hx).2;go_simp) ?_;simp only[Yaa]
   refine Yah (by kernel_rfl) C1.out (fun _=>by kernel_rfl) ?_;simp only[Yaa];refine Yab (v:=?v9) (by kernel_rfl) ?m ?_;(case m=>(intro x _;go_simp;try with_reducible rfl));simp only[Yaa];refine Yar fun x hx=>?_;cases y with
   |true=>
    go_wp2
    go_roundw
    case rel=>exact⟨i+1,by omega,by go_num,hx,HH2.out rfl⟩
    case measure=>simp[intOf];omega
   |false=>
    go_wp2
    go_ret
    exact⟨Yad (HH3.out (by trivial)).symm,HW.out _ hx⟩
  ·obtain rfl:i=3:=by omega
   have t0:decide ((3:Int)<3)=false:=by simp
   have HE:=Lib.hid (Yo7 (k:=k) (k':=k') HH.out);obtain⟨c0,c1⟩:=c00
   go_wp2
   go_ret
   exact⟨Yad (by rw[HE.out];rfl),HW.out _ hx⟩
set_option maxRecDepth 100000 in
set_option maxHeartbeats 4000000 in
theorem Yjq (k k':Int)(v v':Nat→Value)(n n':Nat→Nat)(f f':Nat→Nat→Int)(w:World)(h:Yfs w v n f)(h':Yfs w v' n' f'):
  Calls Tryz.prog 13 #[.agg (frA k v),.agg (frA k' v')] w fun e w'=>e=.returned (.bool (Yfp k n f k' n' f'))∧Below w.heap.size w w':=by
 obtain⟨B,wA,wB,hB,hwA,hwB,hzA,hzB,hC0,hC1,hbC⟩:=Yej w (.cells (frA k v) 25 (0,0)) (.cells (frA k' v') 25 (0,0));have HF0:=Lib.hid (fun(x:World) (hx:Below (B+2) wB x)=>(⟨Ybn (T:=25) (v:=v) ((hx.block B (by omega)).trans hC0),Ybn (T:=25) (v:=v') ((hx.block (B+1) (by omega)).trans hC1)⟩:x.cell? ⟨B,0,none⟩=some (.int .i64 k)∧x.cell? ⟨B+1,0,none⟩=some (.int .i64 k')))
 have HF:=Lib.hid (fun(p:Nat) (hp:p<3) (x:World) (hx:Below (B+2) wB x)=>(⟨Yce (T:=25) (k:=k) ((hx.block B (by omega)).trans hC0) hp,Yce (T:=25) (k:=k') ((hx.block (B+1) (by omega)).trans hC1) hp⟩:x.cell? ⟨B,1+p,none⟩=some (v p)∧x.cell? ⟨B+1,1+p,none⟩=some (v' p)));have hbw:∀x,Below (B+2) wB x→Below w.heap.size w x:=fun x hx=>by rw[hB];exact hbC.trans (hx.mono (by omega))
 have HC:=Lib.hid (fun(p:Nat) (hp:p<3) (x:World) (hx:Below (B+2) wB x)=>(⟨((h p hp).below (hbw x hx)).text,((h' p hp).below (hbw x hx)).text⟩:(convert 22 9 (v p)).run Tryz.prog x=.ok (.string (Ysz (n p) (f p))) x∧(convert 22 9 (v' p)).run Tryz.prog x=.ok (.string (Ysz (n' p) (f' p))) x));have HE:=Lib.hid (fun(p:Nat) (hp:p<3)=>Y1i (Yn1 (h p hp).range (h' p hp).range));have HW:=Lib.hid hbw
 have hS0:Below (B+2) wB wB:=Below.refl _ _;unfold frA frL at hwA hwB ⊢;have HWA:=Lib.hid hwA;have HWB:=Lib.hid hwB;have HB:=Lib.hid hB;clear hwA hwB hB h h' hbC hbw hC0 hC1 hzA hzB;by_cases hk:k=k'
 case neg=>
  have hq:(k != k')=true:=by simp[hk]
  have hz:=Lib.hid (show Yfp k n f k' n' f'=false by unfold Yfp;rw[decide_eq_false hk];rfl);have hbe:=HW.out wB hS0;rw[←HWB.out,←HWA.out] at hbe
  go_enter Tryz.func13,Tryz.ntmps13
  go_wp2
  go_ret
  exact⟨Yad hz.out.symm,hbe⟩
 have hq:(k != k')=false:=by simp[hk]
 have HK:=Lib.hid hk;clear hk
 go_enter Tryz.func13,Tryz.ntmps13
 go_wp2
 rw[HWA.out,HB.out,HWB.out]
 go_loopw [5] (fun z wr=>∃i:Nat,i≤3∧z=.int .i64 i∧Below (B+2) wB wr∧Hid (∀p,p<i→Yfc (n p) (f p) (n' p) (f' p)=true)) (fun z _=>3-(intOf z).toNat)
 case atStart=>exact⟨0,by omega,rfl,hS0,fun p hp=>by omega⟩
 case round=>
  clear hS0;obtain⟨i,hi,rfl,hx,HH⟩:=hrel;by_cases hlt:i<3
  ·have t0:decide ((i:Int)<3)=true:=by simp;omega
   have H1:=Lib.hid (HF.out i hlt);have C1:=Lib.hid (HC.out i hlt);have E1:=HE.out i hlt;have HH2:=Lib.hid (fun e=>Ylo (n:=n) (n':=n') (f:=f) (f':=f') HH.out e);have HH3:=Lib.hid (fun e=>Yo8 (k:=k) (k':=k') (n:=n) (n':=n') (f:=f) (f':=f') hlt e);generalize Ysz (n i) (f i)=s1 at C1 E1;generalize Ysz (n' i) (f' i)=s2 at C1 E1;generalize Yfc (n i) (f i) (n' i) (f' i)=y at E1 HH2 HH3
   generalize v i=a at H1 C1;generalize v' i=b at H1 C1
   go_wp2
   refine Yaf (S:=fun x=>Below (B+2) wB x) 11 (by kernel_rfl) (by kernel_rfl) hx.drew ?_;simp only[List.take_succ_cons,List.take_zero,List.drop_succ_cons,List.drop_zero];refine Yab (v:=?v0) (by kernel_rfl) ?m ?_;(case m=>(intro x _;go_simp;try with_reducible rfl));simp only[Yaa];refine Yab (v:=?v1) (by kernel_rfl) ?m ?_;(case m=>(intro x _;go_simp;try with_reducible rfl));simp only[Yaa]
   refine Yab (v:=?v2) (by kernel_rfl) ?m ?_;(case m=>(intro x _;go_simp;rw[if_pos (by omega)]));simp only[Yaa];refine Yag 22 _ ⟨B,1+i,none⟩ (a) (by kernel_rfl) rfl rfl (fun x hx=>by have c0:=(H1.out x hx).1;go_simp) ?_;simp only[Yaa];refine Yab (v:=.string s1) (by kernel_rfl) ?m ?_;(case m=>(intro x hx;have t:=(C1.out x hx).1;go_simp;try with_reducible rfl));simp only[Yaa]
   refine Yab (v:=?v5) (by kernel_rfl) ?m ?_;(case m=>(intro x _;go_simp;try with_reducible rfl));simp only[Yaa];refine Yab (v:=?v6) (by kernel_rfl) ?m ?_;(case m=>(intro x _;go_simp;try with_reducible rfl));simp only[Yaa];refine Yab (v:=?v7) (by kernel_rfl) ?m ?_;(case m=>(intro x _;go_simp;rw[if_pos (by omega)]));simp only[Yaa]
   refine Yag 22 _ ⟨B+1,1+i,none⟩ (b) (by kernel_rfl) rfl rfl (fun x hx=>by have c0:=(H1.out x hx).2;go_simp) ?_;simp only[Yaa];refine Yab (v:=.string s2) (by kernel_rfl) ?m ?_;(case m=>(intro x hx;have t:=(C1.out x hx).2;go_simp;try with_reducible rfl));simp only[Yaa];refine Yab (v:=?v10) (by kernel_rfl) ?m ?_;(case m=>(intro x _;go_simp;try with_reducible rfl));simp only[Yaa]
   refine Yar fun x hx=>?_;cases y with
   |true=>
    go_wp2
    go_roundw
    case rel=>exact⟨i+1,by omega,by go_num,hx,HH2.out (by trivial)⟩
    case measure=>simp[intOf];omega
   |false=>
    go_wp2
    go_ret
    exact⟨Yad (HH3.out (by trivial)).symm,HW.out _ hx⟩
  ·obtain rfl:i=3:=by omega
   have t0:decide ((3:Int)<3)=false:=by simp
   have HEE:=Lib.hid (Yo7 (k:=k) (k':=k') HH.out)
   go_wp2
   go_ret
   exact⟨Yad (by rw[HEE.out,decide_eq_true HK.out]),HW.out _ hx⟩
theorem Yx3 {k:Int}{n:Nat→Nat}{p:Nat}(hp:p<3)(e:n p≠siz k p):Yb7 k n=false:=by
 cases hq:Yb7 k n with
 |false=>rfl
 |true=>exact absurd ((Yfa.1 hq).2 p hp) e
theorem Yt7 {k:Int}{n:Nat→Nat}{i:Nat}(h:∀p,p<i→n p=siz k p)(e:n i=siz k i):∀p,p<i+1→n p=siz k p:=by
 intro p hp;by_cases h1:p=i
 ·subst h1;exact e
 ·exact h p (by omega)
set_option maxRecDepth 100000 in
set_option maxHeartbeats 4000000 in
theorem Yoe (k:Int)(v:Nat→Value)(n:Nat→Nat)(w:World)(hv:∀p,p<3→∃a c,v p=.slice a (n p) c):
  Calls Tryz.prog 19 #[.agg (frA k v)] w fun e w'=>e=.returned (.bool (Yb7 k n))∧Below w.heap.size w w':=by
 have c:=fun w=>Yc9 k w;have ix0:=fun w=>(Yca (Yd3 k) (Yd6 k) (Yga k) (Ygz k) w).1;obtain⟨-,-,h3,-⟩:=Yb5 k;have hZ:(Yd3 k==0) = !(Yb6 k):=by
  cases hq:Yb6 k with
  |true=>have:=Yl5 hq;simp;omega
  |false=>have:=Yra hq;simp;omega
 unfold Yrw at c;obtain⟨B,hB⟩:∃B,w.heap.size=B:=⟨_,rfl⟩;obtain⟨wA,hwA⟩:∃wA,w.alloc (.cells (frA k v) 25 (0,0))=wA:=⟨_,rfl⟩;have hA0:wA.heap[B]? =some (frO 25 k v):=by rw[←hwA,←hB];exact heap_alloc_new w _
 have hbA:Below B w wA:=by rw[←hwA,←hB];exact(Below.refl _ w).alloc (Nat.le_refl _) _
 have hzA:wA.heap.size=B+1:=by rw[←hwA,←hB];simp
 have HF:=Lib.hid (fun(p:Nat) (hp:p<3) (x:World) (hx:Below (B+1) wA x)=>(⟨Ybn ((hx.block B (by omega)).trans hA0),Yce ((hx.block B (by omega)).trans hA0) hp⟩:x.cell? ⟨B,0,none⟩=some (.int .i64 k)∧x.cell? ⟨B,1+p,none⟩=some (v p)))
 have HC:=Lib.hid (fun(p:Nat) (hp:p<3) (x:World) (hx:Below (B+1) wA x)=>((Yhu k p hp x).mono fun e y h=>⟨h.1,hx.trans (h.2.mono (by have:=hx.size;omega))⟩:Calls Tryz.prog 38 #[.int .i64 k,.int .i64 (p:Int)] x fun e y=>e=.returned (.int .i64 (wid k p:Int))∧Below (B+1) wA y))
 have HD:=Lib.hid (fun(p:Nat) (hp:p<3) (x:World) (hx:Below (B+1) wA x)=>((Yol k p hp x).mono fun e y h=>⟨h.1,hx.trans (h.2.mono (by have:=hx.size;omega))⟩:Calls Tryz.prog 39 #[.int .i64 k,.int .i64 (p:Int)] x fun e y=>e=.returned (.int .i64 (hei k p:Int))∧Below (B+1) wA y));have HW:=Lib.hid (fun(x:World) (hx:Below (B+1) wA x)=>(by rw[hB];exact hbA.trans (hx.mono (by omega)):Below w.heap.size w x))
 have C0:=Lib.hid (fun(x:World) (hx:Below wA.heap.size wA x)=>(by rw[hzA] at hx;exact hx:Below (B+1) wA x));unfold frA frL at hwA ⊢;have HWA:=Lib.hid hwA;have HB:=Lib.hid hB;have HV:=Lib.hid hv;clear hwA hB hA0 hbA hzA h3 hv;generalize Yd3 k=W at *;generalize Yd6 k=H at *;generalize Yga k=R at *;generalize Ygz k=L at *;cases hq:Yb6 k with
 |false=>
  rw[hq] at hZ;have hz:=Lib.hid (show Yb7 k n=false by unfold Yb7;rw[hq];rfl);clear hq
  go_enter Tryz.func19,Tryz.ntmps19
  go_wp2_with fail
  rw[HWA.out];refine(c _).mono ?_;rintro e x ⟨rfl,hx⟩;have hx:=C0.out x hx
  go_wp2
  go_ret
  exact⟨Yad hz.out.symm,HW.out _ hx⟩
 |true=>
 rw[hq] at hZ;have HI:=Lib.hid hq;clear hq
 go_enter Tryz.func19,Tryz.ntmps19
 go_wp2_with fail
 rw[HWA.out,HB.out];refine(c _).mono ?_;rintro e x0 ⟨rfl,hx0⟩;have hx0:=C0.out x0 hx0
 go_wp2
 go_loopw [3] (fun z wr=>∃i:Nat,i≤3∧z=.int .i64 i∧Below (B+1) wA wr∧Hid (∀p,p<i→n p=siz k p)) (fun z _=>3-(intOf z).toNat)
 case atStart=>exact⟨0,by omega,rfl,hx0,fun p hp=>by omega⟩
 case round=>
  clear hx0;obtain⟨i,hi,rfl,hx,HH⟩:=hrel;by_cases hlt:i<3
  ·have t0:decide ((i:Int)<3)=true:=by simp;omega
   have H1:=Lib.hid (HF.out i hlt);have C1:=Lib.hid (HC.out i hlt);have C2:=Lib.hid (HD.out i hlt);obtain⟨a,cp,hv⟩:=HV.out i hlt;rw[hv] at H1;have hs:(wid k i:Int)*(hei k i:Int)=(siz k i:Int):=(Int.natCast_mul _ _).symm;have W1:IntKind.i64.wrap (siz k i:Int)=(siz k i:Int):=Ya7 (by have:=Ydx k i;omega);by_cases e:n i=siz k i
   case pos=>
    have t1:=Ymx e;have HH2:=Lib.hid (Yt7 HH.out e);clear e hv;generalize siz k i=S at *;generalize wid k i=X at *;generalize hei k i=Y at *;generalize hnn:n i=N at H1 t1;clear hnn
    go_wp2
    refine Yaf (S:=fun x=>Below (B+1) wA x) 15 (by kernel_rfl) (by kernel_rfl) hx.drew ?_;simp only[List.take_succ_cons,List.take_zero,List.drop_succ_cons,List.drop_zero];refine Yab (v:=?v0) (by kernel_rfl) ?m ?_;(case m=>(intro x _;go_simp;try with_reducible rfl));simp only[Yaa];refine Yab (v:=?v1) (by kernel_rfl) ?m ?_;(case m=>(intro x _;go_simp;try with_reducible rfl));simp only[Yaa]
    refine Yab (v:=?v2) (by kernel_rfl) ?m ?_;(case m=>(intro x _;go_simp;rw[if_pos (by omega)]));simp only[Yaa];refine Yag 22 _ ⟨B,1+i,none⟩ (.slice a N cp) (by kernel_rfl) rfl rfl (fun x hx=>by have c0:=(H1.out x hx).2;go_simp) ?_;simp only[Yaa];refine Yab (v:=?v4) (by kernel_rfl) ?m ?_;(case m=>(intro x _;go_simp;try with_reducible rfl));simp only[Yaa]
    refine Yab (v:=?v5) (by kernel_rfl) ?m ?_;(case m=>(intro x _;go_simp;try with_reducible rfl));simp only[Yaa];refine Yag 3 _ ⟨B,0,none⟩ (.int .i64 k) (by kernel_rfl) rfl rfl (fun x hx=>by have c0:=(H1.out x hx).1;go_simp) ?_;simp only[Yaa];refine Yab (v:=?v7) (by kernel_rfl) ?m ?_;(case m=>(intro x _;go_simp;try with_reducible rfl));simp only[Yaa]
    refine Yah (by kernel_rfl) C1.out (fun _=>by kernel_rfl) ?_;simp only[Yaa];refine Yab (v:=?v9) (by kernel_rfl) ?m ?_;(case m=>(intro x _;go_simp;try with_reducible rfl));simp only[Yaa];refine Yag 3 _ ⟨B,0,none⟩ (.int .i64 k) (by kernel_rfl) rfl rfl (fun x hx=>by have c0:=(H1.out x hx).1;go_simp) ?_;simp only[Yaa]
    refine Yab (v:=?v11) (by kernel_rfl) ?m ?_;(case m=>(intro x _;go_simp;try with_reducible rfl));simp only[Yaa];refine Yah (by kernel_rfl) C2.out (fun _=>by kernel_rfl) ?_;simp only[Yaa];refine Yab (v:=?v13) (by kernel_rfl) ?m ?_;(case m=>(intro x _;go_simp;try with_reducible rfl));simp only[Yaa];refine Yab (v:=?v14) (by kernel_rfl) ?m ?_;(case m=>(intro x _;go_simp;try with_reducible rfl))
    simp only[Yaa];refine Yar fun x hx=>?_
    go_wp2
    go_roundw
    case rel=>exact⟨i+1,by omega,by go_num,hx,HH2.out⟩
    case measure=>simp[intOf];omega
   case neg=>
    have t1:=Ymy e;have HH3:=Lib.hid (Yx3 hlt e);clear e hv;generalize siz k i=S at *;generalize wid k i=X at *;generalize hei k i=Y at *;generalize hnn:n i=N at H1 t1;clear hnn
    go_wp2
    refine Yaf (S:=fun x=>Below (B+1) wA x) 15 (by kernel_rfl) (by kernel_rfl) hx.drew ?_;simp only[List.take_succ_cons,List.take_zero,List.drop_succ_cons,List.drop_zero];refine Yab (v:=?vb0) (by kernel_rfl) ?m ?_;(case m=>(intro x _;go_simp;try with_reducible rfl));simp only[Yaa];refine Yab (v:=?vb1) (by kernel_rfl) ?m ?_;(case m=>(intro x _;go_simp;try with_reducible rfl));simp only[Yaa]
    refine Yab (v:=?vb2) (by kernel_rfl) ?m ?_;(case m=>(intro x _;go_simp;rw[if_pos (by omega)]));simp only[Yaa];refine Yag 22 _ ⟨B,1+i,none⟩ (.slice a N cp) (by kernel_rfl) rfl rfl (fun x hx=>by have c0:=(H1.out x hx).2;go_simp) ?_;simp only[Yaa];refine Yab (v:=?vb4) (by kernel_rfl) ?m ?_;(case m=>(intro x _;go_simp;try with_reducible rfl));simp only[Yaa]
    refine Yab (v:=?vb5) (by kernel_rfl) ?m ?_;(case m=>(intro x _;go_simp;try with_reducible rfl));simp only[Yaa];refine Yag 3 _ ⟨B,0,none⟩ (.int .i64 k) (by kernel_rfl) rfl rfl (fun x hx=>by have c0:=(H1.out x hx).1;go_simp) ?_;simp only[Yaa];refine Yab (v:=?vb7) (by kernel_rfl) ?m ?_;(case m=>(intro x _;go_simp;try with_reducible rfl));simp only[Yaa]
    refine Yah (by kernel_rfl) C1.out (fun _=>by kernel_rfl) ?_;simp only[Yaa];refine Yab (v:=?vb9) (by kernel_rfl) ?m ?_;(case m=>(intro x _;go_simp;try with_reducible rfl));simp only[Yaa];refine Yag 3 _ ⟨B,0,none⟩ (.int .i64 k) (by kernel_rfl) rfl rfl (fun x hx=>by have c0:=(H1.out x hx).1;go_simp) ?_;simp only[Yaa]
    refine Yab (v:=?vb11) (by kernel_rfl) ?m ?_;(case m=>(intro x _;go_simp;try with_reducible rfl));simp only[Yaa];refine Yah (by kernel_rfl) C2.out (fun _=>by kernel_rfl) ?_;simp only[Yaa];refine Yab (v:=?vb13) (by kernel_rfl) ?m ?_;(case m=>(intro x _;go_simp;try with_reducible rfl));simp only[Yaa];refine Yab (v:=?vb14) (by kernel_rfl) ?m ?_;(case m=>(intro x _;go_simp;try with_reducible rfl))
    simp only[Yaa];refine Yar fun x hx=>?_
    go_wp2
    go_ret
    exact⟨Yad HH3.out.symm,HW.out _ hx⟩
  ·obtain rfl:i=3:=by omega
   have t0:decide ((3:Int)<3)=false:=by simp
   have HE:=Lib.hid (Yfa.2 ⟨HI.out,HH.out⟩)
   go_wp2
   go_ret
   exact⟨Yad HE.out.symm,HW.out _ hx⟩
def Ywi (s h:Int):Bool:=decide (0≤s)&&decide ((s+30) / 2+(s+30)%2<h)
theorem Yoy {c m:Nat}{v:Int}(h1:-32≤v)(h2:v≤31):Yb1 c m v=Ywi (32*(c:Int)+v) (16*(m:Int)):=by
 unfold Yb1 Ywi;rw[decide_eq_true (show -32≤v∧v≤31 from⟨h1,h2⟩),Bool.true_and,←Bool.decide_and];by_cases h:0≤32*(c:Int)+v∧32*(c:Int)+v+30≤32*(m:Int)-2
 ·rw[decide_eq_true h,decide_eq_true];omega
 ·rw[decide_eq_false h,decide_eq_false];omega
theorem Yr0 (s h:Int)(w:World)(h1:-100≤s)(h2:s≤100000):Calls Tryz.prog 63 #[.int .i64 s,.int .i64 h] w fun e w'=>e=.returned (.bool (Ywi s h))∧w=w':=by
 have hq:=Lib.hid (show Ywi s h=(decide (0≤s)&&decide ((s+30) / 2+(s+30)%2<h)) from rfl);generalize Ywi s h=y at *;by_cases h0:0≤s
 ·have t0:decide (0≤s)=true:=decide_eq_true h0;rw[t0] at hq;have e1:(s+30).tdiv 2=(s+30) / 2:=Int.tdiv_eq_ediv_of_nonneg (by omega);have e2:(s+30).tmod 2=(s+30)%2:=Int.tmod_eq_emod_of_nonneg (by omega);have e3:IntKind.i64.wrap ((s+30) / 2)=(s+30) / 2:=Yde (by omega);have m1:0≤(s+30) / 2∧(s+30) / 2≤100000:=by omega
  have m2:0≤(s+30)%2∧(s+30)%2≤1:=by omega
  generalize (s+30) / 2=u at *;generalize (s+30)%2=v at *;clear h0
  go_enter Tryz.func63,Tryz.ntmps63
  go_wp2
  go_ret
  exact⟨Yad (by rw[hq.out];rfl),rfl⟩
 ·have t0:decide (0≤s)=false:=decide_eq_false h0;rw[t0] at hq;clear h0
  go_enter Tryz.func63,Tryz.ntmps63
  go_wp2
  go_ret
  exact⟨Yad (by rw[hq.out];rfl),rfl⟩
set_option maxRecDepth 100000 in
set_option maxHeartbeats 4000000 in
theorem Yz1 (k n a b:Int)(w:World):Calls Tryz.prog 37 #[.int .i64 k,.int .i64 n,.agg (Ygk a b)] w fun e w'=>e=.returned (.bool (Yi3 k n a b))∧Below w.heap.size w w':=by
 have hq:=Lib.hid (show Yi3 k n a b=(Yoi k n&&(Yb1 (n.toNat%acr k) (acr k) a&&Yb1 (n.toNat / acr k) (dow k) b)) from rfl);generalize Yi3 k n a b=y at *;obtain⟨B,hB⟩:∃B,w.heap.size=B:=⟨_,rfl⟩;obtain⟨wA,hwA⟩:∃wA,w.alloc (.cells (Ygk a b) 43 (0,0))=wA:=⟨_,rfl⟩;have hA:wA.heap[B]? =some (.cells (Ygk a b) 43 (0,0)):=by rw[←hwA,←hB];exact heap_alloc_new w _
 have hz:wA.heap.size=B+1:=by rw[←hwA,←hB];simp
 have K:∀(x y:World),Below (B+1) wA x→Below x.heap.size x y→Below (B+1) wA y:=fun x y hx hy=>hx.trans (hy.mono (by have:=hx.size;omega));have HC:=Lib.hid (fun(x:World) (hx:Below (B+1) wA x)=>Ylz ((hx.block B (by omega)).trans hA));have hb:Below w.heap.size w wA:=by rw[←hwA];exact(Below.refl _ w).alloc (Nat.le_refl _) _
 have HE:=Lib.hid (fun(x:World) (hx:Below (B+1) wA x)=>(hb.trans (hx.mono (by omega)):Below w.heap.size w x));have C1:=Lib.hid (fun(x:World) (hx:Below (B+1) wA x)=>((Yop k x).mono fun e y h=>⟨h.1,K x y hx h.2⟩:Calls Tryz.prog 60 #[.int .i64 k] x fun e y=>e=.returned (.int .i64 (Ybg k:Int))∧Below (B+1) wA y))
 have C2:=Lib.hid (fun(x:World) (hx:Below (B+1) wA x)=>((Ygt k x).mono fun e y h=>⟨h.1,K x y hx h.2⟩:Calls Tryz.prog 61 #[.int .i64 k] x fun e y=>e=.returned (.int .i64 (acr k:Int))∧Below (B+1) wA y));have C3:=Lib.hid (fun(x:World) (hx:Below (B+1) wA x)=>((Yc9 k x).mono fun e y h=>⟨h.1,K x y hx h.2⟩:Calls Tryz.prog 34 #[.int .i64 k] x fun e y=>e=.returned (.agg (Yrw k))∧Below (B+1) wA y))
 unfold Ygk at *;have HWA:=Lib.hid hwA;have HB:=Lib.hid hB;have hS0:Below (B+1) wA wA:=Below.refl _ _;clear hA hz hb hwA hB K;cases hc:Yoi k n with
 |false=>
  rw[hc] at hq;by_cases h0:n<0
  ·have t0:decide (n<0)=true:=decide_eq_true h0;clear hc h0
   go_enter Tryz.func37,Tryz.ntmps37
   go_wp2
   rw[HWA.out]
   go_ret
   exact⟨Yad (by rw[hq.out];rfl),HE.out _ hS0⟩
  ·have t0:decide (n<0)=false:=decide_eq_false h0;have t1:decide ((Ybg k:Int)≤n)=true:=decide_eq_true (by
    have:¬ (0≤n∧n.toNat<Ybg k):=fun h=>by rw[Ygc.2 h] at hc;cases hc
    omega)
   generalize Ybg k=M at *;clear hc h0
   go_enter Tryz.func37,Tryz.ntmps37
   go_wp2_with fail
   rw[HWA.out];refine(C1.out _ hS0).mono ?_;rintro e x ⟨rfl,hx⟩
   go_wp2
   go_ret
   exact⟨Yad (by rw[hq.out];rfl),HE.out _ hx⟩
 |true=>
  rw[hc] at hq;obtain⟨q0,q1⟩:=Ygc.1 hc;obtain⟨q,rfl⟩:∃q:Nat,n=(q:Int):=⟨n.toNat,by omega⟩;rw[Int.toNat_natCast] at hq q1;obtain⟨r1,r2,r3,z0,m1,m2,m3,m4⟩:=Ymj q1;have t0:decide ((q:Int)<0)=false:=decide_eq_false (by omega);have t1:decide (Ybg k≤q)=false:=decide_eq_false (by omega);clear hc q1 q0;generalize q%acr k=u at *;generalize q / acr k=v at *
  have C4:=Lib.hid (fun(x:World) (hx:Below (B+1) wA x) (h1:-32≤a) (h2:a≤31)=>(Yr0 (32*(u:Int)+a) (Yd3 k) x (by omega) (by omega)).mono fun e y h=>(⟨h.1,h.2▸hx⟩:e=.returned (.bool (Ywi (32*(u:Int)+a) (Yd3 k)))∧Below (B+1) wA y))
  have C5:=Lib.hid (fun(x:World) (hx:Below (B+1) wA x) (h1:-32≤b) (h2:b≤31)=>(Yr0 (32*(v:Int)+b) (Yd6 k) x (by omega) (by omega)).mono fun e y h=>(⟨h.1,h.2▸hx⟩:e=.returned (.bool (Ywi (32*(v:Int)+b) (Yd6 k)))∧Below (B+1) wA y));have I1:=Lib.hid (fun(h1:-32≤a) (h2:a≤31)=>(by rw[(Yb5 k).2.2.1];exact Yoy h1 h2:Yb1 u (acr k) a=Ywi (32*(u:Int)+a) (Yd3 k)))
  have I2:=Lib.hid (fun(h1:-32≤b) (h2:b≤31)=>(by rw[(Yb5 k).2.2.2.1];exact Yoy h1 h2:Yb1 v (dow k) b=Ywi (32*(v:Int)+b) (Yd6 k)));have N1:=Lib.hid (fun(h:¬ (-32≤a∧a≤31))=>(by unfold Yb1;rw[decide_eq_false h];rfl:Yb1 u (acr k) a=false));have N2:=Lib.hid (fun(h:¬ (-32≤b∧b≤31))=>(by unfold Yb1;rw[decide_eq_false h];rfl:Yb1 v (dow k) b=false));have ix0:=fun w=>(Yca (Yd3 k) (Yd6 k) (Yga k) (Ygz k) w).1
  have ix1:=fun w=>(Yca (Yd3 k) (Yd6 k) (Yga k) (Ygz k) w).2;unfold Yrw at C3;generalize Yb1 u (acr k) a=RA at *;generalize Yb1 v (dow k) b=RB at *;generalize Ybg k=M at *;generalize acr k=A at *;generalize dow k=D at *;generalize Yd3 k=W at *;generalize Yd6 k=H at *;generalize Yga k=R at *;generalize Ygz k=L at *
  go_enter Tryz.func37,Tryz.ntmps37
  go_wp2_with fail
  rw[HWA.out,HB.out];refine(C1.out _ hS0).mono ?_;rintro e x ⟨rfl,hx⟩
  go_wp2_with fail
  refine(C2.out _ hx).mono ?_;rintro e x2 ⟨rfl,hx2⟩
  go_wp2_with fail
  refine(C2.out _ hx2).mono ?_;rintro e x3 ⟨rfl,hx3⟩;clear hx hx2
  go_wp2
  go_loopw [9] (fun z wr=>∃i:Nat,i≤2∧z=.int .i64 i∧Below (B+1) wA wr∧(0<i→-32≤a∧a≤31)∧(1<i→-32≤b∧b≤31)) (fun z _=>2-(RowKit.intOf z).toNat)
  case atStart=>exact⟨0,by omega,rfl,hx3,by omega,by omega⟩
  case round=>
   clear hx3;obtain⟨i,hi2,rfl,hx,ha,hb⟩:=hrel;have hi3:i=0∨i=1∨i=2:=by omega
   obtain⟨l0,l1⟩:=HC.out _ hx;rcases hi3 with rfl|rfl|rfl
   case _=>
    by_cases h1:a < -32
    ·have t2:decide (a < -32)=true:=decide_eq_true h1;have e1:=N1.out (by omega);clear h1 ha hb
     go_wp2
     go_ret
     exact⟨Yad (by rw[hq.out,e1];rfl),HE.out _ hx⟩
    have t2:decide (a < -32)=false:=decide_eq_false h1;by_cases h2:31<a
    ·have t3:decide (31<a)=true:=decide_eq_true h2;have e1:=N1.out (by omega);clear h1 h2 ha hb
     go_wp2
     go_ret
     exact⟨Yad (by rw[hq.out,e1];rfl),HE.out _ hx⟩
    have t3:decide (31<a)=false:=decide_eq_false h2;have hr:-32≤a∧a≤31:=by omega
    clear h1 h2 ha hb
    go_wp2
    go_roundw
    case rel=>exact⟨1,by omega,by go_num,hx,fun _=>hr,by omega⟩
    case measure=>simp[RowKit.intOf]
   case _=>
    replace ha:=ha (by omega)
    by_cases h1:b < -32
    ·have t2:decide (b < -32)=true:=decide_eq_true h1;have e1:=N2.out (by omega);clear h1 hb
     go_wp2
     go_ret
     exact⟨Yad (by rw[hq.out,e1];cases RA <;> rfl),HE.out _ hx⟩
    have t2:decide (b < -32)=false:=decide_eq_false h1;by_cases h2:31<b
    ·have t3:decide (31<b)=true:=decide_eq_true h2;have e1:=N2.out (by omega);clear h1 h2 hb
     go_wp2
     go_ret
     exact⟨Yad (by rw[hq.out,e1];cases RA <;> rfl),HE.out _ hx⟩
    have t3:decide (31<b)=false:=decide_eq_false h2;have hr:-32≤b∧b≤31:=by omega
    clear h1 h2 hb
    go_wp2
    go_roundw
    case rel=>exact⟨2,by omega,by go_num,hx,fun _=>ha,fun _=>hr⟩
    case measure=>simp[RowKit.intOf]
   case _=>
    obtain⟨a1,a2⟩:=ha (by omega);obtain⟨b1,b2⟩:=hb (by omega);have e1:=I1.out a1 a2;have e2:=I2.out b1 b2;rw[e1,e2] at hq
    replace C4:=Lib.hid (fun(x:World) (hx:Below (B+1) wA x)=>C4.out x hx a1 a2)
    replace C5:=Lib.hid (fun(x:World) (hx:Below (B+1) wA x)=>C5.out x hx b1 b2)
    clear ha hb e1 e2 I1 I2 N1 N2 l0 l1;have w1:IntKind.i64.wrap (32*(u:Int))=32*(u:Int):=Yde (by omega);have w2:IntKind.i64.wrap (32*(u:Int)+a)=32*(u:Int)+a:=Yde (by omega);have w3:IntKind.i64.wrap (32*(v:Int))=32*(v:Int):=Yde (by omega);have w4:IntKind.i64.wrap (32*(v:Int)+b)=32*(v:Int)+b:=Yde (by omega);cases hi:Ywi (32*(u:Int)+a) W with
    |false=>
     rw[hi] at C4 hq
     go_wp2
     refine Yaf (S:=fun x=>Below (B+1) wA x) 21 (by kernel_rfl) (by kernel_rfl) hx.drew ?_;simp only[List.take_succ_cons,List.take_zero,List.drop_succ_cons,List.drop_zero];refine Yab (v:=?vp0) (by kernel_rfl) ?m ?_;(case m=>(intro x _;go_simp;try with_reducible rfl));simp only[Yaa];refine Yab (v:=?vp1) (by kernel_rfl) ?m ?_;(case m=>(intro x _;go_simp;try with_reducible rfl));simp only[Yaa]
     refine Yab (v:=?vp2) (by kernel_rfl) ?m ?_;(case m=>(intro x _;go_simp;try with_reducible rfl));simp only[Yaa];refine Yag 3 _ ⟨B,0,none⟩ (.int .i64 a) (by kernel_rfl) rfl rfl (fun x hx=>by have c0:=(HC.out x hx).1;go_simp) ?_;simp only[Yaa];refine Yab (v:=?vp4) (by kernel_rfl) ?m ?_;(case m=>(intro x _;go_simp;try with_reducible rfl));simp only[Yaa]
     refine Yab (v:=?vp5) (by kernel_rfl) ?m ?_;(case m=>(intro x _;go_simp;try with_reducible rfl));simp only[Yaa];refine Yah (by kernel_rfl) C3.out (fun _=>by kernel_rfl) ?_;simp only[Yaa];refine Yab (v:=?vp7) (by kernel_rfl) ?m ?_;(case m=>(intro x _;go_simp;try with_reducible rfl));simp only[Yaa];refine Yah (by kernel_rfl) C4.out (fun _=>by kernel_rfl) ?_;simp only[Yaa]
     refine Yab (v:=?vp9) (by kernel_rfl) ?m ?_;(case m=>(intro x _;go_simp;try with_reducible rfl));simp only[Yaa];refine Ybf (by kernel_rfl) ?_;simp only[Yaa];refine Ybf (by kernel_rfl) ?_;simp only[Yaa];refine Ybf (by kernel_rfl) ?_;simp only[Yaa];refine Ybf (by kernel_rfl) ?_;simp only[Yaa];refine Ybf (by kernel_rfl) ?_;simp only[Yaa];refine Ybf (by kernel_rfl) ?_;simp only[Yaa]
     refine Ybf (by kernel_rfl) ?_;simp only[Yaa];refine Ybf (by kernel_rfl) ?_;simp only[Yaa];refine Ybf (by kernel_rfl) ?_;simp only[Yaa];refine Yab (v:=?vp19) (by kernel_rfl) ?m ?_;(case m=>(intro x _;go_simp;try with_reducible rfl));simp only[Yaa];refine Yab (v:=?vp20) (by kernel_rfl) ?m ?_;(case m=>(intro x _;go_simp;try with_reducible rfl));simp only[Yaa];refine Yar fun x hx=>?_
     go_wp2
     go_ret
     exact⟨Yad (by rw[hq.out];rfl),HE.out _ hx⟩
    |true=>
     rw[hi] at C4 hq;generalize Ywi (32*(v:Int)+b) H=J at *
     go_wp2
     refine Yaf (S:=fun x=>Below (B+1) wA x) 21 (by kernel_rfl) (by kernel_rfl) hx.drew ?_;simp only[List.take_succ_cons,List.take_zero,List.drop_succ_cons,List.drop_zero];refine Yab (v:=?vq0) (by kernel_rfl) ?m ?_;(case m=>(intro x _;go_simp;try with_reducible rfl));simp only[Yaa];refine Yab (v:=?vq1) (by kernel_rfl) ?m ?_;(case m=>(intro x _;go_simp;try with_reducible rfl));simp only[Yaa]
     refine Yab (v:=?vq2) (by kernel_rfl) ?m ?_;(case m=>(intro x _;go_simp;try with_reducible rfl));simp only[Yaa];refine Yag 3 _ ⟨B,0,none⟩ (.int .i64 a) (by kernel_rfl) rfl rfl (fun x hx=>by have c0:=(HC.out x hx).1;go_simp) ?_;simp only[Yaa];refine Yab (v:=?vq4) (by kernel_rfl) ?m ?_;(case m=>(intro x _;go_simp;try with_reducible rfl));simp only[Yaa]
     refine Yab (v:=?vq5) (by kernel_rfl) ?m ?_;(case m=>(intro x _;go_simp;try with_reducible rfl));simp only[Yaa];refine Yah (by kernel_rfl) C3.out (fun _=>by kernel_rfl) ?_;simp only[Yaa];refine Yab (v:=?vq7) (by kernel_rfl) ?m ?_;(case m=>(intro x _;go_simp;try with_reducible rfl));simp only[Yaa];refine Yah (by kernel_rfl) C4.out (fun _=>by kernel_rfl) ?_;simp only[Yaa]
     refine Yab (v:=?vq9) (by kernel_rfl) ?m ?_;(case m=>(intro x _;go_simp;try with_reducible rfl));simp only[Yaa];refine Yab (v:=?vq10) (by kernel_rfl) ?m ?_;(case m=>(intro x _;go_simp;try with_reducible rfl));simp only[Yaa];refine Yab (v:=?vq11) (by kernel_rfl) ?m ?_;(case m=>(intro x _;go_simp;try with_reducible rfl));simp only[Yaa]
     refine Yab (v:=?vq12) (by kernel_rfl) ?m ?_;(case m=>(intro x _;go_simp;try with_reducible rfl));simp only[Yaa];refine Yag 3 _ ⟨B,1,none⟩ (.int .i64 b) (by kernel_rfl) rfl rfl (fun x hx=>by have c0:=(HC.out x hx).2;go_simp) ?_;simp only[Yaa];refine Yab (v:=?vq14) (by kernel_rfl) ?m ?_;(case m=>(intro x _;go_simp;try with_reducible rfl));simp only[Yaa]
     refine Yab (v:=?vq15) (by kernel_rfl) ?m ?_;(case m=>(intro x _;go_simp;try with_reducible rfl));simp only[Yaa];refine Yah (by kernel_rfl) C3.out (fun _=>by kernel_rfl) ?_;simp only[Yaa];refine Yab (v:=?vq17) (by kernel_rfl) ?m ?_;(case m=>(intro x _;go_simp;try with_reducible rfl));simp only[Yaa];refine Yah (by kernel_rfl) C5.out (fun _=>by kernel_rfl) ?_;simp only[Yaa]
     refine Yab (v:=?vq19) (by kernel_rfl) ?m ?_;(case m=>(intro x _;go_simp;try with_reducible rfl));simp only[Yaa];refine Yab (v:=?vq20) (by kernel_rfl) ?m ?_;(case m=>(intro x _;go_simp;try with_reducible rfl));simp only[Yaa];refine Yar fun x hx=>?_
     go_wp2
     go_ret
     exact⟨Yad (by rw[hq.out];rfl),HE.out _ hx⟩
end Go.Proofs.YtnamlooifcpoaaaGreatDoor