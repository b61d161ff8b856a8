/- Texts that SheetinMay's proof stands on, part 7 of 52. No condition of its own. -/
import Derived.Test.YtpgdngijmihafaaGreatDoorSheetinMayMd
import Derived.Test.YtpgdngijmihafaaGreatDoorSheetinMayMe
import Derived.WalkKit
import Derived.Lib.Hide
import Derived.Test.YtpgdngijmihafaaGreatDoorChecked
import Derived.OwnWalk
import Derived.Laws.AppendOwn
import Derived.ChangeMaps5
import Derived.Deep.Slices
import Derived.Deep.MidRow
namespace Go.Proofs.YtpgdngijmihafaaGreatDoor
open Go.RowKit Go.Lib Go.ChangeShapes Go.WideShapes Go.ChangeAt
def Yp4 (w:World) (p:Option Addr) (n:Nat) (f:Nat→Int):Prop:=n=0∨∃b o,p=some ⟨b,o,none⟩∧b<w.heap.size∧∀i,i<n→w.cell? ⟨b,o+i,none⟩=some (.int .i64 (f i))
theorem Yp4.below {w w':World} {p:Option Addr} {n:Nat} {f:Nat→Int} (h:Yp4 w p n f) (hb:Below w.heap.size w w'):Yp4 w' p n f:=by
 rcases h with h | ⟨b,o,rfl,hl,h⟩
 ·exact .inl h
 ·exact .inr ⟨b,o,rfl,by have:=hb.size;omega,fun i hi=> (hb.cell (p:=⟨b,o+i,none⟩) hl).trans (h i hi)⟩
def Ycv (w:World) (p:Option Addr) (l:List Int):Prop:=Yp4 w p l.length fun i=> l.getD i 0
theorem Ycv.below {w w':World} {p:Option Addr} {l:List Int} (h:Ycv w p l) (hb:Below w.heap.size w w'):Ycv w' p l:=Yp4.below h hb
theorem Ycv.nil (w:World) (p:Option Addr):Ycv w p []:=.inl rfl
theorem Ycv.hold {w:World} {p:Option Addr} {l:List Int} (h:Ycv w p l) (h0:0<l.length):∃b o,p=some ⟨b,o,none⟩∧b<w.heap.size∧∀x,Below w.heap.size w x→∀i,i<l.length→x.cell? ⟨b,o+i,none⟩=some (.int .i64 (l.getD i 0)):=by
 rcases h with h | ⟨b,o,rfl,hl,h⟩
 ·omega
 ·exact ⟨b,o,rfl,hl,fun x hx i hi=> (World.cell?_of_block (a:=⟨b,o+i,none⟩) (hx.block b hl)).trans (h i hi)⟩
section
variable {H:Type} {enc:TypeId×Value→H} {P:Program}
end
def Y84 (l:List Int):List Value:=l.map fun x=> .int .i64 x
theorem Yrm (l:List Int) (x:Int):Y84 (l ++ [x])=Y84 l ++ [.int .i64 x]:=by simp [Y84]
theorem Yor {w:World} {base e:Nat} {v:Value} {l:List Int} {n:Nat} (hl:l.length=n) (h:w.ownsRow base e 1 v n (Y84 l)):
  ∃(q:Option Addr) (cap:Nat),v = .slice q n cap∧Ycv w q l:=by
 subst hl
 have h0:=h
 rcases h.2 with ⟨rfl,h1⟩ | ⟨g,cap,cur,rfl,_,hg,_⟩
 ·exact ⟨none,0,by rw [h1],.inl h1⟩
 ·refine ⟨_,cap,rfl,.inr ⟨g,0,rfl,(Array.getElem?_eq_some_iff.1 hg).1,fun i hi=> ?_⟩⟩
  have:=World.ownsRow.cells (g:=g) h0 rfl i (.int .i64 (l.getD i 0)) (by simp [Y84,List.getD,hi])
  rwa [Addr.add_mid] at this
theorem Yle {P:Program} {w:World} {o:Oper} {a:Act} {K:Act→World→Prop} {Q:Exit→Act→World→Prop} {sl x:Operand} {t base e c:Nat} {i:TypeInfo} {z v:Value} {n:Nat} {xs:List Value} {B:Nat} {y0:Int}
  (ho:o.op = .call {callee:=.builtin .append,args:=#[sl,x],argTypes:=#[t,t]})
  (ht:P.underlying t=some (.slice e)) (hi:P.info? e=some i) (hz:i.zero=some z) (hzs:z.cells.size=1) (hsize:i.size=1) (hby:i.bytes=8)
  (hs:a.eval sl=v) (hown:w.ownsRow base e 1 v n xs) (hx:a.eval x = .slice (some ⟨B,0,none⟩) 1 c) (c0:w.cell? ⟨B,0,none⟩=some (.int .i64 y0)) (hn:n≤1048576) (hbase:base≤w.heap.size)
  (h:∀v' w',w'.ownsRow base e 1 v' (n+1) (xs ++ [.int .i64 y0])→w.grownBy w' v.ownBlock→K (a.put o.dst v') w'):o.wp P a w K Q:=
 wp_append_own w sl x t ho base e i z 1 8 ht hi hz hsize hby hzs (by decide) v n xs hs hown ⟨B,0,none⟩ 1 c [.int .i64 y0] hx rfl
  (fun j u hj=> by
   match j,hj with
   | 0,hj=> cases hj;exact c0)
  (by intro u hu;rw [List.mem_singleton] at hu;subst hu;rfl) (by unfold maxLen;omega) (by omega) hbase
  fun v' w' h1 h2 _=> h v' w' h1 h2
theorem Y5l:(Tryz.prog.info? 3).map (fun i=> (i.zero,i.size,i.bytes))=some (some (.int .i64 0),1,8):=by kernel_rfl
end Go.Proofs.YtpgdngijmihafaaGreatDoor