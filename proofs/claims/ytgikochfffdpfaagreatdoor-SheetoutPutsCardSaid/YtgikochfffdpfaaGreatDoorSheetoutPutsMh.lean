/- Texts that SheetoutPuts's proof stands on, part 8 of 47. No condition of its own. -/
import Derived.Test.YtgikochfffdpfaaGreatDoorSheetoutPutsMd
import Derived.Test.YtgikochfffdpfaaGreatDoorSheetoutPutsMg
import Derived.WalkKit
import Derived.Lib.Hide
import Derived.Test.YtgikochfffdpfaaGreatDoorChecked
import Derived.OwnWalk
import Derived.Laws.AppendOwn
import Derived.ChangeMaps5
namespace Go.Proofs.YtgikochfffdpfaaGreatDoor
open Go.RowKit Go.Lib Go.ChangeShapes Go.WideShapes Go.ChangeAt
def Yf0 (w:World) (p:Option Addr) (n:Nat) (f:Nat→Int):Prop:=n=0∨∃b o,p=some ⟨b,o,none⟩∧b<w.heap.size∧∀i,i<n→w.cell? ⟨b,o+i,none⟩=some (.int .i64 (f i))
theorem Yf0.below {w w':World} {p:Option Addr} {n:Nat} {f:Nat→Int} (h:Yf0 w p n f) (hb:Below w.heap.size w w'):Yf0 w' p n f:=by
 rcases h with h | ⟨b,o,rfl,hl,h⟩
 ·exact .inl h
 ·exact .inr ⟨b,o,rfl,by have:=hb.size;omega,fun i hi=> (hb.cell (p:=⟨b,o+i,none⟩) hl).trans (h i hi)⟩
theorem Yf0.congr {w:World} {p:Option Addr} {n:Nat} {f g:Nat→Int} (h:Yf0 w p n f) (hg:∀i,i<n→f i=g i):Yf0 w p n g:=by
 rcases h with h | ⟨b,o,rfl,hl,h⟩
 ·exact .inl h
 ·exact .inr ⟨b,o,rfl,hl,fun i hi=> by rw [←hg i hi];exact h i hi⟩
def Ydd (w:World) (p:Option Addr) (l:List Int):Prop:=Yf0 w p l.length fun i=> l.getD i 0
theorem Ydd.below {w w':World} {p:Option Addr} {l:List Int} (h:Ydd w p l) (hb:Below w.heap.size w w'):Ydd w' p l:=Yf0.below h hb
theorem Ydd.nil (w:World) (p:Option Addr):Ydd w p []:=.inl rfl
theorem Yt3 {w:World} {p:Option Addr} {n:Nat} {f:Nat→Int} (h:Yf0 w p n f):∃l:List Int,l.length=n∧Ydd w p l:=by
 refine ⟨(List.range n).map f,by simp,?_⟩
 unfold Ydd
 rw [List.length_map,List.length_range]
 refine h.congr fun i hi=> ?_
 simp [List.getD,hi]
theorem Ydd.hold {w:World} {p:Option Addr} {l:List Int} (h:Ydd w p l) (h0:0<l.length):∃b o,p=some ⟨b,o,none⟩∧b<w.heap.size∧∀x,Below w.heap.size w x→∀i,i<l.length→x.cell? ⟨b,o+i,none⟩=some (.int .i64 (l.getD i 0)):=by
 rcases h with h | ⟨b,o,rfl,hl,h⟩
 ·omega
 ·exact ⟨b,o,rfl,hl,fun x hx i hi=> (World.cell?_of_block (a:=⟨b,o+i,none⟩) (hx.block b hl)).trans (h i hi)⟩
section
variable {H:Type} {enc:TypeId×Value→H} {P:Program}
theorem Yt2 {w:World} {base fuel:Nat} {sp:Nat→Bool} {held:Bool} {t e:TypeId} {v:Value} {x:DataW H×List MemPlace}
  (ht:P.underlying t=some (.slice e)) (he:P.underlying e=some (.int .i64)) (ce:P.cellsOf e=1)
  (hf:DataW.trod enc P w base sp held fuel t [v]=some x):∃p len cap f,v = .slice p len cap∧len≤maxLen∧Yf0 w p len f:=by
 rcases Go.Deep.open_slice1 ht ce hf with ⟨h1,_⟩ | ⟨a,len,cap,m,n,V,D,Pl,h1,hb,hl,hm,hmm,_,hx⟩
 ·injection h1 with h1
  exact ⟨none,0,0,fun _=> 0,h1,Nat.zero_le _,.inl rfl⟩
 ·injection h1 with h1
  subst h1
  have hlm:len≤m:=by rw [hmm];split <;> omega
  have each:∀i,i<len→∃y:Int,w.cell? (a.add i)=some (.int .i64 y):=by
   intro i hi
   obtain ⟨h1,h2⟩:=hx i (by omega)
   obtain ⟨y,e0,_,_⟩:=DataW.trod_int he h2
   injection e0 with e0
   exact ⟨y,by rw [h1,e0]⟩
  refine ⟨some a,len,cap,fun i=> match w.cell? (a.add i) with | some (.int _ y)=> y | _=> 0,rfl,by omega,?_⟩
  by_cases h0:len=0
  ·exact .inl h0
  ·right
   obtain ⟨y0,hy0⟩:=each 0 (by omega)
   have ea:a=⟨a.block,a.off,none⟩:=by
    have:a.add 0=a:=by cases a with | mk b o s=> cases s <;> simp [Addr.add]
    rw [this] at hy0
    exact Yn1 hy0
   have hy1:w.cell? ⟨a.block,a.off+0,none⟩=some (.int .i64 y0):=by
    rw [ea] at hy0
    simpa [Addr.add] using hy0
   refine ⟨a.block,a.off,by rw [←ea],World.block_lt_of_cell? w ⟨a.block,a.off+0,none⟩ hy1,fun i hi=> ?_⟩
   obtain ⟨y,hy⟩:=each i hi
   have eadd:a.add i=⟨a.block,a.off+i,none⟩:=by rw [ea];simp [Addr.add]
   simp only [hy]
   rw [←eadd]
   exact hy
end
end Go.Proofs.YtgikochfffdpfaaGreatDoor