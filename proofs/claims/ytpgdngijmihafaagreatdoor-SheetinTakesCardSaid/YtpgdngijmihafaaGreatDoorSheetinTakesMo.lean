/- Texts that SheetinTakes's proof stands on, part 15 of 52. No condition of its own. -/
import Derived.Test.YtpgdngijmihafaaGreatDoorSheetinTakesMa
import Derived.Test.YtpgdngijmihafaaGreatDoorSheetinTakesMc
import Derived.Test.YtpgdngijmihafaaGreatDoorSheetinTakesMd
import Derived.Test.YtpgdngijmihafaaGreatDoorSheetinTakesMe
import Derived.Test.YtpgdngijmihafaaGreatDoorSheetinTakesMf
import Derived.Test.YtpgdngijmihafaaGreatDoorSheetinTakesMh
import Derived.Test.YtpgdngijmihafaaGreatDoorSheetinTakesMi
import Derived.Test.YtpgdngijmihafaaGreatDoorSheetinTakesMn
import Derived.RegionTactic
import Derived.Deep.RegionWith
import Derived.Deep.CutRange
import Derived.Deep.DeepCutAuto
import Derived.BigRegion
import Derived.Lib.OthersKept
import Derived.Deep.RegionLaw
import Derived.Laws.CopyOwn
import Derived.Deep.Slices
import Derived.Deep.MidRow
namespace Go.Proofs.YtpgdngijmihafaaGreatDoor
open Go.RowKit Go.Lib Go.ChangeShapes Go.WideShapes Go.ChangeAt
def Ygo {α:Type} (c:Nat) (V:World→α→List Value→Prop) (w:World) (q:Option Addr) (l:List α):Prop:=
 l = []∨∃b o,q=some ⟨b,o,none⟩∧b<w.heap.size∧∀i,(h:i<l.length)→∃vs,V w l[i] vs∧∀(j:Nat) v,vs[j]? = some v→w.cell? ⟨b,o+i*c+j,none⟩=some v
theorem Ygo.below {α:Type} {c:Nat} {V:World→α→List Value→Prop} {w x:World} {q:Option Addr} {l:List α} (h:Ygo c V w q l) (hV:∀a vs,V w a vs→V x a vs) (hb:Below w.heap.size w x):Ygo c V x q l:=by
 rcases h with h | ⟨b,o,rfl,hl,h⟩
 ·exact .inl h
 ·refine .inr ⟨b,o,rfl,Nat.lt_of_lt_of_le hl hb.size,fun i hi=> ?_⟩
  obtain ⟨vs,h1,h2⟩:=h i hi
  exact ⟨vs,hV _ _ h1,fun j v hj=> (World.cell?_of_block (a:=⟨b,o+i*c+j,none⟩) (hb.block b hl)).trans (h2 j v hj)⟩
instance:Inhabited Cel:=⟨Yc1⟩
def Y5z (w:World) (c:Cel) (vs:List Value):Prop:=
 ∃(p:Nat→Option Addr) (cap:Nat→Nat),vs=Ya5 c (fun i=> .slice (p i) (c.ev i).length (cap i))∧((Lit.int .i64 c.mx).wf=true∧(Lit.int .i64 c.my).wf=true)∧∀i,i<6→(c.ev i).length≤maxLen∧Yea w (p i) (c.ev i)
theorem Y5z.below {w x:World} (hb:Below w.heap.size w x) (c:Cel) (vs:List Value) (h:Y5z w c vs):Y5z x c vs:=by
 obtain ⟨p,cap,h1,h2,h3⟩:=h
 exact ⟨p,cap,h1,h2,fun i hi=> ⟨(h3 i hi).1,(h3 i hi).2.below hb⟩⟩
def Ys6:World→Option Addr→List Cel→Prop:=Ygo 18 Y5z
theorem Ys6.below {w x:World} {q:Option Addr} {l:List Cel} (h:Ys6 w q l) (hb:Below w.heap.size w x):Ys6 x q l:=Ygo.below h (Y5z.below hb) hb
structure RowP where
 head:Bool
 id:Int
 quant:Int
 cels:List Cel
instance:Inhabited RowP:=⟨⟨false,0,0,[]⟩⟩
def Qa0 (w:World) (r:RowP) (vs:List Value):Prop:=
 ∃(q:Option Addr) (cap:Nat),vs = [.bool r.head,.int .i64 r.id,.int .i64 r.quant,.slice q r.cels.length cap]∧(q=none→cap=0)∧r.cels.length≤maxLen∧Ys6 w q r.cels
theorem Qa0.below {w x:World} (hb:Below w.heap.size w x) (r:RowP) (vs:List Value) (h:Qa0 w r vs):Qa0 x r vs:=by
 obtain ⟨q,cap,h1,h0,h2,h3⟩:=h
 exact ⟨q,cap,h1,h0,h2,h3.below hb⟩
def Yh9:World→Option Addr→List RowP→Prop:=Ygo 4 Qa0
theorem Yh9.below {w x:World} {q:Option Addr} {l:List RowP} (h:Yh9 w q l) (hb:Below w.heap.size w x):Yh9 x q l:=Ygo.below h (Qa0.below hb) hb
structure ShP where
 hd:Shd
 rows:List RowP
 zeros:Int
def ShV (w:World) (S:ShP) (vs:List Value):Prop:=
 ∃(a b:Option Addr) (ca cb:Nat),vs=Ya8 S.hd (.slice a S.hd.supp.length ca) (.slice b S.rows.length cb) S.zeros∧S.hd.supp.length≤maxLen∧S.rows.length≤maxLen∧Ycf w a S.hd.supp∧Yh9 w b S.rows
section
variable {H:Type} {enc:TypeId×Value→H} {P:Program}
end
end Go.Proofs.YtpgdngijmihafaaGreatDoor