/- Texts that SheetinTakes's proof stands on, part 21 of 52. No condition of its own. -/
import Derived.Test.YtpgdngijmihafaaGreatDoorSheetinTakesMc
import Derived.Test.YtpgdngijmihafaaGreatDoorSheetinTakesMd
import Derived.Test.YtpgdngijmihafaaGreatDoorSheetinTakesMe
import Derived.Test.YtpgdngijmihafaaGreatDoorSheetinTakesMq
import Derived.Test.YtpgdngijmihafaaGreatDoorSheetinTakesMt
import Derived.WalkKit
import Derived.OwnWalk
import Derived.BigQuiet
import Derived.Deep.Slices
import Derived.Deep.MidRow
import Derived.WalkMore
import Derived.IntWalk
import Derived.Deep.QuietTactic
namespace Go.Proofs.YtpgdngijmihafaaGreatDoor
open Go.ChangeShapes Go.WideShapes Go.ChangeAt Go.RowKit
def Ysp (x:ByteArray×Int):List Value:=[.string x.1,.int .i64 x.2]
def rowC (x:ByteArray×Int):List UInt8:=x.1.data.toList
theorem Y05 (x:ByteArray×Int):∀v∈Ysp x,v.oneCell'=true:=by
 intro v hv
 simp only [Ysp,List.mem_cons,List.not_mem_nil,or_false] at hv
 rcases hv with rfl | rfl <;> rfl
theorem Yb2 {B:Nat} {w x:World} (h:Below B w x) (n:Nat):Below B w (x.drewN n):=⟨h.os,h.tape,h.output,h.size,h.block⟩
def Yjw (w:World) (p:Option Addr) (l:List ByteArray):Prop:=
 l = []∨∃b o,p=some ⟨b,o,none⟩∧b<w.heap.size∧∀i,(h:i<l.length)→w.cell? ⟨b,o+i,none⟩=some (.string l[i])
theorem Yjw.below {w w':World} {p:Option Addr} {l:List ByteArray} (h:Yjw w p l) (hb:Below w.heap.size w w'):Yjw w' p l:=by
 rcases h with h | ⟨b,o,h1,h2,h3⟩
 ·exact .inl h
 ·refine .inr ⟨b,o,h1,Nat.lt_of_lt_of_le h2 hb.size,fun i hi=> ?_⟩
  rw [hb.cell (p:=⟨b,o+i,none⟩) h2]
  exact h3 i hi
theorem Yjw.at {w:World} {p:Option Addr} {l:List ByteArray} (h:Yjw w p l) (h0:0<l.length):
  ∃b o,p=some ⟨b,o,none⟩∧b<w.heap.size∧∀i,(h:i<l.length)→w.cell? ⟨b,o+i,none⟩=some (.string l[i]):=by
 rcases h with rfl | h
 ·cases h0
 ·exact h
def Ybe (l:List ByteArray):List Value:=l.map .string
theorem Ydn (l:List ByteArray) (x:ByteArray):Ybe (l ++ [x])=Ybe l ++ [.string x]:=by simp [Ybe]
theorem Yiy {w:World} {base e:Nat} {v:Value} {l:List ByteArray} (h:w.ownsRow base e 1 v l.length (Ybe l)):
  ∃(q:Option Addr) (cap:Nat),v = .slice q l.length cap∧Yjw w q l:=by
 have h0:=h
 rcases h.2 with ⟨rfl,h1⟩ | ⟨g,cap,cur,rfl,_,hg,_⟩
 ·exact ⟨none,0,by rw [h1],.inl (List.eq_nil_of_length_eq_zero h1)⟩
 ·refine ⟨_,cap,rfl,.inr ⟨g,0,rfl,(Array.getElem?_eq_some_iff.1 hg).1,fun i hi=> ?_⟩⟩
  have:=World.ownsRow.cells (g:=g) h0 rfl i (.string l[i]) (by simp [Ybe,hi])
  rwa [Addr.add_mid] at this
theorem Yo6 {w w':World} {base e e' size size' n n':Nat} {v v':Value} {xs xs':List Value} (h:w.ownsRow base e size v n xs) (h':w.ownsRow base e' size' v' n' xs') (hne:e≠e') (hg:w.grownBy w' v'.ownBlock):w'.ownsRow base e size v n xs:=by
 refine h.kept hg ?_
 cases hv:v.ownBlock with
 | none=> exact .inl rfl
 | some k=>
  right
  intro hk
  rcases h.2 with ⟨rfl,_⟩ | ⟨g,cap,cur,rfl,_,hgg,_⟩
  ·cases hv
  rcases h'.2 with ⟨rfl,_⟩ | ⟨g',cap',cur',rfl,_,hgg',_⟩
  ·cases hk
  cases hv
  injection hk with hk
  obtain rfl:g=g':=hk
  rw [hgg] at hgg'
  injection hgg' with hgg'
  injection hgg' with _ hgg'
  exact hne hgg'
theorem Yf8 {P:Program} {w:World} {ops:Array Oper} {rest:List Oper} {o:Oper} {a:Act} {Q:Exit→Act→World→Prop} {sl x:Operand} {t base e c:Nat} {i:TypeInfo} {z v:Value} {n:Nat} {xs:List Value} {K:Nat} {y0:ByteArray}
  (hgd:o.guard=none) (ho:o.op = .call {callee:=.builtin .append,args:=#[sl,x],argTypes:=#[t,t]})
  (ht:P.underlying t=some (.slice e)) (hi:P.info? e=some i) (hz:i.zero=some z) (hzs:z.cells.size=1) (hsize:i.size=1) (hby:i.bytes=16)
  (hs:a.eval sl=v) (hown:w.ownsRow base e 1 v n xs) (hx:a.eval x = .slice (some ⟨K,0,none⟩) 1 c) (c0:w.cell? ⟨K,0,none⟩=some (.string y0)) (hn:n≤1048576) (hbase:base≤w.heap.size)
  (h:∀v' w',w'.ownsRow base e 1 v' (n+1) (xs ++ [.string y0])→w.grownBy w' v.ownBlock→wpList P ops Q rest (a.put o.dst v') w'):wpList P ops Q (o::rest) a w:=
 wpList_append_own w hgd sl x t ho base e i z 1 16 ht hi hz hsize hby hzs (by decide) v n xs hs hown ⟨K,0,none⟩ 1 c [.string y0] hx rfl
  (fun j u hj=> by
   match j,hj with
   | 0,hj=> cases hj;exact c0)
  (by intro u hu;rw [List.mem_singleton] at hu;subst hu;rfl) (by unfold maxLen;omega) (by omega) hbase
  fun v' w' h1 h2 _=> h v' w' h1 h2
theorem Ylf:(Tryz.prog.info? 9).map (fun i=> (i.zero,i.size,i.bytes))=some (some (.string ⟨#[]⟩),1,16):=by kernel_rfl
theorem Yga {w:World} {b:Nat} {l:List ByteArray} {T:TypeId} (h:w.heap[b]? = some (.cells (l.map Value.string).toArray T (0,0))):Yjw w (some ⟨b,0,none⟩) l:=by
 refine .inr ⟨b,0,rfl,(Array.getElem?_eq_some_iff.1 h).1,fun i hi=> ?_⟩
 rw [Nat.zero_add]
 exact Yaa h (by simp [hi])
end Go.Proofs.YtpgdngijmihafaaGreatDoor
namespace Go.Proofs.YtpgdngijmihafaaGreatDoor
def gtk (all:List (ByteArray×Int)) (b:List UInt8):Int×Int×Nat:=
 if (tk (all.map rowC) b 25 1).1=0 then
  match all.find? (fun x=> rowC x==b.take (tk (all.map rowC) b 25 1).2) with
  | some x=> (x.2,0,(tk (all.map rowC) b 25 1).2)
  | none=> (0,0,0)
 else (0,(tk (all.map rowC) b 25 1).1,0)
theorem Y7m {all:List (ByteArray×Int)} (hf:Ygq (all.map rowC)) {x y:ByteArray×Int} (hx:x∈all) (hy:y∈all) (h:rowC x=rowC y):x=y:=by
 obtain ⟨i,hi,rfl⟩:=List.getElem_of_mem hx
 obtain ⟨j,hj,rfl⟩:=List.getElem_of_mem hy
 by_cases hij:i=j
 ·subst hij;rfl
 ·exfalso
  have:=Yi8.1 hf i j (by simpa using hi) (by simpa using hj) hij
  rw [List.getElem_map,List.getElem_map,h,Ydf] at this
  cases this
theorem Y1c {all:List (ByteArray×Int)} (hf:Ygq (all.map rowC)) {x:ByteArray×Int} (hx:x∈all) {q:List UInt8} (hq:rowC x=q):all.find? (fun y=> rowC y==q)=some x:=by
 cases h:all.find? (fun y=> rowC y==q) with
 | none=>
  have:=List.find?_eq_none.1 h x hx
  rw [hq] at this
  simp at this
 | some y=>
  have h1:=List.find?_some h
  have h2:=List.mem_of_find?_eq_some h
  rw [Y7m hf h2 hx (by rw [hq];simpa using h1)]
theorem Yu0 {all:List (ByteArray×Int)} (hf:Ygq (all.map rowC)) {b:List UInt8} {n:Nat} {x:ByteArray×Int} (ht:tk (all.map rowC) b 25 1=(0,n)) (hx:x∈all) (hq:rowC x=b.take n):gtk all b=(x.2,0,n):=by
 unfold gtk
 rw [ht,if_pos rfl,Y1c hf hx hq]
theorem Ygi {all:List (ByteArray×Int)} {b:List UInt8} {n:Nat} {f:Int} (ht:tk (all.map rowC) b 25 1=(f,n)) (hf:f≠0):gtk all b=(0,f,0):=by
 unfold gtk
 rw [ht,if_neg hf]
theorem Ywm {all:List (ByteArray×Int)} (hf:Ygq (all.map rowC)) {b:List UInt8} {x:ByteArray×Int} (hx:x∈all) (h0:1≤(rowC x).length) (h1:(rowC x).length≤24) (hp:(rowC x).isPrefixOf b=true):gtk all b=(x.2,0,(rowC x).length):=
 Yu0 hf (Y8s hf (List.mem_map_of_mem hx) hp h0 (by omega)) hx (Ybp.1 hp).symm
theorem Ypz {rows:List (List UInt8)} {b:List UInt8} {k n:Nat} (h:b.length<n):tk rows b (k+1) n=(2,0):=by
 unfold tk
 rw [if_pos h]
theorem Y46 {rows:List (List UInt8)} {b:List UInt8} {k n:Nat} (hn:n≤b.length) (h:∀r∈rows,(b.take n).isPrefixOf r=false):tk rows b (k+1) n=(3,0):=by
 unfold tk
 rw [if_neg (by omega),if_neg (fun hm=> by have:=h _ hm;rw [Ydf] at this;cases this),if_neg]
 rw [List.any_eq_true]
 rintro ⟨r,hr,hp⟩
 rw [h r hr] at hp
 cases hp
theorem Yqy {rows:List (List UInt8)} {b:List UInt8} {k n:Nat} (hn:n≤b.length) (h:b.take n∉rows) {r:List UInt8} (hr:r∈rows) (hp:(b.take n).isPrefixOf r=true):tk rows b (k+1) n=tk rows b k (n+1):=by
 rw [tk,if_neg (by omega),if_neg h,if_pos (List.any_eq_true.2 ⟨r,hr,hp⟩)]
theorem Y7q {q r:List UInt8} (h:q.isPrefixOf r=true) (hl:q.length<r.length):q.isPrefixOf r.dropLast=true:=by
 rw [Ybp] at h ⊢
 rw [List.dropLast_eq_take,List.take_take,Nat.min_eq_left (by omega)]
 exact h
theorem Yon (c:Nat):∀(n l:Nat),n≤l→(Ybg c l).take n=Ybg (c / 2^(l-n)) n
 | 0,_,_=> by simp [Ybg]
 | n+1,0,h=> by omega
 | n+1,l+1,h=> by
  rw [Ybg,List.take_succ_cons,Yon c n l (by omega),Ybg,Nat.add_sub_add_right,Nat.div_div_eq_div_mul,←Nat.pow_add,show l-n+n=l by omega]
theorem Yxm {q:List UInt8} (hq:Yba q=true) {c l:Nat} (hc:c<2^l):q.isPrefixOf (Ybg c l)=(decide (q.length≤l)&&(c / 2^(l-q.length)==num q)):=by
 by_cases hl:q.length≤l
 ·rw [Bool.eq_iff_iff,Ybp,Yon c _ _ hl,decide_eq_true hl,Bool.true_and,beq_iff_eq]
  constructor
  ·intro h
   have e:=congrArg num h
   rw [Yg9,Nat.mod_eq_of_lt] at e
   ·exact e
   ·rw [Nat.div_lt_iff_lt_mul (Nat.two_pow_pos _),←Nat.pow_add,show q.length+(l-q.length)=l by omega]
    exact hc
  ·intro h
   rw [h]
   exact Ygv q hq
 ·rw [decide_eq_false hl,Bool.false_and]
  cases h:q.isPrefixOf (Ybg c l) with
  | false=> rfl
  | true=>
   have:=Ybl h
   rw [Ya6] at this
   exact absurd this hl
end Go.Proofs.YtpgdngijmihafaaGreatDoor
namespace Go.Proofs.YtpgdngijmihafaaGreatDoor
open Go.RowKit Go.Lib
def Qav (inter:Bool):List ByteArray:=
 if inter then [⟨#[49]⟩,⟨#[48,48,49,49]⟩,⟨#[48,48,49,48]⟩,⟨#[48,48,48,49,48,49]⟩,⟨#[48,49,49]⟩,⟨#[48,48,48,48,49,49,49]⟩,⟨#[48,48,48,48,49,49,48]⟩,⟨#[48,48,48,48,48,48,49,48,49]⟩,⟨#[48,49,48]⟩,⟨#[48,48,48,48,49,48,49]⟩,⟨#[48,48,48,48,49,48,48]⟩,⟨#[48,48,48,48,48,49,48,49]⟩,⟨#[48,48,48,49,49]⟩,⟨#[48,48,48,48,48,49,48,48]⟩,⟨#[48,48,48,48,48,48,49,49]⟩,⟨#[48,48,48,48,48,49,49]⟩,⟨#[48,48,48,49,48,48]⟩,⟨#[48,48,48,48,48,48,49,48,48]⟩,⟨#[48,48,48,48,48,48,48,49,49]⟩,⟨#[48,48,48,48,48,48,48,49,48]⟩,⟨#[48,48,48,48,48,48,48,48,49]⟩]
 else [⟨#[]⟩,⟨#[]⟩,⟨#[]⟩,⟨#[]⟩,⟨#[]⟩,⟨#[]⟩,⟨#[]⟩,⟨#[]⟩,⟨#[]⟩,⟨#[]⟩,⟨#[]⟩,⟨#[]⟩,⟨#[49]⟩,⟨#[48,48,49]⟩,⟨#[48,49,48]⟩,⟨#[48,49,49]⟩,⟨#[48,48,48,49]⟩,⟨#[48,48,48,48,48,49]⟩,⟨#[48,48,48,48,49,48]⟩,⟨#[48,48,48,48,49,49]⟩,⟨#[48,48,48,48,48,48,48,48,49]⟩]
theorem Yjm (inter:Bool):(Qav inter).length=21:=by cases inter <;> rfl
theorem Yo7 {w:World} {b:Nat} {l:List ByteArray} {T:TypeId} (h:w.heap[b]? = some (.cells (l.map Value.string).toArray T (0,0))):Yjw w (some ⟨b,0,none⟩) l:=by
 refine .inr ⟨b,0,rfl,(Array.getElem?_eq_some_iff.1 h).1,fun i hi=> ?_⟩
 rw [Nat.zero_add]
 exact Yaa h (by simp [hi])
set_option maxHeartbeats 1000000 in
theorem Y0w (inter:Bool) (w:World):Calls Tryz.prog 96 #[.bool inter] w fun e w'=> e = .returned (.slice (some ⟨w.heap.size,0,none⟩) 21 21)∧Yjw w' (some ⟨w.heap.size,0,none⟩) (Qav inter)∧Below w.heap.size w w':=by
 cases inter with
 | true=>
  go_enter Tryz.func96,Tryz.ntmps96
  go_wp2
  go_ret
  exact ⟨rfl,Yo7 (T:=9) (l:=Qav true) (heap_alloc_new w _),(Below.refl _ w).alloc (Nat.le_refl _) _⟩
 | false=>
  go_enter Tryz.func96,Tryz.ntmps96
  go_wp2
  go_ret
  exact ⟨rfl,Yo7 (T:=9) (l:=Qav false) (heap_alloc_new w _),(Below.refl _ w).alloc (Nat.le_refl _) _⟩
theorem Yro {inter:Bool} {k c:Int} (h:k<0∨5<k∨c<0∨3<c∨(k=5∧0<c)):Yen inter k c=⟨#[]⟩:=by
 by_cases hc:c<0∨4≤c
 ·exact Y4v hc
 ·unfold Yen
  rw [if_pos (by omega)]
  rcases (by omega:c=0∨c=1∨c=2∨c=3) with rfl | rfl | rfl | rfl
  all_goals
   rcases (by omega:(k<0∨5<k)∨k=5) with hk | rfl
   ·have h0:∀i:Int,0≤i→i≤5→¬ k=i:=fun i h1 h2 e=> by omega
    cases inter <;> simp [Ywl,Ynf,Ynp,h0 0,h0 1,h0 2,h0 3,h0 4,h0 5]
   ·first
     | (exfalso;omega)
     | (cases inter <;> rfl)
end Go.Proofs.YtpgdngijmihafaaGreatDoor
namespace Go.Proofs.YtpgdngijmihafaaGreatDoor
open Go.RowKit
theorem Yzr {a b:ByteArray}:a=b↔a.data.toList=b.data.toList:=by
 constructor
 ·rintro rfl;rfl
 ·intro h
  obtain ⟨⟨l⟩⟩:=a
  obtain ⟨⟨m⟩⟩:=b
  cases h;rfl
theorem Y9a (s p:ByteArray):((s.extract 0 p.size).toList==p.toList)=p.data.toList.isPrefixOf s.data.toList:=by
 rw [Bool.eq_iff_iff,beq_iff_eq,Lib.toList_data,Lib.toList_data,Ybp]
 rw [Lib.extract_data]
 rfl
set_option maxRecDepth 100000 in
set_option maxHeartbeats 1000000 in
theorem Ywr (s p:ByteArray) (w:World):
  Calls Tryz.prog 97 #[.string s,.string p] w fun e w'=> e = .returned (.bool (p.data.toList.isPrefixOf s.data.toList))∧w=w':=by
 have e1:s.data.toList.length=s.size:=rfl
 have e2:p.data.toList.length=p.size:=rfl
 have E1:=Lib.hid e1
 have E2:=Lib.hid e2
 clear e1 e2
 by_cases h:p.size≤s.size
 ·have HC:=Lib.hid (Y9a s p)
  have t0:decide (p.size≤s.size)=true:=by simp;omega
  go_enter Tryz.func97,Tryz.ntmps97
  go_wp2
  go_ret
  exact ⟨Yap (by rw [HC.out]),rfl⟩
 ·have hf:p.data.toList.isPrefixOf s.data.toList=false:=by
   cases hh:p.data.toList.isPrefixOf s.data.toList with
   | false=> rfl
   | true=>
    have:=Ybl hh
    rw [E1.out,E2.out] at this
    exact absurd this h
  have F:=Lib.hid hf
  have t0:decide (p.size≤s.size)=false:=by simp;omega
  clear hf h
  go_enter Tryz.func97,Tryz.ntmps97
  go_wp2
  go_ret
  exact ⟨Yap F.out.symm,rfl⟩
theorem Yux (s p:ByteArray) (r:Bool) (hr:p.data.toList.isPrefixOf s.data.toList=r) (w:World):
  Calls Tryz.prog 97 #[.string s,.string p] w fun e w'=> e = .returned (.bool r)∧w'=w:=
 (Ywr s p w).mono fun _ _ ⟨h1,h2⟩=> ⟨by rw [h1,hr],h2.symm⟩
def Yr0 (l:List ByteArray) (b:List UInt8) (at_:Nat) (w:World) (e:Ending) (w':World):Prop:=
 ∃i:Nat,e = .returned (.tuple #[.int .i64 (i:Int),.int .i64 ((at_+(tk (l.map fun x=> x.data.toList) b 25 1).2:Nat):Int),.int .i64 (tk (l.map fun x=> x.data.toList) b 25 1).1])∧
  ((tk (l.map fun x=> x.data.toList) b 25 1).1=0→∃h:i<l.length,l[i].data.toList=b.take (tk (l.map fun x=> x.data.toList) b 25 1).2)∧Below w.heap.size w w'
def Yo0 (l:List ByteArray) (b:List UInt8) (at_:Nat) (w:World) (e:Ending) (w':World):Prop:=
 ∃i:Nat,e = .returned (.tuple #[.int .i64 (i:Int),.int .i64 ((at_+(tk (l.map fun x=> x.data.toList) b 25 1).2:Nat):Int),.int .i64 (tk (l.map fun x=> x.data.toList) b 25 1).1])∧
  ((tk (l.map fun x=> x.data.toList) b 25 1).1=0→∃h:i<l.length,l[i].data.toList=b.take (tk (l.map fun x=> x.data.toList) b 25 1).2)∧((tk (l.map fun x=> x.data.toList) b 25 1).1≠0→i=0)∧Below w.heap.size w w'
theorem Yli {l:List ByteArray} {b:List UInt8} {at_:Nat} {w w':World} {i n to:Nat} {f:Int} (h:tk (l.map fun x=> x.data.toList) b 25 1=(f,n)) (hto:at_+n=to) (h0:f=0→∃h:i<l.length,l[i].data.toList=b.take n) (h1:f≠0→i=0) (hb:Below w.heap.size w w'):
  Yo0 l b at_ w (.returned (.tuple #[.int .i64 (i:Int),.int .i64 (to:Int),.int .i64 f])) w':=by
 subst hto
 refine ⟨i,?_,?_,?_,hb⟩
 ·rw [h]
 ·rw [h];exact h0
 ·rw [h];exact h1
theorem Yrh (s:ByteArray) (p n:Nat):(s.extract p (p+n)).data.toList=(s.data.toList.drop p).take n:=by
 rw [Lib.extract_data,Nat.add_sub_cancel_left]
set_option maxRecDepth 100000 in
set_option maxHeartbeats 8000000 in
theorem Yhu (l:List ByteArray) (p:Option Addr) (cap:Nat) (s:ByteArray) (at_:Nat) (w:World) (hc:Yjw w p l) (hm:l.length≤300) (hs:s.size≤1048576) (ha:at_≤s.size):
  Calls Tryz.prog 67 #[.slice p l.length cap,.string s,.int .i64 (at_:Int)] w (Yo0 l (s.data.toList.drop at_) at_ w):=by
 obtain ⟨bs,hbs⟩:∃bs,s.data.toList.drop at_=bs:=⟨_,rfl⟩
 have hbl:bs.length=s.size-at_:=by rw [←hbs,List.length_drop];rfl
 have hq:∀n,(s.extract at_ (at_+n)).data.toList=bs.take n:=fun n=> by rw [Yrh,hbs]
 have Q:=Lib.hid hq
 have BL:=Lib.hid hbl
 rw [hbs]
 have HBS:=Lib.hid hbs
 obtain ⟨rows,hrows⟩:∃rows,(l.map fun x=> x.data.toList)=rows:=⟨_,rfl⟩
 have HR:=Lib.hid hrows
 obtain ⟨B,hB⟩:∃B,w.heap.size=B:=⟨_,rfl⟩
 have hE:∀x,Below B w x→∀i,(h:i<l.length)→∃b o,p=some ⟨b,o,none⟩∧x.cell? ⟨b,o+i,none⟩=some (.string l[i]):=by
  intro x hx i hi
  obtain ⟨b,o,rfl,hblt,hcells⟩:=hc.at (by omega)
  exact ⟨b,o,rfl,(World.cell?_of_block (a:=⟨b,o+i,none⟩) (hx.block b (by omega))).trans (hcells i hi)⟩
 have EE:=Lib.hid hE
 have hb0:Below B w w:=Below.refl _ _
 have HB:=Lib.hid hB
 clear hE hc hB hrows hbs hq hbl
 go_enter Tryz.func67,Tryz.ntmps67
 go_wp2
 go_loopw [9] (fun v wr=>∃n:Nat,1≤n∧n≤26∧v = .int .i64 n∧Below B w wr∧Hid (tk rows bs 25 1=tk rows bs (26-n) n)) (fun v _=> 26-(intOf v).toNat)
 case atStart=> exact ⟨1,Nat.le_refl _,by omega,rfl,hb0,Lib.hid rfl⟩
 case round=>
  clear hb0
  obtain ⟨n,hn1,hn2,rfl,hb,hn⟩:=hrel
  by_cases hlt:n≤25
  ·have hunf:tk rows bs (26-n) n=if bs.length<n then (2,0) else if bs.take n∈rows then (0,n) else if rows.any (fun r=> (bs.take n).isPrefixOf r)=true then tk rows bs (25-n) (n+1) else (3,0):=by
    rw [show 26-n=(25-n)+1 by omega,tk]
   have U:=Lib.hid (hn.out.trans hunf)
   clear hunf
   have t25:decide ((n:Int)≤25)=true:=by simp;omega
   by_cases hsh:bs.length<n
   ·have t0:decide ((s.size:Int)-at_<n)=true:=by simp;rw [BL.out] at hsh;omega
    have F:=Lib.hid (U.out.trans (if_pos hsh))
    clear hsh
    go_wp2
    go_ret3
    exact Yli (i:=0) (by rw [HR.out];exact F.out) (Nat.add_zero _) (fun h=> by cases h) (fun _=> rfl) (by rw [HB.out];exact hb)
   ·have t0:decide ((s.size:Int)-at_<n)=false:=by simp;rw [BL.out] at hsh;omega
    have U2:=Lib.hid (U.out.trans (if_neg hsh))
    have hfit:at_+n≤s.size:=by rw [BL.out] at hsh;omega
    clear U hsh
    go_wp2_with fail
    obtain ⟨wo,rfl⟩:∃wo:World,wo=wr:=⟨_,rfl⟩
    go_loopw [10,11] (fun v i wr=>∃(k:Nat) (sm:Bool),k≤l.length∧i = .int .i64 k∧v = .bool sm∧Below B w wr∧Hid (sm=(rows.take k).any (fun r=> (bs.take n).isPrefixOf r))∧Hid (∀c,(hc:c<l.length)→c<k→l[c].data.toList≠bs.take n)) (fun _ i _=> l.length-(intOf i).toNat)
    case atStart=> exact ⟨0,false,Nat.zero_le _,rfl,rfl,hb,Lib.hid (by simp),Lib.hid (fun c _ h=> absurd h (Nat.not_lt_zero c))⟩
    case round=>
     clear hb
     obtain ⟨k,sm,hk,rfl,rfl,hb,hsm,hno⟩:=hrel
     by_cases hlt2:k<l.length
     ·obtain ⟨b,o,rfl,ck⟩:=EE.out wr hb k hlt2
      obtain ⟨y,hy⟩:∃y,l[k]=y:=⟨_,rfl⟩
      rw [hy] at ck
      have HY:=Lib.hid hy
      clear hy
      go_wp2_with fail
      by_cases he:y.data.toList=bs.take n
      ·have g0:(y.toList==(s.extract at_ (at_+n)).toList)=true:=by rw [Lib.toList_data,Lib.toList_data,beq_iff_eq,Q.out];exact he
       have F:=Lib.hid (U2.out.trans (if_pos (show bs.take n∈rows by rw [←HR.out,←he,←HY.out];exact List.mem_map_of_mem (List.getElem_mem hlt2))))
       have HE:=Lib.hid he
       clear he
       go_quiet (fail)
       go_wp2
       go_ret3
       exact Yli (by rw [HR.out];exact F.out) rfl (fun _=> ⟨hlt2,by rw [HY.out];exact HE.out⟩) (fun h=> absurd rfl h) (by rw [HB.out];exact Yb2 hb _)
      ·have g0:(y.toList==(s.extract at_ (at_+n)).toList)=false:=by
        rw [Lib.toList_data,Lib.toList_data,beq_eq_false_iff_ne,Q.out];exact he
       have HE:=Lib.hid he
       have ST:Hid ((rows.take (k+1)).any (fun r=> (bs.take n).isPrefixOf r)=(sm || (bs.take n).isPrefixOf y.data.toList)):=Lib.hid (by
        rw [←HR.out] at hsm ⊢
        rw [hsm.out,List.take_succ_eq_append_getElem (by rw [List.length_map];exact hlt2),List.any_append,List.getElem_map,HY.out]
        simp)
       have NO2:Hid (∀c,(hc:c<l.length)→c<k+1→l[c].data.toList≠bs.take n):=Lib.hid (fun c hc h=> by
        by_cases e:c=k
        ·subst e
         rw [HY.out];exact HE.out
        ·exact hno.out c hc (by omega))
       clear he hsm hno
       go_quiet (fail)
       have ck2:(wr.drewN nq).cell? ⟨b,o+k,none⟩=some (.string y):=ck
       have hb2:=Yb2 hb nq
       generalize wr.drewN nq=wq at ck2 hb2 ⊢
       clear ck hb
       go_wp2_with fail
       cases sm with
       | true=>
        go_quiet (fail)
        go_wp2
        go_roundw
        case rel=> exact ⟨k+1,true,by omega,by go_num,rfl,Yb2 hb2 _,Lib.hid (by rw [ST.out];rfl),NO2⟩
        case measure=> simp [intOf];omega
       | false=>
        have hbg:(s.extract at_ (at_+n)).data.toList.isPrefixOf y.data.toList=(bs.take n).isPrefixOf y.data.toList:=by rw [Q.out]
        generalize hr:(bs.take n).isPrefixOf y.data.toList=r at hbg ST
        have BG:=Lib.hid hbg
        clear hbg hr
        have s1:=Lib.hid (show (at_:Int)+n≤s.size by omega)
        have s2:=Lib.hid (show (at_:Int)≤(at_:Int)+n by omega)
        have s3:(0:Int)≤(at_:Int)+n:=by omega
        have s4:((at_:Int)+n).toNat=at_+n:=by omega
        have s5:IntKind.i64.wrap ((at_:Int)+n)=(at_:Int)+n:=IntWalk.i64_in _ (by omega)
        go_quiet ((first | (go_at_call 97;exact Calls.quiet_of_same (Yux _ _ _ BG.out _)) | (rw [if_pos s1.out,if_pos s2.out];exact ⟨rfl,rfl⟩)))
        clear s1 s2 s3 s4 s5
        go_wp2
        go_roundw
        case rel=> exact ⟨k+1,r,by omega,by go_num,rfl,Yb2 hb2 _,Lib.hid (by rw [ST.out];rfl),NO2⟩
        case measure=> simp [intOf];omega
     ·obtain rfl:k=l.length:=by omega
      have hnot:¬ bs.take n∈rows:=by
       rw [←HR.out,List.mem_map]
       rintro ⟨x,hx,he⟩
       obtain ⟨i,hi,rfl⟩:=List.getElem_of_mem hx
       exact hno.out i hi hi he
      have hall:sm=rows.any (fun r=> (bs.take n).isPrefixOf r):=by
       rw [hsm.out,List.take_of_length_le (by rw [←HR.out,List.length_map];exact Nat.le_refl _)]
      have U3:=Lib.hid (U2.out.trans (if_neg hnot))
      have HA:=Lib.hid hall
      clear hnot hall hsm U2
      cases sm with
      | false=>
       have F:=Lib.hid (U3.out.trans (if_neg (by rw [←HA.out];decide)))
       go_wp2
       go_ret3
       exact Yli (i:=0) (by rw [HR.out];exact F.out) (Nat.add_zero _) (fun h=> by cases h) (fun _=> rfl) (by rw [HB.out];exact hb)
      | true=>
       have F:=Lib.hid (U3.out.trans (if_pos (by rw [←HA.out])))
       go_wp2
       go_roundw
       case rel=> exact ⟨n+1,by omega,by omega,by go_num,hb,Lib.hid (by rw [F.out,show 26-(n+1)=25-n by omega])⟩
       case measure=> simp [intOf];omega
  ·obtain rfl:n=26:=by omega
   have F:=Lib.hid (hn.out.trans (show tk rows bs (26-26) 26=(3,0) from rfl))
   go_wp2
   go_ret3
   exact Yli (i:=0) (by rw [HR.out];exact F.out) (Nat.add_zero _) (fun h=> by cases h) (fun _=> rfl) (by rw [HB.out];exact hb)
theorem Y4d (l:List ByteArray) (p:Option Addr) (cap:Nat) (s:ByteArray) (at_:Nat) (w:World) (hc:Yjw w p l) (hm:l.length≤300) (hs:s.size≤1048576) (ha:at_≤s.size):
  Calls Tryz.prog 67 #[.slice p l.length cap,.string s,.int .i64 (at_:Int)] w (Yr0 l (s.data.toList.drop at_) at_ w):=by
 refine (Yhu l p cap s at_ w hc hm hs ha).mono ?_
 rintro e w' ⟨i,h1,h2,_,h3⟩
 exact ⟨i,h1,h2,h3⟩
end Go.Proofs.YtpgdngijmihafaaGreatDoor