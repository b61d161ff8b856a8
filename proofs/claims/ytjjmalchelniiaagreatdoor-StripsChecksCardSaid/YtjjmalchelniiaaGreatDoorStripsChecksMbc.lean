/- StripsChecks, 29. No condition. -/
import Derived.Test.YtjjmalchelniiaaGreatDoorStripsChecksMe
import Derived.Test.YtjjmalchelniiaaGreatDoorStripsChecksMg
import Derived.Test.YtjjmalchelniiaaGreatDoorStripsChecksMh
import Derived.Test.YtjjmalchelniiaaGreatDoorStripsChecksMv
import Derived.Test.YtjjmalchelniiaaGreatDoorStripsChecksMba
import Derived.Test.YtjjmalchelniiaaGreatDoorStripsChecksMbb
open Go.Proofs.Tryz
open Go renaming World->A5,Calls->A9,Value->A0,Addr->Aa,DataW->Ab,Ending->Ae
set_option maxHeartbeats 8000000
namespace Go.Proofs.YtjjmalchelniiaaGreatDoor
section
open Go.RowKit Go.Lib Go.Sort
abbrev Lo:=@World.cell?_of_block
abbrev Lp:=@Addr.add_mid
abbrev Lr:=@List.getElem?_cons_succ
abbrev Ls:=@trivial
abbrev Lt:=@true_and
abbrev Lu:=@List.foldl_append
abbrev Lv:=@underlying3
abbrev Lw:=@Nat.le_of_eq
abbrev Lx:=@and_true
abbrev Ly:=@List.length_pos_iff
abbrev Lz:=@Calls.quiet_of_same
abbrev M0:=@List.nodup_append
abbrev M1:=@List.any_eq_false
abbrev M3:=@IntWalk.i64_in
abbrev M4:=@List.mem_map
abbrev M5:=@Go.Maps.has_put_other
abbrev M6:=@alloc_eq_grow
abbrev M7:=@List.all_reverse
abbrev M8:=@Go.Maps.has_put_same
abbrev M9:=@ntmps249
theorem PJ {p:UInt8->Bool}:∀{l:List UInt8},l.dropWhile p=[]↔l.all p=true
 |[]=>by simp
 |c::l=>by
  cases h:p c with
  |true=>simp only[List.dropWhile_cons,h,Kl,List.all_cons,Jw];exact PJ
  |false=>simp[h]
theorem WI (l:List UInt8):Lib.trimS l [48,49]=[]↔AK l=true:=by
 have e:∀c:UInt8,([48,49]:List UInt8).contains c=(c==48 || c==49):=fun c=>by rw[Ju];simp
 unfold Lib.trimS Lib.trimLeftS Lib.trimRightS AK;simp only[e];rw[PJ,M7];constructor
 ·intro h;by_cases hr:l.reverse.dropWhile (fun c=>c==48 || c==49)=[]
  ·rw[PJ,M7] at hr;exact hr
  ·exfalso;have h1:=Bu.1 h _ (List.head_mem hr);have h2:=List.head_dropWhile_not (fun c:UInt8=>c==48 || c==49) hr;rw[h1] at h2;cases h2
 ·intro h;rw[PJ.2 (by rw[M7];exact h)]
  rfl
theorem Xv (s:ByteArray)(hs:s.size<=9223372036854775807)(w:A5):
  A9 prog 264 #[.string s,.string ⟨#[48,49]⟩] w fun e a=>e=.returned (.string ⟨(Lib.trimS s.data.toList [48,49]).toArray⟩)/\Below w.heap.size w a:=
 Any.strings_Trim_laid Tryz.lTrim (by kernel_rfl) s ⟨#[48,49]⟩ w hs (by decide) (ascii_of_all (by decide))
theorem Uz (a b:ByteArray)(w:A5):
  A9 prog 252 #[.string a,.string b] w fun e c=>e=.returned (.int .i64 (Lib.compareBytes a.data.toList b.data.toList))/\c=w:=
 Any.strings_Compare Tryz.lCompare a b w
theorem Rz (s p:ByteArray)(w:A5):
  A9 prog 197 #[.string s,.string p] w fun e a=>e=.returned (.bool (p.data.toList.isPrefixOf s.data.toList))/\a=w:=
 Any.strings_HasPrefix Tryz.lHasPrefix s p w
def LZ (x y:ByteArray×Int):Int:=Lib.compareBytes (AC x) (AC y)
theorem aJ:SWO (ltOf LZ):=Ys AC
theorem pJ (x y:ByteArray×Int)(W:A5):A9 prog 251 #[.agg #[.string x.1,.int .i64 x.2],.agg #[.string y.1,.int .i64 y.2]] W fun e c=>e=.returned (.int .i64 (LZ x y))/\∃q b,c=grow (W.drewN q) b:=by
 have a:=fun d=>Uz x.1 y.1 d;unfold LZ AC;generalize Lib.compareBytes x.1.data.toList y.1.data.toList=r at a ⊢
 go_enter func251,ntmps251
 go_wp2_with (go_at_call 252;refine(a _).mono ?_;rintro e c ⟨rfl,rfl⟩)
 go_ret
 exact⟨rfl,0,_,by rw[M6,M6,grow_grow];rfl⟩
theorem yN:∀w,(isAgg 286).run prog w=.ok true w:=fun _=>by kernel_rfl
theorem WU:∀w,(Go.sizeOf 286).run prog w=.ok 2 w:=fun _=>by kernel_rfl
theorem SM:(prog.info? 286).map (fun i=>(i.zero,i.size,i.bytes))=some (some (.agg #[.string ⟨#[]⟩,.int .i64 0]),2,24):=by kernel_rfl
theorem xN (b off n c:Nat)(a:List A0)(w:A5)(hl:a.length=n*2)(hn:n<=1048576)
  (hc:∀j u,a[j]? =some u->w.cell? ⟨b,off+j,none⟩=some u)(h1:∀u∈a,u.oneCell'=true):
  A9 prog 248 #[.slice (some ⟨b,off,none⟩) n c] w fun e i=>∃d,e=.returned d/\i.ownsRow w.heap.size 286 2 d n a/\d≠.slice none 0 0/\Below w.heap.size w i:=by
 obtain⟨k,hi,f,g,h⟩:=Dr SM;exact AnyE.slices_Clone Tryz.lClone k _ 2 24 hi f g h rfl (by decide) WU b off n c a w hl (by unfold maxLen;omega) (by omega) hc h1
abbrev Sym:=Fin 6×Fin 4
def sA (s:Sym):Int:=(s.1.val:Int)
def sB (s:Sym):Int:=(s.2.val:Int)
theorem fV {s t:Sym}(h1:sA s=sA t)(h2:sB s=sB t):s=t:=by
 unfold sA at h1;unfold sB at h2;exact Prod.ext (Fin.ext (by omega)) (Fin.ext (by omega))
def FV (x:ByteArray×Sym):List A0:=[.string x.1,.int .i64 (sA x.2),.int .i64 (sB x.2)]
def AH (x:ByteArray×Sym):List UInt8:=x.1.data.toList
def LP (x y:ByteArray×Sym):Int:=Lib.compareBytes (AH x) (AH y)
theorem nQ:SWO (ltOf LP):=Ys AH
theorem bB (x y:ByteArray×Sym)(W:A5):A9 prog 261 #[.agg #[.string x.1,.int .i64 (sA x.2),.int .i64 (sB x.2)],.agg #[.string y.1,.int .i64 (sA y.2),.int .i64 (sB y.2)]] W fun e c=>e=.returned (.int .i64 (LP x y))/\∃q b,c=grow (W.drewN q) b:=by
 have a:=fun d=>Uz x.1 y.1 d;unfold LP AH;generalize Lib.compareBytes x.1.data.toList y.1.data.toList=r at a ⊢
 go_enter func261,ntmps261
 go_wp2_with (go_at_call 252;refine(a _).mono ?_;rintro e c ⟨rfl,rfl⟩)
 go_ret
 exact⟨rfl,0,_,by rw[M6,M6,grow_grow];rfl⟩
theorem eA:∀w,(isAgg 274).run prog w=.ok true w:=fun _=>by kernel_rfl
theorem X8:∀w,(Go.sizeOf 274).run prog w=.ok 3 w:=fun _=>by kernel_rfl
theorem S1 (x:ByteArray×Sym):∀v∈FV x,v.oneCell'=true:=by
 intro v hv;simp only[FV,Eb,Ed,Ek] at hv;rcases hv with rfl|rfl|rfl <;> rfl
theorem Tn:(prog.info? 274).map (fun i=>(i.zero,i.size,i.bytes))=some (some (.agg #[.string ⟨#[]⟩,.int .i64 0,.int .i64 0]),3,32):=by kernel_rfl
theorem ZY (b off n c:Nat)(a:List A0)(w:A5)(hl:a.length=n*3)(hn:n<=1048576)
  (hc:∀j u,a[j]? =some u->w.cell? ⟨b,off+j,none⟩=some u)(h1:∀u∈a,u.oneCell'=true):
  A9 prog 259 #[.slice (some ⟨b,off,none⟩) n c] w fun e i=>∃d,e=.returned d/\i.ownsRow w.heap.size 274 3 d n a/\d≠.slice none 0 0/\Below w.heap.size w i:=by
 obtain⟨k,hi,f,g,h⟩:=Dr Tn;exact AnyE.slices_Clone Tryz.lCloneY k _ 3 32 hi f g h rfl (by decide) X8 b off n c a w hl (by unfold maxLen;omega) (by omega) hc h1
theorem ZB (i:Nat)(hi:i<100)(w:A5):
  A9 prog 245 #[.int .i64 i] w fun e a=>e=.returned (.string ⟨(Lib.decDigits i).toArray⟩)/\a=w:=
 Any.strconv_Itoa_small Tryz.lItoa i hi w
end
section
open Go.ChangeShapes Go.WideShapes Go.ChangeAt Go.RowKit
def Cds (w:A5)(p:Option Aa)(l:List (ByteArray×Int)):Prop:=
 l=[]\/∃b o,p=some ⟨b,o,none⟩/\b<w.heap.size/\∀i,(h:i<l.length)->w.cell? ⟨b,o+i*2,none⟩=some (.string l[i].1)/\w.cell? ⟨b,o+i*2+1,none⟩=some (.int .i64 l[i].2)
theorem Cds.below {w c:A5}{p:Option Aa}{l:List (ByteArray×Int)}(h:Cds w p l)(a:Below w.heap.size w c):Cds c p l:=by
 rcases h with h|⟨b,o,h1,h2,h3⟩
 ·exact .inl h
 ·refine .inr ⟨b,o,h1,Bg h2 a.size,fun i hi=>?_⟩;rw[a.cell (p:=⟨b,o+i*2,none⟩) h2,a.cell (p:=⟨b,o+i*2+1,none⟩) h2];exact h3 i hi
theorem Cds.at {w:A5}{p:Option Aa}{l:List (ByteArray×Int)}(h:Cds w p l)(a:0<l.length):
  ∃b o,p=some ⟨b,o,none⟩/\b<w.heap.size/\∀i,(h:i<l.length)->w.cell? ⟨b,o+i*2,none⟩=some (.string l[i].1)/\w.cell? ⟨b,o+i*2+1,none⟩=some (.int .i64 l[i].2):=by
 rcases h with rfl|h
 ·cases a
 ·exact h
theorem Cds.take {w:A5}{p:Option Aa}{l:List (ByteArray×Int)}(h:Cds w p l)(k:Nat):Cds w p (l.take k):=by
 rcases h with rfl|⟨b,o,h1,h2,h3⟩
 ·exact .inl (by simp)
 ·refine .inr ⟨b,o,h1,h2,fun i hi=>?_⟩;rw[Fh];exact h3 i (by rw[Be] at hi;omega)
theorem Cds.drop {w:A5}{b o:Nat}{l:List (ByteArray×Int)}(h:Cds w (some ⟨b,o,none⟩) l)(k:Nat):Cds w (some ⟨b,o+k*2,none⟩) (l.drop k):=by
 rcases h with rfl|⟨a,c,h1,h2,h3⟩
 ·exact .inl (by simp)
 ·cases h1;refine .inr ⟨b,o+k*2,rfl,h2,fun i hi=>?_⟩;have:=h3 (k+i) (by rw[Bj] at hi;omega);rw[Fk,show o+k*2+i*2=o+(k+i)*2 by omega];exact this
def DB (l:List (ByteArray×Int)):List A0:=l.flatMap GD
theorem uO (l:List (ByteArray×Int))(x:ByteArray×Int):DB (l++[x])=DB l++[.string x.1,.int .i64 x.2]:=by simp[DB,GD]
theorem VW (l:List (ByteArray×Int)):(DB l).length=l.length*2:=by
 induction l with
 |nil=>rfl
 |cons x l a=>
  have e:DB (x::l)=GD x++DB l:=by simp[DB]
  rw[e,B9,a,Bi,GD,Bi,Bi,By];omega
theorem QS (l:List (ByteArray×Int))(j:Nat)(h:j<l.length):(DB l)[j*2]? =some (.string l[j].1)/\(DB l)[j*2+1]? =some (.int .i64 l[j].2):=by
 induction l generalizing j with
 |nil=>exact absurd h (Fc j)
 |cons q l a=>
  have e:DB (q::l)=.string q.1 :: .int .i64 q.2::DB l:=by simp[DB,GD]
  rw[e];cases j with
  |zero=>exact⟨rfl,rfl⟩
  |succ j=>
   rw[show (j+1)*2=j*2+1+1 by omega,show j*2+1+1+1=(j*2+1)+1+1 by omega,Lr,Lr,Lr,Lr];exact a j (by simpa using h)
theorem cQ (l:List (ByteArray×Int)):∀u∈DB l,u.oneCell'=true:=by
 intro u a;obtain⟨x,_,b⟩:=List.mem_flatMap.1 a;exact X4 x u b
theorem V3 {w:A5}{base e:Nat}{v:A0}{l:List (ByteArray×Int)}(h:w.ownsRow base e 2 v l.length (DB l)):
  ∃(q:Option Aa) (cap:Nat),v=.slice q l.length cap/\Cds w q l:=by
 have a:=h;rcases h.2 with ⟨rfl,h1⟩|⟨g,cap,b,rfl,_,c,_⟩
 ·exact⟨none,0,by rw[h1],.inl (Dh h1)⟩
 ·refine⟨_,cap,rfl,.inr ⟨g,0,rfl,(Dy.1 c).1,fun i hi=>⟨?_,?_⟩⟩⟩
  ·have:=Di (g:=g) a rfl (i*2) _ (QS l i hi).1;rwa [Lp] at this
  ·have:=Di (g:=g) a rfl (i*2+1) _ (QS l i hi).2;rwa [Lp] at this
theorem bF {P:Program}{w:A5}{ops:Array Oper}{rest:List Oper}{o:Oper}{a:Act}{Q:Exit->Act->A5->Prop}{sl x:Operand}{t base e c:Nat}{i:TypeInfo}{z v:A0}{n:Nat}{l:List A0}{K:Nat}{y0:ByteArray}{y1:Int}
  (m:o.guard=none)(ho:o.op=.call {callee:=.builtin .append,args:=#[sl,x],argTypes:=#[t,t]})
  (ht:P.underlying t=some (.slice e))(hi:P.info? e=some i)(s:i.zero=some z)(p:z.cells.size=2)(b:i.size=2)(q:i.bytes=24)
  (hs:a.eval sl=v)(f:w.ownsRow base e 2 v n l)(y:a.eval x=.slice (some ⟨K,0,none⟩) 1 c)(A:w.cell? ⟨K,0,none⟩=some (.string y0))(c1:w.cell? ⟨K,1,none⟩=some (.int .i64 y1))(hn:n<=1048576)(d:base<=w.heap.size)
  (h:∀k g,g.ownsRow base e 2 k (n+1) (l++[.string y0,.int .i64 y1])->w.grownBy g v.ownBlock->wpList P ops Q rest (a.put o.dst k) g):wpList P ops Q (o::rest) a w:=
 Dk w m sl x t ho base e i z 2 24 ht hi s b q p (by decide) v n l hs f ⟨K,0,none⟩ 1 c [.string y0,.int .i64 y1] y rfl
  (fun j u hj=>by
   match j,hj with
   |0,hj=>cases hj;exact A
   |1,hj=>cases hj;exact c1)
  (by intro u r;simp only[Eb,Ed,Ek] at r;rcases r with rfl|rfl <;> rfl) (by unfold maxLen;omega) (by omega) d
  fun k g h1 h2 _=>h k g h1 h2
section
variable {H:Type}{enc:TypeId×A0->H}{P:Program}
end
def DQ (w:A5)(p:Option Aa)(l:List (ByteArray×Sym)):Prop:=
 l=[]\/∃b o,p=some ⟨b,o,none⟩/\b<w.heap.size/\∀i,(h:i<l.length)->w.cell? ⟨b,o+i*3,none⟩=some (.string l[i].1)/\w.cell? ⟨b,o+i*3+1,none⟩=some (.int .i64 (sA l[i].2))/\w.cell? ⟨b,o+i*3+2,none⟩=some (.int .i64 (sB l[i].2))
theorem DQ.below {w c:A5}{p:Option Aa}{l:List (ByteArray×Sym)}(h:DQ w p l)(a:Below w.heap.size w c):DQ c p l:=by
 rcases h with h|⟨b,o,h1,h2,h3⟩
 ·exact .inl h
 ·refine .inr ⟨b,o,h1,Bg h2 a.size,fun i hi=>?_⟩;rw[a.cell (p:=⟨b,o+i*3,none⟩) h2,a.cell (p:=⟨b,o+i*3+1,none⟩) h2,a.cell (p:=⟨b,o+i*3+2,none⟩) h2];exact h3 i hi
theorem DQ.at {w:A5}{p:Option Aa}{l:List (ByteArray×Sym)}(h:DQ w p l)(a:0<l.length):
  ∃b o,p=some ⟨b,o,none⟩/\b<w.heap.size/\∀i,(h:i<l.length)->w.cell? ⟨b,o+i*3,none⟩=some (.string l[i].1)/\w.cell? ⟨b,o+i*3+1,none⟩=some (.int .i64 (sA l[i].2))/\w.cell? ⟨b,o+i*3+2,none⟩=some (.int .i64 (sB l[i].2)):=by
 rcases h with rfl|h
 ·cases a
 ·exact h
theorem DQ.take {w:A5}{p:Option Aa}{l:List (ByteArray×Sym)}(h:DQ w p l)(k:Nat):DQ w p (l.take k):=by
 rcases h with rfl|⟨b,o,h1,h2,h3⟩
 ·exact .inl (by simp)
 ·refine .inr ⟨b,o,h1,h2,fun i hi=>?_⟩;rw[Fh];exact h3 i (by rw[Be] at hi;omega)
theorem DQ.drop {w:A5}{b o:Nat}{l:List (ByteArray×Sym)}(h:DQ w (some ⟨b,o,none⟩) l)(k:Nat):DQ w (some ⟨b,o+k*3,none⟩) (l.drop k):=by
 rcases h with rfl|⟨a,c,h1,h2,h3⟩
 ·exact .inl (by simp)
 ·cases h1;refine .inr ⟨b,o+k*3,rfl,h2,fun i hi=>?_⟩;have:=h3 (k+i) (by rw[Bj] at hi;omega);rw[Fk,show o+k*3+i*3=o+(k+i)*3 by omega];exact this
def CV (l:List (ByteArray×Sym)):List A0:=l.flatMap FV
theorem qM (l:List (ByteArray×Sym))(x:ByteArray×Sym):CV (l++[x])=CV l++[.string x.1,.int .i64 (sA x.2),.int .i64 (sB x.2)]:=by simp[CV,FV]
theorem Wb (l:List (ByteArray×Sym)):(CV l).length=l.length*3:=by
 induction l with
 |nil=>rfl
 |cons x l a=>
  have e:CV (x::l)=FV x++CV l:=by simp[CV]
  rw[e,B9,a,Bi,FV,Bi,Bi,Bi,By];omega
theorem ON (l:List (ByteArray×Sym))(j:Nat)(h:j<l.length):(CV l)[j*3]? =some (.string l[j].1)/\(CV l)[j*3+1]? =some (.int .i64 (sA l[j].2))/\(CV l)[j*3+2]? =some (.int .i64 (sB l[j].2)):=by
 induction l generalizing j with
 |nil=>exact absurd h (Fc j)
 |cons q l a=>
  have e:CV (q::l)=.string q.1 :: .int .i64 (sA q.2) :: .int .i64 (sB q.2)::CV l:=by simp[CV,FV]
  rw[e];cases j with
  |zero=>exact⟨rfl,rfl,rfl⟩
  |succ j=>
   have:=a j (by simpa using h);rw[show (j+1)*3=j*3+1+1+1 by omega,show j*3+1+1+1+1=(j*3+1)+1+1+1 by omega,show j*3+1+1+1+2=(j*3+2)+1+1+1 by omega];simp only[Lr];exact this
theorem fK (l:List (ByteArray×Sym)):∀u∈CV l,u.oneCell'=true:=by
 intro u a;obtain⟨x,_,b⟩:=List.mem_flatMap.1 a;exact S1 x u b
theorem Xx {w:A5}{base e:Nat}{v:A0}{l:List (ByteArray×Sym)}(h:w.ownsRow base e 3 v l.length (CV l)):
  ∃(q:Option Aa) (cap:Nat),v=.slice q l.length cap/\DQ w q l:=by
 have a:=h;rcases h.2 with ⟨rfl,h1⟩|⟨g,cap,b,rfl,_,c,_⟩
 ·exact⟨none,0,by rw[h1],.inl (Dh h1)⟩
 ·refine⟨_,cap,rfl,.inr ⟨g,0,rfl,(Dy.1 c).1,fun i hi=>⟨?_,?_,?_⟩⟩⟩
  ·have:=Di (g:=g) a rfl (i*3) _ (ON l i hi).1;rwa [Lp] at this
  ·have:=Di (g:=g) a rfl (i*3+1) _ (ON l i hi).2.1;rwa [Lp] at this
  ·have:=Di (g:=g) a rfl (i*3+2) _ (ON l i hi).2.2;rwa [Lp] at this
end
section
open Go.RowKit Go.Maps
theorem tZ:laidOutB prog=true:=by kernel_rfl
theorem ZX:WideMaps.KeyLaw prog 272:=deep_law_laid tZ (m:=2) (by omega) (Fj (by kernel_rfl)) (by kernel_rfl) (by kernel_rfl)
theorem UK:Keyed prog 272:=Keyed.of_law ZX
def Qb (s:Sym):A0:=.agg #[.int .i64 (sA s),.int .i64 (sB s)]
def K6 (s:Sym):Lit:=.string (keyBytes [.int .i64 (sA s),.int .i64 (sB s)])
theorem Tt:∀s:Sym,keyOf prog 272 (Qb s)=some (K6 s):=by
 have h:∀a b:Nat,a<6->b<4->keyOf prog 272 (.agg #[.int .i64 (a:Int),.int .i64 (b:Int)])=some (.string (keyBytes [.int .i64 (a:Int),.int .i64 (b:Int)])):=by
  intro a b c d;rcases (by omega:a=0\/a=1\/a=2\/a=3\/a=4\/a=5) with rfl|rfl|rfl|rfl|rfl|rfl <;> rcases (by omega:b=0\/b=1\/b=2\/b=3) with rfl|rfl|rfl|rfl <;> kernel_rfl
 exact fun s=>h s.1.val s.2.val s.1.isLt s.2.isLt
theorem ZV {s t:Sym}(h:K6 s=K6 t):s=t:=by
 have hs:=Tt s;rw[h] at hs;have e:=UK.inj hs (Tt t);unfold Qb at e;simp only[Value.agg.injEq,Array.mk.injEq,List.cons.injEq,Value.int.injEq,Lt,Lx] at e;exact fV e.1 e.2
abbrev KW (x:ByteArray×Sym):Lit:=K6 x.2
theorem Ss (s:Sym):WideAt.IsKeyLit (K6 s):=trivial
def LF (x:ByteArray×Sym):Ab Unit:=.lit (.string x.1.data.toList)
def PE (D:Ab Unit)(l:List (ByteArray×Sym)):Ab Unit:=l.foldl (fun D x=>D.put (KW x) (LF x)) D
def JA (l:List (ByteArray×Sym)):Ab Unit:=PE (.map []) l
theorem zC (l:List (ByteArray×Sym))(j:Nat)(h:j<l.length):JA (l.take (j+1))=(JA (l.take j)).put (KW l[j]) (LF l[j]):=by
 unfold JA PE;rw[Bd h,Lu]
 rfl
theorem Y4 {s t:Sym}(h:s≠t):K6 s≠K6 t:=fun e=>h (ZV e)
theorem Sg:∀{l:List (ByteArray×Sym)} {D:Ab Unit} {acc:List Sym},Tidy D->(∀s,has D (K6 s)=true↔s∈acc)->size D=acc.length->acc.Nodup->
  size (PE D l)<=acc.length+l.length/\(size (PE D l)=acc.length+l.length↔(acc++l.map (·.2)).Nodup)
 |[],D,acc,_,_,h,hn=>⟨by show size D<=_;omega,by rw[Cr,Ew];exact⟨fun _=>hn,fun _=>h⟩⟩
 |x::l,D,acc,ht,hh,hs,hn=>by
  have f:=ht.put (k:=KW x) (Ss _) (LF x);by_cases g:x.2∈acc
  ·have c:∀s,has (D.put (KW x) (LF x)) (K6 s)=true↔s∈acc:=by
    intro s;by_cases e:s=x.2
    ·subst e;exact⟨fun _=>g,fun _=>M8 ht.isMap (Ss _) _⟩
    ·rw[M5 (Y4 e)];exact hh s
   have d:size (D.put (KW x) (LF x))=acc.length:=by
    rw[size_put ht,Bc ((hh x.2).2 g)];exact hs
   obtain⟨i,_⟩:=Sg (l:=l) f c d hn;rw[Bi];refine⟨Ea i (by omega),⟨fun e=>?_,fun hd=>?_⟩⟩
   ·exfalso;have o:size (PE (D.put (KW x) (LF x)) l)=acc.length+(l.length+1):=e;omega
   ·exfalso;exact(M0.1 hd).2.2 x.2 g x.2 (by simp) rfl
  ·have c:∀s,has (D.put (KW x) (LF x)) (K6 s)=true↔s∈acc++[x.2]:=by
    intro s;rw[List.mem_append,Df];by_cases e:s=x.2
    ·subst e;exact⟨fun _=>.inr rfl,fun _=>M8 ht.isMap (Ss _) _⟩
    ·rw[M5 (Y4 e),hh s];exact⟨.inl,fun h=>h.resolve_right e⟩
   have d:size (D.put (KW x) (LF x))=(acc++[x.2]).length:=by
    rw[size_put ht,Bb (fun h=>g ((hh x.2).1 h)),B9,Bo,hs]
   have hn2:(acc++[x.2]).Nodup:=M0.2 ⟨hn,by simp,fun a n b m e=>g (by rw[Df] at m;rw[<-m,<-e];exact n)⟩;obtain⟨i,j⟩:=Sg (l:=l) f c d hn2;rw[B9,Bo] at i j;rw[Bi,Ci];rw[Bf] at j;refine⟨Ea i (by omega),?_⟩;rw[show acc.length+(l.length+1)=acc.length+1+l.length by omega]
   exact j
theorem jA (l:List (ByteArray×Sym)):size (JA l)<=l.length/\(size (JA l)=l.length↔(l.map (·.2)).Nodup):=by
 have:=Sg (l:=l) (D:=(.map []:Ab Unit)) (acc:=[]) tidy_empty (fun s=>by simp[Maps.has]) rfl List.nodup_nil;simp only[By,Br,Ce] at this;exact this
def Ty (p:Option Aa)(l:List (ByteArray×Sym))(at_:Nat)(c:UInt8)(w:A5)(e:Ae)(d:A5):Prop:=
 ∃q cap,e=.returned (.slice q (if c=48 then l.takeWhile (BL AH at_) else l.dropWhile (BL AH at_)).length cap)/\w=d/\DQ w q (if c=48 then l.takeWhile (BL AH at_) else l.dropWhile (BL AH at_))/\
  (if c=48 then l.takeWhile (BL AH at_) else l.dropWhile (BL AH at_)).length<=cap/\cap<=maxLen/\∀a,q=some a->∃b,p=some b/\b.block=a.block
theorem jM {α:Type}(p:α->Bool)(l:List α)(k:Nat)(h1:∀i,(h:i<l.length)->i<k->p l[i]=true)(h2:∀h:k<l.length,p l[k]=false)(a:k<=l.length):l.takeWhile p=l.take k/\l.dropWhile p=l.drop k:=by
 induction l generalizing k with
 |nil=>simp
 |cons x l c=>
  cases k with
  |zero=>
   have:=h2 (by simp);simp only[Jy] at this;simp[this]
  |succ k=>
   have b:=h1 0 (by simp) (by omega);simp only[Jy] at b;have:=c k (fun i hi d=>by have:=h1 (i+1) (by simpa using hi) (by omega);simpa using this) (fun a=>by have:=h2 (by simpa using a);simpa using this) (by simpa using a);simp[b,this.1,this.2]
theorem kG (x:ByteArray×Sym)(at_:Nat)(h:at_<x.1.size):BL AH at_ x=(x.1[at_]==48):=by
 unfold BL AH;have e:x.1.data.toList[at_]? =some x.1[at_]:=Fe (show at_<x.1.data.toList.length from h);rw[e]
 rfl
theorem Qz {l:List (ByteArray×Sym)}{at_ k:Nat}{c:UInt8}{w:A5}{p q:Option Aa}{n cap:Nat}(h1:∀i,(h:i<l.length)->i<k->BL AH at_ l[i]=true)(h2:∀h:k<l.length,BL AH at_ l[k]=false)(g:k<=l.length)
  (hn:n=if c=48 then k else l.length-k)(d:DQ w q (if c=48 then l.take k else l.drop k))(e:n<=cap)(hm:cap<=maxLen)(b:∀a,q=some a->∃f,p=some f/\f.block=a.block):Ty p l at_ c w (.returned (.slice q n cap)) w:=by
 obtain⟨j,m⟩:=jM (BL AH at_) l k h1 h2 g;unfold Ty;rw[j,m];by_cases hc:c=48
 ·simp only[hc,Kl] at hn d ⊢;have hl:(l.take k).length=k:=by rw[Be];omega
  exact⟨q,cap,by rw[hl,hn],trivial,d,by omega,hm,b⟩
 ·simp only[hc,Jb] at hn d ⊢;have hl:(l.drop k).length=l.length-k:=Bj;exact⟨q,cap,by rw[hl,hn],trivial,d,by omega,hm,b⟩
theorem nC {p:Option Aa}:∀a,p=some a->∃b,p=some b/\b.block=a.block:=fun a h=>⟨a,h,rfl⟩
theorem sD {p:Option Aa}{n:Nat}:∀a,Option.map (fun x=>Addr.add x n) p=some a->∃c,p=some c/\c.block=a.block:=by
 intro a h;cases p with
 |none=>cases h
 |some b=>cases h;exact⟨b,rfl,by show b.block=(b.add n).block;unfold Addr.add;split <;> rfl⟩
set_option maxRecDepth 100000 in
theorem jV (l:List (ByteArray×Sym))(p:Option Aa)(cap at_:Nat)(c:UInt8)(w:A5)(hc:DQ w p l)(D:l.length<=cap)(q:cap<=maxLen)(m:∀x∈l,at_<x.1.size/\x.1.size<=24):
  A9 prog 263 #[.slice p l.length cap,.int .i64 (at_:Int),.int .u8 (c.toNat:Int)] w (Ty p l at_ c w):=by
 unfold maxLen at q;have E:=Dl m;clear m;have v:(c=48/\((c.toNat:Int)==48)=true)\/(c≠48/\((c.toNat:Int)==48)=false):=by
  by_cases h:c=48
  ·exact .inl ⟨h,by rw[h];rfl⟩
  ·refine .inr ⟨h,?_⟩;rw[Ez];intro e;exact h (Ka.1 (by show c.toNat=48;omega))
 go_enter func263,ntmps263
 go_wp2
 go_loop [7] (fun i=>∃k:Nat,k<=l.length/\i=.int .i64 k/\Hid (∀i,(h:i<l.length)->i<k->BL AH at_ l[i]=true)) (fun i=>l.length-(intOf i).toNat)
 case atStart=>exact⟨0,Dn _,rfl,Dl (fun i _ h=>absurd h (Fc i))⟩
 case round=>
  obtain⟨k,t,rfl,g⟩:=hrel;by_cases r:k<l.length
  ·obtain⟨b,o,rfl,_,f⟩:=hc.at (by omega);have F:=(f k r).1;have A:=E.out l[k] (Bl r);obtain⟨x,n⟩:=Ai (l[k]);rw[n] at F A;obtain⟨y,G⟩:=A;have B:=Dl (show BL AH at_ l[k]=(x.1[at_]==48) by rw[n];exact kG x at_ y);have u:=Dl hc;clear f n hc;by_cases j:x.1[at_].toNat=48
   ·have H:((x.1[at_].toNat:Int)==48)=true:=by rw[j];rfl
    have I:Hid (∀i,(h:i<l.length)->i<k+1->BL AH at_ l[i]=true):=Dl (fun i hi h=>by
     by_cases e:i=k
     ·subst e;rw[B.out,Ka.1 (show x.1[at_].toNat=(48:UInt8).toNat from j)]
      rfl
     ·exact g.out i hi (by omega))
    clear j v
    go_wp2
    go_round
    case rel=>exact⟨k+1,by omega,by go_num,I⟩
    case measure=>simp[intOf];omega
   ·have H:((x.1[at_].toNat:Int)==48)=false:=by rw[Ez];omega
    have s:Hid (∀h:k<l.length,BL AH at_ l[k]=false):=Dl (fun _=>by
     rw[B.out,Ez];intro e;exact j (by rw[e];rfl))
    clear j;rcases v with ⟨d,z⟩|⟨d,z⟩
    ·have C:=Dl d;clear d
     go_wp2
     go_ret
     exact Qz g.out s.out t (by rw[Bc C.out]) (by rw[Bc C.out];exact u.out.take k) (by omega) (by unfold maxLen;omega) (fun a h=>⟨a,h,rfl⟩)
    ·have C:=Dl d;clear d
     go_wp2
     go_ret
     exact Qz g.out s.out t (by rw[Bb C.out]) (by rw[Bb C.out];exact u.out.drop k) (by omega) (by unfold maxLen;omega) (fun a h=>⟨_,rfl,by cases h;rfl⟩)
  ·obtain rfl:k=l.length:=by omega
   have s:Hid (∀h:l.length<l.length,BL AH at_ l[l.length]=false):=Dl (fun h=>absurd h (Nat.lt_irrefl _));have u:=Dl hc;clear hc;rcases v with ⟨d,z⟩|⟨d,z⟩
   ·have C:=Dl d;clear d
    go_wp2
    go_ret
    exact Qz g.out s.out t (by rw[Bc C.out]) (by rw[Bc C.out];exact u.out.take _) (by omega) (by unfold maxLen;omega) (fun a h=>⟨a,h,rfl⟩)
   ·have C:=Dl d;clear d
    go_wp2
    all_goals
     go_ret
     exact Qz g.out s.out t (by rw[Bb C.out,Cl]) (by rw[Bb C.out,List.drop_length];exact .inl rfl) (by omega) (by unfold maxLen;omega) (by first|exact nC|exact sD)
def dU (m:Option Nat)(q:Option Aa)(n cap:Nat)(L:Int):List A0:=[.map m,.slice q n cap,.int .i64 L]
def HU (m:Option Nat)(q:Option Aa)(n cap:Nat)(L:Int):Obj:=.cells (dU m q n cap L).toArray 301 (0,0)
def SV (w:A5)(lo hi b:Nat)(ds:List (ByteArray×Sym))(L:Int):Prop:=
 ∃(m:Option Nat) (q:Option Aa) (cap:Nat),w.heap[b]? =some (HU m q ds.length cap L)/\ds.length<=cap/\cap<=maxLen/\DQ w q ds/\∀a,q=some a->lo<=a.block/\a.block<hi
theorem kD (s:ByteArray)(hs:s.size<=maxLen)(w:A5):
  A9 prog 249 #[.string s] w fun e j=>e=.returned (.bool (BM s.data.toList))/\Below w.heap.size w j:=by
 unfold maxLen at hs;have b:s.data.toList.length=s.size:=rfl;by_cases a:s.data.toList=[]
 ·have F:=Dl (show BM s.data.toList=false by rw[a];rfl);have k:s.toList.isEmpty=true:=by rw[J9,a];rfl
  have f:s.toList=[]:=by rw[J9,a]
  clear a b
  go_enter func249,M9
  go_wp2
  go_ret
  exact⟨AB F.out.symm,Dm _ _⟩
 have k:s.toList.isEmpty=false:=by rw[J9];simpa using a
 by_cases g:24<s.size
 ·have F:=Dl (show BM s.data.toList=false by
   cases h:BM s.data.toList with
   |false=>rfl
   |true=>have:=(GI h).2.1;omega)
  have f:decide ((s.size:Int)<=24)=false:=by simp;omega
  clear a b g
  go_enter func249,M9
  go_wp2
  go_ret
  exact⟨AB F.out.symm,Dm _ _⟩
 have f:decide ((s.size:Int)<=24)=true:=by simp;omega
 have i:BM s.data.toList=AK s.data.toList:=by
  cases h:AK s.data.toList with
  |true=>exact Yw a (by omega) h
  |false=>
   cases h2:BM s.data.toList with
   |false=>rfl
   |true=>rw[(GI h2).2.2] at h;cases h
 have c:(Lib.trimS s.data.toList [48,49]).isEmpty=BM s.data.toList:=by
  rw[i,Ju,List.isEmpty_iff,WI]
 obtain⟨r,hr⟩:=Ai ((⟨(Lib.trimS s.data.toList [48,49]).toArray⟩:ByteArray));have d:r.toList.isEmpty=BM s.data.toList:=by rw[<-c,<-hr,J9]
 have l:=Dl hr;have m:=Dl d;clear a b g i c hr d
 go_enter func249,M9
 go_wp2_with fail
 refine(Xv s hs _).mono ?_;rintro e o ⟨rfl,n⟩;rw[l.out]
 go_wp2
 go_ret
 exact⟨AB m.out,n⟩
set_option maxRecDepth 100000 in
theorem mZ (l:List (ByteArray×Sym))(p:Option Aa)(cap:Nat)(w:A5)(r:Bool)(hr:r=true↔∃i,∃h:i+1<l.length,(AH l[i]).isPrefixOf (AH l[i+1])=true)(hc:DQ w p l)(hm:l.length<=1048576):
  A9 prog 262 #[.slice p l.length cap] w fun e s=>e=.returned (.bool r)/\Below w.heap.size w s:=by
 have R:=Dl hr;clear hr;obtain⟨B,t⟩:=Ai w.heap.size;have z:∀x,Below B w x->∀i,(h:i<l.length)->∃b o,p=some ⟨b,o,none⟩/\∀j,(h:j<l.length)->x.cell? ⟨b,o+j*3,none⟩=some (.string l[j].1):=by
  intro x g i hi;obtain⟨b,o,rfl,A,c⟩:=hc.at (by omega);exact⟨b,o,rfl,fun j hj=>(Lo (a:=⟨b,o+j*3,none⟩) (g.block b (by omega))).trans (c j hj).1⟩
 have H:=Dl z;have m:Below B w w:=Dm _ _;have J:=Dl t;rw[t];clear z hc t
 go_enter func262,ntmps262
 go_wp2
 go_loopw [3] (fun i wr=>∃k:Nat,(k<l.length\/k=0)/\i=.int .i64 ((k:Int)+1)/\Below B w wr/\Hid (∀i,(h:i+1<l.length)->i<k->(AH l[i]).isPrefixOf (AH l[i+1])=false)) (fun i _=>l.length+1-(intOf i).toNat)
 case atStart=>exact⟨0,.inr rfl,rfl,m,Dl (fun i _ h=>absurd h (Fc i))⟩
 case round=>
  clear m;obtain⟨k,C,rfl,q,n⟩:=hrel;by_cases f:k+1<l.length
  ·obtain⟨b,o,rfl,c⟩:=H.out wr q (k+1) f;have c1:=c (k+1) f;have I:=c k (by omega);obtain⟨x,g⟩:=Ai (l[k+1]);obtain⟨y,u⟩:=Ai (l[k]);rw[g] at c1;rw[u] at I;have D:=Dl g;have E:=Dl u;have t0:decide ((k:Int)+1<l.length)=true:=by simp;omega
   have d:∀w,A9 prog 197 #[.string x.1,.string y.1] w fun e s=>e=.returned (.bool (y.1.data.toList.isPrefixOf x.1.data.toList))/\s=w:=fun w=>Rz x.1 y.1 w;clear c C g u;cases hpre:y.1.data.toList.isPrefixOf x.1.data.toList with
   |true=>
    rw[hpre] at d;have F:=Dl (R.out.2 ⟨k,f,by rw[D.out,E.out];exact hpre⟩);have v:=Dl d;clear hpre d
    go_wp2_with fail
    go_quiet ((go_at_call 197;exact Lz (v.out _)))
    go_wp2
    go_ret
    exact⟨AB F.out.symm,NE q _⟩
   |false=>
    rw[hpre] at d;have F:Hid (∀i,(h:i+1<l.length)->i<k+1->(AH l[i]).isPrefixOf (AH l[i+1])=false):=Dl (fun i hi h=>by
     by_cases e:i=k
     ·subst e;rw[D.out,E.out];exact hpre
     ·exact n.out i hi (by omega))
    have v:=Dl d;clear hpre d
    go_wp2_with fail
    go_quiet ((go_at_call 197;exact Lz (v.out _)))
    go_wp2
    go_roundw
    case rel=>exact⟨k+1,.inl f,by go_num,NE q _,F⟩
    case measure=>simp[intOf];omega
  ·have F:=Dl (show r=false by
    cases hrr:r with
    |false=>rfl
    |true=>
     obtain⟨i,hi,G⟩:=R.out.1 hrr;rw[n.out i hi (by omega)] at G;cases G)
   have t0:decide ((k:Int)+1<l.length)=false:=by simp;omega
   clear f C
   go_wp2
   go_ret
   exact⟨AB F.out.symm,q⟩
def KX (a b:Int):Obj:=.cells [.int .i64 a,.int .i64 b].toArray 272 (0,0)
theorem Sj {x:A5}{B:Nat}{a b c d:Int}(h:x.heap[B]? =some (KX a b)):((x.setCell ⟨B,0,none⟩ (.int .i64 c)).setCell ⟨B,1,none⟩ (.int .i64 d)).heap[B]? =some (KX c d):=
 B3 (o:=1) (.int .i64 d) (B3 (o:=0) (.int .i64 c) h)
theorem PF {x:A5}{B:Nat}{a b:Int}(h:x.heap[B]? =some (KX a b)):x.cell? ⟨B,0,none⟩=some (.int .i64 a)/\x.cell? ⟨B,1,none⟩=some (.int .i64 b)/\x.frozen? ⟨B,0,none⟩=false/\x.frozen? ⟨B,1,none⟩=false:=
 ⟨A2 h rfl,A2 h rfl,AW (o:=0) h,AW (o:=1) h⟩
theorem RC {w x:A5}{B:Nat}{row:Option Nat}{c d:Int}(h:w.grownBy x row)(i:w.heap.size<=B):w.grownBy ((x.setCell ⟨B,0,none⟩ (.int .i64 c)).setCell ⟨B,1,none⟩ (.int .i64 d)) row:=by
 have b:=DC x ⟨B,0,none⟩ (.int .i64 c);have f:=DC (x.setCell ⟨B,0,none⟩ (.int .i64 c)) ⟨B,1,none⟩ (.int .i64 d);have g:=AO b f;refine⟨g.os.trans h.os,g.tape.trans h.tape,g.output.trans h.output,Ea h.size g.size,fun k a hn=>?_⟩;exact(g.block k (Bg a h.size) (by intro e;injection e with e;have e:k=B:=e;omega)).trans (h.block k a hn)
theorem SS {x:A5}{B rb p:Nat}{s:ByteArray}{c d:Int}(h:AG x rb s p)(a:rb≠B):AG ((x.setCell ⟨B,0,none⟩ (.int .i64 c)).setCell ⟨B,1,none⟩ (.int .i64 d)) rb s p:=
 (h.grown (DC x ⟨B,0,none⟩ (.int .i64 c)) a).grown (DC _ ⟨B,1,none⟩ (.int .i64 d)) a
def YJ:Sym:=(⟨0,by decide⟩,⟨0,by decide⟩)
def P9 (ds:List (ByteArray×Sym))(s:ByteArray)(rb p:Nat)(w:A5)(e:Ae)(a:A5):Prop:=
 ∃v:Sym,e=.returned (.tuple #[Qb v,.int .i64 (tk (ds.map AH) ((AA s.data.toList).drop p) 25 1).1])/\
  ((tk (ds.map AH) ((AA s.data.toList).drop p) 25 1).1=0->∃x∈ds,AH x=((AA s.data.toList).drop p).take (tk (ds.map AH) ((AA s.data.toList).drop p) 25 1).2/\x.2=v)/\
  ((tk (ds.map AH) ((AA s.data.toList).drop p) 25 1).1≠0->v=YJ)/\AG a rb s (p+(tk (ds.map AH) ((AA s.data.toList).drop p) 25 1).2)/\w.grownBy a (some rb)
theorem XK {ds:List (ByteArray×Sym)}{s:ByteArray}{rb p:Nat}{w a:A5}{f:Int}(h:tk (ds.map AH) ((AA s.data.toList).drop p) 25 1=(f,0))(b:f≠0)(hr:AG a rb s p)(c:w.grownBy a (some rb)):
  P9 ds s rb p w (.returned (.tuple #[.agg #[.int .i64 0,.int .i64 0],.int .i64 f])) a:=by
 unfold P9;rw[h];exact⟨YJ,rfl,fun e=>absurd e b,fun _=>rfl,hr,c⟩
theorem bO {ds:List (ByteArray×Sym)}{s:ByteArray}{rb p n:Nat}{w a:A5}{v:Sym}(h:tk (ds.map AH) ((AA s.data.toList).drop p) 25 1=(0,n))(b:∃x∈ds,AH x=((AA s.data.toList).drop p).take n/\x.2=v)(hr:AG a rb s (p+n))(c:w.grownBy a (some rb)):
  P9 ds s rb p w (.returned (.tuple #[.agg #[.int .i64 (sA v),.int .i64 (sB v)],.int .i64 0])) a:=by
 unfold P9;rw[h];exact⟨v,rfl,fun _=>b,fun e=>absurd rfl e,hr,c⟩
set_option maxRecDepth 100000 in
theorem aX (w:A5)(lo hi tb rb:Nat)(ds:List (ByteArray×Sym))(L:Int)(s:ByteArray)(p:Nat)(ht:SV w lo hi tb ds L)(hr:AG w rb s p)(hN:rb<lo\/hi<=rb)
  (hs:ds.Pairwise fun x y=>leL (AH x) (AH y)=true)(hf:BY (ds.map AH))(ho:∀x∈ds,BM (AH x)=true):
  A9 prog 247 #[.pointer (some ⟨tb,0,none⟩),.pointer (some ⟨rb,0,none⟩)] w (P9 ds s rb p w):=by
 obtain⟨m,q,cap,h1,h2,h3,hc,hq⟩:=ht;have bi:=(Dy.1 h1).1;have c1:w.cell? ⟨tb,1,none⟩=some (.slice q ds.length cap):=A2 h1 rfl;obtain⟨b,Z⟩:=Ai ((AA s.data.toList).drop p);have al:b.length=8*s.size-p:=by rw[<-Z,Bj,BB];rfl
 have b0:=hr.2.1;have am:=hr.lt;obtain⟨B,M⟩:=Ai w.heap.size;obtain⟨w0,g⟩:=Ai ((w.alloc (KX 0 0)).alloc (KX 0 0));have C:Below B w w0:=by rw[<-g,<-M];exact((Dm _ w).alloc (Ba _) _).alloc (by simp) _
 have an:w0.heap.size=B+2:=by rw[<-g,<-M];simp
 have P:∀x,Below (B+2) w0 x->x.heap[B]? =some (KX 0 0)/\x.heap[B+1]? =some (KX 0 0):=fun x f=>by
  refine⟨(f.block B (by omega)).trans ?_,(f.block (B+1) (by omega)).trans ?_⟩
  ·rw[<-g,<-M];exact heap_alloc2_old w _ _
  ·rw[<-g,<-M];exact heap_alloc2_new w _ _
 have ao:∀x,Below (B+2) w0 x->w.grownBy x (some rb):=fun x f=>by
  have h:=C.trans (f.mono (by omega));rw[<-M] at h;exact⟨h.os,h.tape,h.output,h.size,fun k hk _=>h.block k hk⟩
 have bj:=Dl P;have b1:=Dl ao;have ap:DQ w0 q ds:=hc.below (by rw[M];exact C);have aq:AG w0 rb s p:=hr.below (by rw[M];exact C)
 have bk:((w.alloc (.cells #[.int .i64 0,.int .i64 0] 272 (0,0))).alloc (.cells #[.int .i64 0,.int .i64 0] 272 (0,0))).cell? ⟨tb,1,none⟩=some (.slice q ds.length cap):=(Lo (a:=⟨tb,1,none⟩) ((show (w.alloc (.cells #[.int .i64 0,.int .i64 0] 272 (0,0))).alloc (.cells #[.int .i64 0,.int .i64 0] 272 (0,0))=w0 from g)▸C.block tb (by omega))).trans c1
 have ar:Below (B+2) w0 w0:=Dm _ _;have b2:rb<B:=by omega
 have bw:=Dl M;have bl:=Dl (show (w.alloc (.cells #[.int .i64 0,.int .i64 0] 272 (0,0))).alloc (.cells #[.int .i64 0,.int .i64 0] 272 (0,0))=w0 from g);have bm:=Dl an;have b3:=Dl hs;have bx:=Dl hf;have bn:=Dl ho;have D:=Dl Z;have Q:=Dl al;have b4:=Dl hq;have au:DT AH ds (b.take 0)=ds:=by rw[Bk];exact Vd AH ds
 have b5:=Dl au;have E:∀x∈ds,0<x.1.size/\x.1.size<=24:=fun x f=>by
  have h:=GI (ho x f);have h1:(AH x).length=x.1.size:=rfl;have h2:=Ly.2 h.1;omega
 have b6:=Dl E;have b7:=Dl ap;clear h1 M g C an P ao hr ap c1 bi am hs hf ho Z al hq au hc E
 go_enter func247,ntmps247
 go_wp2_with fail
 clear bk;rw[bl.out,bw.out]
 go_loopw [7,8] (fun u v wr=>∃(n:Nat) (a:Option Aa) (l:List (ByteArray×Sym)) (cap:Nat),v=.int .i64 ((n:Int)+1)/\u=.slice a l.length cap/\l.length<=cap/\cap<=maxLen/\Hid (l=DT AH ds (b.take n))/\DQ wr a l/\Hid (∀x,a=some x->lo<=x.block/\x.block<hi)/\n<=23/\n<=b.length/\
  Hid (tk (ds.map AH) b 25 1=tk (ds.map AH) b (25-n) (n+1))/\Hid (∀x∈l,n<x.1.size/\x.1.size<=24)/\Below (B+2) w0 wr/\AG wr rb s p) (fun _ v _=>25-(intOf v).toNat)
 case atStart=>exact⟨0,q,ds,cap,rfl,rfl,h2,h3,Dl b5.out.symm,b7.out,Dl b4.out,by omega,Dn _,Dl rfl,Dl b6.out,ar,aq⟩
 case round=>
  clear ar aq h2 h3;obtain⟨n,a,l,cap,rfl,rfl,av,aw,hl,hc,ha,hn,b8,ax,G,hb,hr⟩:=hrel;unfold maxLen at aw;have R:tk (ds.map AH) b (25-n) (n+1)=if b.length<n+1 then (2,0) else if b.take (n+1)∈ds.map AH then (0,n+1) else if (ds.map AH).any (fun r=>(b.take (n+1)).isPrefixOf r)=true then tk (ds.map AH) b (24-n) (n+1+1) else (3,0):=by
   rw[show 25-n=(24-n)+1 by omega,tk]
  have U:=Dl (ax.out.trans R);clear R ax
  go_wp2_with fail
  refine(FD _ _ _ _ ((n:Int)+1) hr).mono ?_;rintro e S ⟨rfl,N⟩;have H:=hr.below N;have ay:=hc.below N;have aa:Below (B+2) w0 S:=hb.trans (N.mono (by rw[<-bm.out];exact hb.size));have ab:=b1.out S aa;obtain⟨z,az⟩:=bj.out S aa;obtain⟨n0,n1,_,_⟩:=PF az;obtain⟨r0,r1,f0,f1⟩:=PF z;have I:w.heap.size<=B:=Lw bw.out;clear hr hc hb N;by_cases A:b.length<n+1
  ·have j:ask s.data.toList p ((n:Int)+1)=(0,2):=FG (by omega) (by rw[Q.out] at A;have:s.data.toList.length=s.size:=rfl;omega);have F:=Dl (U.out.trans (Bc A));rw[j];clear A
   go_wp2
   exact J7 (BF rfl _ _ B 272 _ (0,0) _ rfl (Sj z) underlying272 rfl (by kernel_rfl)) rfl (XK (by rw[D.out];exact F.out) (by decide) (SS H (by omega)) (RC ab I))
  ·have hfit:p+(n+1)<=8*s.size:=by rw[Q.out] at A;omega
   have j:ask s.data.toList p ((n:Int)+1)=(((AD s.data.toList p (n+1):Nat):Int),0):=by
    have:=E7 (l:=s.data.toList) (p:=p) (n:=(n:Int)+1) (by omega) (by have:s.data.toList.length=s.size:=rfl;omega);rw[this,show ((n:Int)+1).toNat=n+1 by omega]
   have bo:=Dl (U.out.trans (Bb A));obtain⟨a0,T⟩:=P6 s.data.toList p n hfit;have ac:∃c:UInt8,(c=48\/c=49)/\b[n]? =some c/\AD s.data.toList p (n+1)%2+48=c.toNat:=by
    have e:b[n]? =some ((AA s.data.toList).drop p)[n]:=by rw[<-D.out];exact Fe a0
    rcases T with ⟨h1,h2⟩|⟨h1,h2⟩
    ·exact⟨48,.inl rfl,by rw[e,h1],by rw[h2];rfl⟩
    ·exact⟨49,.inr rfl,by rw[e,h1],by rw[h2];rfl⟩
   obtain⟨c,V,a1,i⟩:=ac;have bp:AD s.data.toList p (n+1)<=4294967296:=by
    have h1:=EA s.data.toList p (n+1);have h2:2^(n+1)<=2^32:=Bt (by omega) (by omega);omega
   rw[j];clear A U j T a0;obtain⟨t,a3⟩:=Ai (AD s.data.toList p (n+1));rw[a3] at i bp ⊢;have bq:=Dl V;have b9:=Dl a1;have ck:=Dl i;have W:(48+bits .and .i64 ((t:Nat):Int) 1)%256=(c.toNat:Int):=by
    have h1:bits .and .i64 ((t:Nat):Int) 1=(t:Int)%2:=KE (t:Int) 1 (by omega);rw[h1];omega
   have ca:=Dl W;clear V a1 i a3 W
   go_wp2_with fail
   rw[ca.out];refine(jV l a cap n c S ay av (by unfold maxLen;omega) G.out).mono ?_;rintro e w2 ⟨a2,cap2,rfl,rfl,J,ad,br,a4⟩;have a5:(if c=48 then l.takeWhile (BL AH n) else l.dropWhile (BL AH n))=DT AH ds (b.take (n+1)):=by
    have a6:(b.take n).length=n:=by rw[Be];omega
    have f:=YD AH (l:=ds) (q:=b.take n) b3.out (fun x f=>(GI (bn.out x f)).2.2) (by rw[a6,<-hl.out];exact fun x f=>(G.out x f).1);rw[a6,<-hl.out] at f;have bt:b.take (n+1)=b.take n++[c]:=by
     rw[List.take_add_one,b9.out];rfl
    rw[bt];rcases bq.out with e|e
    ·rw[e,Bc rfl];exact f.1
    ·rw[e,Bb (by decide)];exact f.2
   rw[a5] at J ad ⊢;obtain⟨l2,K⟩:=Ai (DT AH ds (b.take (n+1)));rw[K] at J ad ⊢;have O:=Dl K;have a7:Hid (∀x,a2=some x->lo<=x.block/\x.block<hi):=Dl (fun x f=>by
    obtain⟨y,hy,hb⟩:=a4 x f;rw[<-hb];exact ha.out y hy)
   unfold maxLen at br;clear a5 K a4 ay av aw ha hl G;by_cases h0:l2=[]
   ·have F:Hid (tk (ds.map AH) b 25 1=(3,0)):=Dl (by
     have ae:(ds.map AH).any (fun r=>(b.take (n+1)).isPrefixOf r)=false:=by
      rw[M1];intro r hr hp;obtain⟨x,f,rfl⟩:=M4.1 hr;have:x∈DT AH ds (b.take (n+1)):=Js.2 ⟨f,hp⟩;rw[O.out,h0] at this;cases this
     rw[bo.out,Bb,Bb (by rw[ae];decide)];intro hm;rw[M1] at ae;exact ae _ hm (IF _))
    subst h0
    go_wp2
    exact J7 (BF rfl _ _ B 272 _ (0,0) _ rfl (Sj z) underlying272 rfl (by kernel_rfl)) rfl (XK (by rw[D.out];exact F.out) (by decide) (SS H (by omega)) (RC ab I))
   ·obtain⟨y,l3,rfl⟩:∃y l3,l2=y::l3:=by
     cases l2 with
     |nil=>exact absurd rfl h0
     |cons y l3=>exact⟨y,l3,rfl⟩
    obtain⟨cb,o,rfl,a8,d⟩:=J.at (by simp);have c0:=(d 0 (by simp)).1;have c1:=(d 0 (by simp)).2.1;have c2:=(d 0 (by simp)).2.2;simp only[Jy,Cf,Cw] at c0 c1 c2;have cc:(((l3.length:Nat):Int)+1==0)=false:=by rw[Ez];omega
    have X:y∈DT AH ds (b.take (n+1)):=by rw[O.out];exact Eu
    obtain⟨af,ag⟩:=Js.1 X;have ah:n+1<=y.1.size/\y.1.size<=24:=by
     have h1:=H3 ag;rw[Be] at h1;have h2:=(GI (bn.out y af)).2.1;have h3:(AH y).length=y.1.size:=rfl;have h4:n+1<=b.length:=by rw[Q.out];omega
     omega
    have a9:=Dl af;have bh:=Dl ag;have cl:=Dl d;have cd:=Dl J;clear X af ag d J h0;obtain⟨y0,y1⟩:=ah;by_cases ai:y.1.size=n+1
    ·have g0:((y.1.size:Int)==(n:Int)+1)=true:=by rw[Bm];omega
     have F:Hid (tk (ds.map AH) b 25 1=(0,n+1)/\∃x∈ds,AH x=b.take (n+1)/\x.2=y.2):=Dl (by
      have h1:b.take (n+1)=AH y:=by
       have h2:=F4.1 bh.out;have h3:(AH y).length=n+1:=ai;rw[Be,Bw (by rw[Q.out];omega),Bh (by omega)] at h2;exact h2.symm
      refine⟨?_,y,a9.out,h1.symm,rfl⟩;rw[bo.out,Bc (by rw[h1];exact Kq a9.out)])
     have ba:cb≠rb:=by have:=a7.out _ rfl;simp at this;omega
     have bb:∀x,S.grownBy x (some rb)->x.cell? ⟨cb,o+1,none⟩=some (.int .i64 (sA y.2))/\x.cell? ⟨cb,o+2,none⟩=some (.int .i64 (sB y.2))/\x.heap[B]? =some (KX 0 0):=fun x f=>
      ⟨(Lo (a:=⟨cb,o+1,none⟩) (f.block cb a8 (by intro e;injection e with e;exact ba e))).trans c1,(Lo (a:=⟨cb,o+2,none⟩) (f.block cb a8 (by intro e;injection e with e;exact ba e))).trans c2,
       (f.block B (Dy.1 z).1 (by intro e;injection e with e;omega)).trans z⟩
     have ce:=Dl bb;have bz:AG S.drew rb s p:=H;have cf:p<=1125899906842624:=by have:=H.2;omega
     have cg:p+(n+1)<=8*s.size:=hfit;clear ai bb
     go_wp2_with fail
     have sw:IntKind.i64.wrap ((p:Int)+((n:Int)+1))=(p:Int)+((n:Int)+1):=M3 _ (by omega)
     go_region_with (first|(go_at_call 28;refine(E1 _ _ _ _ (by assumption)).mono ?_;rintro e w3 ⟨rfl,rfl⟩)|(go_at_call 91;refine(GA _ _ _ _ _ (by assumption) (by omega) (by omega)).mono ?_;rintro e w3 ⟨rfl,bc,bd⟩;obtain⟨c3,c4,bf⟩:=ce.out w3 (AO (JX S _) bd);obtain⟨ch,ci,f30,f31⟩:=PF bf))
     all_goals
      rw[show ((p:Int)+((n:Int)+1)).toNat=p+(n+1) by omega] at bc;have bu:=AO ab (AO (JX S _) bd)
      go_wp2
      exact J7 (BF rfl _ _ B 272 _ (0,0) _ rfl (Sj bf) underlying272 rfl (by kernel_rfl)) rfl (bO (by rw[D.out];exact F.out.1) (by rw[D.out];exact F.out.2) (SS bc (by omega)) (RC bu I))
    ·have g0:((y.1.size:Int)==(n:Int)+1)=false:=by rw[Ez];omega
     have Y:∀x,x∈DT AH ds (b.take (n+1))->(AH x).length≠n+1:=by
      intro x f bg;obtain⟨aj,ak⟩:=Js.1 f;have h2:=F4.1 ak;rw[Be,Bw (by rw[Q.out];omega),Bh (by omega)] at h2;have h3:=N2 bx.out (x:=AH x) (y:=AH y) (Kq aj) (Kq a9.out) (by rw[h2];exact bh.out);have h4:(AH y).length=y.1.size:=rfl;rw[h3] at bg;omega
     have F:Hid (tk (ds.map AH) b 25 1=tk (ds.map AH) b (25-(n+1)) (n+1+1)):=Dl (by
      rw[bo.out,Bb,Bc (K8.2 ⟨AH y,Kq a9.out,bh.out⟩),show 25-(n+1)=24-n by omega];intro hm;have h3:=N2 bx.out hm (Kq a9.out) bh.out;have h4:=C8 List.length h3;rw[Be,Bw (by rw[Q.out];omega)] at h4;exact ai h4.symm)
     have cj:Hid (∀x∈y::l3,n+1<x.1.size/\x.1.size<=24):=Dl (fun x f=>by
      rw[<-O.out] at f;obtain⟨aj,ak⟩:=Js.1 f;have h1:=H3 ak;rw[Be,Bw (by rw[Q.out];omega)] at h1;have h2:=(GI (bn.out x aj)).2.1;have h3:(AH x).length=x.1.size:=rfl;have h4:=Y x f;omega)
     have bv:n+1<=b.length:=by rw[Q.out];omega
     clear Y c1 c2 z az n0 n1 r0 r1 f0 f1
     go_wp2
     go_roundw
     case rel=>exact⟨n+1,_,y::l3,cap2,by go_num,rfl,ad,by unfold maxLen;omega,Dl O.out.symm,cd.out,a7,by omega,bv,F,cj,aa,H⟩
     case measure=>simp[intOf];omega
abbrev KP (x:ByteArray×Int):Lit:=.int .i64 x.2
theorem To (s:Int):WideAt.IsKeyLit (.int .i64 s):=trivial
def KT (x:ByteArray×Int):Ab Unit:=.lit (.string x.1.data.toList)
def OY (D:Ab Unit)(l:List (ByteArray×Int)):Ab Unit:=l.foldl (fun D x=>D.put (KP x) (KT x)) D
def IH (l:List (ByteArray×Int)):Ab Unit:=OY (.map []) l
theorem qZ (l:List (ByteArray×Int))(j:Nat)(h:j<l.length):IH (l.take (j+1))=(IH (l.take j)).put (KP l[j]) (KT l[j]):=by
 unfold IH OY;rw[Bd h,Lu]
 rfl
theorem Wc {s t:Int}(h:s≠t):(Lit.int .i64 s)≠.int .i64 t:=by
 intro e;injection e with _ e;exact h e
theorem Rw:∀{l:List (ByteArray×Int)} {D:Ab Unit} {acc:List Int},Tidy D->(∀s,has D (.int .i64 s)=true↔s∈acc)->size D=acc.length->acc.Nodup->
  size (OY D l)<=acc.length+l.length/\(size (OY D l)=acc.length+l.length↔(acc++l.map (·.2)).Nodup)
 |[],D,acc,_,_,h,hn=>⟨by show size D<=_;omega,by rw[Cr,Ew];exact⟨fun _=>hn,fun _=>h⟩⟩
 |x::l,D,acc,ht,hh,hs,hn=>by
  have f:=ht.put (k:=KP x) (To _) (KT x);by_cases g:x.2∈acc
  ·have c:∀s,has (D.put (KP x) (KT x)) (.int .i64 s)=true↔s∈acc:=by
    intro s;by_cases e:s=x.2
    ·subst e;exact⟨fun _=>g,fun _=>M8 ht.isMap (To _) _⟩
    ·rw[M5 (Wc e)];exact hh s
   have d:size (D.put (KP x) (KT x))=acc.length:=by
    rw[size_put ht,Bc ((hh x.2).2 g)];exact hs
   obtain⟨i,_⟩:=Rw (l:=l) f c d hn;rw[Bi];refine⟨Ea i (by omega),⟨fun e=>?_,fun hd=>?_⟩⟩
   ·exfalso;have o:size (OY (D.put (KP x) (KT x)) l)=acc.length+(l.length+1):=e;omega
   ·exfalso;exact(M0.1 hd).2.2 x.2 g x.2 (by simp) rfl
  ·have c:∀s,has (D.put (KP x) (KT x)) (.int .i64 s)=true↔s∈acc++[x.2]:=by
    intro s;rw[List.mem_append,Df];by_cases e:s=x.2
    ·subst e;exact⟨fun _=>.inr rfl,fun _=>M8 ht.isMap (To _) _⟩
    ·rw[M5 (Wc e),hh s];exact⟨.inl,fun h=>h.resolve_right e⟩
   have d:size (D.put (KP x) (KT x))=(acc++[x.2]).length:=by
    rw[size_put ht,Bb (fun h=>g ((hh x.2).1 h)),B9,Bo,hs]
   have hn2:(acc++[x.2]).Nodup:=M0.2 ⟨hn,by simp,fun a n b m e=>g (by rw[Df] at m;rw[<-m,<-e];exact n)⟩;obtain⟨i,j⟩:=Rw (l:=l) f c d hn2;rw[B9,Bo] at i j;rw[Bi,Ci];rw[Bf] at j;refine⟨Ea i (by omega),?_⟩;rw[show acc.length+(l.length+1)=acc.length+1+l.length by omega]
   exact j
theorem wW (l:List (ByteArray×Int)):size (IH l)<=l.length/\(size (IH l)=l.length↔(l.map (·.2)).Nodup):=by
 have:=Rw (l:=l) (D:=(.map []:Ab Unit)) (acc:=[]) tidy_empty (fun s=>by simp[Maps.has]) rfl List.nodup_nil;simp only[By,Br,Ce] at this;exact this
def OM (w:A5)(m:Option Nat)(ds:List (ByteArray×Int)):Prop:=
 (m=none/\ds=[])\/∃a n l,m=some a/\w.ownsMap prog 3 (plainElem prog 9) a n (IH l)/\(l.map (·.2)).Nodup/\l.Perm ds
theorem OM.below {w b:A5}{m:Option Nat}{ds:List (ByteArray×Int)}(h:OM w m ds)(a:Below w.heap.size w b):OM b m ds:=by
 rcases h with h|⟨c,n,l,rfl,ho,hn,d⟩
 ·exact .inl h
 ·refine .inr ⟨c,n,l,rfl,?_,hn,d⟩;exact ho.kept (row:=none) ⟨a.os,a.tape,a.output,a.size,fun k e _=>a.block k e⟩ (by simp)
theorem nW:Keyed prog 3:=int_keyed Lv
def Tw (p:Option Aa)(l:List (ByteArray×Int))(at_:Nat)(c:UInt8)(w:A5)(e:Ae)(d:A5):Prop:=
 ∃q cap,e=.returned (.slice q (if c=48 then l.takeWhile (BL AC at_) else l.dropWhile (BL AC at_)).length cap)/\w=d/\Cds w q (if c=48 then l.takeWhile (BL AC at_) else l.dropWhile (BL AC at_))/\
  (if c=48 then l.takeWhile (BL AC at_) else l.dropWhile (BL AC at_)).length<=cap/\cap<=maxLen/\∀a,q=some a->∃b,p=some b/\b.block=a.block
theorem uI {α:Type}(p:α->Bool)(l:List α)(k:Nat)(h1:∀i,(h:i<l.length)->i<k->p l[i]=true)(h2:∀h:k<l.length,p l[k]=false)(a:k<=l.length):l.takeWhile p=l.take k/\l.dropWhile p=l.drop k:=by
 induction l generalizing k with
 |nil=>simp
 |cons x l c=>
  cases k with
  |zero=>
   have:=h2 (by simp);simp only[Jy] at this;simp[this]
  |succ k=>
   have b:=h1 0 (by simp) (by omega);simp only[Jy] at b;have:=c k (fun i hi d=>by have:=h1 (i+1) (by simpa using hi) (by omega);simpa using this) (fun a=>by have:=h2 (by simpa using a);simpa using this) (by simpa using a);simp[b,this.1,this.2]
theorem cV (x:ByteArray×Int)(at_:Nat)(h:at_<x.1.size):BL AC at_ x=(x.1[at_]==48):=by
 unfold BL AC;have e:x.1.data.toList[at_]? =some x.1[at_]:=Fe (show at_<x.1.data.toList.length from h);rw[e]
 rfl
theorem QL {l:List (ByteArray×Int)}{at_ k:Nat}{c:UInt8}{w:A5}{p q:Option Aa}{n cap:Nat}(h1:∀i,(h:i<l.length)->i<k->BL AC at_ l[i]=true)(h2:∀h:k<l.length,BL AC at_ l[k]=false)(g:k<=l.length)
  (hn:n=if c=48 then k else l.length-k)(d:Cds w q (if c=48 then l.take k else l.drop k))(e:n<=cap)(hm:cap<=maxLen)(b:∀a,q=some a->∃f,p=some f/\f.block=a.block):Tw p l at_ c w (.returned (.slice q n cap)) w:=by
 obtain⟨j,m⟩:=uI (BL AC at_) l k h1 h2 g;unfold Tw;rw[j,m];by_cases hc:c=48
 ·simp only[hc,Kl] at hn d ⊢;have hl:(l.take k).length=k:=by rw[Be];omega
  exact⟨q,cap,by rw[hl,hn],trivial,d,by omega,hm,b⟩
 ·simp only[hc,Jb] at hn d ⊢;have hl:(l.drop k).length=l.length-k:=Bj;exact⟨q,cap,by rw[hl,hn],trivial,d,by omega,hm,b⟩
theorem vI {p:Option Aa}:∀a,p=some a->∃b,p=some b/\b.block=a.block:=fun a h=>⟨a,h,rfl⟩
theorem yO {p:Option Aa}{n:Nat}:∀a,Option.map (fun x=>Addr.add x n) p=some a->∃c,p=some c/\c.block=a.block:=by
 intro a h;cases p with
 |none=>cases h
 |some b=>cases h;exact⟨b,rfl,by show b.block=(b.add n).block;unfold Addr.add;split <;> rfl⟩
set_option maxRecDepth 100000 in
theorem eV (l:List (ByteArray×Int))(p:Option Aa)(cap at_:Nat)(c:UInt8)(w:A5)(hc:Cds w p l)(D:l.length<=cap)(q:cap<=maxLen)(m:∀x∈l,at_<x.1.size/\x.1.size<=24):
  A9 prog 254 #[.slice p l.length cap,.int .i64 (at_:Int),.int .u8 (c.toNat:Int)] w (Tw p l at_ c w):=by
 unfold maxLen at q;have E:=Dl m;clear m;have v:(c=48/\((c.toNat:Int)==48)=true)\/(c≠48/\((c.toNat:Int)==48)=false):=by
  by_cases h:c=48
  ·exact .inl ⟨h,by rw[h];rfl⟩
  ·refine .inr ⟨h,?_⟩;rw[Ez];intro e;exact h (Ka.1 (by show c.toNat=48;omega))
 go_enter func254,ntmps254
 go_wp2
 go_loop [7] (fun i=>∃k:Nat,k<=l.length/\i=.int .i64 k/\Hid (∀i,(h:i<l.length)->i<k->BL AC at_ l[i]=true)) (fun i=>l.length-(intOf i).toNat)
 case atStart=>exact⟨0,Dn _,rfl,Dl (fun i _ h=>absurd h (Fc i))⟩
 case round=>
  obtain⟨k,t,rfl,g⟩:=hrel;by_cases r:k<l.length
  ·obtain⟨b,o,rfl,_,f⟩:=hc.at (by omega);have F:=(f k r).1;have A:=E.out l[k] (Bl r);obtain⟨x,n⟩:=Ai (l[k]);rw[n] at F A;obtain⟨y,G⟩:=A;have B:=Dl (show BL AC at_ l[k]=(x.1[at_]==48) by rw[n];exact cV x at_ y);have u:=Dl hc;clear f n hc;by_cases j:x.1[at_].toNat=48
   ·have H:((x.1[at_].toNat:Int)==48)=true:=by rw[j];rfl
    have I:Hid (∀i,(h:i<l.length)->i<k+1->BL AC at_ l[i]=true):=Dl (fun i hi h=>by
     by_cases e:i=k
     ·subst e;rw[B.out,Ka.1 (show x.1[at_].toNat=(48:UInt8).toNat from j)]
      rfl
     ·exact g.out i hi (by omega))
    clear j v
    go_wp2
    go_round
    case rel=>exact⟨k+1,by omega,by go_num,I⟩
    case measure=>simp[intOf];omega
   ·have H:((x.1[at_].toNat:Int)==48)=false:=by rw[Ez];omega
    have s:Hid (∀h:k<l.length,BL AC at_ l[k]=false):=Dl (fun _=>by
     rw[B.out,Ez];intro e;exact j (by rw[e];rfl))
    clear j;rcases v with ⟨d,z⟩|⟨d,z⟩
    ·have C:=Dl d;clear d
     go_wp2
     go_ret
     exact QL g.out s.out t (by rw[Bc C.out]) (by rw[Bc C.out];exact u.out.take k) (by omega) (by unfold maxLen;omega) (fun a h=>⟨a,h,rfl⟩)
    ·have C:=Dl d;clear d
     go_wp2
     go_ret
     exact QL g.out s.out t (by rw[Bb C.out]) (by rw[Bb C.out];exact u.out.drop k) (by omega) (by unfold maxLen;omega) (fun a h=>⟨_,rfl,by cases h;rfl⟩)
  ·obtain rfl:k=l.length:=by omega
   have s:Hid (∀h:l.length<l.length,BL AC at_ l[l.length]=false):=Dl (fun h=>absurd h (Nat.lt_irrefl _));have u:=Dl hc;clear hc;rcases v with ⟨d,z⟩|⟨d,z⟩
   ·have C:=Dl d;clear d
    go_wp2
    go_ret
    exact QL g.out s.out t (by rw[Bc C.out]) (by rw[Bc C.out];exact u.out.take _) (by omega) (by unfold maxLen;omega) (fun a h=>⟨a,h,rfl⟩)
   ·have C:=Dl d;clear d
    go_wp2
    all_goals
     go_ret
     exact QL g.out s.out t (by rw[Bb C.out,Cl]) (by rw[Bb C.out,List.drop_length];exact .inl rfl) (by omega) (by unfold maxLen;omega) (by first|exact vI|exact yO)
def fO (m:Option Nat)(q:Option Aa)(n cap:Nat)(L:Int):List A0:=[.map m,.slice q n cap,.int .i64 L]
def I1 (m:Option Nat)(q:Option Aa)(n cap:Nat)(L:Int):Obj:=.cells (fO m q n cap L).toArray 288 (0,0)
def Tb (w:A5)(lo N b:Nat)(ds:List (ByteArray×Int))(L:Int):Prop:=
 ∃(m:Option Nat) (q:Option Aa) (cap:Nat),w.heap[b]? =some (I1 m q ds.length cap L)/\ds.length<=cap/\cap<=maxLen/\Cds w q ds/\OM w m ds/\∀a,q=some a->lo<=a.block/\a.block<N
theorem qS (s:ByteArray)(hs:s.size<=maxLen)(w:A5):
  A9 prog 249 #[.string s] w fun e j=>e=.returned (.bool (BM s.data.toList))/\Below w.heap.size w j:=by
 unfold maxLen at hs;have b:s.data.toList.length=s.size:=rfl;by_cases a:s.data.toList=[]
 ·have F:=Dl (show BM s.data.toList=false by rw[a];rfl);have k:s.toList.isEmpty=true:=by rw[J9,a];rfl
  have f:s.toList=[]:=by rw[J9,a]
  clear a b
  go_enter func249,M9
  go_wp2
  go_ret
  exact⟨AB F.out.symm,Dm _ _⟩
 have k:s.toList.isEmpty=false:=by rw[J9];simpa using a
 by_cases g:24<s.size
 ·have F:=Dl (show BM s.data.toList=false by
   cases h:BM s.data.toList with
   |false=>rfl
   |true=>have:=(GI h).2.1;omega)
  have f:decide ((s.size:Int)<=24)=false:=by simp;omega
  clear a b g
  go_enter func249,M9
  go_wp2
  go_ret
  exact⟨AB F.out.symm,Dm _ _⟩
 have f:decide ((s.size:Int)<=24)=true:=by simp;omega
 have i:BM s.data.toList=AK s.data.toList:=by
  cases h:AK s.data.toList with
  |true=>exact Yw a (by omega) h
  |false=>
   cases h2:BM s.data.toList with
   |false=>rfl
   |true=>rw[(GI h2).2.2] at h;cases h
 have c:(Lib.trimS s.data.toList [48,49]).isEmpty=BM s.data.toList:=by
  rw[i,Ju,List.isEmpty_iff,WI]
 obtain⟨r,hr⟩:=Ai ((⟨(Lib.trimS s.data.toList [48,49]).toArray⟩:ByteArray));have d:r.toList.isEmpty=BM s.data.toList:=by rw[<-c,<-hr,J9]
 have l:=Dl hr;have m:=Dl d;clear a b g i c hr d
 go_enter func249,M9
 go_wp2_with fail
 refine(Xv s hs _).mono ?_;rintro e o ⟨rfl,n⟩;rw[l.out]
 go_wp2
 go_ret
 exact⟨AB m.out,n⟩
set_option maxRecDepth 100000 in
theorem iO (l:List (ByteArray×Int))(p:Option Aa)(cap:Nat)(w:A5)(r:Bool)(hr:r=true↔∃i,∃h:i+1<l.length,(AC l[i]).isPrefixOf (AC l[i+1])=true)(hc:Cds w p l)(hm:l.length<=1048576):
  A9 prog 253 #[.slice p l.length cap] w fun e s=>e=.returned (.bool r)/\Below w.heap.size w s:=by
 have R:=Dl hr;clear hr;obtain⟨B,t⟩:=Ai w.heap.size;have z:∀x,Below B w x->∀i,(h:i<l.length)->∃b o,p=some ⟨b,o,none⟩/\∀j,(h:j<l.length)->x.cell? ⟨b,o+j*2,none⟩=some (.string l[j].1):=by
  intro x g i hi;obtain⟨b,o,rfl,A,c⟩:=hc.at (by omega);exact⟨b,o,rfl,fun j hj=>(Lo (a:=⟨b,o+j*2,none⟩) (g.block b (by omega))).trans (c j hj).1⟩
 have H:=Dl z;have m:Below B w w:=Dm _ _;have J:=Dl t;rw[t];clear z hc t
 go_enter func253,ntmps253
 go_wp2
 go_loopw [3] (fun i wr=>∃k:Nat,(k<l.length\/k=0)/\i=.int .i64 ((k:Int)+1)/\Below B w wr/\Hid (∀i,(h:i+1<l.length)->i<k->(AC l[i]).isPrefixOf (AC l[i+1])=false)) (fun i _=>l.length+1-(intOf i).toNat)
 case atStart=>exact⟨0,.inr rfl,rfl,m,Dl (fun i _ h=>absurd h (Fc i))⟩
 case round=>
  clear m;obtain⟨k,C,rfl,q,n⟩:=hrel;by_cases f:k+1<l.length
  ·obtain⟨b,o,rfl,c⟩:=H.out wr q (k+1) f;have c1:=c (k+1) f;have I:=c k (by omega);obtain⟨x,g⟩:=Ai (l[k+1]);obtain⟨y,u⟩:=Ai (l[k]);rw[g] at c1;rw[u] at I;have D:=Dl g;have E:=Dl u;have t0:decide ((k:Int)+1<l.length)=true:=by simp;omega
   have d:∀w,A9 prog 197 #[.string x.1,.string y.1] w fun e s=>e=.returned (.bool (y.1.data.toList.isPrefixOf x.1.data.toList))/\s=w:=fun w=>Rz x.1 y.1 w;clear c C g u;cases hpre:y.1.data.toList.isPrefixOf x.1.data.toList with
   |true=>
    rw[hpre] at d;have F:=Dl (R.out.2 ⟨k,f,by rw[D.out,E.out];exact hpre⟩);have v:=Dl d;clear hpre d
    go_wp2_with fail
    go_quiet ((go_at_call 197;exact Lz (v.out _)))
    go_wp2
    go_ret
    exact⟨AB F.out.symm,NE q _⟩
   |false=>
    rw[hpre] at d;have F:Hid (∀i,(h:i+1<l.length)->i<k+1->(AC l[i]).isPrefixOf (AC l[i+1])=false):=Dl (fun i hi h=>by
     by_cases e:i=k
     ·subst e;rw[D.out,E.out];exact hpre
     ·exact n.out i hi (by omega))
    have v:=Dl d;clear hpre d
    go_wp2_with fail
    go_quiet ((go_at_call 197;exact Lz (v.out _)))
    go_wp2
    go_roundw
    case rel=>exact⟨k+1,.inl f,by go_num,NE q _,F⟩
    case measure=>simp[intOf];omega
  ·have F:=Dl (show r=false by
    cases hrr:r with
    |false=>rfl
    |true=>
     obtain⟨i,hi,G⟩:=R.out.1 hrr;rw[n.out i hi (by omega)] at G;cases G)
   have t0:decide ((k:Int)+1<l.length)=false:=by simp;omega
   clear f C
   go_wp2
   go_ret
   exact⟨AB F.out.symm,q⟩
def PD (ds:List (ByteArray×Int))(s:ByteArray)(rb p:Nat)(w:A5)(e:Ae)(a:A5):Prop:=
 ∃v:Int,e=.returned (.tuple #[.int .i64 v,.int .i64 (tk (ds.map AC) ((AA s.data.toList).drop p) 25 1).1])/\
  ((tk (ds.map AC) ((AA s.data.toList).drop p) 25 1).1=0->∃x∈ds,AC x=((AA s.data.toList).drop p).take (tk (ds.map AC) ((AA s.data.toList).drop p) 25 1).2/\x.2=v)/\
  ((tk (ds.map AC) ((AA s.data.toList).drop p) 25 1).1≠0->v=0)/\AG a rb s (p+(tk (ds.map AC) ((AA s.data.toList).drop p) 25 1).2)/\w.grownBy a (some rb)
theorem XY {ds:List (ByteArray×Int)}{s:ByteArray}{rb p:Nat}{w a:A5}{f:Int}(h:tk (ds.map AC) ((AA s.data.toList).drop p) 25 1=(f,0))(b:f≠0)(hr:AG a rb s p)(c:w.grownBy a (some rb)):
  PD ds s rb p w (.returned (.tuple #[.int .i64 0,.int .i64 f])) a:=by
 unfold PD;rw[h];exact⟨0,rfl,fun e=>absurd e b,fun _=>rfl,hr,c⟩
theorem mB {ds:List (ByteArray×Int)}{s:ByteArray}{rb p n:Nat}{w a:A5}{v:Int}(h:tk (ds.map AC) ((AA s.data.toList).drop p) 25 1=(0,n))(b:∃x∈ds,AC x=((AA s.data.toList).drop p).take n/\x.2=v)(hr:AG a rb s (p+n))(c:w.grownBy a (some rb)):
  PD ds s rb p w (.returned (.tuple #[.int .i64 v,.int .i64 0])) a:=by
 unfold PD;rw[h];exact⟨v,rfl,fun _=>b,fun e=>absurd rfl e,hr,c⟩
set_option maxRecDepth 100000 in
theorem pK (w:A5)(lo N tb rb:Nat)(ds:List (ByteArray×Int))(L:Int)(s:ByteArray)(p:Nat)(ht:Tb w lo N tb ds L)(hr:AG w rb s p)(hN:rb<lo\/N<=rb)
  (hs:ds.Pairwise fun x y=>leL (AC x) (AC y)=true)(hf:BY (ds.map AC))(ho:∀x∈ds,BM (AC x)=true):
  A9 prog 240 #[.pointer (some ⟨tb,0,none⟩),.pointer (some ⟨rb,0,none⟩)] w (PD ds s rb p w):=by
 obtain⟨m,q,cap,h1,h2,h3,hc,_,hq⟩:=ht;have c1:w.cell? ⟨tb,1,none⟩=some (.slice q ds.length cap):=A2 h1 rfl;obtain⟨b,T⟩:=Ai ((AA s.data.toList).drop p);have ag:b.length=8*s.size-p:=by rw[<-T,Bj,BB];rfl
 have bh:=hr.2.1;obtain⟨B,hB⟩:=Ai w.heap.size;have ah:Below B w w:=Dm _ _;have bd:=Dl hB;have bi:=Dl hs;have bf:=Dl hf;have a3:=Dl ho;have A:=Dl T;have K:=Dl ag;have bj:=Dl hq;have ai:DT AC ds (b.take 0)=ds:=by rw[Bk];exact Vd AC ds
 have bk:=Dl ai;have C:∀x∈ds,0<x.1.size/\x.1.size<=24:=fun x f=>by
  have h:=GI (ho x f);have h1:(AC x).length=x.1.size:=rfl;have h2:=Ly.2 h.1;omega
 have bl:=Dl C;have bm:=Dl hc;clear h1 hB hs hf ho T ag hq ai hc C
 go_enter func240,ntmps240
 go_wp2
 go_loopw [7,8] (fun u v wr=>∃(n:Nat) (a:Option Aa) (l:List (ByteArray×Int)) (cap:Nat),v=.int .i64 ((n:Int)+1)/\u=.slice a l.length cap/\l.length<=cap/\cap<=maxLen/\Hid (l=DT AC ds (b.take n))/\Cds wr a l/\Hid (∀x,a=some x->lo<=x.block/\x.block<N)/\n<=23/\n<=b.length/\
  Hid (tk (ds.map AC) b 25 1=tk (ds.map AC) b (25-n) (n+1))/\Hid (∀x∈l,n<x.1.size/\x.1.size<=24)/\Below B w wr/\AG wr rb s p) (fun _ v _=>25-(intOf v).toNat)
 case atStart=>exact⟨0,q,ds,cap,rfl,rfl,h2,h3,Dl bk.out.symm,bm.out,Dl bj.out,by omega,Dn _,Dl rfl,Dl bl.out,ah,hr⟩
 case round=>
  clear ah hr h2 h3 c1;obtain⟨n,a,l,cap,rfl,rfl,aj,ak,hl,hc,ha,hn,bn,al,D,hb,hr⟩:=hrel;unfold maxLen at ak;have M:tk (ds.map AC) b (25-n) (n+1)=if b.length<n+1 then (2,0) else if b.take (n+1)∈ds.map AC then (0,n+1) else if (ds.map AC).any (fun r=>(b.take (n+1)).isPrefixOf r)=true then tk (ds.map AC) b (24-n) (n+1+1) else (3,0):=by
   rw[show 25-n=(24-n)+1 by omega,tk]
  have U:=Dl (al.out.trans M);clear M al
  go_wp2_with fail
  refine(FD _ _ _ _ ((n:Int)+1) hr).mono ?_;rintro e V ⟨rfl,I⟩;have E:=hr.below I;have am:=hc.below I;have g:Below B w V:=hb.trans (I.mono (by rw[<-bd.out];exact hb.size));have W:w.grownBy V (some rb):=by
   rw[<-bd.out] at g;exact⟨g.os,g.tape,g.output,g.size,fun k hk _=>g.block k hk⟩
  clear hr hc hb I;by_cases z:b.length<n+1
  ·have j:ask s.data.toList p ((n:Int)+1)=(0,2):=FG (by omega) (by rw[K.out] at z;have:s.data.toList.length=s.size:=rfl;omega);have F:=Dl (U.out.trans (Bc z));rw[j];clear z
   go_wp2
   go_ret2
   exact XY (by rw[A.out];exact F.out) (by decide) E W
  ·have hfit:p+(n+1)<=8*s.size:=by rw[K.out] at z;omega
   have j:ask s.data.toList p ((n:Int)+1)=(((AD s.data.toList p (n+1):Nat):Int),0):=by
    have:=E7 (l:=s.data.toList) (p:=p) (n:=(n:Int)+1) (by omega) (by have:s.data.toList.length=s.size:=rfl;omega);rw[this,show ((n:Int)+1).toNat=n+1 by omega]
   have a4:=Dl (U.out.trans (Bb z));obtain⟨an,O⟩:=P6 s.data.toList p n hfit;have X:∃c:UInt8,(c=48\/c=49)/\b[n]? =some c/\AD s.data.toList p (n+1)%2+48=c.toNat:=by
    have e:b[n]? =some ((AA s.data.toList).drop p)[n]:=by rw[<-A.out];exact Fe an
    rcases O with ⟨h1,h2⟩|⟨h1,h2⟩
    ·exact⟨48,.inl rfl,by rw[e,h1],by rw[h2];rfl⟩
    ·exact⟨49,.inr rfl,by rw[e,h1],by rw[h2];rfl⟩
   obtain⟨c,P,ao,i⟩:=X;have a5:AD s.data.toList p (n+1)<=4294967296:=by
    have h1:=EA s.data.toList p (n+1);have h2:2^(n+1)<=2^32:=Bt (by omega) (by omega);omega
   rw[j];clear z U j O an;obtain⟨t,ap⟩:=Ai (AD s.data.toList p (n+1));rw[ap] at i a5 ⊢;have a6:=Dl P;have bo:=Dl ao;have bx:=Dl i;have Q:(48+bits .and .i64 ((t:Nat):Int) 1)%256=(c.toNat:Int):=by
    have h1:bits .and .i64 ((t:Nat):Int) 1=(t:Int)%2:=KE (t:Int) 1 (by omega);rw[h1];omega
   have bp:=Dl Q;clear P ao i ap Q
   go_wp2_with fail
   rw[bp.out];refine(eV l a cap n c V am aj (by unfold maxLen;omega) D.out).mono ?_;rintro e w2 ⟨a2,cap2,rfl,rfl,G,Y,a7,aq⟩;have ar:(if c=48 then l.takeWhile (BL AC n) else l.dropWhile (BL AC n))=DT AC ds (b.take (n+1)):=by
    have au:(b.take n).length=n:=by rw[Be];omega
    have f:=YD AC (l:=ds) (q:=b.take n) bi.out (fun x f=>(GI (a3.out x f)).2.2) (by rw[au,<-hl.out];exact fun x f=>(D.out x f).1);rw[au,<-hl.out] at f;have a8:b.take (n+1)=b.take n++[c]:=by
     rw[List.take_add_one,bo.out];rfl
    rw[a8];rcases a6.out with e|e
    ·rw[e,Bc rfl];exact f.1
    ·rw[e,Bb (by decide)];exact f.2
   rw[ar] at G Y ⊢;obtain⟨l2,H⟩:=Ai (DT AC ds (b.take (n+1)));rw[H] at G Y ⊢;have J:=Dl H;have av:Hid (∀x,a2=some x->lo<=x.block/\x.block<N):=Dl (fun x f=>by
    obtain⟨y,hy,hb⟩:=aq x f;rw[<-hb];exact ha.out y hy)
   unfold maxLen at a7;clear ar H aq am aj ak ha hl D;by_cases h0:l2=[]
   ·have F:Hid (tk (ds.map AC) b 25 1=(3,0)):=Dl (by
     have Z:(ds.map AC).any (fun r=>(b.take (n+1)).isPrefixOf r)=false:=by
      rw[M1];intro r hr hp;obtain⟨x,f,rfl⟩:=M4.1 hr;have:x∈DT AC ds (b.take (n+1)):=Js.2 ⟨f,hp⟩;rw[J.out,h0] at this;cases this
     rw[a4.out,Bb,Bb (by rw[Z];decide)];intro hm;rw[M1] at Z;exact Z _ hm (IF _))
    subst h0
    go_wp2
    go_ret2
    exact XY (by rw[A.out];exact F.out) (by decide) E W
   ·obtain⟨y,l3,rfl⟩:∃y l3,l2=y::l3:=by
     cases l2 with
     |nil=>exact absurd rfl h0
     |cons y l3=>exact⟨y,l3,rfl⟩
    obtain⟨cb,o,rfl,a9,d⟩:=G.at (by simp);have c0:=(d 0 (by simp)).1;have c1:=(d 0 (by simp)).2;simp only[Jy,Cf,Cw] at c0 c1;have bq:(((l3.length:Nat):Int)+1==0)=false:=by rw[Ez];omega
    have R:y∈DT AC ds (b.take (n+1)):=by rw[J.out];exact Eu
    obtain⟨aa,ab⟩:=Js.1 R;have ac:n+1<=y.1.size/\y.1.size<=24:=by
     have h1:=H3 ab;rw[Be] at h1;have h2:=(GI (a3.out y aa)).2.1;have h3:(AC y).length=y.1.size:=rfl;have h4:n+1<=b.length:=by rw[K.out];omega
     omega
    have aw:=Dl aa;have a1:=Dl ab;have bz:=Dl d;have br:=Dl G;clear R aa ab d G h0;obtain⟨y0,y1⟩:=ac;by_cases ad:y.1.size=n+1
    ·have g0:((y.1.size:Int)==(n:Int)+1)=true:=by rw[Bm];omega
     have F:Hid (tk (ds.map AC) b 25 1=(0,n+1)/\∃x∈ds,AC x=b.take (n+1)/\x.2=y.2):=Dl (by
      have h1:b.take (n+1)=AC y:=by
       have h2:=F4.1 a1.out;have h3:(AC y).length=n+1:=ad;rw[Be,Bw (by rw[K.out];omega),Bh (by omega)] at h2;exact h2.symm
      refine⟨?_,y,aw.out,h1.symm,rfl⟩;rw[a4.out,Bc (by rw[h1];exact Kq aw.out)])
     have ba:cb≠rb:=by have:=av.out _ rfl;simp at this;omega
     have ax:∀x,V.grownBy x (some rb)->x.cell? ⟨cb,o+1,none⟩=some (.int .i64 y.2):=fun x f=>(Lo (a:=⟨cb,o+1,none⟩) (f.block cb a9 (by intro e;injection e with e;exact ba e))).trans c1;have bt:=Dl ax;have bg:AG V.drew rb s p:=E;have bu:p<=1125899906842624:=by have:=E.2;omega
     have bv:p+(n+1)<=8*s.size:=hfit;clear ad ax
     go_wp2_with fail
     have sw:IntKind.i64.wrap ((p:Int)+((n:Int)+1))=(p:Int)+((n:Int)+1):=M3 _ (by omega)
     go_region_with (first|(go_at_call 28;refine(E1 _ _ _ _ (by assumption)).mono ?_;rintro e w3 ⟨rfl,rfl⟩)|(go_at_call 91;refine(GA _ _ _ _ _ (by assumption) (by omega) (by omega)).mono ?_;rintro e w3 ⟨rfl,ay,az⟩;have c3:=bt.out w3 (AO (JX V _) az)))
     all_goals
      rw[show ((p:Int)+((n:Int)+1)).toNat=p+(n+1) by omega] at ay;have bb:=AO W (AO (JX V _) az)
      go_wp2
      go_ret2
      exact mB (by rw[A.out];exact F.out.1) (by rw[A.out];exact F.out.2) ay bb
    ·have g0:((y.1.size:Int)==(n:Int)+1)=false:=by rw[Ez];omega
     have S:∀x,x∈DT AC ds (b.take (n+1))->(AC x).length≠n+1:=by
      intro x f a0;obtain⟨ae,af⟩:=Js.1 f;have h2:=F4.1 af;rw[Be,Bw (by rw[K.out];omega),Bh (by omega)] at h2;have h3:=N2 bf.out (x:=AC x) (y:=AC y) (Kq ae) (Kq aw.out) (by rw[h2];exact a1.out);have h4:(AC y).length=y.1.size:=rfl;rw[h3] at a0;omega
     have F:Hid (tk (ds.map AC) b 25 1=tk (ds.map AC) b (25-(n+1)) (n+1+1)):=Dl (by
      rw[a4.out,Bb,Bc (K8.2 ⟨AC y,Kq aw.out,a1.out⟩),show 25-(n+1)=24-n by omega];intro hm;have h3:=N2 bf.out hm (Kq aw.out) a1.out;have h4:=C8 List.length h3;rw[Be,Bw (by rw[K.out];omega)] at h4;exact ad h4.symm)
     have bw:Hid (∀x∈y::l3,n+1<x.1.size/\x.1.size<=24):=Dl (fun x f=>by
      rw[<-J.out] at f;obtain⟨ae,af⟩:=Js.1 f;have h1:=H3 af;rw[Be,Bw (by rw[K.out];omega)] at h1;have h2:=(GI (a3.out x ae)).2.1;have h3:(AC x).length=x.1.size:=rfl;have h4:=S x f;omega)
     have bc:n+1<=b.length:=by rw[K.out];omega
     clear S c1
     go_wp2
     go_roundw
     case rel=>exact⟨n+1,_,y::l3,cap2,by go_num,rfl,Y,by unfold maxLen;omega,Dl J.out.symm,br.out,av,by omega,bc,F,bw,g,E⟩
     case measure=>simp[intOf];omega
end
end Go.Proofs.YtjjmalchelniiaaGreatDoor
