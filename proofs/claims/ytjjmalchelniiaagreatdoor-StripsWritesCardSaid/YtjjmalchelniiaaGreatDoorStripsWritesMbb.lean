/- StripsWrites, 28. No condition. -/
import Derived.Test.YtjjmalchelniiaaGreatDoorStripsWritesMe
import Derived.Test.YtjjmalchelniiaaGreatDoorStripsWritesMf
import Derived.Test.YtjjmalchelniiaaGreatDoorStripsWritesMg
import Derived.Test.YtjjmalchelniiaaGreatDoorStripsWritesMt
import Derived.Test.YtjjmalchelniiaaGreatDoorStripsWritesMz
import Derived.Test.YtjjmalchelniiaaGreatDoorStripsWritesMba
open Go.Proofs.Tryz
open Go renaming World->A5,Calls->A9,Value->A0,Addr->Aa,DataW->Ab,Ending->Ad
set_option maxHeartbeats 8000000
namespace Go.Proofs.YtjjmalchelniiaaGreatDoor
section
open Go.RowKit Go.Lib Go.Sort
abbrev Lx:=@World.cell?_of_block
abbrev Ly:=@List.getElem?_cons_succ
abbrev Lz:=@trivial
abbrev M0:=@true_and
abbrev M1:=@Nat.le_of_eq
abbrev M3:=@and_true
abbrev M4:=@List.length_pos_iff
abbrev M5:=@Calls.quiet_of_same
abbrev M6:=@List.nodup_append
abbrev M7:=@List.any_eq_false
abbrev M8:=@List.mem_map
abbrev M9:=@underlying3
abbrev Ma:=@Go.Maps.has_put_other
abbrev Mb:=@alloc_eq_grow
abbrev Mc:=@List.all_reverse
abbrev Md:=@Go.Maps.has_put_same
abbrev Me:=@ntmps249
theorem RH {p:UInt8->Bool}:∀{l:List UInt8},l.dropWhile p=[]↔l.all p=true
 |[]=>by simp
 |c::l=>by
  cases h:p c with
  |true=>simp only[List.dropWhile_cons,h,Kg,List.all_cons,Jt];exact RH
  |false=>simp[h]
theorem Zf (l:List UInt8):Lib.trimS l [48,49]=[]↔AL l=true:=by
 have e:∀c:UInt8,([48,49]:List UInt8).contains c=(c==48 || c==49):=fun c=>by rw[Jr];simp
 unfold Lib.trimS Lib.trimLeftS Lib.trimRightS AL;simp only[e];rw[RH,Mc];constructor
 ·intro h;by_cases hr:l.reverse.dropWhile (fun c=>c==48 || c==49)=[]
  ·rw[RH,Mc] at hr;exact hr
  ·exfalso;have h1:=Bu.1 h _ (List.head_mem hr);have h2:=List.head_dropWhile_not (fun c:UInt8=>c==48 || c==49) hr;rw[h1] at h2;cases h2
 ·intro h;rw[RH.2 (by rw[Mc];exact h)]
  rfl
theorem Xe (s:ByteArray)(hs:s.size<=9223372036854775807)(w:A5):
  A9 prog 264 #[.string s,.string ⟨#[48,49]⟩] w fun e a=>e=.returned (.string ⟨(Lib.trimS s.data.toList [48,49]).toArray⟩)/\Below w.heap.size w a:=
 Any.strings_Trim_laid Tryz.lTrim (by kernel_rfl) s ⟨#[48,49]⟩ w hs (by decide) (ascii_of_all (by decide))
theorem XM (a b:ByteArray)(w:A5):
  A9 prog 252 #[.string a,.string b] w fun e c=>e=.returned (.int .i64 (Lib.compareBytes a.data.toList b.data.toList))/\c=w:=
 Any.strings_Compare Tryz.lCompare a b w
theorem Tm (s p:ByteArray)(w:A5):
  A9 prog 197 #[.string s,.string p] w fun e a=>e=.returned (.bool (p.data.toList.isPrefixOf s.data.toList))/\a=w:=
 Any.strings_HasPrefix Tryz.lHasPrefix s p w
def N1 (x y:ByteArray×Int):Int:=Lib.compareBytes (AC x) (AC y)
theorem Qgo:SWO (ltOf N1):=ZK AC
theorem xB (x y:ByteArray×Int)(W:A5):A9 prog 251 #[.agg #[.string x.1,.int .i64 x.2],.agg #[.string y.1,.int .i64 y.2]] W fun e c=>e=.returned (.int .i64 (N1 x y))/\∃q b,c=grow (W.drewN q) b:=by
 have a:=fun d=>XM x.1 y.1 d;unfold N1 AC;generalize Lib.compareBytes x.1.data.toList y.1.data.toList=r at a ⊢
 go_enter func251,ntmps251
 go_wp2_with (go_at_call 252;refine(a _).mono ?_;rintro e c ⟨rfl,rfl⟩)
 go_ret
 exact⟨rfl,0,_,by rw[Mb,Mb,grow_grow];rfl⟩
theorem iI:∀w,(isAgg 286).run prog w=.ok true w:=fun _=>by kernel_rfl
theorem aV:∀w,(Go.sizeOf 286).run prog w=.ok 2 w:=fun _=>by kernel_rfl
theorem T7:(prog.info? 286).map (fun i=>(i.zero,i.size,i.bytes))=some (some (.agg #[.string ⟨#[]⟩,.int .i64 0]),2,24):=by kernel_rfl
theorem Qcp (b off n c:Nat)(a:List A0)(w:A5)(hl:a.length=n*2)(hn:n<=1048576)
  (hc:∀j u,a[j]? =some u->w.cell? ⟨b,off+j,none⟩=some u)(h1:∀u∈a,u.oneCell'=true):
  A9 prog 248 #[.slice (some ⟨b,off,none⟩) n c] w fun e i=>∃d,e=.returned d/\i.ownsRow w.heap.size 286 2 d n a/\d≠.slice none 0 0/\Below w.heap.size w i:=by
 obtain⟨k,hi,f,g,h⟩:=Dv T7;exact AnyE.slices_Clone Tryz.lClone k _ 2 24 hi f g h rfl (by decide) aV b off n c a w hl (by unfold maxLen;omega) (by omega) hc h1
abbrev Sym:=Fin 6×Fin 4
def sA (s:Sym):Int:=(s.1.val:Int)
def sB (s:Sym):Int:=(s.2.val:Int)
theorem nY {s t:Sym}(h1:sA s=sA t)(h2:sB s=sB t):s=t:=by
 unfold sA at h1;unfold sB at h2;exact Prod.ext (Fin.ext (by omega)) (Fin.ext (by omega))
def GB (x:ByteArray×Sym):List A0:=[.string x.1,.int .i64 (sA x.2),.int .i64 (sB x.2)]
def AK (x:ByteArray×Sym):List UInt8:=x.1.data.toList
def MV (x y:ByteArray×Sym):Int:=Lib.compareBytes (AK x) (AK y)
theorem lS:SWO (ltOf MV):=ZK AK
theorem yW (x y:ByteArray×Sym)(W:A5):A9 prog 261 #[.agg #[.string x.1,.int .i64 (sA x.2),.int .i64 (sB x.2)],.agg #[.string y.1,.int .i64 (sA y.2),.int .i64 (sB y.2)]] W fun e c=>e=.returned (.int .i64 (MV x y))/\∃q b,c=grow (W.drewN q) b:=by
 have a:=fun d=>XM x.1 y.1 d;unfold MV AK;generalize Lib.compareBytes x.1.data.toList y.1.data.toList=r at a ⊢
 go_enter func261,ntmps261
 go_wp2_with (go_at_call 252;refine(a _).mono ?_;rintro e c ⟨rfl,rfl⟩)
 go_ret
 exact⟨rfl,0,_,by rw[Mb,Mb,grow_grow];rfl⟩
theorem dG:∀w,(isAgg 274).run prog w=.ok true w:=fun _=>by kernel_rfl
theorem Xo:∀w,(Go.sizeOf 274).run prog w=.ok 3 w:=fun _=>by kernel_rfl
theorem UA (x:ByteArray×Sym):∀v∈GB x,v.oneCell'=true:=by
 intro v hv;simp only[GB,Ei,Ej,Eo] at hv;rcases hv with rfl|rfl|rfl <;> rfl
theorem RW:(prog.info? 274).map (fun i=>(i.zero,i.size,i.bytes))=some (some (.agg #[.string ⟨#[]⟩,.int .i64 0,.int .i64 0]),3,32):=by kernel_rfl
theorem uL (b off n c:Nat)(a:List A0)(w:A5)(hl:a.length=n*3)(hn:n<=1048576)
  (hc:∀j u,a[j]? =some u->w.cell? ⟨b,off+j,none⟩=some u)(h1:∀u∈a,u.oneCell'=true):
  A9 prog 259 #[.slice (some ⟨b,off,none⟩) n c] w fun e i=>∃d,e=.returned d/\i.ownsRow w.heap.size 274 3 d n a/\d≠.slice none 0 0/\Below w.heap.size w i:=by
 obtain⟨k,hi,f,g,h⟩:=Dv RW;exact AnyE.slices_Clone Tryz.lCloneY k _ 3 32 hi f g h rfl (by decide) Xo b off n c a w hl (by unfold maxLen;omega) (by omega) hc h1
theorem sF (i:Nat)(hi:i<100)(w:A5):
  A9 prog 245 #[.int .i64 i] w fun e a=>e=.returned (.string ⟨(Lib.decDigits i).toArray⟩)/\a=w:=
 Any.strconv_Itoa_small Tryz.lItoa i hi w
end
section
open Go.ChangeShapes Go.WideShapes Go.ChangeAt Go.RowKit
def Cds (w:A5)(p:Option Aa)(l:List (ByteArray×Int)):Prop:=
 l=[]\/∃b o,p=some ⟨b,o,none⟩/\b<w.heap.size/\∀i,(h:i<l.length)->w.cell? ⟨b,o+i*2,none⟩=some (.string l[i].1)/\w.cell? ⟨b,o+i*2+1,none⟩=some (.int .i64 l[i].2)
theorem Cds.below {w c:A5}{p:Option Aa}{l:List (ByteArray×Int)}(h:Cds w p l)(a:Below w.heap.size w c):Cds c p l:=by
 rcases h with h|⟨b,o,h1,h2,h3⟩
 ·exact .inl h
 ·refine .inr ⟨b,o,h1,Bg h2 a.size,fun i hi=>?_⟩;rw[a.cell (p:=⟨b,o+i*2,none⟩) h2,a.cell (p:=⟨b,o+i*2+1,none⟩) h2];exact h3 i hi
theorem Cds.at {w:A5}{p:Option Aa}{l:List (ByteArray×Int)}(h:Cds w p l)(a:0<l.length):
  ∃b o,p=some ⟨b,o,none⟩/\b<w.heap.size/\∀i,(h:i<l.length)->w.cell? ⟨b,o+i*2,none⟩=some (.string l[i].1)/\w.cell? ⟨b,o+i*2+1,none⟩=some (.int .i64 l[i].2):=by
 rcases h with rfl|h
 ·cases a
 ·exact h
theorem Cds.take {w:A5}{p:Option Aa}{l:List (ByteArray×Int)}(h:Cds w p l)(k:Nat):Cds w p (l.take k):=by
 rcases h with rfl|⟨b,o,h1,h2,h3⟩
 ·exact .inl (by simp)
 ·refine .inr ⟨b,o,h1,h2,fun i hi=>?_⟩;rw[Fp];exact h3 i (by rw[Bf] at hi;omega)
theorem Cds.drop {w:A5}{b o:Nat}{l:List (ByteArray×Int)}(h:Cds w (some ⟨b,o,none⟩) l)(k:Nat):Cds w (some ⟨b,o+k*2,none⟩) (l.drop k):=by
 rcases h with rfl|⟨a,c,h1,h2,h3⟩
 ·exact .inl (by simp)
 ·cases h1;refine .inr ⟨b,o+k*2,rfl,h2,fun i hi=>?_⟩;have:=h3 (k+i) (by rw[Bj] at hi;omega);rw[Fr,show o+k*2+i*2=o+(k+i)*2 by omega];exact this
def DN (l:List (ByteArray×Int)):List A0:=l.flatMap GO
theorem yE (l:List (ByteArray×Int))(x:ByteArray×Int):DN (l++[x])=DN l++[.string x.1,.int .i64 x.2]:=by simp[DN,GO]
theorem Xv (l:List (ByteArray×Int)):(DN l).length=l.length*2:=by
 induction l with
 |nil=>rfl
 |cons x l a=>
  have e:DN (x::l)=GO x++DN l:=by simp[DN]
  rw[e,B9,a,Bh,GO,Bh,Bh,By];omega
theorem R8 (l:List (ByteArray×Int))(j:Nat)(h:j<l.length):(DN l)[j*2]? =some (.string l[j].1)/\(DN l)[j*2+1]? =some (.int .i64 l[j].2):=by
 induction l generalizing j with
 |nil=>exact absurd h (Fk j)
 |cons q l a=>
  have e:DN (q::l)=.string q.1 :: .int .i64 q.2::DN l:=by simp[DN,GO]
  rw[e];cases j with
  |zero=>exact⟨rfl,rfl⟩
  |succ j=>
   rw[show (j+1)*2=j*2+1+1 by omega,show j*2+1+1+1=(j*2+1)+1+1 by omega,Ly,Ly,Ly,Ly];exact a j (by simpa using h)
theorem Ywa (l:List (ByteArray×Int)):∀u∈DN l,u.oneCell'=true:=by
 intro u a;obtain⟨x,_,b⟩:=List.mem_flatMap.1 a;exact Yy x u b
theorem VE {w:A5}{base e:Nat}{v:A0}{l:List (ByteArray×Int)}(h:w.ownsRow base e 2 v l.length (DN l)):
  ∃(q:Option Aa) (cap:Nat),v=.slice q l.length cap/\Cds w q l:=by
 have a:=h;rcases h.2 with ⟨rfl,h1⟩|⟨g,cap,b,rfl,_,c,_⟩
 ·exact⟨none,0,by rw[h1],.inl (Dl h1)⟩
 ·refine⟨_,cap,rfl,.inr ⟨g,0,rfl,(Ed.1 c).1,fun i hi=>⟨?_,?_⟩⟩⟩
  ·have:=Dm (g:=g) a rfl (i*2) _ (R8 l i hi).1;rwa [Kr] at this
  ·have:=Dm (g:=g) a rfl (i*2+1) _ (R8 l i hi).2;rwa [Kr] at this
theorem gK {P:Program}{w:A5}{ops:Array Oper}{rest:List Oper}{o:Oper}{a:Act}{Q:Exit->Act->A5->Prop}{sl x:Operand}{t base e c:Nat}{i:TypeInfo}{z v:A0}{n:Nat}{l:List A0}{K:Nat}{y0:ByteArray}{y1:Int}
  (m:o.guard=none)(ho:o.op=.call {callee:=.builtin .append,args:=#[sl,x],argTypes:=#[t,t]})
  (ht:P.underlying t=some (.slice e))(hi:P.info? e=some i)(s:i.zero=some z)(p:z.cells.size=2)(b:i.size=2)(q:i.bytes=24)
  (hs:a.eval sl=v)(f:w.ownsRow base e 2 v n l)(y:a.eval x=.slice (some ⟨K,0,none⟩) 1 c)(A:w.cell? ⟨K,0,none⟩=some (.string y0))(c1:w.cell? ⟨K,1,none⟩=some (.int .i64 y1))(hn:n<=1048576)(d:base<=w.heap.size)
  (h:∀k g,g.ownsRow base e 2 k (n+1) (l++[.string y0,.int .i64 y1])->w.grownBy g v.ownBlock->wpList P ops Q rest (a.put o.dst k) g):wpList P ops Q (o::rest) a w:=
 Do w m sl x t ho base e i z 2 24 ht hi s b q p (by decide) v n l hs f ⟨K,0,none⟩ 1 c [.string y0,.int .i64 y1] y rfl
  (fun j u hj=>by
   match j,hj with
   |0,hj=>cases hj;exact A
   |1,hj=>cases hj;exact c1)
  (by intro u r;simp only[Ei,Ej,Eo] at r;rcases r with rfl|rfl <;> rfl) (by unfold maxLen;omega) (by omega) d
  fun k g h1 h2 _=>h k g h1 h2
section
variable {H:Type}{enc:TypeId×A0->H}{P:Program}
end
def EB (w:A5)(p:Option Aa)(l:List (ByteArray×Sym)):Prop:=
 l=[]\/∃b o,p=some ⟨b,o,none⟩/\b<w.heap.size/\∀i,(h:i<l.length)->w.cell? ⟨b,o+i*3,none⟩=some (.string l[i].1)/\w.cell? ⟨b,o+i*3+1,none⟩=some (.int .i64 (sA l[i].2))/\w.cell? ⟨b,o+i*3+2,none⟩=some (.int .i64 (sB l[i].2))
theorem EB.below {w c:A5}{p:Option Aa}{l:List (ByteArray×Sym)}(h:EB w p l)(a:Below w.heap.size w c):EB c p l:=by
 rcases h with h|⟨b,o,h1,h2,h3⟩
 ·exact .inl h
 ·refine .inr ⟨b,o,h1,Bg h2 a.size,fun i hi=>?_⟩;rw[a.cell (p:=⟨b,o+i*3,none⟩) h2,a.cell (p:=⟨b,o+i*3+1,none⟩) h2,a.cell (p:=⟨b,o+i*3+2,none⟩) h2];exact h3 i hi
theorem EB.at {w:A5}{p:Option Aa}{l:List (ByteArray×Sym)}(h:EB w p l)(a:0<l.length):
  ∃b o,p=some ⟨b,o,none⟩/\b<w.heap.size/\∀i,(h:i<l.length)->w.cell? ⟨b,o+i*3,none⟩=some (.string l[i].1)/\w.cell? ⟨b,o+i*3+1,none⟩=some (.int .i64 (sA l[i].2))/\w.cell? ⟨b,o+i*3+2,none⟩=some (.int .i64 (sB l[i].2)):=by
 rcases h with rfl|h
 ·cases a
 ·exact h
theorem EB.take {w:A5}{p:Option Aa}{l:List (ByteArray×Sym)}(h:EB w p l)(k:Nat):EB w p (l.take k):=by
 rcases h with rfl|⟨b,o,h1,h2,h3⟩
 ·exact .inl (by simp)
 ·refine .inr ⟨b,o,h1,h2,fun i hi=>?_⟩;rw[Fp];exact h3 i (by rw[Bf] at hi;omega)
theorem EB.drop {w:A5}{b o:Nat}{l:List (ByteArray×Sym)}(h:EB w (some ⟨b,o,none⟩) l)(k:Nat):EB w (some ⟨b,o+k*3,none⟩) (l.drop k):=by
 rcases h with rfl|⟨a,c,h1,h2,h3⟩
 ·exact .inl (by simp)
 ·cases h1;refine .inr ⟨b,o+k*3,rfl,h2,fun i hi=>?_⟩;have:=h3 (k+i) (by rw[Bj] at hi;omega);rw[Fr,show o+k*3+i*3=o+(k+i)*3 by omega];exact this
def DB (l:List (ByteArray×Sym)):List A0:=l.flatMap GB
theorem Yqn (l:List (ByteArray×Sym))(x:ByteArray×Sym):DB (l++[x])=DB l++[.string x.1,.int .i64 (sA x.2),.int .i64 (sB x.2)]:=by simp[DB,GB]
theorem VB (l:List (ByteArray×Sym)):(DB l).length=l.length*3:=by
 induction l with
 |nil=>rfl
 |cons x l a=>
  have e:DB (x::l)=GB x++DB l:=by simp[DB]
  rw[e,B9,a,Bh,GB,Bh,Bh,Bh,By];omega
theorem Qg (l:List (ByteArray×Sym))(j:Nat)(h:j<l.length):(DB l)[j*3]? =some (.string l[j].1)/\(DB l)[j*3+1]? =some (.int .i64 (sA l[j].2))/\(DB l)[j*3+2]? =some (.int .i64 (sB l[j].2)):=by
 induction l generalizing j with
 |nil=>exact absurd h (Fk j)
 |cons q l a=>
  have e:DB (q::l)=.string q.1 :: .int .i64 (sA q.2) :: .int .i64 (sB q.2)::DB l:=by simp[DB,GB]
  rw[e];cases j with
  |zero=>exact⟨rfl,rfl,rfl⟩
  |succ j=>
   have:=a j (by simpa using h);rw[show (j+1)*3=j*3+1+1+1 by omega,show j*3+1+1+1+1=(j*3+1)+1+1+1 by omega,show j*3+1+1+1+2=(j*3+2)+1+1+1 by omega];simp only[Ly];exact this
theorem xU (l:List (ByteArray×Sym)):∀u∈DB l,u.oneCell'=true:=by
 intro u a;obtain⟨x,_,b⟩:=List.mem_flatMap.1 a;exact UA x u b
theorem XN {w:A5}{base e:Nat}{v:A0}{l:List (ByteArray×Sym)}(h:w.ownsRow base e 3 v l.length (DB l)):
  ∃(q:Option Aa) (cap:Nat),v=.slice q l.length cap/\EB w q l:=by
 have a:=h;rcases h.2 with ⟨rfl,h1⟩|⟨g,cap,b,rfl,_,c,_⟩
 ·exact⟨none,0,by rw[h1],.inl (Dl h1)⟩
 ·refine⟨_,cap,rfl,.inr ⟨g,0,rfl,(Ed.1 c).1,fun i hi=>⟨?_,?_,?_⟩⟩⟩
  ·have:=Dm (g:=g) a rfl (i*3) _ (Qg l i hi).1;rwa [Kr] at this
  ·have:=Dm (g:=g) a rfl (i*3+1) _ (Qg l i hi).2.1;rwa [Kr] at this
  ·have:=Dm (g:=g) a rfl (i*3+2) _ (Qg l i hi).2.2;rwa [Kr] at this
end
section
open Go.RowKit Go.Maps
theorem Qjc:laidOutB prog=true:=by kernel_rfl
theorem lD:WideMaps.KeyLaw prog 272:=deep_law_laid Qjc (m:=2) (by omega) (Fq (by kernel_rfl)) (by kernel_rfl) (by kernel_rfl)
theorem Vx:Keyed prog 272:=Keyed.of_law lD
def R6 (s:Sym):A0:=.agg #[.int .i64 (sA s),.int .i64 (sB s)]
def KL (s:Sym):Lit:=.string (keyBytes [.int .i64 (sA s),.int .i64 (sB s)])
theorem T1:∀s:Sym,keyOf prog 272 (R6 s)=some (KL s):=by
 have h:∀a b:Nat,a<6->b<4->keyOf prog 272 (.agg #[.int .i64 (a:Int),.int .i64 (b:Int)])=some (.string (keyBytes [.int .i64 (a:Int),.int .i64 (b:Int)])):=by
  intro a b c d;rcases (by omega:a=0\/a=1\/a=2\/a=3\/a=4\/a=5) with rfl|rfl|rfl|rfl|rfl|rfl <;> rcases (by omega:b=0\/b=1\/b=2\/b=3) with rfl|rfl|rfl|rfl <;> kernel_rfl
 exact fun s=>h s.1.val s.2.val s.1.isLt s.2.isLt
theorem pM {s t:Sym}(h:KL s=KL t):s=t:=by
 have hs:=T1 s;rw[h] at hs;have e:=Vx.inj hs (T1 t);unfold R6 at e;simp only[Value.agg.injEq,Array.mk.injEq,List.cons.injEq,Value.int.injEq,M0,M3] at e;exact nY e.1 e.2
abbrev LZ (x:ByteArray×Sym):Lit:=KL x.2
theorem S2 (s:Sym):WideAt.IsKeyLit (KL s):=trivial
def L5 (x:ByteArray×Sym):Ab Unit:=.lit (.string x.1.data.toList)
def Qd (D:Ab Unit)(l:List (ByteArray×Sym)):Ab Unit:=l.foldl (fun D x=>D.put (LZ x) (L5 x)) D
def KD (l:List (ByteArray×Sym)):Ab Unit:=Qd (.map []) l
theorem Y21 (l:List (ByteArray×Sym))(j:Nat)(h:j<l.length):KD (l.take (j+1))=(KD (l.take j)).put (LZ l[j]) (L5 l[j]):=by
 unfold KD Qd;rw[Be h,Kt]
 rfl
theorem Wa {s t:Sym}(h:s≠t):KL s≠KL t:=fun e=>h (pM e)
theorem TK:∀{l:List (ByteArray×Sym)} {D:Ab Unit} {acc:List Sym},Tidy D->(∀s,has D (KL s)=true↔s∈acc)->size D=acc.length->acc.Nodup->
  size (Qd D l)<=acc.length+l.length/\(size (Qd D l)=acc.length+l.length↔(acc++l.map (·.2)).Nodup)
 |[],D,acc,_,_,h,hn=>⟨by show size D<=_;omega,by rw[Ct,Fb];exact⟨fun _=>hn,fun _=>h⟩⟩
 |x::l,D,acc,ht,hh,hs,hn=>by
  have f:=ht.put (k:=LZ x) (S2 _) (L5 x);by_cases g:x.2∈acc
  ·have c:∀s,has (D.put (LZ x) (L5 x)) (KL s)=true↔s∈acc:=by
    intro s;by_cases e:s=x.2
    ·subst e;exact⟨fun _=>g,fun _=>Md ht.isMap (S2 _) _⟩
    ·rw[Ma (Wa e)];exact hh s
   have d:size (D.put (LZ x) (L5 x))=acc.length:=by
    rw[size_put ht,Bc ((hh x.2).2 g)];exact hs
   obtain⟨i,_⟩:=TK (l:=l) f c d hn;rw[Bh];refine⟨Eg i (by omega),⟨fun e=>?_,fun hd=>?_⟩⟩
   ·exfalso;have o:size (Qd (D.put (LZ x) (L5 x)) l)=acc.length+(l.length+1):=e;omega
   ·exfalso;exact(M6.1 hd).2.2 x.2 g x.2 (by simp) rfl
  ·have c:∀s,has (D.put (LZ x) (L5 x)) (KL s)=true↔s∈acc++[x.2]:=by
    intro s;rw[List.mem_append,Dk];by_cases e:s=x.2
    ·subst e;exact⟨fun _=>.inr rfl,fun _=>Md ht.isMap (S2 _) _⟩
    ·rw[Ma (Wa e),hh s];exact⟨.inl,fun h=>h.resolve_right e⟩
   have d:size (D.put (LZ x) (L5 x))=(acc++[x.2]).length:=by
    rw[size_put ht,Bb (fun h=>g ((hh x.2).1 h)),B9,Bq,hs]
   have hn2:(acc++[x.2]).Nodup:=M6.2 ⟨hn,by simp,fun a n b m e=>g (by rw[Dk] at m;rw[<-m,<-e];exact n)⟩;obtain⟨i,j⟩:=TK (l:=l) f c d hn2;rw[B9,Bq] at i j;rw[Bh,Cm];rw[Bd] at j;refine⟨Eg i (by omega),?_⟩;rw[show acc.length+(l.length+1)=acc.length+1+l.length by omega]
   exact j
theorem sH (l:List (ByteArray×Sym)):size (KD l)<=l.length/\(size (KD l)=l.length↔(l.map (·.2)).Nodup):=by
 have:=TK (l:=l) (D:=(.map []:Ab Unit)) (acc:=[]) tidy_empty (fun s=>by simp[Maps.has]) rfl List.nodup_nil;simp only[By,Bo,Cc] at this;exact this
def T4 (p:Option Aa)(l:List (ByteArray×Sym))(at_:Nat)(c:UInt8)(w:A5)(e:Ad)(d:A5):Prop:=
 ∃q cap,e=.returned (.slice q (if c=48 then l.takeWhile (BT AK at_) else l.dropWhile (BT AK at_)).length cap)/\w=d/\EB w q (if c=48 then l.takeWhile (BT AK at_) else l.dropWhile (BT AK at_))/\
  (if c=48 then l.takeWhile (BT AK at_) else l.dropWhile (BT AK at_)).length<=cap/\cap<=maxLen/\∀a,q=some a->∃b,p=some b/\b.block=a.block
theorem lG {α:Type}(p:α->Bool)(l:List α)(k:Nat)(h1:∀i,(h:i<l.length)->i<k->p l[i]=true)(h2:∀h:k<l.length,p l[k]=false)(a:k<=l.length):l.takeWhile p=l.take k/\l.dropWhile p=l.drop k:=by
 induction l generalizing k with
 |nil=>simp
 |cons x l c=>
  cases k with
  |zero=>
   have:=h2 (by simp);simp only[Ju] at this;simp[this]
  |succ k=>
   have b:=h1 0 (by simp) (by omega);simp only[Ju] at b;have:=c k (fun i hi d=>by have:=h1 (i+1) (by simpa using hi) (by omega);simpa using this) (fun a=>by have:=h2 (by simpa using a);simpa using this) (by simpa using a);simp[b,this.1,this.2]
theorem kM (x:ByteArray×Sym)(at_:Nat)(h:at_<x.1.size):BT AK at_ x=(x.1[at_]==48):=by
 unfold BT AK;have e:x.1.data.toList[at_]? =some x.1[at_]:=Fj (show at_<x.1.data.toList.length from h);rw[e]
 rfl
theorem RJ {l:List (ByteArray×Sym)}{at_ k:Nat}{c:UInt8}{w:A5}{p q:Option Aa}{n cap:Nat}(h1:∀i,(h:i<l.length)->i<k->BT AK at_ l[i]=true)(h2:∀h:k<l.length,BT AK at_ l[k]=false)(g:k<=l.length)
  (hn:n=if c=48 then k else l.length-k)(d:EB w q (if c=48 then l.take k else l.drop k))(e:n<=cap)(hm:cap<=maxLen)(b:∀a,q=some a->∃f,p=some f/\f.block=a.block):T4 p l at_ c w (.returned (.slice q n cap)) w:=by
 obtain⟨j,m⟩:=lG (BT AK at_) l k h1 h2 g;unfold T4;rw[j,m];by_cases hc:c=48
 ·simp only[hc,Kg] at hn d ⊢;have hl:(l.take k).length=k:=by rw[Bf];omega
  exact⟨q,cap,by rw[hl,hn],trivial,d,by omega,hm,b⟩
 ·simp only[hc,J9] at hn d ⊢;have hl:(l.drop k).length=l.length-k:=Bj;exact⟨q,cap,by rw[hl,hn],trivial,d,by omega,hm,b⟩
theorem cO {p:Option Aa}:∀a,p=some a->∃b,p=some b/\b.block=a.block:=fun a h=>⟨a,h,rfl⟩
theorem pG {p:Option Aa}{n:Nat}:∀a,Option.map (fun x=>Addr.add x n) p=some a->∃c,p=some c/\c.block=a.block:=by
 intro a h;cases p with
 |none=>cases h
 |some b=>cases h;exact⟨b,rfl,by show b.block=(b.add n).block;unfold Addr.add;split <;> rfl⟩
set_option maxRecDepth 100000 in
theorem jM (l:List (ByteArray×Sym))(p:Option Aa)(cap at_:Nat)(c:UInt8)(w:A5)(hc:EB w p l)(D:l.length<=cap)(q:cap<=maxLen)(m:∀x∈l,at_<x.1.size/\x.1.size<=24):
  A9 prog 263 #[.slice p l.length cap,.int .i64 (at_:Int),.int .u8 (c.toNat:Int)] w (T4 p l at_ c w):=by
 unfold maxLen at q;have E:=Dp m;clear m;have v:(c=48/\((c.toNat:Int)==48)=true)\/(c≠48/\((c.toNat:Int)==48)=false):=by
  by_cases h:c=48
  ·exact .inl ⟨h,by rw[h];rfl⟩
  ·refine .inr ⟨h,?_⟩;rw[Fg];intro e;exact h (Jz.1 (by show c.toNat=48;omega))
 go_enter func263,ntmps263
 go_wp2
 go_loop [7] (fun i=>∃k:Nat,k<=l.length/\i=.int .i64 k/\Hid (∀i,(h:i<l.length)->i<k->BT AK at_ l[i]=true)) (fun i=>l.length-(intOf i).toNat)
 case atStart=>exact⟨0,Ds _,rfl,Dp (fun i _ h=>absurd h (Fk i))⟩
 case round=>
  obtain⟨k,t,rfl,g⟩:=hrel;by_cases r:k<l.length
  ·obtain⟨b,o,rfl,_,f⟩:=hc.at (by omega);have F:=(f k r).1;have A:=E.out l[k] (Bn r);obtain⟨x,n⟩:=Ah (l[k]);rw[n] at F A;obtain⟨y,G⟩:=A;have B:=Dp (show BT AK at_ l[k]=(x.1[at_]==48) by rw[n];exact kM x at_ y);have u:=Dp hc;clear f n hc;by_cases j:x.1[at_].toNat=48
   ·have H:((x.1[at_].toNat:Int)==48)=true:=by rw[j];rfl
    have I:Hid (∀i,(h:i<l.length)->i<k+1->BT AK at_ l[i]=true):=Dp (fun i hi h=>by
     by_cases e:i=k
     ·subst e;rw[B.out,Jz.1 (show x.1[at_].toNat=(48:UInt8).toNat from j)]
      rfl
     ·exact g.out i hi (by omega))
    clear j v
    go_wp2
    go_round
    case rel=>exact⟨k+1,by omega,by go_num,I⟩
    case measure=>simp[intOf];omega
   ·have H:((x.1[at_].toNat:Int)==48)=false:=by rw[Fg];omega
    have s:Hid (∀h:k<l.length,BT AK at_ l[k]=false):=Dp (fun _=>by
     rw[B.out,Fg];intro e;exact j (by rw[e];rfl))
    clear j;rcases v with ⟨d,z⟩|⟨d,z⟩
    ·have C:=Dp d;clear d
     go_wp2
     go_ret
     exact RJ g.out s.out t (by rw[Bc C.out]) (by rw[Bc C.out];exact u.out.take k) (by omega) (by unfold maxLen;omega) (fun a h=>⟨a,h,rfl⟩)
    ·have C:=Dp d;clear d
     go_wp2
     go_ret
     exact RJ g.out s.out t (by rw[Bb C.out]) (by rw[Bb C.out];exact u.out.drop k) (by omega) (by unfold maxLen;omega) (fun a h=>⟨_,rfl,by cases h;rfl⟩)
  ·obtain rfl:k=l.length:=by omega
   have s:Hid (∀h:l.length<l.length,BT AK at_ l[l.length]=false):=Dp (fun h=>absurd h (Nat.lt_irrefl _));have u:=Dp hc;clear hc;rcases v with ⟨d,z⟩|⟨d,z⟩
   ·have C:=Dp d;clear d
    go_wp2
    go_ret
    exact RJ g.out s.out t (by rw[Bc C.out]) (by rw[Bc C.out];exact u.out.take _) (by omega) (by unfold maxLen;omega) (fun a h=>⟨a,h,rfl⟩)
   ·have C:=Dp d;clear d
    go_wp2
    all_goals
     go_ret
     exact RJ g.out s.out t (by rw[Bb C.out,Ci]) (by rw[Bb C.out,List.drop_length];exact .inl rfl) (by omega) (by unfold maxLen;omega) (by first|exact cO|exact pG)
def gB (m:Option Nat)(q:Option Aa)(n cap:Nat)(L:Int):List A0:=[.map m,.slice q n cap,.int .i64 L]
def IP (m:Option Nat)(q:Option Aa)(n cap:Nat)(L:Int):Obj:=.cells (gB m q n cap L).toArray 301 (0,0)
def SO (w:A5)(lo hi b:Nat)(ds:List (ByteArray×Sym))(L:Int):Prop:=
 ∃(m:Option Nat) (q:Option Aa) (cap:Nat),w.heap[b]? =some (IP m q ds.length cap L)/\ds.length<=cap/\cap<=maxLen/\EB w q ds/\∀a,q=some a->lo<=a.block/\a.block<hi
theorem xI (s:ByteArray)(hs:s.size<=maxLen)(w:A5):
  A9 prog 249 #[.string s] w fun e j=>e=.returned (.bool (BX s.data.toList))/\Below w.heap.size w j:=by
 unfold maxLen at hs;have b:s.data.toList.length=s.size:=rfl;by_cases a:s.data.toList=[]
 ·have F:=Dp (show BX s.data.toList=false by rw[a];rfl);have k:s.toList.isEmpty=true:=by rw[J7,a];rfl
  have f:s.toList=[]:=by rw[J7,a]
  clear a b
  go_enter func249,Me
  go_wp2
  go_ret
  exact⟨AH F.out.symm,Dq _ _⟩
 have k:s.toList.isEmpty=false:=by rw[J7];simpa using a
 by_cases g:24<s.size
 ·have F:=Dp (show BX s.data.toList=false by
   cases h:BX s.data.toList with
   |false=>rfl
   |true=>have:=(GK h).2.1;omega)
  have f:decide ((s.size:Int)<=24)=false:=by simp;omega
  clear a b g
  go_enter func249,Me
  go_wp2
  go_ret
  exact⟨AH F.out.symm,Dq _ _⟩
 have f:decide ((s.size:Int)<=24)=true:=by simp;omega
 have i:BX s.data.toList=AL s.data.toList:=by
  cases h:AL s.data.toList with
  |true=>exact Y5 a (by omega) h
  |false=>
   cases h2:BX s.data.toList with
   |false=>rfl
   |true=>rw[(GK h2).2.2] at h;cases h
 have c:(Lib.trimS s.data.toList [48,49]).isEmpty=BX s.data.toList:=by
  rw[i,Jr,List.isEmpty_iff,Zf]
 obtain⟨r,hr⟩:=Ah ((⟨(Lib.trimS s.data.toList [48,49]).toArray⟩:ByteArray));have d:r.toList.isEmpty=BX s.data.toList:=by rw[<-c,<-hr,J7]
 have l:=Dp hr;have m:=Dp d;clear a b g i c hr d
 go_enter func249,Me
 go_wp2_with fail
 refine(Xe s hs _).mono ?_;rintro e o ⟨rfl,n⟩;rw[l.out]
 go_wp2
 go_ret
 exact⟨AH m.out,n⟩
set_option maxRecDepth 100000 in
theorem iM (l:List (ByteArray×Sym))(p:Option Aa)(cap:Nat)(w:A5)(r:Bool)(hr:r=true↔∃i,∃h:i+1<l.length,(AK l[i]).isPrefixOf (AK l[i+1])=true)(hc:EB w p l)(hm:l.length<=1048576):
  A9 prog 262 #[.slice p l.length cap] w fun e s=>e=.returned (.bool r)/\Below w.heap.size w s:=by
 have R:=Dp hr;clear hr;obtain⟨B,t⟩:=Ah w.heap.size;have z:∀x,Below B w x->∀i,(h:i<l.length)->∃b o,p=some ⟨b,o,none⟩/\∀j,(h:j<l.length)->x.cell? ⟨b,o+j*3,none⟩=some (.string l[j].1):=by
  intro x g i hi;obtain⟨b,o,rfl,A,c⟩:=hc.at (by omega);exact⟨b,o,rfl,fun j hj=>(Lx (a:=⟨b,o+j*3,none⟩) (g.block b (by omega))).trans (c j hj).1⟩
 have H:=Dp z;have m:Below B w w:=Dq _ _;have J:=Dp t;rw[t];clear z hc t
 go_enter func262,ntmps262
 go_wp2
 go_loopw [3] (fun i wr=>∃k:Nat,(k<l.length\/k=0)/\i=.int .i64 ((k:Int)+1)/\Below B w wr/\Hid (∀i,(h:i+1<l.length)->i<k->(AK l[i]).isPrefixOf (AK l[i+1])=false)) (fun i _=>l.length+1-(intOf i).toNat)
 case atStart=>exact⟨0,.inr rfl,rfl,m,Dp (fun i _ h=>absurd h (Fk i))⟩
 case round=>
  clear m;obtain⟨k,C,rfl,q,n⟩:=hrel;by_cases f:k+1<l.length
  ·obtain⟨b,o,rfl,c⟩:=H.out wr q (k+1) f;have c1:=c (k+1) f;have I:=c k (by omega);obtain⟨x,g⟩:=Ah (l[k+1]);obtain⟨y,u⟩:=Ah (l[k]);rw[g] at c1;rw[u] at I;have D:=Dp g;have E:=Dp u;have t0:decide ((k:Int)+1<l.length)=true:=by simp;omega
   have d:∀w,A9 prog 197 #[.string x.1,.string y.1] w fun e s=>e=.returned (.bool (y.1.data.toList.isPrefixOf x.1.data.toList))/\s=w:=fun w=>Tm x.1 y.1 w;clear c C g u;cases hpre:y.1.data.toList.isPrefixOf x.1.data.toList with
   |true=>
    rw[hpre] at d;have F:=Dp (R.out.2 ⟨k,f,by rw[D.out,E.out];exact hpre⟩);have v:=Dp d;clear hpre d
    go_wp2_with fail
    go_quiet ((go_at_call 197;exact M5 (v.out _)))
    go_wp2
    go_ret
    exact⟨AH F.out.symm,OK q _⟩
   |false=>
    rw[hpre] at d;have F:Hid (∀i,(h:i+1<l.length)->i<k+1->(AK l[i]).isPrefixOf (AK l[i+1])=false):=Dp (fun i hi h=>by
     by_cases e:i=k
     ·subst e;rw[D.out,E.out];exact hpre
     ·exact n.out i hi (by omega))
    have v:=Dp d;clear hpre d
    go_wp2_with fail
    go_quiet ((go_at_call 197;exact M5 (v.out _)))
    go_wp2
    go_roundw
    case rel=>exact⟨k+1,.inl f,by go_num,OK q _,F⟩
    case measure=>simp[intOf];omega
  ·have F:=Dp (show r=false by
    cases hrr:r with
    |false=>rfl
    |true=>
     obtain⟨i,hi,G⟩:=R.out.1 hrr;rw[n.out i hi (by omega)] at G;cases G)
   have t0:decide ((k:Int)+1<l.length)=false:=by simp;omega
   clear f C
   go_wp2
   go_ret
   exact⟨AH F.out.symm,q⟩
def LA (a b:Int):Obj:=.cells [.int .i64 a,.int .i64 b].toArray 272 (0,0)
theorem T2 {x:A5}{B:Nat}{a b c d:Int}(h:x.heap[B]? =some (LA a b)):((x.setCell ⟨B,0,none⟩ (.int .i64 c)).setCell ⟨B,1,none⟩ (.int .i64 d)).heap[B]? =some (LA c d):=
 BF (o:=1) (.int .i64 d) (BF (o:=0) (.int .i64 c) h)
theorem Rf {x:A5}{B:Nat}{a b:Int}(h:x.heap[B]? =some (LA a b)):x.cell? ⟨B,0,none⟩=some (.int .i64 a)/\x.cell? ⟨B,1,none⟩=some (.int .i64 b)/\x.frozen? ⟨B,0,none⟩=false/\x.frozen? ⟨B,1,none⟩=false:=
 ⟨AA h rfl,AA h rfl,AZ (o:=0) h,AZ (o:=1) h⟩
theorem SI {w x:A5}{B:Nat}{row:Option Nat}{c d:Int}(h:w.grownBy x row)(i:w.heap.size<=B):w.grownBy ((x.setCell ⟨B,0,none⟩ (.int .i64 c)).setCell ⟨B,1,none⟩ (.int .i64 d)) row:=by
 have b:=DM x ⟨B,0,none⟩ (.int .i64 c);have f:=DM (x.setCell ⟨B,0,none⟩ (.int .i64 c)) ⟨B,1,none⟩ (.int .i64 d);have g:=AR b f;refine⟨g.os.trans h.os,g.tape.trans h.tape,g.output.trans h.output,Eg h.size g.size,fun k a hn=>?_⟩;exact(g.block k (Bg a h.size) (by intro e;injection e with e;have e:k=B:=e;omega)).trans (h.block k a hn)
theorem Sl {x:A5}{B rb p:Nat}{s:ByteArray}{c d:Int}(h:AI x rb s p)(a:rb≠B):AI ((x.setCell ⟨B,0,none⟩ (.int .i64 c)).setCell ⟨B,1,none⟩ (.int .i64 d)) rb s p:=
 (h.grown (DM x ⟨B,0,none⟩ (.int .i64 c)) a).grown (DM _ ⟨B,1,none⟩ (.int .i64 d)) a
def ZY:Sym:=(⟨0,by decide⟩,⟨0,by decide⟩)
def Qi (ds:List (ByteArray×Sym))(s:ByteArray)(rb p:Nat)(w:A5)(e:Ad)(a:A5):Prop:=
 ∃v:Sym,e=.returned (.tuple #[R6 v,.int .i64 (tk (ds.map AK) ((A2 s.data.toList).drop p) 25 1).1])/\
  ((tk (ds.map AK) ((A2 s.data.toList).drop p) 25 1).1=0->∃x∈ds,AK x=((A2 s.data.toList).drop p).take (tk (ds.map AK) ((A2 s.data.toList).drop p) 25 1).2/\x.2=v)/\
  ((tk (ds.map AK) ((A2 s.data.toList).drop p) 25 1).1≠0->v=ZY)/\AI a rb s (p+(tk (ds.map AK) ((A2 s.data.toList).drop p) 25 1).2)/\w.grownBy a (some rb)
theorem WK {ds:List (ByteArray×Sym)}{s:ByteArray}{rb p:Nat}{w a:A5}{f:Int}(h:tk (ds.map AK) ((A2 s.data.toList).drop p) 25 1=(f,0))(b:f≠0)(hr:AI a rb s p)(c:w.grownBy a (some rb)):
  Qi ds s rb p w (.returned (.tuple #[.agg #[.int .i64 0,.int .i64 0],.int .i64 f])) a:=by
 unfold Qi;rw[h];exact⟨ZY,rfl,fun e=>absurd e b,fun _=>rfl,hr,c⟩
theorem lY {ds:List (ByteArray×Sym)}{s:ByteArray}{rb p n:Nat}{w a:A5}{v:Sym}(h:tk (ds.map AK) ((A2 s.data.toList).drop p) 25 1=(0,n))(b:∃x∈ds,AK x=((A2 s.data.toList).drop p).take n/\x.2=v)(hr:AI a rb s (p+n))(c:w.grownBy a (some rb)):
  Qi ds s rb p w (.returned (.tuple #[.agg #[.int .i64 (sA v),.int .i64 (sB v)],.int .i64 0])) a:=by
 unfold Qi;rw[h];exact⟨v,rfl,fun _=>b,fun e=>absurd rfl e,hr,c⟩
set_option maxRecDepth 100000 in
theorem nN (w:A5)(lo hi tb rb:Nat)(ds:List (ByteArray×Sym))(L:Int)(s:ByteArray)(p:Nat)(ht:SO w lo hi tb ds L)(hr:AI w rb s p)(hN:rb<lo\/hi<=rb)
  (hs:ds.Pairwise fun x y=>leL (AK x) (AK y)=true)(hf:CH (ds.map AK))(ho:∀x∈ds,BX (AK x)=true):
  A9 prog 247 #[.pointer (some ⟨tb,0,none⟩),.pointer (some ⟨rb,0,none⟩)] w (Qi ds s rb p w):=by
 obtain⟨m,q,cap,h1,h2,h3,hc,hq⟩:=ht;have bi:=(Ed.1 h1).1;have c1:w.cell? ⟨tb,1,none⟩=some (.slice q ds.length cap):=AA h1 rfl;obtain⟨b,Z⟩:=Ah ((A2 s.data.toList).drop p);have al:b.length=8*s.size-p:=by rw[<-Z,Bj,BO];rfl
 have b0:=hr.2.1;have am:=hr.lt;obtain⟨B,M⟩:=Ah w.heap.size;obtain⟨w0,g⟩:=Ah ((w.alloc (LA 0 0)).alloc (LA 0 0));have C:Below B w w0:=by rw[<-g,<-M];exact((Dq _ w).alloc (Ba _) _).alloc (by simp) _
 have an:w0.heap.size=B+2:=by rw[<-g,<-M];simp
 have P:∀x,Below (B+2) w0 x->x.heap[B]? =some (LA 0 0)/\x.heap[B+1]? =some (LA 0 0):=fun x f=>by
  refine⟨(f.block B (by omega)).trans ?_,(f.block (B+1) (by omega)).trans ?_⟩
  ·rw[<-g,<-M];exact heap_alloc2_old w _ _
  ·rw[<-g,<-M];exact heap_alloc2_new w _ _
 have ao:∀x,Below (B+2) w0 x->w.grownBy x (some rb):=fun x f=>by
  have h:=C.trans (f.mono (by omega));rw[<-M] at h;exact⟨h.os,h.tape,h.output,h.size,fun k hk _=>h.block k hk⟩
 have bj:=Dp P;have b1:=Dp ao;have ap:EB w0 q ds:=hc.below (by rw[M];exact C);have aq:AI w0 rb s p:=hr.below (by rw[M];exact C)
 have bk:((w.alloc (.cells #[.int .i64 0,.int .i64 0] 272 (0,0))).alloc (.cells #[.int .i64 0,.int .i64 0] 272 (0,0))).cell? ⟨tb,1,none⟩=some (.slice q ds.length cap):=(Lx (a:=⟨tb,1,none⟩) ((show (w.alloc (.cells #[.int .i64 0,.int .i64 0] 272 (0,0))).alloc (.cells #[.int .i64 0,.int .i64 0] 272 (0,0))=w0 from g)▸C.block tb (by omega))).trans c1
 have ar:Below (B+2) w0 w0:=Dq _ _;have b2:rb<B:=by omega
 have bw:=Dp M;have bl:=Dp (show (w.alloc (.cells #[.int .i64 0,.int .i64 0] 272 (0,0))).alloc (.cells #[.int .i64 0,.int .i64 0] 272 (0,0))=w0 from g);have bm:=Dp an;have b3:=Dp hs;have bx:=Dp hf;have bn:=Dp ho;have D:=Dp Z;have Q:=Dp al;have b4:=Dp hq;have au:E8 AK ds (b.take 0)=ds:=by rw[Bi];exact W7 AK ds
 have b5:=Dp au;have E:∀x∈ds,0<x.1.size/\x.1.size<=24:=fun x f=>by
  have h:=GK (ho x f);have h1:(AK x).length=x.1.size:=rfl;have h2:=M4.2 h.1;omega
 have b6:=Dp E;have b7:=Dp ap;clear h1 M g C an P ao hr ap c1 bi am hs hf ho Z al hq au hc E
 go_enter func247,ntmps247
 go_wp2_with fail
 clear bk;rw[bl.out,bw.out]
 go_loopw [7,8] (fun u v wr=>∃(n:Nat) (a:Option Aa) (l:List (ByteArray×Sym)) (cap:Nat),v=.int .i64 ((n:Int)+1)/\u=.slice a l.length cap/\l.length<=cap/\cap<=maxLen/\Hid (l=E8 AK ds (b.take n))/\EB wr a l/\Hid (∀x,a=some x->lo<=x.block/\x.block<hi)/\n<=23/\n<=b.length/\
  Hid (tk (ds.map AK) b 25 1=tk (ds.map AK) b (25-n) (n+1))/\Hid (∀x∈l,n<x.1.size/\x.1.size<=24)/\Below (B+2) w0 wr/\AI wr rb s p) (fun _ v _=>25-(intOf v).toNat)
 case atStart=>exact⟨0,q,ds,cap,rfl,rfl,h2,h3,Dp b5.out.symm,b7.out,Dp b4.out,by omega,Ds _,Dp rfl,Dp b6.out,ar,aq⟩
 case round=>
  clear ar aq h2 h3;obtain⟨n,a,l,cap,rfl,rfl,av,aw,hl,hc,ha,hn,b8,ax,G,hb,hr⟩:=hrel;unfold maxLen at aw;have R:tk (ds.map AK) b (25-n) (n+1)=if b.length<n+1 then (2,0) else if b.take (n+1)∈ds.map AK then (0,n+1) else if (ds.map AK).any (fun r=>(b.take (n+1)).isPrefixOf r)=true then tk (ds.map AK) b (24-n) (n+1+1) else (3,0):=by
   rw[show 25-n=(24-n)+1 by omega,tk]
  have U:=Dp (ax.out.trans R);clear R ax
  go_wp2_with fail
  refine(FU _ _ _ _ ((n:Int)+1) hr).mono ?_;rintro e S ⟨rfl,N⟩;have H:=hr.below N;have ay:=hc.below N;have aa:Below (B+2) w0 S:=hb.trans (N.mono (by rw[<-bm.out];exact hb.size));have ab:=b1.out S aa;obtain⟨z,az⟩:=bj.out S aa;obtain⟨n0,n1,_,_⟩:=Rf az;obtain⟨r0,r1,f0,f1⟩:=Rf z;have I:w.heap.size<=B:=M1 bw.out;clear hr hc hb N;by_cases A:b.length<n+1
  ·have j:ask s.data.toList p ((n:Int)+1)=(0,2):=FM (by omega) (by rw[Q.out] at A;have:s.data.toList.length=s.size:=rfl;omega);have F:=Dp (U.out.trans (Bc A));rw[j];clear A
   go_wp2
   exact J5 (BQ rfl _ _ B 272 _ (0,0) _ rfl (T2 z) underlying272 rfl (by kernel_rfl)) rfl (WK (by rw[D.out];exact F.out) (by decide) (Sl H (by omega)) (SI ab I))
  ·have hfit:p+(n+1)<=8*s.size:=by rw[Q.out] at A;omega
   have j:ask s.data.toList p ((n:Int)+1)=(((AE s.data.toList p (n+1):Nat):Int),0):=by
    have:=EL (l:=s.data.toList) (p:=p) (n:=(n:Int)+1) (by omega) (by have:s.data.toList.length=s.size:=rfl;omega);rw[this,show ((n:Int)+1).toNat=n+1 by omega]
   have bo:=Dp (U.out.trans (Bb A));obtain⟨a0,T⟩:=P4 s.data.toList p n hfit;have ac:∃c:UInt8,(c=48\/c=49)/\b[n]? =some c/\AE s.data.toList p (n+1)%2+48=c.toNat:=by
    have e:b[n]? =some ((A2 s.data.toList).drop p)[n]:=by rw[<-D.out];exact Fj a0
    rcases T with ⟨h1,h2⟩|⟨h1,h2⟩
    ·exact⟨48,.inl rfl,by rw[e,h1],by rw[h2];rfl⟩
    ·exact⟨49,.inr rfl,by rw[e,h1],by rw[h2];rfl⟩
   obtain⟨c,V,a1,i⟩:=ac;have bp:AE s.data.toList p (n+1)<=4294967296:=by
    have h1:=F1 s.data.toList p (n+1);have h2:2^(n+1)<=2^32:=Br (by omega) (by omega);omega
   rw[j];clear A U j T a0;obtain⟨t,a3⟩:=Ah (AE s.data.toList p (n+1));rw[a3] at i bp ⊢;have bq:=Dp V;have b9:=Dp a1;have ck:=Dp i;have W:(48+bits .and .i64 ((t:Nat):Int) 1)%256=(c.toNat:Int):=by
    have h1:bits .and .i64 ((t:Nat):Int) 1=(t:Int)%2:=LR (t:Int) 1 (by omega);rw[h1];omega
   have ca:=Dp W;clear V a1 i a3 W
   go_wp2_with fail
   rw[ca.out];refine(jM l a cap n c S ay av (by unfold maxLen;omega) G.out).mono ?_;rintro e w2 ⟨a2,cap2,rfl,rfl,J,ad,br,a4⟩;have a5:(if c=48 then l.takeWhile (BT AK n) else l.dropWhile (BT AK n))=E8 AK ds (b.take (n+1)):=by
    have a6:(b.take n).length=n:=by rw[Bf];omega
    have f:=Vt AK (l:=ds) (q:=b.take n) b3.out (fun x f=>(GK (bn.out x f)).2.2) (by rw[a6,<-hl.out];exact fun x f=>(G.out x f).1);rw[a6,<-hl.out] at f;have bt:b.take (n+1)=b.take n++[c]:=by
     rw[List.take_add_one,b9.out];rfl
    rw[bt];rcases bq.out with e|e
    ·rw[e,Bc rfl];exact f.1
    ·rw[e,Bb (by decide)];exact f.2
   rw[a5] at J ad ⊢;obtain⟨l2,K⟩:=Ah (E8 AK ds (b.take (n+1)));rw[K] at J ad ⊢;have O:=Dp K;have a7:Hid (∀x,a2=some x->lo<=x.block/\x.block<hi):=Dp (fun x f=>by
    obtain⟨y,hy,hb⟩:=a4 x f;rw[<-hb];exact ha.out y hy)
   unfold maxLen at br;clear a5 K a4 ay av aw ha hl G;by_cases h0:l2=[]
   ·have F:Hid (tk (ds.map AK) b 25 1=(3,0)):=Dp (by
     have ae:(ds.map AK).any (fun r=>(b.take (n+1)).isPrefixOf r)=false:=by
      rw[M7];intro r hr hp;obtain⟨x,f,rfl⟩:=M8.1 hr;have:x∈E8 AK ds (b.take (n+1)):=Jp.2 ⟨f,hp⟩;rw[O.out,h0] at this;cases this
     rw[bo.out,Bb,Bb (by rw[ae];decide)];intro hm;rw[M7] at ae;exact ae _ hm (JO _))
    subst h0
    go_wp2
    exact J5 (BQ rfl _ _ B 272 _ (0,0) _ rfl (T2 z) underlying272 rfl (by kernel_rfl)) rfl (WK (by rw[D.out];exact F.out) (by decide) (Sl H (by omega)) (SI ab I))
   ·obtain⟨y,l3,rfl⟩:∃y l3,l2=y::l3:=by
     cases l2 with
     |nil=>exact absurd rfl h0
     |cons y l3=>exact⟨y,l3,rfl⟩
    obtain⟨cb,o,rfl,a8,d⟩:=J.at (by simp);have c0:=(d 0 (by simp)).1;have c1:=(d 0 (by simp)).2.1;have c2:=(d 0 (by simp)).2.2;simp only[Ju,Ch,Cy] at c0 c1 c2;have cc:(((l3.length:Nat):Int)+1==0)=false:=by rw[Fg];omega
    have X:y∈E8 AK ds (b.take (n+1)):=by rw[O.out];exact Fa
    obtain⟨af,ag⟩:=Jp.1 X;have ah:n+1<=y.1.size/\y.1.size<=24:=by
     have h1:=HT ag;rw[Bf] at h1;have h2:=(GK (bn.out y af)).2.1;have h3:(AK y).length=y.1.size:=rfl;have h4:n+1<=b.length:=by rw[Q.out];omega
     omega
    have a9:=Dp af;have bh:=Dp ag;have cl:=Dp d;have cd:=Dp J;clear X af ag d J h0;obtain⟨y0,y1⟩:=ah;by_cases ai:y.1.size=n+1
    ·have g0:((y.1.size:Int)==(n:Int)+1)=true:=by rw[Bm];omega
     have F:Hid (tk (ds.map AK) b 25 1=(0,n+1)/\∃x∈ds,AK x=b.take (n+1)/\x.2=y.2):=Dp (by
      have h1:b.take (n+1)=AK y:=by
       have h2:=FJ.1 bh.out;have h3:(AK y).length=n+1:=ai;rw[Bf,Bw (by rw[Q.out];omega),Bk (by omega)] at h2;exact h2.symm
      refine⟨?_,y,a9.out,h1.symm,rfl⟩;rw[bo.out,Bc (by rw[h1];exact Ko a9.out)])
     have ba:cb≠rb:=by have:=a7.out _ rfl;simp at this;omega
     have bb:∀x,S.grownBy x (some rb)->x.cell? ⟨cb,o+1,none⟩=some (.int .i64 (sA y.2))/\x.cell? ⟨cb,o+2,none⟩=some (.int .i64 (sB y.2))/\x.heap[B]? =some (LA 0 0):=fun x f=>
      ⟨(Lx (a:=⟨cb,o+1,none⟩) (f.block cb a8 (by intro e;injection e with e;exact ba e))).trans c1,(Lx (a:=⟨cb,o+2,none⟩) (f.block cb a8 (by intro e;injection e with e;exact ba e))).trans c2,
       (f.block B (Ed.1 z).1 (by intro e;injection e with e;omega)).trans z⟩
     have ce:=Dp bb;have bz:AI S.drew rb s p:=H;have cf:p<=1125899906842624:=by have:=H.2;omega
     have cg:p+(n+1)<=8*s.size:=hfit;clear ai bb
     go_wp2_with fail
     have sw:IntKind.i64.wrap ((p:Int)+((n:Int)+1))=(p:Int)+((n:Int)+1):=Kp _ (by omega)
     go_region_with (first|(go_at_call 28;refine(ED _ _ _ _ (by assumption)).mono ?_;rintro e w3 ⟨rfl,rfl⟩)|(go_at_call 91;refine(GH _ _ _ _ _ (by assumption) (by omega) (by omega)).mono ?_;rintro e w3 ⟨rfl,bc,bd⟩;obtain⟨c3,c4,bf⟩:=ce.out w3 (AR (KW S _) bd);obtain⟨ch,ci,f30,f31⟩:=Rf bf))
     all_goals
      rw[show ((p:Int)+((n:Int)+1)).toNat=p+(n+1) by omega] at bc;have bu:=AR ab (AR (KW S _) bd)
      go_wp2
      exact J5 (BQ rfl _ _ B 272 _ (0,0) _ rfl (T2 bf) underlying272 rfl (by kernel_rfl)) rfl (lY (by rw[D.out];exact F.out.1) (by rw[D.out];exact F.out.2) (Sl bc (by omega)) (SI bu I))
    ·have g0:((y.1.size:Int)==(n:Int)+1)=false:=by rw[Fg];omega
     have Y:∀x,x∈E8 AK ds (b.take (n+1))->(AK x).length≠n+1:=by
      intro x f bg;obtain⟨aj,ak⟩:=Jp.1 f;have h2:=FJ.1 ak;rw[Bf,Bw (by rw[Q.out];omega),Bk (by omega)] at h2;have h3:=N8 bx.out (x:=AK x) (y:=AK y) (Ko aj) (Ko a9.out) (by rw[h2];exact bh.out);have h4:(AK y).length=y.1.size:=rfl;rw[h3] at bg;omega
     have F:Hid (tk (ds.map AK) b 25 1=tk (ds.map AK) b (25-(n+1)) (n+1+1)):=Dp (by
      rw[bo.out,Bb,Bc (Jy.2 ⟨AK y,Ko a9.out,bh.out⟩),show 25-(n+1)=24-n by omega];intro hm;have h3:=N8 bx.out hm (Ko a9.out) bh.out;have h4:=C6 List.length h3;rw[Bf,Bw (by rw[Q.out];omega)] at h4;exact ai h4.symm)
     have cj:Hid (∀x∈y::l3,n+1<x.1.size/\x.1.size<=24):=Dp (fun x f=>by
      rw[<-O.out] at f;obtain⟨aj,ak⟩:=Jp.1 f;have h1:=HT ak;rw[Bf,Bw (by rw[Q.out];omega)] at h1;have h2:=(GK (bn.out x aj)).2.1;have h3:(AK x).length=x.1.size:=rfl;have h4:=Y x f;omega)
     have bv:n+1<=b.length:=by rw[Q.out];omega
     clear Y c1 c2 z az n0 n1 r0 r1 f0 f1
     go_wp2
     go_roundw
     case rel=>exact⟨n+1,_,y::l3,cap2,by go_num,rfl,ad,by unfold maxLen;omega,Dp O.out.symm,cd.out,a7,by omega,bv,F,cj,aa,H⟩
     case measure=>simp[intOf];omega
abbrev LD (x:ByteArray×Int):Lit:=.int .i64 x.2
theorem Th (s:Int):WideAt.IsKeyLit (.int .i64 s):=trivial
def LL (x:ByteArray×Int):Ab Unit:=.lit (.string x.1.data.toList)
def Q2 (D:Ab Unit)(l:List (ByteArray×Int)):Ab Unit:=l.foldl (fun D x=>D.put (LD x) (LL x)) D
def JI (l:List (ByteArray×Int)):Ab Unit:=Q2 (.map []) l
theorem oN (l:List (ByteArray×Int))(j:Nat)(h:j<l.length):JI (l.take (j+1))=(JI (l.take j)).put (LD l[j]) (LL l[j]):=by
 unfold JI Q2;rw[Be h,Kt]
 rfl
theorem V4 {s t:Int}(h:s≠t):(Lit.int .i64 s)≠.int .i64 t:=by
 intro e;injection e with _ e;exact h e
theorem UB:∀{l:List (ByteArray×Int)} {D:Ab Unit} {acc:List Int},Tidy D->(∀s,has D (.int .i64 s)=true↔s∈acc)->size D=acc.length->acc.Nodup->
  size (Q2 D l)<=acc.length+l.length/\(size (Q2 D l)=acc.length+l.length↔(acc++l.map (·.2)).Nodup)
 |[],D,acc,_,_,h,hn=>⟨by show size D<=_;omega,by rw[Ct,Fb];exact⟨fun _=>hn,fun _=>h⟩⟩
 |x::l,D,acc,ht,hh,hs,hn=>by
  have f:=ht.put (k:=LD x) (Th _) (LL x);by_cases g:x.2∈acc
  ·have c:∀s,has (D.put (LD x) (LL x)) (.int .i64 s)=true↔s∈acc:=by
    intro s;by_cases e:s=x.2
    ·subst e;exact⟨fun _=>g,fun _=>Md ht.isMap (Th _) _⟩
    ·rw[Ma (V4 e)];exact hh s
   have d:size (D.put (LD x) (LL x))=acc.length:=by
    rw[size_put ht,Bc ((hh x.2).2 g)];exact hs
   obtain⟨i,_⟩:=UB (l:=l) f c d hn;rw[Bh];refine⟨Eg i (by omega),⟨fun e=>?_,fun hd=>?_⟩⟩
   ·exfalso;have o:size (Q2 (D.put (LD x) (LL x)) l)=acc.length+(l.length+1):=e;omega
   ·exfalso;exact(M6.1 hd).2.2 x.2 g x.2 (by simp) rfl
  ·have c:∀s,has (D.put (LD x) (LL x)) (.int .i64 s)=true↔s∈acc++[x.2]:=by
    intro s;rw[List.mem_append,Dk];by_cases e:s=x.2
    ·subst e;exact⟨fun _=>.inr rfl,fun _=>Md ht.isMap (Th _) _⟩
    ·rw[Ma (V4 e),hh s];exact⟨.inl,fun h=>h.resolve_right e⟩
   have d:size (D.put (LD x) (LL x))=(acc++[x.2]).length:=by
    rw[size_put ht,Bb (fun h=>g ((hh x.2).1 h)),B9,Bq,hs]
   have hn2:(acc++[x.2]).Nodup:=M6.2 ⟨hn,by simp,fun a n b m e=>g (by rw[Dk] at m;rw[<-m,<-e];exact n)⟩;obtain⟨i,j⟩:=UB (l:=l) f c d hn2;rw[B9,Bq] at i j;rw[Bh,Cm];rw[Bd] at j;refine⟨Eg i (by omega),?_⟩;rw[show acc.length+(l.length+1)=acc.length+1+l.length by omega]
   exact j
theorem nF (l:List (ByteArray×Int)):size (JI l)<=l.length/\(size (JI l)=l.length↔(l.map (·.2)).Nodup):=by
 have:=UB (l:=l) (D:=(.map []:Ab Unit)) (acc:=[]) tidy_empty (fun s=>by simp[Maps.has]) rfl List.nodup_nil;simp only[By,Bo,Cc] at this;exact this
def PL (w:A5)(m:Option Nat)(ds:List (ByteArray×Int)):Prop:=
 (m=none/\ds=[])\/∃a n l,m=some a/\w.ownsMap prog 3 (plainElem prog 9) a n (JI l)/\(l.map (·.2)).Nodup/\l.Perm ds
theorem PL.below {w b:A5}{m:Option Nat}{ds:List (ByteArray×Int)}(h:PL w m ds)(a:Below w.heap.size w b):PL b m ds:=by
 rcases h with h|⟨c,n,l,rfl,ho,hn,d⟩
 ·exact .inl h
 ·refine .inr ⟨c,n,l,rfl,?_,hn,d⟩;exact ho.kept (row:=none) ⟨a.os,a.tape,a.output,a.size,fun k e _=>a.block k e⟩ (by simp)
theorem oD:Keyed prog 3:=int_keyed M9
def TA (p:Option Aa)(l:List (ByteArray×Int))(at_:Nat)(c:UInt8)(w:A5)(e:Ad)(d:A5):Prop:=
 ∃q cap,e=.returned (.slice q (if c=48 then l.takeWhile (BT AC at_) else l.dropWhile (BT AC at_)).length cap)/\w=d/\Cds w q (if c=48 then l.takeWhile (BT AC at_) else l.dropWhile (BT AC at_))/\
  (if c=48 then l.takeWhile (BT AC at_) else l.dropWhile (BT AC at_)).length<=cap/\cap<=maxLen/\∀a,q=some a->∃b,p=some b/\b.block=a.block
theorem pD {α:Type}(p:α->Bool)(l:List α)(k:Nat)(h1:∀i,(h:i<l.length)->i<k->p l[i]=true)(h2:∀h:k<l.length,p l[k]=false)(a:k<=l.length):l.takeWhile p=l.take k/\l.dropWhile p=l.drop k:=by
 induction l generalizing k with
 |nil=>simp
 |cons x l c=>
  cases k with
  |zero=>
   have:=h2 (by simp);simp only[Ju] at this;simp[this]
  |succ k=>
   have b:=h1 0 (by simp) (by omega);simp only[Ju] at b;have:=c k (fun i hi d=>by have:=h1 (i+1) (by simpa using hi) (by omega);simpa using this) (fun a=>by have:=h2 (by simpa using a);simpa using this) (by simpa using a);simp[b,this.1,this.2]
theorem iR (x:ByteArray×Int)(at_:Nat)(h:at_<x.1.size):BT AC at_ x=(x.1[at_]==48):=by
 unfold BT AC;have e:x.1.data.toList[at_]? =some x.1[at_]:=Fj (show at_<x.1.data.toList.length from h);rw[e]
 rfl
theorem Rb {l:List (ByteArray×Int)}{at_ k:Nat}{c:UInt8}{w:A5}{p q:Option Aa}{n cap:Nat}(h1:∀i,(h:i<l.length)->i<k->BT AC at_ l[i]=true)(h2:∀h:k<l.length,BT AC at_ l[k]=false)(g:k<=l.length)
  (hn:n=if c=48 then k else l.length-k)(d:Cds w q (if c=48 then l.take k else l.drop k))(e:n<=cap)(hm:cap<=maxLen)(b:∀a,q=some a->∃f,p=some f/\f.block=a.block):TA p l at_ c w (.returned (.slice q n cap)) w:=by
 obtain⟨j,m⟩:=pD (BT AC at_) l k h1 h2 g;unfold TA;rw[j,m];by_cases hc:c=48
 ·simp only[hc,Kg] at hn d ⊢;have hl:(l.take k).length=k:=by rw[Bf];omega
  exact⟨q,cap,by rw[hl,hn],trivial,d,by omega,hm,b⟩
 ·simp only[hc,J9] at hn d ⊢;have hl:(l.drop k).length=l.length-k:=Bj;exact⟨q,cap,by rw[hl,hn],trivial,d,by omega,hm,b⟩
theorem Qfx {p:Option Aa}:∀a,p=some a->∃b,p=some b/\b.block=a.block:=fun a h=>⟨a,h,rfl⟩
theorem qD {p:Option Aa}{n:Nat}:∀a,Option.map (fun x=>Addr.add x n) p=some a->∃c,p=some c/\c.block=a.block:=by
 intro a h;cases p with
 |none=>cases h
 |some b=>cases h;exact⟨b,rfl,by show b.block=(b.add n).block;unfold Addr.add;split <;> rfl⟩
set_option maxRecDepth 100000 in
theorem eT (l:List (ByteArray×Int))(p:Option Aa)(cap at_:Nat)(c:UInt8)(w:A5)(hc:Cds w p l)(D:l.length<=cap)(q:cap<=maxLen)(m:∀x∈l,at_<x.1.size/\x.1.size<=24):
  A9 prog 254 #[.slice p l.length cap,.int .i64 (at_:Int),.int .u8 (c.toNat:Int)] w (TA p l at_ c w):=by
 unfold maxLen at q;have E:=Dp m;clear m;have v:(c=48/\((c.toNat:Int)==48)=true)\/(c≠48/\((c.toNat:Int)==48)=false):=by
  by_cases h:c=48
  ·exact .inl ⟨h,by rw[h];rfl⟩
  ·refine .inr ⟨h,?_⟩;rw[Fg];intro e;exact h (Jz.1 (by show c.toNat=48;omega))
 go_enter func254,ntmps254
 go_wp2
 go_loop [7] (fun i=>∃k:Nat,k<=l.length/\i=.int .i64 k/\Hid (∀i,(h:i<l.length)->i<k->BT AC at_ l[i]=true)) (fun i=>l.length-(intOf i).toNat)
 case atStart=>exact⟨0,Ds _,rfl,Dp (fun i _ h=>absurd h (Fk i))⟩
 case round=>
  obtain⟨k,t,rfl,g⟩:=hrel;by_cases r:k<l.length
  ·obtain⟨b,o,rfl,_,f⟩:=hc.at (by omega);have F:=(f k r).1;have A:=E.out l[k] (Bn r);obtain⟨x,n⟩:=Ah (l[k]);rw[n] at F A;obtain⟨y,G⟩:=A;have B:=Dp (show BT AC at_ l[k]=(x.1[at_]==48) by rw[n];exact iR x at_ y);have u:=Dp hc;clear f n hc;by_cases j:x.1[at_].toNat=48
   ·have H:((x.1[at_].toNat:Int)==48)=true:=by rw[j];rfl
    have I:Hid (∀i,(h:i<l.length)->i<k+1->BT AC at_ l[i]=true):=Dp (fun i hi h=>by
     by_cases e:i=k
     ·subst e;rw[B.out,Jz.1 (show x.1[at_].toNat=(48:UInt8).toNat from j)]
      rfl
     ·exact g.out i hi (by omega))
    clear j v
    go_wp2
    go_round
    case rel=>exact⟨k+1,by omega,by go_num,I⟩
    case measure=>simp[intOf];omega
   ·have H:((x.1[at_].toNat:Int)==48)=false:=by rw[Fg];omega
    have s:Hid (∀h:k<l.length,BT AC at_ l[k]=false):=Dp (fun _=>by
     rw[B.out,Fg];intro e;exact j (by rw[e];rfl))
    clear j;rcases v with ⟨d,z⟩|⟨d,z⟩
    ·have C:=Dp d;clear d
     go_wp2
     go_ret
     exact Rb g.out s.out t (by rw[Bc C.out]) (by rw[Bc C.out];exact u.out.take k) (by omega) (by unfold maxLen;omega) (fun a h=>⟨a,h,rfl⟩)
    ·have C:=Dp d;clear d
     go_wp2
     go_ret
     exact Rb g.out s.out t (by rw[Bb C.out]) (by rw[Bb C.out];exact u.out.drop k) (by omega) (by unfold maxLen;omega) (fun a h=>⟨_,rfl,by cases h;rfl⟩)
  ·obtain rfl:k=l.length:=by omega
   have s:Hid (∀h:l.length<l.length,BT AC at_ l[l.length]=false):=Dp (fun h=>absurd h (Nat.lt_irrefl _));have u:=Dp hc;clear hc;rcases v with ⟨d,z⟩|⟨d,z⟩
   ·have C:=Dp d;clear d
    go_wp2
    go_ret
    exact Rb g.out s.out t (by rw[Bc C.out]) (by rw[Bc C.out];exact u.out.take _) (by omega) (by unfold maxLen;omega) (fun a h=>⟨a,h,rfl⟩)
   ·have C:=Dp d;clear d
    go_wp2
    all_goals
     go_ret
     exact Rb g.out s.out t (by rw[Bb C.out,Ci]) (by rw[Bb C.out,List.drop_length];exact .inl rfl) (by omega) (by unfold maxLen;omega) (by first|exact Qfx|exact qD)
def iZ (m:Option Nat)(q:Option Aa)(n cap:Nat)(L:Int):List A0:=[.map m,.slice q n cap,.int .i64 L]
def IT (m:Option Nat)(q:Option Aa)(n cap:Nat)(L:Int):Obj:=.cells (iZ m q n cap L).toArray 288 (0,0)
def TP (w:A5)(lo N b:Nat)(ds:List (ByteArray×Int))(L:Int):Prop:=
 ∃(m:Option Nat) (q:Option Aa) (cap:Nat),w.heap[b]? =some (IT m q ds.length cap L)/\ds.length<=cap/\cap<=maxLen/\Cds w q ds/\PL w m ds/\∀a,q=some a->lo<=a.block/\a.block<N
theorem Y1k (s:ByteArray)(hs:s.size<=maxLen)(w:A5):
  A9 prog 249 #[.string s] w fun e j=>e=.returned (.bool (BX s.data.toList))/\Below w.heap.size w j:=by
 unfold maxLen at hs;have b:s.data.toList.length=s.size:=rfl;by_cases a:s.data.toList=[]
 ·have F:=Dp (show BX s.data.toList=false by rw[a];rfl);have k:s.toList.isEmpty=true:=by rw[J7,a];rfl
  have f:s.toList=[]:=by rw[J7,a]
  clear a b
  go_enter func249,Me
  go_wp2
  go_ret
  exact⟨AH F.out.symm,Dq _ _⟩
 have k:s.toList.isEmpty=false:=by rw[J7];simpa using a
 by_cases g:24<s.size
 ·have F:=Dp (show BX s.data.toList=false by
   cases h:BX s.data.toList with
   |false=>rfl
   |true=>have:=(GK h).2.1;omega)
  have f:decide ((s.size:Int)<=24)=false:=by simp;omega
  clear a b g
  go_enter func249,Me
  go_wp2
  go_ret
  exact⟨AH F.out.symm,Dq _ _⟩
 have f:decide ((s.size:Int)<=24)=true:=by simp;omega
 have i:BX s.data.toList=AL s.data.toList:=by
  cases h:AL s.data.toList with
  |true=>exact Y5 a (by omega) h
  |false=>
   cases h2:BX s.data.toList with
   |false=>rfl
   |true=>rw[(GK h2).2.2] at h;cases h
 have c:(Lib.trimS s.data.toList [48,49]).isEmpty=BX s.data.toList:=by
  rw[i,Jr,List.isEmpty_iff,Zf]
 obtain⟨r,hr⟩:=Ah ((⟨(Lib.trimS s.data.toList [48,49]).toArray⟩:ByteArray));have d:r.toList.isEmpty=BX s.data.toList:=by rw[<-c,<-hr,J7]
 have l:=Dp hr;have m:=Dp d;clear a b g i c hr d
 go_enter func249,Me
 go_wp2_with fail
 refine(Xe s hs _).mono ?_;rintro e o ⟨rfl,n⟩;rw[l.out]
 go_wp2
 go_ret
 exact⟨AH m.out,n⟩
set_option maxRecDepth 100000 in
theorem Y3u (l:List (ByteArray×Int))(p:Option Aa)(cap:Nat)(w:A5)(r:Bool)(hr:r=true↔∃i,∃h:i+1<l.length,(AC l[i]).isPrefixOf (AC l[i+1])=true)(hc:Cds w p l)(hm:l.length<=1048576):
  A9 prog 253 #[.slice p l.length cap] w fun e s=>e=.returned (.bool r)/\Below w.heap.size w s:=by
 have R:=Dp hr;clear hr;obtain⟨B,t⟩:=Ah w.heap.size;have z:∀x,Below B w x->∀i,(h:i<l.length)->∃b o,p=some ⟨b,o,none⟩/\∀j,(h:j<l.length)->x.cell? ⟨b,o+j*2,none⟩=some (.string l[j].1):=by
  intro x g i hi;obtain⟨b,o,rfl,A,c⟩:=hc.at (by omega);exact⟨b,o,rfl,fun j hj=>(Lx (a:=⟨b,o+j*2,none⟩) (g.block b (by omega))).trans (c j hj).1⟩
 have H:=Dp z;have m:Below B w w:=Dq _ _;have J:=Dp t;rw[t];clear z hc t
 go_enter func253,ntmps253
 go_wp2
 go_loopw [3] (fun i wr=>∃k:Nat,(k<l.length\/k=0)/\i=.int .i64 ((k:Int)+1)/\Below B w wr/\Hid (∀i,(h:i+1<l.length)->i<k->(AC l[i]).isPrefixOf (AC l[i+1])=false)) (fun i _=>l.length+1-(intOf i).toNat)
 case atStart=>exact⟨0,.inr rfl,rfl,m,Dp (fun i _ h=>absurd h (Fk i))⟩
 case round=>
  clear m;obtain⟨k,C,rfl,q,n⟩:=hrel;by_cases f:k+1<l.length
  ·obtain⟨b,o,rfl,c⟩:=H.out wr q (k+1) f;have c1:=c (k+1) f;have I:=c k (by omega);obtain⟨x,g⟩:=Ah (l[k+1]);obtain⟨y,u⟩:=Ah (l[k]);rw[g] at c1;rw[u] at I;have D:=Dp g;have E:=Dp u;have t0:decide ((k:Int)+1<l.length)=true:=by simp;omega
   have d:∀w,A9 prog 197 #[.string x.1,.string y.1] w fun e s=>e=.returned (.bool (y.1.data.toList.isPrefixOf x.1.data.toList))/\s=w:=fun w=>Tm x.1 y.1 w;clear c C g u;cases hpre:y.1.data.toList.isPrefixOf x.1.data.toList with
   |true=>
    rw[hpre] at d;have F:=Dp (R.out.2 ⟨k,f,by rw[D.out,E.out];exact hpre⟩);have v:=Dp d;clear hpre d
    go_wp2_with fail
    go_quiet ((go_at_call 197;exact M5 (v.out _)))
    go_wp2
    go_ret
    exact⟨AH F.out.symm,OK q _⟩
   |false=>
    rw[hpre] at d;have F:Hid (∀i,(h:i+1<l.length)->i<k+1->(AC l[i]).isPrefixOf (AC l[i+1])=false):=Dp (fun i hi h=>by
     by_cases e:i=k
     ·subst e;rw[D.out,E.out];exact hpre
     ·exact n.out i hi (by omega))
    have v:=Dp d;clear hpre d
    go_wp2_with fail
    go_quiet ((go_at_call 197;exact M5 (v.out _)))
    go_wp2
    go_roundw
    case rel=>exact⟨k+1,.inl f,by go_num,OK q _,F⟩
    case measure=>simp[intOf];omega
  ·have F:=Dp (show r=false by
    cases hrr:r with
    |false=>rfl
    |true=>
     obtain⟨i,hi,G⟩:=R.out.1 hrr;rw[n.out i hi (by omega)] at G;cases G)
   have t0:decide ((k:Int)+1<l.length)=false:=by simp;omega
   clear f C
   go_wp2
   go_ret
   exact⟨AH F.out.symm,q⟩
def PH (ds:List (ByteArray×Int))(s:ByteArray)(rb p:Nat)(w:A5)(e:Ad)(a:A5):Prop:=
 ∃v:Int,e=.returned (.tuple #[.int .i64 v,.int .i64 (tk (ds.map AC) ((A2 s.data.toList).drop p) 25 1).1])/\
  ((tk (ds.map AC) ((A2 s.data.toList).drop p) 25 1).1=0->∃x∈ds,AC x=((A2 s.data.toList).drop p).take (tk (ds.map AC) ((A2 s.data.toList).drop p) 25 1).2/\x.2=v)/\
  ((tk (ds.map AC) ((A2 s.data.toList).drop p) 25 1).1≠0->v=0)/\AI a rb s (p+(tk (ds.map AC) ((A2 s.data.toList).drop p) 25 1).2)/\w.grownBy a (some rb)
theorem aT {ds:List (ByteArray×Int)}{s:ByteArray}{rb p:Nat}{w a:A5}{f:Int}(h:tk (ds.map AC) ((A2 s.data.toList).drop p) 25 1=(f,0))(b:f≠0)(hr:AI a rb s p)(c:w.grownBy a (some rb)):
  PH ds s rb p w (.returned (.tuple #[.int .i64 0,.int .i64 f])) a:=by
 unfold PH;rw[h];exact⟨0,rfl,fun e=>absurd e b,fun _=>rfl,hr,c⟩
theorem wY {ds:List (ByteArray×Int)}{s:ByteArray}{rb p n:Nat}{w a:A5}{v:Int}(h:tk (ds.map AC) ((A2 s.data.toList).drop p) 25 1=(0,n))(b:∃x∈ds,AC x=((A2 s.data.toList).drop p).take n/\x.2=v)(hr:AI a rb s (p+n))(c:w.grownBy a (some rb)):
  PH ds s rb p w (.returned (.tuple #[.int .i64 v,.int .i64 0])) a:=by
 unfold PH;rw[h];exact⟨v,rfl,fun _=>b,fun e=>absurd rfl e,hr,c⟩
set_option maxRecDepth 100000 in
theorem mM (w:A5)(lo N tb rb:Nat)(ds:List (ByteArray×Int))(L:Int)(s:ByteArray)(p:Nat)(ht:TP w lo N tb ds L)(hr:AI w rb s p)(hN:rb<lo\/N<=rb)
  (hs:ds.Pairwise fun x y=>leL (AC x) (AC y)=true)(hf:CH (ds.map AC))(ho:∀x∈ds,BX (AC x)=true):
  A9 prog 240 #[.pointer (some ⟨tb,0,none⟩),.pointer (some ⟨rb,0,none⟩)] w (PH ds s rb p w):=by
 obtain⟨m,q,cap,h1,h2,h3,hc,_,hq⟩:=ht;have c1:w.cell? ⟨tb,1,none⟩=some (.slice q ds.length cap):=AA h1 rfl;obtain⟨b,T⟩:=Ah ((A2 s.data.toList).drop p);have ag:b.length=8*s.size-p:=by rw[<-T,Bj,BO];rfl
 have bh:=hr.2.1;obtain⟨B,hB⟩:=Ah w.heap.size;have ah:Below B w w:=Dq _ _;have bd:=Dp hB;have bi:=Dp hs;have bf:=Dp hf;have a3:=Dp ho;have A:=Dp T;have K:=Dp ag;have bj:=Dp hq;have ai:E8 AC ds (b.take 0)=ds:=by rw[Bi];exact W7 AC ds
 have bk:=Dp ai;have C:∀x∈ds,0<x.1.size/\x.1.size<=24:=fun x f=>by
  have h:=GK (ho x f);have h1:(AC x).length=x.1.size:=rfl;have h2:=M4.2 h.1;omega
 have bl:=Dp C;have bm:=Dp hc;clear h1 hB hs hf ho T ag hq ai hc C
 go_enter func240,ntmps240
 go_wp2
 go_loopw [7,8] (fun u v wr=>∃(n:Nat) (a:Option Aa) (l:List (ByteArray×Int)) (cap:Nat),v=.int .i64 ((n:Int)+1)/\u=.slice a l.length cap/\l.length<=cap/\cap<=maxLen/\Hid (l=E8 AC ds (b.take n))/\Cds wr a l/\Hid (∀x,a=some x->lo<=x.block/\x.block<N)/\n<=23/\n<=b.length/\
  Hid (tk (ds.map AC) b 25 1=tk (ds.map AC) b (25-n) (n+1))/\Hid (∀x∈l,n<x.1.size/\x.1.size<=24)/\Below B w wr/\AI wr rb s p) (fun _ v _=>25-(intOf v).toNat)
 case atStart=>exact⟨0,q,ds,cap,rfl,rfl,h2,h3,Dp bk.out.symm,bm.out,Dp bj.out,by omega,Ds _,Dp rfl,Dp bl.out,ah,hr⟩
 case round=>
  clear ah hr h2 h3 c1;obtain⟨n,a,l,cap,rfl,rfl,aj,ak,hl,hc,ha,hn,bn,al,D,hb,hr⟩:=hrel;unfold maxLen at ak;have M:tk (ds.map AC) b (25-n) (n+1)=if b.length<n+1 then (2,0) else if b.take (n+1)∈ds.map AC then (0,n+1) else if (ds.map AC).any (fun r=>(b.take (n+1)).isPrefixOf r)=true then tk (ds.map AC) b (24-n) (n+1+1) else (3,0):=by
   rw[show 25-n=(24-n)+1 by omega,tk]
  have U:=Dp (al.out.trans M);clear M al
  go_wp2_with fail
  refine(FU _ _ _ _ ((n:Int)+1) hr).mono ?_;rintro e V ⟨rfl,I⟩;have E:=hr.below I;have am:=hc.below I;have g:Below B w V:=hb.trans (I.mono (by rw[<-bd.out];exact hb.size));have W:w.grownBy V (some rb):=by
   rw[<-bd.out] at g;exact⟨g.os,g.tape,g.output,g.size,fun k hk _=>g.block k hk⟩
  clear hr hc hb I;by_cases z:b.length<n+1
  ·have j:ask s.data.toList p ((n:Int)+1)=(0,2):=FM (by omega) (by rw[K.out] at z;have:s.data.toList.length=s.size:=rfl;omega);have F:=Dp (U.out.trans (Bc z));rw[j];clear z
   go_wp2
   go_ret2
   exact aT (by rw[A.out];exact F.out) (by decide) E W
  ·have hfit:p+(n+1)<=8*s.size:=by rw[K.out] at z;omega
   have j:ask s.data.toList p ((n:Int)+1)=(((AE s.data.toList p (n+1):Nat):Int),0):=by
    have:=EL (l:=s.data.toList) (p:=p) (n:=(n:Int)+1) (by omega) (by have:s.data.toList.length=s.size:=rfl;omega);rw[this,show ((n:Int)+1).toNat=n+1 by omega]
   have a4:=Dp (U.out.trans (Bb z));obtain⟨an,O⟩:=P4 s.data.toList p n hfit;have X:∃c:UInt8,(c=48\/c=49)/\b[n]? =some c/\AE s.data.toList p (n+1)%2+48=c.toNat:=by
    have e:b[n]? =some ((A2 s.data.toList).drop p)[n]:=by rw[<-A.out];exact Fj an
    rcases O with ⟨h1,h2⟩|⟨h1,h2⟩
    ·exact⟨48,.inl rfl,by rw[e,h1],by rw[h2];rfl⟩
    ·exact⟨49,.inr rfl,by rw[e,h1],by rw[h2];rfl⟩
   obtain⟨c,P,ao,i⟩:=X;have a5:AE s.data.toList p (n+1)<=4294967296:=by
    have h1:=F1 s.data.toList p (n+1);have h2:2^(n+1)<=2^32:=Br (by omega) (by omega);omega
   rw[j];clear z U j O an;obtain⟨t,ap⟩:=Ah (AE s.data.toList p (n+1));rw[ap] at i a5 ⊢;have a6:=Dp P;have bo:=Dp ao;have bx:=Dp i;have Q:(48+bits .and .i64 ((t:Nat):Int) 1)%256=(c.toNat:Int):=by
    have h1:bits .and .i64 ((t:Nat):Int) 1=(t:Int)%2:=LR (t:Int) 1 (by omega);rw[h1];omega
   have bp:=Dp Q;clear P ao i ap Q
   go_wp2_with fail
   rw[bp.out];refine(eT l a cap n c V am aj (by unfold maxLen;omega) D.out).mono ?_;rintro e w2 ⟨a2,cap2,rfl,rfl,G,Y,a7,aq⟩;have ar:(if c=48 then l.takeWhile (BT AC n) else l.dropWhile (BT AC n))=E8 AC ds (b.take (n+1)):=by
    have au:(b.take n).length=n:=by rw[Bf];omega
    have f:=Vt AC (l:=ds) (q:=b.take n) bi.out (fun x f=>(GK (a3.out x f)).2.2) (by rw[au,<-hl.out];exact fun x f=>(D.out x f).1);rw[au,<-hl.out] at f;have a8:b.take (n+1)=b.take n++[c]:=by
     rw[List.take_add_one,bo.out];rfl
    rw[a8];rcases a6.out with e|e
    ·rw[e,Bc rfl];exact f.1
    ·rw[e,Bb (by decide)];exact f.2
   rw[ar] at G Y ⊢;obtain⟨l2,H⟩:=Ah (E8 AC ds (b.take (n+1)));rw[H] at G Y ⊢;have J:=Dp H;have av:Hid (∀x,a2=some x->lo<=x.block/\x.block<N):=Dp (fun x f=>by
    obtain⟨y,hy,hb⟩:=aq x f;rw[<-hb];exact ha.out y hy)
   unfold maxLen at a7;clear ar H aq am aj ak ha hl D;by_cases h0:l2=[]
   ·have F:Hid (tk (ds.map AC) b 25 1=(3,0)):=Dp (by
     have Z:(ds.map AC).any (fun r=>(b.take (n+1)).isPrefixOf r)=false:=by
      rw[M7];intro r hr hp;obtain⟨x,f,rfl⟩:=M8.1 hr;have:x∈E8 AC ds (b.take (n+1)):=Jp.2 ⟨f,hp⟩;rw[J.out,h0] at this;cases this
     rw[a4.out,Bb,Bb (by rw[Z];decide)];intro hm;rw[M7] at Z;exact Z _ hm (JO _))
    subst h0
    go_wp2
    go_ret2
    exact aT (by rw[A.out];exact F.out) (by decide) E W
   ·obtain⟨y,l3,rfl⟩:∃y l3,l2=y::l3:=by
     cases l2 with
     |nil=>exact absurd rfl h0
     |cons y l3=>exact⟨y,l3,rfl⟩
    obtain⟨cb,o,rfl,a9,d⟩:=G.at (by simp);have c0:=(d 0 (by simp)).1;have c1:=(d 0 (by simp)).2;simp only[Ju,Ch,Cy] at c0 c1;have bq:(((l3.length:Nat):Int)+1==0)=false:=by rw[Fg];omega
    have R:y∈E8 AC ds (b.take (n+1)):=by rw[J.out];exact Fa
    obtain⟨aa,ab⟩:=Jp.1 R;have ac:n+1<=y.1.size/\y.1.size<=24:=by
     have h1:=HT ab;rw[Bf] at h1;have h2:=(GK (a3.out y aa)).2.1;have h3:(AC y).length=y.1.size:=rfl;have h4:n+1<=b.length:=by rw[K.out];omega
     omega
    have aw:=Dp aa;have a1:=Dp ab;have bz:=Dp d;have br:=Dp G;clear R aa ab d G h0;obtain⟨y0,y1⟩:=ac;by_cases ad:y.1.size=n+1
    ·have g0:((y.1.size:Int)==(n:Int)+1)=true:=by rw[Bm];omega
     have F:Hid (tk (ds.map AC) b 25 1=(0,n+1)/\∃x∈ds,AC x=b.take (n+1)/\x.2=y.2):=Dp (by
      have h1:b.take (n+1)=AC y:=by
       have h2:=FJ.1 a1.out;have h3:(AC y).length=n+1:=ad;rw[Bf,Bw (by rw[K.out];omega),Bk (by omega)] at h2;exact h2.symm
      refine⟨?_,y,aw.out,h1.symm,rfl⟩;rw[a4.out,Bc (by rw[h1];exact Ko aw.out)])
     have ba:cb≠rb:=by have:=av.out _ rfl;simp at this;omega
     have ax:∀x,V.grownBy x (some rb)->x.cell? ⟨cb,o+1,none⟩=some (.int .i64 y.2):=fun x f=>(Lx (a:=⟨cb,o+1,none⟩) (f.block cb a9 (by intro e;injection e with e;exact ba e))).trans c1;have bt:=Dp ax;have bg:AI V.drew rb s p:=E;have bu:p<=1125899906842624:=by have:=E.2;omega
     have bv:p+(n+1)<=8*s.size:=hfit;clear ad ax
     go_wp2_with fail
     have sw:IntKind.i64.wrap ((p:Int)+((n:Int)+1))=(p:Int)+((n:Int)+1):=Kp _ (by omega)
     go_region_with (first|(go_at_call 28;refine(ED _ _ _ _ (by assumption)).mono ?_;rintro e w3 ⟨rfl,rfl⟩)|(go_at_call 91;refine(GH _ _ _ _ _ (by assumption) (by omega) (by omega)).mono ?_;rintro e w3 ⟨rfl,ay,az⟩;have c3:=bt.out w3 (AR (KW V _) az)))
     all_goals
      rw[show ((p:Int)+((n:Int)+1)).toNat=p+(n+1) by omega] at ay;have bb:=AR W (AR (KW V _) az)
      go_wp2
      go_ret2
      exact wY (by rw[A.out];exact F.out.1) (by rw[A.out];exact F.out.2) ay bb
    ·have g0:((y.1.size:Int)==(n:Int)+1)=false:=by rw[Fg];omega
     have S:∀x,x∈E8 AC ds (b.take (n+1))->(AC x).length≠n+1:=by
      intro x f a0;obtain⟨ae,af⟩:=Jp.1 f;have h2:=FJ.1 af;rw[Bf,Bw (by rw[K.out];omega),Bk (by omega)] at h2;have h3:=N8 bf.out (x:=AC x) (y:=AC y) (Ko ae) (Ko aw.out) (by rw[h2];exact a1.out);have h4:(AC y).length=y.1.size:=rfl;rw[h3] at a0;omega
     have F:Hid (tk (ds.map AC) b 25 1=tk (ds.map AC) b (25-(n+1)) (n+1+1)):=Dp (by
      rw[a4.out,Bb,Bc (Jy.2 ⟨AC y,Ko aw.out,a1.out⟩),show 25-(n+1)=24-n by omega];intro hm;have h3:=N8 bf.out hm (Ko aw.out) a1.out;have h4:=C6 List.length h3;rw[Bf,Bw (by rw[K.out];omega)] at h4;exact ad h4.symm)
     have bw:Hid (∀x∈y::l3,n+1<x.1.size/\x.1.size<=24):=Dp (fun x f=>by
      rw[<-J.out] at f;obtain⟨ae,af⟩:=Jp.1 f;have h1:=HT af;rw[Bf,Bw (by rw[K.out];omega)] at h1;have h2:=(GK (a3.out x ae)).2.1;have h3:(AC x).length=x.1.size:=rfl;have h4:=S x f;omega)
     have bc:n+1<=b.length:=by rw[K.out];omega
     clear S c1
     go_wp2
     go_roundw
     case rel=>exact⟨n+1,_,y::l3,cap2,by go_num,rfl,Y,by unfold maxLen;omega,Dp J.out.symm,br.out,av,by omega,bc,F,bw,g,E⟩
     case measure=>simp[intOf];omega
end
end Go.Proofs.YtjjmalchelniiaaGreatDoor
