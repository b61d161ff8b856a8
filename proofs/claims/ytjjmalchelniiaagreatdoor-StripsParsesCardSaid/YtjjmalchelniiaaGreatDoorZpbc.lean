/- No condition. -/
import Derived.Test.YtjjmalchelniiaaGreatDoorZpe
import Derived.Test.YtjjmalchelniiaaGreatDoorZpf
import Derived.Test.YtjjmalchelniiaaGreatDoorZpg
import Derived.Test.YtjjmalchelniiaaGreatDoorZps
import Derived.Test.YtjjmalchelniiaaGreatDoorZpba
import Derived.Test.YtjjmalchelniiaaGreatDoorZpbb
open Go.Proofs.Tryz
open Go renaming World->A5,Calls->A9,Value->A0,Addr->Aa,DataW->Ad,Ending->Ae
set_option maxHeartbeats 8000000
namespace Go.Proofs.YtjjmalchelniiaaGreatDoor
section
open Go.RowKit Go.Lib Go.Sort
theorem Wee{p:Prop}(h:p:=by
 exact⟨0,.inr rfl,rfl,m,Dm (fun i _ h=>absurd h (Fi i))⟩):p:=h
theorem Wed{p:Prop}(h:p:=by
 go_enter func249,Mn
 go_wp2
 go_ret
 exact⟨AJ F.out.symm,Dn _ _⟩):p:=h
theorem Wec{p:Prop}(h:p:=by
 cases l2 with
 |nil=>exact absurd rfl h0
 |cons y l3=>exact⟨y,l3,rfl⟩):p:=h
theorem Web{p:Prop}(h:p:=by
 have h1:=EB s.data.toList p (n+1);have h2:2^(n+1)<=2^32:=Br sX sX;omega):p:=h
theorem Wea{p:Prop}(h:p:=by
 subst e;rw[A.out,Jl.1 (show x.1[at_].toNat=(48:UInt8).toNat from j)]
 rfl):p:=h
theorem Wd9{p:Prop}(h:p:=by
 intro a h;cases p with
 |none=>cases h
 |some b=>cases h;exact⟨b,rfl,yA⟩):p:=h
theorem Wd8{p:Prop}(h:p:=by
 have h1:bits .and .i64 ((t:Nat):Int) 1=(t:Int)%2:=LQ (t:Int) 1 sX;rw[h1];omega):p:=h
theorem Wd7{p:Prop}(h:p:=by
 clear j u
 go_wp2
 go_round
 case rel=>exact⟨k+1,sX,tP,G⟩
 case measure=>simp[intOf];omega):p:=h
theorem Wd6{p:Prop}(h:p:=by
 have e:x.1.data.toList[at_]? =some x.1[at_]:=Fh (show at_<x.1.data.toList.length from h);rw[e]
 rfl):p:=h
theorem Wd5{p:Prop}(h:p:=by
 have:=EK (l:=s.data.toList) (p:=p) (n:=(n:Int)+1) sX xY;rw[this,show ((n:Int)+1).toNat=n+1 by omega]):p:=h
theorem Wd4{p:Prop}(h:p:=by
 go_wp2
 exact Is (C0 rfl _ _ B 272 _ (0,0) _ rfl (Wn z) underlying272 rfl tN) rfl (XD yE sY (Un H sX) (Vc ab I))):p:=h
theorem Wd3{p:Prop}(h:p:=by
 go_wp2_with (go_at_call 252;refine(a _).mono ?_;rintro e c ⟨rfl,rfl⟩)
 go_ret
 exact⟨rfl,0,_,by rw[Mk,Mk,grow_grow];rfl⟩):p:=h
theorem Wd2{p:Prop}(h:p:=by
 by_cases h:c=48
 ·exact .inl ⟨h,by rw[h];rfl⟩
 ·refine .inr ⟨h,?_⟩;rw[Fe];intro e;exact h (Jl.1 (by show c.toNat=48;omega))):p:=h
theorem Wd1{p:Prop}(h:p:=by
 rw[B8,Bo] at i j;rw[Bi,Cn];rw[Bg] at j;refine⟨Ef i sX,?_⟩;rw[show acc.length+(l.length+1)=acc.length+1+l.length by omega];exact j):p:=h
theorem Wd0{p:Prop}(h:p:=by
 rcases h with rfl|⟨b,o,h1,h2,h3⟩
 ·exact .inl sZ
 ·refine .inr ⟨b,o,h1,h2,fun i hi=>?_⟩;rw[Fo];exact h3 i (by rw[Be] at hi;omega)):p:=h
theorem Wdz{p:Prop}(h:p:=by
 have v:=Dm d;clear hpre d
 go_wp2_with fail
 go_quiet ((go_at_call 197;exact Kl (v.out _)))
 go_wp2
 go_roundw
 case rel=>exact⟨k+1,.inl f,tP,KF q _,F⟩
 case measure=>simp[intOf];omega):p:=h
theorem Wdy{p:Prop}(h:p:=by
 rw[hpre] at d;have F:=Dm (R.out.2 ⟨k,f,by rw[C.out,D.out];exact hpre⟩);have v:=Dm d;clear hpre d
 go_wp2_with fail
 go_quiet ((go_at_call 197;exact Kl (v.out _)))
 go_wp2
 go_ret
 exact⟨AJ F.out.symm,KF q _⟩):p:=h
theorem Wdx{p:Prop}(h:p:=by
 have F:=Dm (show r=false by
  cases hrr:r with
  |false=>rfl
  |true=>
   obtain⟨i,hi,E⟩:=R.out.1 hrr;rw[n.out i hi sX] at E;cases E)
 have t0:decide ((k:Int)+1<l.length)=false:=tO;clear f hk
 go_wp2
 go_ret
 exact⟨AJ F.out.symm,q⟩):p:=h
theorem Wdw{p:Prop}(h:p:=by
 cases k with
 |zero=>
  have:=h2 sZ;simp only[Ji] at this;simp[this]
 |succ k=>
  have a:=h1 0 sZ sX;simp only[Ji] at a;have:=b k (fun i hi c=>xZ) (fun hk=>by have:=h2 (by simpa using hk);simpa using this) (by simpa using hk);simp[a,this.1,this.2]):p:=h
theorem Wdv{p:Prop}(h:p:=by
 rw[e1,e2];by_cases hc:c=48
 ·simp only[hc,Jw] at hn d ⊢;have hl:(l.take k).length=k:=tB;exact⟨q,cap,by rw[hl,hn],trivial,d,sX,hm,b⟩
 ·simp only[hc,Iw] at hn d ⊢;have hl:(l.drop k).length=l.length-k:=Bf;exact⟨q,cap,by rw[hl,hn],trivial,d,sX,hm,b⟩):p:=h
theorem Wdu{p:Prop}(h:p:=by
 unfold maxLen at hs;have b:s.data.toList.length=s.size:=rfl;by_cases a:s.data.toList=[]
 ·have F:=Dm (show BW s.data.toList=false by rw[a];rfl);have e0:s.toList.isEmpty=true:=by rw[Iu,a];rfl
  have e1:s.toList=[]:=by rw[Iu,a]
  clear a b
  exact Wed
 have e0:s.toList.isEmpty=false:=by rw[Iu];simpa using a
 by_cases x1:24<s.size
 ·have F:=Dm (show BW s.data.toList=false by
   cases h:BW s.data.toList with
   |false=>rfl
   |true=>have:=(GS h).2.1;omega)
  have e1:decide ((s.size:Int)<=24)=false:=tO;clear a b x1
  exact Wed
 have e1:decide ((s.size:Int)<=24)=true:=tO;have hk:BW s.data.toList=AH s.data.toList:=by
  cases h:AH s.data.toList with
  |true=>exact cQ a sX h
  |false=>
   cases h2:BW s.data.toList with
   |false=>rfl
   |true=>rw[(GS h2).2.2] at h;cases h
 have c:(Lib.trimS s.data.toList [48,49]).isEmpty=BW s.data.toList:=by
  rw[hk,Jc,List.isEmpty_iff,aZ]
 obtain⟨r,hr⟩:=Ah ((⟨(Lib.trimS s.data.toList [48,49]).toArray⟩:ByteArray));have d:r.toList.isEmpty=BW s.data.toList:=by rw[<-c,<-hr,Iu]
 have g:=Dm hr;have i:=Dm d;clear a b x1 hk c hr d
 go_enter func249,Mn
 go_wp2_with fail
 refine(dS s hs _).mono ?_;rintro e k ⟨rfl,j⟩;rw[g.out]
 go_wp2
 go_ret
 exact⟨AJ i.out,j⟩):p:=h
theorem xY{p:Prop}(h:p:=by have:s.data.toList.length=s.size:=rfl;omega):p:=h
theorem xZ{p:Prop}(h:p:=by have:=h1 (i+1) (by simpa using hi) (by omega);simpa using this):p:=h
theorem yA{p:Prop}(h:p:=by show b.block=(b.add n).block;unfold Addr.add;split <;> rfl):p:=h
theorem yB{p:Prop}(h:p:=by intro e;injection e with e;exact ba e):p:=h
theorem yC{p:Prop}(h:p:=by rw[Q.out];omega):p:=h
theorem yD{p:Prop}(h:p:=by rw[K.out];omega):p:=h
theorem yE{p:Prop}(h:p:=by rw[D.out];exact F.out):p:=h
theorem yF{p:Prop}(h:p:=by simpa using h):p:=h
abbrev Ma:=@List.getElem?_cons_succ
abbrev Mb:=@true_and
abbrev Mc:=@List.foldl_append
abbrev Md:=@Nat.le_of_eq
abbrev Me:=@and_true
abbrev Mf:=@List.length_pos_iff
abbrev Mg:=@List.nodup_append
abbrev Mh:=@List.any_eq_false
abbrev Mi:=@List.mem_append
abbrev Mj:=@Go.Maps.has_put_other
abbrev Mk:=@alloc_eq_grow
abbrev Ml:=@List.all_reverse
abbrev Mm:=@Go.Maps.has_put_same
abbrev Mn:=@ntmps249
theorem RC {p:UInt8->Bool}:∀{l:List UInt8},l.dropWhile p=[]↔l.all p=true
 |[]=>sZ
 |c::l=>by
  cases h:p c with
  |true=>simp only[List.dropWhile_cons,h,Jw,List.all_cons,Jj];exact RC
  |false=>simp[h]
theorem aZ (l:List UInt8):Lib.trimS l [48,49]=[]↔AH l=true:=by
 have e:∀c:UInt8,([48,49]:List UInt8).contains c=(c==48 || c==49):=fun c=>by rw[Jc];simp
 unfold Lib.trimS Lib.trimLeftS Lib.trimRightS AH;simp only[e];rw[RC,Ml];constructor
 ·intro h;by_cases hr:l.reverse.dropWhile (fun c=>c==48 || c==49)=[]
  ·rw[RC,Ml] at hr;exact hr
  ·exfalso;have h1:=Bw.1 h _ (List.head_mem hr);have h2:=List.head_dropWhile_not (fun c:UInt8=>c==48 || c==49) hr;rw[h1] at h2;cases h2
 ·intro h;rw[RC.2 (by rw[Ml];exact h)]
  rfl
theorem dS (s:ByteArray)(hs:s.size<=9223372036854775807)(w:A5):
  A9 prog 264 #[.string s,.string ⟨#[48,49]⟩] w fun e a=>e=.returned (.string ⟨(Lib.trimS s.data.toList [48,49]).toArray⟩)/\Below w.heap.size w a:=
 Any.strings_Trim_laid Tryz.lTrim tN s ⟨#[48,49]⟩ w hs sY (ascii_of_all sY)
theorem XM (a b:ByteArray)(w:A5):
  A9 prog 252 #[.string a,.string b] w fun e c=>e=.returned (.int .i64 (Lib.compareBytes a.data.toList b.data.toList))/\c=w:=
 Any.strings_Compare Tryz.lCompare a b w
theorem UV (s p:ByteArray)(w:A5):
  A9 prog 197 #[.string s,.string p] w fun e a=>e=.returned (.bool (p.data.toList.isPrefixOf s.data.toList))/\a=w:=
 Any.strings_HasPrefix Tryz.lHasPrefix s p w
def NM (x y:ByteArray×Int):Int:=Lib.compareBytes (rowC x) (rowC y)
theorem mH:SWO (ltOf NM):=XQ rowC
theorem mZ (x y:ByteArray×Int)(W:A5):A9 prog 251 #[.agg #[.string x.1,.int .i64 x.2],.agg #[.string y.1,.int .i64 y.2]] W fun e c=>e=.returned (.int .i64 (NM x y))/\∃q b,c=grow (W.drewN q) b:=by
 have a:=fun d=>XM x.1 y.1 d;unfold NM rowC;generalize Lib.compareBytes x.1.data.toList y.1.data.toList=r at a ⊢
 go_enter func251,ntmps251
 exact Wd3
theorem oW:∀w,(isAgg 286).run prog w=.ok true w:=fun _=>tN
theorem bA:∀w,(Go.sizeOf 286).run prog w=.ok 2 w:=fun _=>tN
theorem UB:(prog.info? 286).map (fun i=>(i.zero,i.size,i.bytes))=some (some (.agg #[.string ⟨#[]⟩,.int .i64 0]),2,24):=tN
theorem qH (b off n c:Nat)(a:List A0)(w:A5)(hl:a.length=n*2)(hn:n<=1048576)
  (hc:∀j u,a[j]? =some u->w.cell? ⟨b,off+j,none⟩=some u)(h1:∀u∈a,u.oneCell'=true):
  A9 prog 248 #[.slice (some ⟨b,off,none⟩) n c] w fun e i=>∃d,e=.returned d/\i.ownsRow w.heap.size 286 2 d n a/\d≠.slice none 0 0/\Below w.heap.size w i:=by
 obtain⟨k,hi,f,g,h⟩:=Ds UB;exact AnyE.slices_Clone Tryz.lClone k _ 2 24 hi f g h rfl sY bA b off n c a w hl tK sX hc h1
abbrev Sym:=Fin 6×Fin 4
def sA (s:Sym):Int:=(s.1.val:Int)
def sB (s:Sym):Int:=(s.2.val:Int)
theorem kY {s t:Sym}(h1:sA s=sA t)(h2:sB s=sB t):s=t:=by
 unfold sA at h1;unfold sB at h2;exact Fw (Fin.ext sX) (Fin.ext sX)
def G5 (x:ByteArray×Sym):List A0:=[.string x.1,.int .i64 (sA x.2),.int .i64 (sB x.2)]
def rowCY (x:ByteArray×Sym):List UInt8:=x.1.data.toList
def MP (x y:ByteArray×Sym):Int:=Lib.compareBytes (rowCY x) (rowCY y)
theorem qJ:SWO (ltOf MP):=XQ rowCY
theorem pD (x y:ByteArray×Sym)(W:A5):A9 prog 261 #[.agg #[.string x.1,.int .i64 (sA x.2),.int .i64 (sB x.2)],.agg #[.string y.1,.int .i64 (sA y.2),.int .i64 (sB y.2)]] W fun e c=>e=.returned (.int .i64 (MP x y))/\∃q b,c=grow (W.drewN q) b:=by
 have a:=fun d=>XM x.1 y.1 d;unfold MP rowCY;generalize Lib.compareBytes x.1.data.toList y.1.data.toList=r at a ⊢
 go_enter func261,ntmps261
 exact Wd3
theorem Qdx:∀w,(isAgg 274).run prog w=.ok true w:=fun _=>tN
theorem ZG:∀w,(Go.sizeOf 274).run prog w=.ok 3 w:=fun _=>tN
theorem TX (x:ByteArray×Sym):∀v∈G5 x,v.oneCell'=true:=by
 intro v hv;simp only[G5,Ee,Eg,Ep] at hv;rcases hv with rfl|rfl|rfl <;> rfl
theorem TI:(prog.info? 274).map (fun i=>(i.zero,i.size,i.bytes))=some (some (.agg #[.string ⟨#[]⟩,.int .i64 0,.int .i64 0]),3,32):=tN
theorem oX (b off n c:Nat)(a:List A0)(w:A5)(hl:a.length=n*3)(hn:n<=1048576)
  (hc:∀j u,a[j]? =some u->w.cell? ⟨b,off+j,none⟩=some u)(h1:∀u∈a,u.oneCell'=true):
  A9 prog 259 #[.slice (some ⟨b,off,none⟩) n c] w fun e i=>∃d,e=.returned d/\i.ownsRow w.heap.size 274 3 d n a/\d≠.slice none 0 0/\Below w.heap.size w i:=by
 obtain⟨k,hi,f,g,h⟩:=Ds TI;exact AnyE.slices_Clone Tryz.lCloneY k _ 3 32 hi f g h rfl sY ZG b off n c a w hl tK sX hc h1
theorem Qa6 (i:Nat)(hi:i<100)(w:A5):
  A9 prog 245 #[.int .i64 i] w fun e a=>e=.returned (.string ⟨(Lib.decDigits i).toArray⟩)/\a=w:=
 Any.strconv_Itoa_small Tryz.lItoa i hi w
end
section
open Go.ChangeShapes Go.WideShapes Go.ChangeAt Go.RowKit
def Cds (w:A5)(p:Option Aa)(l:List (ByteArray×Int)):Prop:=
 l=[]\/∃b o,p=some ⟨b,o,none⟩/\b<w.heap.size/\∀i,(h:i<l.length)->w.cell? ⟨b,o+i*2,none⟩=some (.string l[i].1)/\w.cell? ⟨b,o+i*2+1,none⟩=some (.int .i64 l[i].2)
theorem Cds.below {w c:A5}{p:Option Aa}{l:List (ByteArray×Int)}(h:Cds w p l)(a:Below w.heap.size w c):Cds c p l:=by
 rcases h with h|⟨b,o,h1,h2,h3⟩
 ·exact .inl h
 ·refine .inr ⟨b,o,h1,Bc h2 a.size,fun i hi=>?_⟩;rw[a.cell (p:=⟨b,o+i*2,none⟩) h2,a.cell (p:=⟨b,o+i*2+1,none⟩) h2];exact h3 i hi
theorem Cds.at {w:A5}{p:Option Aa}{l:List (ByteArray×Int)}(h:Cds w p l)(a:0<l.length):
  ∃b o,p=some ⟨b,o,none⟩/\b<w.heap.size/\∀i,(h:i<l.length)->w.cell? ⟨b,o+i*2,none⟩=some (.string l[i].1)/\w.cell? ⟨b,o+i*2+1,none⟩=some (.int .i64 l[i].2):=by
 rcases h with rfl|h
 ·cases a
 ·exact h
theorem Cds.take {w:A5}{p:Option Aa}{l:List (ByteArray×Int)}(h:Cds w p l)(k:Nat):Cds w p (l.take k):=by
 exact Wd0
theorem Cds.drop {w:A5}{b o:Nat}{l:List (ByteArray×Int)}(h:Cds w (some ⟨b,o,none⟩) l)(k:Nat):Cds w (some ⟨b,o+k*2,none⟩) (l.drop k):=by
 rcases h with rfl|⟨a,c,h1,h2,h3⟩
 ·exact .inl sZ
 ·cases h1;refine .inr ⟨b,o+k*2,rfl,h2,fun i hi=>?_⟩;have:=h3 (k+i) (by rw[Bf] at hi;omega);rw[Fp,show o+k*2+i*2=o+(k+i)*2 by omega];exact this
def DQ (l:List (ByteArray×Int)):List A0:=l.flatMap GV
theorem iX (l:List (ByteArray×Int))(x:ByteArray×Int):DQ (l++[x])=DQ l++[.string x.1,.int .i64 x.2]:=by simp[DQ,GV]
theorem Zz (l:List (ByteArray×Int)):(DQ l).length=l.length*2:=by
 induction l with
 |nil=>rfl
 |cons x l a=>
  have e:DQ (x::l)=GV x++DQ l:=by simp[DQ]
  rw[e,B8,a,Bi,GV,Bi,Bi,Bu];omega
theorem Sw (l:List (ByteArray×Int))(j:Nat)(h:j<l.length):(DQ l)[j*2]? =some (.string l[j].1)/\(DQ l)[j*2+1]? =some (.int .i64 l[j].2):=by
 induction l generalizing j with
 |nil=>exact absurd h (Fi j)
 |cons q l a=>
  have e:DQ (q::l)=.string q.1 :: .int .i64 q.2::DQ l:=by simp[DQ,GV]
  rw[e];cases j with
  |zero=>exact⟨rfl,rfl⟩
  |succ j=>
   rw[show (j+1)*2=j*2+1+1 by omega,show j*2+1+1+1=(j*2+1)+1+1 by omega,Ma,Ma,Ma,Ma];exact a j yF
theorem Yx4 (l:List (ByteArray×Int)):∀u∈DQ l,u.oneCell'=true:=by
 intro u a;obtain⟨x,_,b⟩:=List.mem_flatMap.1 a;exact Xr x u b
theorem bT {w:A5}{base e:Nat}{v:A0}{l:List (ByteArray×Int)}(h:w.ownsRow base e 2 v l.length (DQ l)):
  ∃(q:Option Aa) (cap:Nat),v=.slice q l.length cap/\Cds w q l:=by
 have a:=h;rcases h.2 with ⟨rfl,h1⟩|⟨g,cap,b,rfl,_,hg,_⟩
 ·exact⟨none,0,by rw[h1],.inl (Dh h1)⟩
 ·refine⟨_,cap,rfl,.inr ⟨g,0,rfl,(E9.1 hg).1,fun i hi=>⟨?_,?_⟩⟩⟩
  ·have:=Di (g:=g) a rfl (i*2) _ (Sw l i hi).1;rwa [Ki] at this
  ·have:=Di (g:=g) a rfl (i*2+1) _ (Sw l i hi).2;rwa [Ki] at this
theorem iG {P:Program}{w:A5}{ops:Array Oper}{rest:List Oper}{o:Oper}{a:Act}{Q:Exit->Act->A5->Prop}{sl x:Operand}{t base e c:Nat}{i:TypeInfo}{z v:A0}{n:Nat}{l:List A0}{K:Nat}{y0:ByteArray}{y1:Int}
  (m:o.guard=none)(ho:o.op=.call {callee:=.builtin .append,args:=#[sl,x],argTypes:=#[t,t]})
  (ht:P.underlying t=some (.slice e))(hi:P.info? e=some i)(s:i.zero=some z)(p:z.cells.size=2)(b:i.size=2)(q:i.bytes=24)
  (hs:a.eval sl=v)(f:w.ownsRow base e 2 v n l)(y:a.eval x=.slice (some ⟨K,0,none⟩) 1 c)(c0:w.cell? ⟨K,0,none⟩=some (.string y0))(c1:w.cell? ⟨K,1,none⟩=some (.int .i64 y1))(hn:n<=1048576)(d:base<=w.heap.size)
  (h:∀k g,g.ownsRow base e 2 k (n+1) (l++[.string y0,.int .i64 y1])->w.grownBy g v.ownBlock->wpList P ops Q rest (a.put o.dst k) g):wpList P ops Q (o::rest) a w:=
 Dl w m sl x t ho base e i z 2 24 ht hi s b q p sY v n l hs f ⟨K,0,none⟩ 1 c [.string y0,.int .i64 y1] y rfl
  (fun j u hj=>by
   match j,hj with
   |0,hj=>cases hj;exact c0
   |1,hj=>cases hj;exact c1)
  (by intro u r;simp only[Ee,Eg,Ep] at r;rcases r with rfl|rfl <;> rfl) tK sX d
  fun k g h1 h2 _=>h k g h1 h2
section
variable {H:Type}{enc:TypeId×A0->H}{P:Program}
end
def Eh (w:A5)(p:Option Aa)(l:List (ByteArray×Sym)):Prop:=
 l=[]\/∃b o,p=some ⟨b,o,none⟩/\b<w.heap.size/\∀i,(h:i<l.length)->w.cell? ⟨b,o+i*3,none⟩=some (.string l[i].1)/\w.cell? ⟨b,o+i*3+1,none⟩=some (.int .i64 (sA l[i].2))/\w.cell? ⟨b,o+i*3+2,none⟩=some (.int .i64 (sB l[i].2))
theorem Eh.below {w c:A5}{p:Option Aa}{l:List (ByteArray×Sym)}(h:Eh w p l)(a:Below w.heap.size w c):Eh c p l:=by
 rcases h with h|⟨b,o,h1,h2,h3⟩
 ·exact .inl h
 ·refine .inr ⟨b,o,h1,Bc h2 a.size,fun i hi=>?_⟩;rw[a.cell (p:=⟨b,o+i*3,none⟩) h2,a.cell (p:=⟨b,o+i*3+1,none⟩) h2,a.cell (p:=⟨b,o+i*3+2,none⟩) h2];exact h3 i hi
theorem Eh.at {w:A5}{p:Option Aa}{l:List (ByteArray×Sym)}(h:Eh w p l)(a:0<l.length):
  ∃b o,p=some ⟨b,o,none⟩/\b<w.heap.size/\∀i,(h:i<l.length)->w.cell? ⟨b,o+i*3,none⟩=some (.string l[i].1)/\w.cell? ⟨b,o+i*3+1,none⟩=some (.int .i64 (sA l[i].2))/\w.cell? ⟨b,o+i*3+2,none⟩=some (.int .i64 (sB l[i].2)):=by
 rcases h with rfl|h
 ·cases a
 ·exact h
theorem Eh.take {w:A5}{p:Option Aa}{l:List (ByteArray×Sym)}(h:Eh w p l)(k:Nat):Eh w p (l.take k):=by
 exact Wd0
theorem Eh.drop {w:A5}{b o:Nat}{l:List (ByteArray×Sym)}(h:Eh w (some ⟨b,o,none⟩) l)(k:Nat):Eh w (some ⟨b,o+k*3,none⟩) (l.drop k):=by
 rcases h with rfl|⟨a,c,h1,h2,h3⟩
 ·exact .inl sZ
 ·cases h1;refine .inr ⟨b,o+k*3,rfl,h2,fun i hi=>?_⟩;have:=h3 (k+i) (by rw[Bf] at hi;omega);rw[Fp,show o+k*3+i*3=o+(k+i)*3 by omega];exact this
def D5 (l:List (ByteArray×Sym)):List A0:=l.flatMap G5
theorem pH (l:List (ByteArray×Sym))(x:ByteArray×Sym):D5 (l++[x])=D5 l++[.string x.1,.int .i64 (sA x.2),.int .i64 (sB x.2)]:=by simp[D5,G5]
theorem fN (l:List (ByteArray×Sym)):(D5 l).length=l.length*3:=by
 induction l with
 |nil=>rfl
 |cons x l a=>
  have e:D5 (x::l)=G5 x++D5 l:=by simp[D5]
  rw[e,B8,a,Bi,G5,Bi,Bi,Bi,Bu];omega
theorem QF (l:List (ByteArray×Sym))(j:Nat)(h:j<l.length):(D5 l)[j*3]? =some (.string l[j].1)/\(D5 l)[j*3+1]? =some (.int .i64 (sA l[j].2))/\(D5 l)[j*3+2]? =some (.int .i64 (sB l[j].2)):=by
 induction l generalizing j with
 |nil=>exact absurd h (Fi j)
 |cons q l a=>
  have e:D5 (q::l)=.string q.1 :: .int .i64 (sA q.2) :: .int .i64 (sB q.2)::D5 l:=by simp[D5,G5]
  rw[e];cases j with
  |zero=>exact⟨rfl,rfl,rfl⟩
  |succ j=>
   have:=a j yF;rw[show (j+1)*3=j*3+1+1+1 by omega,show j*3+1+1+1+1=(j*3+1)+1+1+1 by omega,show j*3+1+1+1+2=(j*3+2)+1+1+1 by omega];simp only[Ma];exact this
theorem lW (l:List (ByteArray×Sym)):∀u∈D5 l,u.oneCell'=true:=by
 intro u a;obtain⟨x,_,b⟩:=List.mem_flatMap.1 a;exact TX x u b
theorem Y7 {w:A5}{base e:Nat}{v:A0}{l:List (ByteArray×Sym)}(h:w.ownsRow base e 3 v l.length (D5 l)):
  ∃(q:Option Aa) (cap:Nat),v=.slice q l.length cap/\Eh w q l:=by
 have a:=h;rcases h.2 with ⟨rfl,h1⟩|⟨g,cap,b,rfl,_,hg,_⟩
 ·exact⟨none,0,by rw[h1],.inl (Dh h1)⟩
 ·refine⟨_,cap,rfl,.inr ⟨g,0,rfl,(E9.1 hg).1,fun i hi=>⟨?_,?_,?_⟩⟩⟩
  ·have:=Di (g:=g) a rfl (i*3) _ (QF l i hi).1;rwa [Ki] at this
  ·have:=Di (g:=g) a rfl (i*3+1) _ (QF l i hi).2.1;rwa [Ki] at this
  ·have:=Di (g:=g) a rfl (i*3+2) _ (QF l i hi).2.2;rwa [Ki] at this
end
section
open Go.RowKit Go.Maps
theorem Qlc:laidOutB prog=true:=tN
theorem Qpu:WideMaps.KeyLaw prog 272:=deep_law_laid Qlc (m:=2) sX (Fm tN) tN tN
theorem XG:Keyed prog 272:=Keyed.of_law Qpu
def T1 (s:Sym):A0:=.agg #[.int .i64 (sA s),.int .i64 (sB s)]
def KN (s:Sym):Lit:=.string (keyBytes [.int .i64 (sA s),.int .i64 (sB s)])
theorem TG:∀s:Sym,keyOf prog 272 (T1 s)=some (KN s):=by
 have h:∀a b:Nat,a<6->b<4->keyOf prog 272 (.agg #[.int .i64 (a:Int),.int .i64 (b:Int)])=some (.string (keyBytes [.int .i64 (a:Int),.int .i64 (b:Int)])):=by
  intro a b c d;rcases (by omega:a=0\/a=1\/a=2\/a=3\/a=4\/a=5) with rfl|rfl|rfl|rfl|rfl|rfl <;> rcases (by omega:b=0\/b=1\/b=2\/b=3) with rfl|rfl|rfl|rfl <;> kernel_rfl
 exact fun s=>h s.1.val s.2.val s.1.isLt s.2.isLt
theorem Qpt {s t:Sym}(h:KN s=KN t):s=t:=by
 have hs:=TG s;rw[h] at hs;have e:=XG.inj hs (TG t);unfold T1 at e;simp only[Value.agg.injEq,Array.mk.injEq,List.cons.injEq,Value.int.injEq,Mb,Me] at e;exact kY e.1 e.2
abbrev MB (x:ByteArray×Sym):Lit:=KN x.2
theorem V8 (s:Sym):WideAt.IsKeyLit (KN s):=trivial
def M2 (x:ByteArray×Sym):Ad Unit:=.lit (.string x.1.data.toList)
def QZ (D:Ad Unit)(l:List (ByteArray×Sym)):Ad Unit:=l.foldl (fun D x=>D.put (MB x) (M2 x)) D
def K2 (l:List (ByteArray×Sym)):Ad Unit:=QZ (.map []) l
theorem Y48 (l:List (ByteArray×Sym))(j:Nat)(h:j<l.length):K2 (l.take (j+1))=(K2 (l.take j)).put (MB l[j]) (M2 l[j]):=by
 unfold K2 QZ;rw[Bd h,Mc]
 rfl
theorem ZT {s t:Sym}(h:s≠t):KN s≠KN t:=fun e=>h (Qpt e)
theorem UX:∀{l:List (ByteArray×Sym)} {D:Ad Unit} {acc:List Sym},Tidy D->(∀s,has D (KN s)=true↔s∈acc)->size D=acc.length->acc.Nodup->
  size (QZ D l)<=acc.length+l.length/\(size (QZ D l)=acc.length+l.length↔(acc++l.map (·.2)).Nodup)
 |[],D,acc,_,_,h,hn=>⟨by show size D<=_;omega,by rw[Cs,Fa];exact⟨fun _=>hn,fun _=>h⟩⟩
 |x::l,D,acc,ht,hh,hs,hn=>by
  have f:=ht.put (k:=MB x) (V8 _) (M2 x);by_cases g:x.2∈acc
  ·have c:∀s,has (D.put (MB x) (M2 x)) (KN s)=true↔s∈acc:=by
    intro s;by_cases e:s=x.2
    ·subst e;exact⟨fun _=>g,fun _=>Mm ht.isMap (V8 _) _⟩
    ·rw[Mj (ZT e)];exact hh s
   have d:size (D.put (MB x) (M2 x))=acc.length:=by
    rw[size_put ht,Bb ((hh x.2).2 g)];exact hs
   obtain⟨i,_⟩:=UX (l:=l) f c d hn;rw[Bi];refine⟨Ef i sX,⟨fun e=>?_,fun hd=>?_⟩⟩
   ·exfalso;have o:size (QZ (D.put (MB x) (M2 x)) l)=acc.length+(l.length+1):=e;omega
   ·exfalso;exact(Mg.1 hd).2.2 x.2 g x.2 sZ rfl
  ·have c:∀s,has (D.put (MB x) (M2 x)) (KN s)=true↔s∈acc++[x.2]:=by
    intro s;rw[Mi,Df];by_cases e:s=x.2
    ·subst e;exact⟨fun _=>.inr rfl,fun _=>Mm ht.isMap (V8 _) _⟩
    ·rw[Mj (ZT e),hh s];exact⟨.inl,fun h=>h.resolve_right e⟩
   have d:size (D.put (MB x) (M2 x))=(acc++[x.2]).length:=by
    rw[size_put ht,Ba (fun h=>g ((hh x.2).1 h)),B8,Bo,hs]
   have hn2:(acc++[x.2]).Nodup:=Mg.2 ⟨hn,sZ,fun a n b m e=>g (by rw[Df] at m;rw[<-m,<-e];exact n)⟩;obtain⟨i,j⟩:=UX (l:=l) f c d hn2;exact Wd1
theorem sK (l:List (ByteArray×Sym)):size (K2 l)<=l.length/\(size (K2 l)=l.length↔(l.map (·.2)).Nodup):=by
 have:=UX (l:=l) (D:=(.map []:Ad Unit)) (acc:=[]) tidy_empty (fun s=>by simp[Maps.has]) rfl List.nodup_nil;simp only[Bu,Bn,Cb] at this;exact this
def Vf (p:Option Aa)(l:List (ByteArray×Sym))(at_:Nat)(c:UInt8)(w:A5)(e:Ae)(d:A5):Prop:=
 ∃q cap,e=.returned (.slice q (if c=48 then l.takeWhile (BV rowCY at_) else l.dropWhile (BV rowCY at_)).length cap)/\w=d/\Eh w q (if c=48 then l.takeWhile (BV rowCY at_) else l.dropWhile (BV rowCY at_))/\
  (if c=48 then l.takeWhile (BV rowCY at_) else l.dropWhile (BV rowCY at_)).length<=cap/\cap<=maxLen/\∀a,q=some a->∃b,p=some b/\b.block=a.block
theorem Qc8 {α:Type}(p:α->Bool)(l:List α)(k:Nat)(h1:∀i,(h:i<l.length)->i<k->p l[i]=true)(h2:∀h:k<l.length,p l[k]=false)(hk:k<=l.length):l.takeWhile p=l.take k/\l.dropWhile p=l.drop k:=by
 induction l generalizing k with
 |nil=>simp
 |cons x l b=>
  exact Wdw
theorem lZ (x:ByteArray×Sym)(at_:Nat)(h:at_<x.1.size):BV rowCY at_ x=(x.1[at_]==48):=by
 unfold BV rowCY;exact Wd6
theorem Ts {l:List (ByteArray×Sym)}{at_ k:Nat}{c:UInt8}{w:A5}{p q:Option Aa}{n cap:Nat}(h1:∀i,(h:i<l.length)->i<k->BV rowCY at_ l[i]=true)(h2:∀h:k<l.length,BV rowCY at_ l[k]=false)(hk:k<=l.length)
  (hn:n=if c=48 then k else l.length-k)(d:Eh w q (if c=48 then l.take k else l.drop k))(e:n<=cap)(hm:cap<=maxLen)(b:∀a,q=some a->∃f,p=some f/\f.block=a.block):Vf p l at_ c w (.returned (.slice q n cap)) w:=by
 obtain⟨e1,e2⟩:=Qc8 (BV rowCY at_) l k h1 h2 hk;unfold Vf;exact Wdv
theorem oB {p:Option Aa}:∀a,p=some a->∃b,p=some b/\b.block=a.block:=fun a h=>⟨a,h,rfl⟩
theorem rC {p:Option Aa}{n:Nat}:∀a,Option.map (fun x=>Addr.add x n) p=some a->∃c,p=some c/\c.block=a.block:=by
 exact Wd9
set_option maxRecDepth 100000 in
theorem Qc9 (l:List (ByteArray×Sym))(p:Option Aa)(cap at_:Nat)(c:UInt8)(w:A5)(hc:Eh w p l)(B:l.length<=cap)(q:cap<=maxLen)(m:∀x∈l,at_<x.1.size/\x.1.size<=24):
  A9 prog 263 #[.slice p l.length cap,.int .i64 (at_:Int),.int .u8 (c.toNat:Int)] w (Vf p l at_ c w):=by
 unfold maxLen at q;have D:=Dm m;clear m;have u:(c=48/\((c.toNat:Int)==48)=true)\/(c≠48/\((c.toNat:Int)==48)=false):=by
  exact Wd2
 go_enter func263,ntmps263
 go_wp2
 go_loop [7] (fun i=>∃k:Nat,k<=l.length/\i=.int .i64 k/\Hid (∀i,(h:i<l.length)->i<k->BV rowCY at_ l[i]=true)) (fun i=>l.length-(intOf i).toNat)
 case atStart=>exact⟨0,Do _,rfl,Dm (fun i _ h=>absurd h (Fi i))⟩
 case round=>
  obtain⟨k,hk,rfl,g⟩:=hrel;by_cases r:k<l.length
  ·obtain⟨b,o,rfl,_,f⟩:=hc.at sX;have c0:=(f k r).1;have z:=D.out l[k] (Bl r);obtain⟨x,n⟩:=Ah (l[k]);rw[n] at c0 z;obtain⟨v,E⟩:=z;have A:=Dm (show BV rowCY at_ l[k]=(x.1[at_]==48) by rw[n];exact lZ x at_ v);have t:=Dm hc;clear f n hc;by_cases j:x.1[at_].toNat=48
   ·have F:((x.1[at_].toNat:Int)==48)=true:=by rw[j];rfl
    have G:Hid (∀i,(h:i<l.length)->i<k+1->BV rowCY at_ l[i]=true):=Dm (fun i hi h=>by
     by_cases e:i=k
     ·exact Wea
     ·exact g.out i hi sX)
    exact Wd7
   ·have F:((x.1[at_].toNat:Int)==48)=false:=uC;have s:Hid (∀h:k<l.length,BV rowCY at_ l[k]=false):=Dm (fun _=>by
     rw[A.out,Fe];intro e;exact j uJ)
    clear j;rcases u with ⟨d,y⟩|⟨d,y⟩
    ·have C:=Dm d;clear d
     go_wp2
     go_ret
     exact Ts g.out s.out hk (by rw[Bb C.out]) (by rw[Bb C.out];exact t.out.take k) sX tK (fun a h=>⟨a,h,rfl⟩)
    ·have C:=Dm d;clear d
     go_wp2
     go_ret
     exact Ts g.out s.out hk (by rw[Ba C.out]) (by rw[Ba C.out];exact t.out.drop k) sX tK (fun a h=>⟨_,rfl,by cases h;rfl⟩)
  ·obtain rfl:k=l.length:=sX;have s:Hid (∀h:l.length<l.length,BV rowCY at_ l[l.length]=false):=Dm (fun h=>absurd h (Nat.lt_irrefl _));have t:=Dm hc;clear hc;rcases u with ⟨d,y⟩|⟨d,y⟩
   ·have C:=Dm d;clear d
    go_wp2
    go_ret
    exact Ts g.out s.out hk (by rw[Bb C.out]) (by rw[Bb C.out];exact t.out.take _) sX tK (fun a h=>⟨a,h,rfl⟩)
   ·have C:=Dm d;clear d
    go_wp2
    all_goals
     go_ret
     exact Ts g.out s.out hk (by rw[Ba C.out,Ci]) (by rw[Ba C.out,List.drop_length];exact .inl rfl) sX tK (by first|exact oB|exact rC)
def Qmy (m:Option Nat)(q:Option Aa)(n cap:Nat)(L:Int):List A0:=[.map m,.slice q n cap,.int .i64 L]
def IT (m:Option Nat)(q:Option Aa)(n cap:Nat)(L:Int):Obj:=.cells (Qmy m q n cap L).toArray 301 (0,0)
def Ud (w:A5)(lo hi b:Nat)(ds:List (ByteArray×Sym))(L:Int):Prop:=
 ∃(m:Option Nat) (q:Option Aa) (cap:Nat),w.heap[b]? =some (IT m q ds.length cap L)/\ds.length<=cap/\cap<=maxLen/\Eh w q ds/\∀a,q=some a->lo<=a.block/\a.block<hi
theorem sO (s:ByteArray)(hs:s.size<=maxLen)(w:A5):
  A9 prog 249 #[.string s] w fun e f=>e=.returned (.bool (BW s.data.toList))/\Below w.heap.size w f:=by
 exact Wdu
set_option maxRecDepth 100000 in
theorem Y14 (l:List (ByteArray×Sym))(p:Option Aa)(cap:Nat)(w:A5)(r:Bool)(hr:r=true↔∃i,∃h:i+1<l.length,(rowCY l[i]).isPrefixOf (rowCY l[i+1])=true)(hc:Eh w p l)(hm:l.length<=1048576):
  A9 prog 262 #[.slice p l.length cap] w fun e s=>e=.returned (.bool r)/\Below w.heap.size w s:=by
 have R:=Dm hr;clear hr;obtain⟨B,t⟩:=Ah w.heap.size;have z:∀x,Below B w x->∀i,(h:i<l.length)->∃b o,p=some ⟨b,o,none⟩/\∀j,(h:j<l.length)->x.cell? ⟨b,o+j*3,none⟩=some (.string l[j].1):=by
  intro x g i hi;obtain⟨b,o,rfl,A,c⟩:=hc.at sX;exact⟨b,o,rfl,fun j hj=>(Kb (a:=⟨b,o+j*3,none⟩) (g.block b sX)).trans (c j hj).1⟩
 have G:=Dm z;have m:Below B w w:=Dn _ _;have H:=Dm t;rw[t];clear z hc t
 go_enter func262,ntmps262
 go_wp2
 go_loopw [3] (fun i wr=>∃k:Nat,(k<l.length\/k=0)/\i=.int .i64 ((k:Int)+1)/\Below B w wr/\Hid (∀i,(h:i+1<l.length)->i<k->(rowCY l[i]).isPrefixOf (rowCY l[i+1])=false)) (fun i _=>l.length+1-(intOf i).toNat)
 case atStart=>exact Wee
 case round=>
  clear m;obtain⟨k,hk,rfl,q,n⟩:=hrel;by_cases f:k+1<l.length
  ·obtain⟨b,o,rfl,c⟩:=G.out wr q (k+1) f;have c1:=c (k+1) f;have c0:=c k sX;obtain⟨x,g⟩:=Ah (l[k+1]);obtain⟨y,u⟩:=Ah (l[k]);rw[g] at c1;rw[u] at c0;have C:=Dm g;have D:=Dm u;have t0:decide ((k:Int)+1<l.length)=true:=tO;have d:∀w,A9 prog 197 #[.string x.1,.string y.1] w fun e s=>e=.returned (.bool (y.1.data.toList.isPrefixOf x.1.data.toList))/\s=w:=fun w=>UV x.1 y.1 w;clear c hk g u;cases hpre:y.1.data.toList.isPrefixOf x.1.data.toList with
   |true=>
    exact Wdy
   |false=>
    rw[hpre] at d;have F:Hid (∀i,(h:i+1<l.length)->i<k+1->(rowCY l[i]).isPrefixOf (rowCY l[i+1])=false):=Dm (fun i hi h=>by
     by_cases e:i=k
     ·subst e;rw[C.out,D.out];exact hpre
     ·exact n.out i hi sX)
    exact Wdz
  ·exact Wdx
def MK (a b:Int):Obj:=.cells [.int .i64 a,.int .i64 b].toArray 272 (0,0)
theorem Wn {x:A5}{B:Nat}{a b c d:Int}(h:x.heap[B]? =some (MK a b)):((x.setCell ⟨B,0,none⟩ (.int .i64 c)).setCell ⟨B,1,none⟩ (.int .i64 d)).heap[B]? =some (MK c d):=
 B3 (o:=1) (.int .i64 d) (B3 (o:=0) (.int .i64 c) h)
theorem Su {x:A5}{B:Nat}{a b:Int}(h:x.heap[B]? =some (MK a b)):x.cell? ⟨B,0,none⟩=some (.int .i64 a)/\x.cell? ⟨B,1,none⟩=some (.int .i64 b)/\x.frozen? ⟨B,0,none⟩=false/\x.frozen? ⟨B,1,none⟩=false:=
 ⟨AA h rfl,AA h rfl,AL (o:=0) h,AL (o:=1) h⟩
theorem Vc {w x:A5}{B:Nat}{row:Option Nat}{c d:Int}(h:w.grownBy x row)(f:w.heap.size<=B):w.grownBy ((x.setCell ⟨B,0,none⟩ (.int .i64 c)).setCell ⟨B,1,none⟩ (.int .i64 d)) row:=by
 have a:=D3 x ⟨B,0,none⟩ (.int .i64 c);have b:=D3 (x.setCell ⟨B,0,none⟩ (.int .i64 c)) ⟨B,1,none⟩ (.int .i64 d);have g:=AP a b;refine⟨g.os.trans h.os,g.tape.trans h.tape,g.output.trans h.output,Ef h.size g.size,fun k hk hn=>?_⟩;exact(g.block k (Bc hk h.size) (by intro e;injection e with e;have e:k=B:=e;omega)).trans (h.block k hk hn)
theorem Un {x:A5}{B rb p:Nat}{s:ByteArray}{c d:Int}(h:AE x rb s p)(a:rb≠B):AE ((x.setCell ⟨B,0,none⟩ (.int .i64 c)).setCell ⟨B,1,none⟩ (.int .i64 d)) rb s p:=
 (h.grown (D3 x ⟨B,0,none⟩ (.int .i64 c)) a).grown (D3 _ ⟨B,1,none⟩ (.int .i64 d)) a
def dG:Sym:=(⟨0,sY⟩,⟨0,sY⟩)
def Rs (ds:List (ByteArray×Sym))(s:ByteArray)(rb p:Nat)(w:A5)(e:Ae)(a:A5):Prop:=
 ∃v:Sym,e=.returned (.tuple #[T1 v,.int .i64 (tk (ds.map rowCY) ((A2 s.data.toList).drop p) 25 1).1])/\
  ((tk (ds.map rowCY) ((A2 s.data.toList).drop p) 25 1).1=0->∃x∈ds,rowCY x=((A2 s.data.toList).drop p).take (tk (ds.map rowCY) ((A2 s.data.toList).drop p) 25 1).2/\x.2=v)/\
  ((tk (ds.map rowCY) ((A2 s.data.toList).drop p) 25 1).1≠0->v=dG)/\AE a rb s (p+(tk (ds.map rowCY) ((A2 s.data.toList).drop p) 25 1).2)/\w.grownBy a (some rb)
theorem XD {ds:List (ByteArray×Sym)}{s:ByteArray}{rb p:Nat}{w a:A5}{f:Int}(h:tk (ds.map rowCY) ((A2 s.data.toList).drop p) 25 1=(f,0))(b:f≠0)(hr:AE a rb s p)(hg:w.grownBy a (some rb)):
  Rs ds s rb p w (.returned (.tuple #[.agg #[.int .i64 0,.int .i64 0],.int .i64 f])) a:=by
 unfold Rs;rw[h];exact⟨dG,rfl,fun e=>absurd e b,fun _=>rfl,hr,hg⟩
theorem Qc5 {ds:List (ByteArray×Sym)}{s:ByteArray}{rb p n:Nat}{w a:A5}{v:Sym}(h:tk (ds.map rowCY) ((A2 s.data.toList).drop p) 25 1=(0,n))(b:∃x∈ds,rowCY x=((A2 s.data.toList).drop p).take n/\x.2=v)(hr:AE a rb s (p+n))(hg:w.grownBy a (some rb)):
  Rs ds s rb p w (.returned (.tuple #[.agg #[.int .i64 (sA v),.int .i64 (sB v)],.int .i64 0])) a:=by
 unfold Rs;rw[h];exact⟨v,rfl,fun _=>b,fun e=>absurd rfl e,hr,hg⟩
set_option maxRecDepth 100000 in
theorem Y7b (w:A5)(lo hi tb rb:Nat)(ds:List (ByteArray×Sym))(L:Int)(s:ByteArray)(p:Nat)(ht:Ud w lo hi tb ds L)(hr:AE w rb s p)(hN:rb<lo\/hi<=rb)
  (hs:ds.Pairwise fun x y=>leL (rowCY x) (rowCY y)=true)(hf:CJ (ds.map rowCY))(ho:∀x∈ds,BW (rowCY x)=true):
  A9 prog 247 #[.pointer (some ⟨tb,0,none⟩),.pointer (some ⟨rb,0,none⟩)] w (Rs ds s rb p w):=by
 obtain⟨m,q,cap,h1,h2,h3,hc,hq⟩:=ht;have bi:=(E9.1 h1).1;have c1:w.cell? ⟨tb,1,none⟩=some (.slice q ds.length cap):=AA h1 rfl;obtain⟨b,Z⟩:=Ah ((A2 s.data.toList).drop p);have al:b.length=8*s.size-p:=by rw[<-Z,Bf,AZ];rfl
 have bz:=hr.2.1;have am:=hr.lt;obtain⟨B,M⟩:=Ah w.heap.size;obtain⟨w0,g⟩:=Ah ((w.alloc (MK 0 0)).alloc (MK 0 0));have C:Below B w w0:=by rw[<-g,<-M];exact((Dn _ w).alloc (B9 _) _).alloc (by simp) _
 have an:w0.heap.size=B+2:=by rw[<-g,<-M];simp
 have P:∀x,Below (B+2) w0 x->x.heap[B]? =some (MK 0 0)/\x.heap[B+1]? =some (MK 0 0):=fun x f=>by
  refine⟨(f.block B sX).trans ?_,(f.block (B+1) sX).trans ?_⟩
  ·rw[<-g,<-M];exact heap_alloc2_old w _ _
  ·rw[<-g,<-M];exact heap_alloc2_new w _ _
 have ao:∀x,Below (B+2) w0 x->w.grownBy x (some rb):=fun x f=>by
  have h:=C.trans (f.mono sX);rw[<-M] at h;exact⟨h.os,h.tape,h.output,h.size,fun k hk _=>h.block k hk⟩
 have bj:=Dm P;have b0:=Dm ao;have ap:Eh w0 q ds:=hc.below (by rw[M];exact C);have aq:AE w0 rb s p:=hr.below (by rw[M];exact C);have bk:((w.alloc (.cells #[.int .i64 0,.int .i64 0] 272 (0,0))).alloc (.cells #[.int .i64 0,.int .i64 0] 272 (0,0))).cell? ⟨tb,1,none⟩=some (.slice q ds.length cap):=(Kb (a:=⟨tb,1,none⟩) ((show (w.alloc (.cells #[.int .i64 0,.int .i64 0] 272 (0,0))).alloc (.cells #[.int .i64 0,.int .i64 0] 272 (0,0))=w0 from g)▸C.block tb sX)).trans c1;have ar:Below (B+2) w0 w0:=Dn _ _;have b1:rb<B:=sX;have bv:=Dm M;have bl:=Dm (show (w.alloc (.cells #[.int .i64 0,.int .i64 0] 272 (0,0))).alloc (.cells #[.int .i64 0,.int .i64 0] 272 (0,0))=w0 from g);have bm:=Dm an;have b2:=Dm hs;have bw:=Dm hf;have bn:=Dm ho;have D:=Dm Z;have Q:=Dm al;have b3:=Dm hq;have au:E0 rowCY ds (b.take 0)=ds:=by rw[Bk];exact bW rowCY ds
 have b4:=Dm au;have E:∀x∈ds,0<x.1.size/\x.1.size<=24:=fun x f=>by
  have h:=GS (ho x f);have h1:(rowCY x).length=x.1.size:=rfl;have h2:=Mf.2 h.1;omega
 have b5:=Dm E;have b6:=Dm ap;clear h1 M g C an P ao hr ap c1 bi am hs hf ho Z al hq au hc E
 go_enter func247,ntmps247
 go_wp2_with fail
 clear bk;rw[bl.out,bv.out]
 go_loopw [7,8] (fun u v wr=>∃(n:Nat) (a:Option Aa) (l:List (ByteArray×Sym)) (cap:Nat),v=.int .i64 ((n:Int)+1)/\u=.slice a l.length cap/\l.length<=cap/\cap<=maxLen/\Hid (l=E0 rowCY ds (b.take n))/\Eh wr a l/\Hid (∀x,a=some x->lo<=x.block/\x.block<hi)/\n<=23/\n<=b.length/\
  Hid (tk (ds.map rowCY) b 25 1=tk (ds.map rowCY) b (25-n) (n+1))/\Hid (∀x∈l,n<x.1.size/\x.1.size<=24)/\Below (B+2) w0 wr/\AE wr rb s p) (fun _ v _=>25-(intOf v).toNat)
 case atStart=>exact⟨0,q,ds,cap,rfl,rfl,h2,h3,Dm b4.out.symm,b6.out,Dm b3.out,sX,Do _,Dm rfl,Dm b5.out,ar,aq⟩
 case round=>
  clear ar aq h2 h3;obtain⟨n,a,l,cap,rfl,rfl,av,aw,hl,hc,ha,hn,b7,ax,G,hb,hr⟩:=hrel;unfold maxLen at aw;have R:tk (ds.map rowCY) b (25-n) (n+1)=if b.length<n+1 then (2,0) else if b.take (n+1)∈ds.map rowCY then (0,n+1) else if (ds.map rowCY).any (fun r=>(b.take (n+1)).isPrefixOf r)=true then tk (ds.map rowCY) b (24-n) (n+1+1) else (3,0):=by
   rw[show 25-n=(24-n)+1 by omega,tk]
  have U:=Dm (ax.out.trans R);clear R ax
  go_wp2_with fail
  refine(FP _ _ _ _ ((n:Int)+1) hr).mono ?_;rintro e S ⟨rfl,N⟩;have H:=hr.below N;have ay:=hc.below N;have aa:Below (B+2) w0 S:=hb.trans (N.mono (by rw[<-bm.out];exact hb.size));have ab:=b0.out S aa;obtain⟨z,az⟩:=bj.out S aa;obtain⟨n0,n1,_,_⟩:=Su az;obtain⟨r0,r1,f0,f1⟩:=Su z;have I:w.heap.size<=B:=Md bv.out;clear hr hc hb N;by_cases A:b.length<n+1
  ·have j:ask s.data.toList p ((n:Int)+1)=(0,2):=FS sX (by rw[Q.out] at A;have:s.data.toList.length=s.size:=rfl;omega);have F:=Dm (U.out.trans (Bb A));rw[j];clear A
   exact Wd4
  ·have hfit:p+(n+1)<=8*s.size:=by rw[Q.out] at A;omega
   have j:ask s.data.toList p ((n:Int)+1)=(((AB s.data.toList p (n+1):Nat):Int),0):=by
    exact Wd5
   have bo:=Dm (U.out.trans (Ba A));obtain⟨a0,T⟩:=QH s.data.toList p n hfit;have ac:∃c:UInt8,(c=48\/c=49)/\b[n]? =some c/\AB s.data.toList p (n+1)%2+48=c.toNat:=by
    have e:b[n]? =some ((A2 s.data.toList).drop p)[n]:=by rw[<-D.out];exact Fh a0
    rcases T with ⟨h1,h2⟩|⟨h1,h2⟩
    ·exact⟨48,.inl rfl,by rw[e,h1],by rw[h2];rfl⟩
    ·exact⟨49,.inr rfl,by rw[e,h1],by rw[h2];rfl⟩
   obtain⟨c,V,a1,i⟩:=ac;have bp:AB s.data.toList p (n+1)<=4294967296:=by
    exact Web
   rw[j];clear A U j T a0;obtain⟨t,a3⟩:=Ah (AB s.data.toList p (n+1));rw[a3] at i bp ⊢;have bq:=Dm V;have b8:=Dm a1;have cj:=Dm i;have W:(48+bits .and .i64 ((t:Nat):Int) 1)%256=(c.toNat:Int):=by
    exact Wd8
   have b9:=Dm W;clear V a1 i a3 W
   go_wp2_with fail
   rw[b9.out];refine(Qc9 l a cap n c S ay av tK G.out).mono ?_;rintro e w2 ⟨a2,cap2,rfl,rfl,J,ad,br,a4⟩;have a5:(if c=48 then l.takeWhile (BV rowCY n) else l.dropWhile (BV rowCY n))=E0 rowCY ds (b.take (n+1)):=by
    have a6:(b.take n).length=n:=tB;have f:=aA rowCY (l:=ds) (q:=b.take n) b2.out (fun x f=>(GS (bn.out x f)).2.2) (by rw[a6,<-hl.out];exact fun x f=>(G.out x f).1);rw[a6,<-hl.out] at f;have bt:b.take (n+1)=b.take n++[c]:=by
     rw[List.take_add_one,b8.out];rfl
    rw[bt];rcases bq.out with e|e
    ·rw[e,Bb rfl];exact f.1
    ·rw[e,Ba sY];exact f.2
   rw[a5] at J ad ⊢;obtain⟨l2,K⟩:=Ah (E0 rowCY ds (b.take (n+1)));rw[K] at J ad ⊢;have O:=Dm K;have a7:Hid (∀x,a2=some x->lo<=x.block/\x.block<hi):=Dm (fun x f=>by
    obtain⟨y,hy,hb⟩:=a4 x f;rw[<-hb];exact ha.out y hy)
   unfold maxLen at br;clear a5 K a4 ay av aw ha hl G;by_cases h0:l2=[]
   ·have F:Hid (tk (ds.map rowCY) b 25 1=(3,0)):=Dm (by
     have ae:(ds.map rowCY).any (fun r=>(b.take (n+1)).isPrefixOf r)=false:=by
      rw[Mh];intro r hr hp;obtain⟨x,f,rfl⟩:=Kk.1 hr;have:x∈E0 rowCY ds (b.take (n+1)):=Jf.2 ⟨f,hp⟩;rw[O.out,h0] at this;cases this
     rw[bo.out,Ba,Ba (by rw[ae];decide)];intro hm;rw[Mh] at ae;exact ae _ hm (JE _))
    subst h0
    exact Wd4
   ·obtain⟨y,l3,rfl⟩:∃y l3,l2=y::l3:=by
     exact Wec
    obtain⟨cb,o,rfl,a8,d⟩:=J.at sZ;have c0:=(d 0 sZ).1;have c1:=(d 0 sZ).2.1;have c2:=(d 0 sZ).2.2;simp only[Ji,Cg,C6] at c0 c1 c2;have ca:(((l3.length:Nat):Int)+1==0)=false:=uC;have X:y∈E0 rowCY ds (b.take (n+1)):=by rw[O.out];exact Ez
    obtain⟨af,ag⟩:=Jf.1 X;have ah:n+1<=y.1.size/\y.1.size<=24:=by
     have h1:=HH ag;rw[Be] at h1;have h2:=(GS (bn.out y af)).2.1;have h3:(rowCY y).length=y.1.size:=rfl;have h4:n+1<=b.length:=yC;omega
    have a9:=Dm af;have bh:=Dm ag;have ck:=Dm d;have cc:=Dm J;clear X af ag d J h0;obtain⟨y0,y1⟩:=ah;by_cases ai:y.1.size=n+1
    ·have g0:((y.1.size:Int)==(n:Int)+1)=true:=uE;have F:Hid (tk (ds.map rowCY) b 25 1=(0,n+1)/\∃x∈ds,rowCY x=b.take (n+1)/\x.2=y.2):=Dm (by
      have h1:b.take (n+1)=rowCY y:=by
       have h2:=F7.1 bh.out;have h3:(rowCY y).length=n+1:=ai;rw[Be,Bv yC,Bh sX] at h2;exact h2.symm
      refine⟨?_,y,a9.out,h1.symm,rfl⟩;rw[bo.out,Bb (by rw[h1];exact Kc a9.out)])
     have ba:cb≠rb:=by have:=a7.out _ rfl;simp at this;omega
     have bb:∀x,S.grownBy x (some rb)->x.cell? ⟨cb,o+1,none⟩=some (.int .i64 (sA y.2))/\x.cell? ⟨cb,o+2,none⟩=some (.int .i64 (sB y.2))/\x.heap[B]? =some (MK 0 0):=fun x f=>
      ⟨(Kb (a:=⟨cb,o+1,none⟩) (f.block cb a8 yB)).trans c1,(Kb (a:=⟨cb,o+2,none⟩) (f.block cb a8 yB)).trans c2,
       (f.block B (E9.1 z).1 tV).trans z⟩
     have cd:=Dm bb;have bx:AE S.drew rb s p:=H;have ce:p<=1125899906842624:=by have:=H.2;omega
     have cf:p+(n+1)<=8*s.size:=hfit;clear ai bb
     go_wp2_with fail
     have sw:IntKind.i64.wrap ((p:Int)+((n:Int)+1))=(p:Int)+((n:Int)+1):=Kd _ sX
     go_region_with (first|(go_at_call 28;refine(EF _ _ _ _ (by assumption)).mono ?_;rintro e w3 ⟨rfl,rfl⟩)|(go_at_call 91;refine(GQ _ _ _ _ _ (by assumption) sX sX).mono ?_;rintro e w3 ⟨rfl,bc,bd⟩;obtain⟨c3,c4,bf⟩:=cd.out w3 (AP (KU S _) bd);obtain⟨cg,ch,f30,f31⟩:=Su bf))
     all_goals
      rw[show ((p:Int)+((n:Int)+1)).toNat=p+(n+1) by omega] at bc;have hg4:=AP ab (AP (KU S _) bd)
      go_wp2
      exact Is (C0 rfl _ _ B 272 _ (0,0) _ rfl (Wn bf) underlying272 rfl tN) rfl (Qc5 (by rw[D.out];exact F.out.1) (by rw[D.out];exact F.out.2) (Un bc sX) (Vc hg4 I))
    ·have g0:((y.1.size:Int)==(n:Int)+1)=false:=uC;have Y:∀x,x∈E0 rowCY ds (b.take (n+1))->(rowCY x).length≠n+1:=by
      intro x f bg;obtain⟨aj,ak⟩:=Jf.1 f;have h2:=F7.1 ak;rw[Be,Bv yC,Bh sX] at h2;have h3:=NY bw.out (x:=rowCY x) (y:=rowCY y) (Kc aj) (Kc a9.out) (by rw[h2];exact bh.out);have h4:(rowCY y).length=y.1.size:=rfl;rw[h3] at bg;omega
     have F:Hid (tk (ds.map rowCY) b 25 1=tk (ds.map rowCY) b (25-(n+1)) (n+1+1)):=Dm (by
      rw[bo.out,Ba,Bb (Jn.2 ⟨rowCY y,Kc a9.out,bh.out⟩),show 25-(n+1)=24-n by omega];intro hm;have h3:=NY bw.out hm (Kc a9.out) bh.out;have h4:=Bz List.length h3;rw[Be,Bv yC] at h4;exact ai h4.symm)
     have ci:Hid (∀x∈y::l3,n+1<x.1.size/\x.1.size<=24):=Dm (fun x f=>by
      rw[<-O.out] at f;obtain⟨aj,ak⟩:=Jf.1 f;have h1:=HH ak;rw[Be,Bv yC] at h1;have h2:=(GS (bn.out x aj)).2.1;have h3:(rowCY x).length=x.1.size:=rfl;have h4:=Y x f;omega)
     have bu:n+1<=b.length:=yC;clear Y c1 c2 z az n0 n1 r0 r1 f0 f1
     go_wp2
     go_roundw
     case rel=>exact⟨n+1,_,y::l3,cap2,tP,rfl,ad,tK,Dm O.out.symm,cc.out,a7,sX,bu,F,ci,aa,H⟩
     case measure=>simp[intOf];omega
abbrev MD (x:ByteArray×Int):Lit:=.int .i64 x.2
theorem US (s:Int):WideAt.IsKeyLit (.int .i64 s):=trivial
def LK (x:ByteArray×Int):Ad Unit:=.lit (.string x.1.data.toList)
def QC (D:Ad Unit)(l:List (ByteArray×Int)):Ad Unit:=l.foldl (fun D x=>D.put (MD x) (LK x)) D
def JP (l:List (ByteArray×Int)):Ad Unit:=QC (.map []) l
theorem rX (l:List (ByteArray×Int))(j:Nat)(h:j<l.length):JP (l.take (j+1))=(JP (l.take j)).put (MD l[j]) (LK l[j]):=by
 unfold JP QC;rw[Bd h,Mc]
 rfl
theorem dW {s t:Int}(h:s≠t):(Lit.int .i64 s)≠.int .i64 t:=by
 intro e;injection e with _ e;exact h e
theorem Ue:∀{l:List (ByteArray×Int)} {D:Ad Unit} {acc:List Int},Tidy D->(∀s,has D (.int .i64 s)=true↔s∈acc)->size D=acc.length->acc.Nodup->
  size (QC D l)<=acc.length+l.length/\(size (QC D l)=acc.length+l.length↔(acc++l.map (·.2)).Nodup)
 |[],D,acc,_,_,h,hn=>⟨by show size D<=_;omega,by rw[Cs,Fa];exact⟨fun _=>hn,fun _=>h⟩⟩
 |x::l,D,acc,ht,hh,hs,hn=>by
  have f:=ht.put (k:=MD x) (US _) (LK x);by_cases g:x.2∈acc
  ·have c:∀s,has (D.put (MD x) (LK x)) (.int .i64 s)=true↔s∈acc:=by
    intro s;by_cases e:s=x.2
    ·subst e;exact⟨fun _=>g,fun _=>Mm ht.isMap (US _) _⟩
    ·rw[Mj (dW e)];exact hh s
   have d:size (D.put (MD x) (LK x))=acc.length:=by
    rw[size_put ht,Bb ((hh x.2).2 g)];exact hs
   obtain⟨i,_⟩:=Ue (l:=l) f c d hn;rw[Bi];refine⟨Ef i sX,⟨fun e=>?_,fun hd=>?_⟩⟩
   ·exfalso;have o:size (QC (D.put (MD x) (LK x)) l)=acc.length+(l.length+1):=e;omega
   ·exfalso;exact(Mg.1 hd).2.2 x.2 g x.2 sZ rfl
  ·have c:∀s,has (D.put (MD x) (LK x)) (.int .i64 s)=true↔s∈acc++[x.2]:=by
    intro s;rw[Mi,Df];by_cases e:s=x.2
    ·subst e;exact⟨fun _=>.inr rfl,fun _=>Mm ht.isMap (US _) _⟩
    ·rw[Mj (dW e),hh s];exact⟨.inl,fun h=>h.resolve_right e⟩
   have d:size (D.put (MD x) (LK x))=(acc++[x.2]).length:=by
    rw[size_put ht,Ba (fun h=>g ((hh x.2).1 h)),B8,Bo,hs]
   have hn2:(acc++[x.2]).Nodup:=Mg.2 ⟨hn,sZ,fun a n b m e=>g (by rw[Df] at m;rw[<-m,<-e];exact n)⟩;obtain⟨i,j⟩:=Ue (l:=l) f c d hn2;exact Wd1
theorem Qao (l:List (ByteArray×Int)):size (JP l)<=l.length/\(size (JP l)=l.length↔(l.map (·.2)).Nodup):=by
 have:=Ue (l:=l) (D:=(.map []:Ad Unit)) (acc:=[]) tidy_empty (fun s=>by simp[Maps.has]) rfl List.nodup_nil;simp only[Bu,Bn,Cb] at this;exact this
def QN (w:A5)(m:Option Nat)(ds:List (ByteArray×Int)):Prop:=
 (m=none/\ds=[])\/∃a n l,m=some a/\w.ownsMap prog 3 (plainElem prog 9) a n (JP l)/\(l.map (·.2)).Nodup/\l.Perm ds
theorem QN.below {w b:A5}{m:Option Nat}{ds:List (ByteArray×Int)}(h:QN w m ds)(a:Below w.heap.size w b):QN b m ds:=by
 rcases h with h|⟨c,n,l,rfl,ho,hn,d⟩
 ·exact .inl h
 ·refine .inr ⟨c,n,l,rfl,?_,hn,d⟩;exact ho.kept (row:=none) ⟨a.os,a.tape,a.output,a.size,fun k hk _=>a.block k hk⟩ sZ
theorem Qo2:Keyed prog 3:=int_keyed M1
def U6 (p:Option Aa)(l:List (ByteArray×Int))(at_:Nat)(c:UInt8)(w:A5)(e:Ae)(d:A5):Prop:=
 ∃q cap,e=.returned (.slice q (if c=48 then l.takeWhile (BV rowC at_) else l.dropWhile (BV rowC at_)).length cap)/\w=d/\Cds w q (if c=48 then l.takeWhile (BV rowC at_) else l.dropWhile (BV rowC at_))/\
  (if c=48 then l.takeWhile (BV rowC at_) else l.dropWhile (BV rowC at_)).length<=cap/\cap<=maxLen/\∀a,q=some a->∃b,p=some b/\b.block=a.block
theorem Qix {α:Type}(p:α->Bool)(l:List α)(k:Nat)(h1:∀i,(h:i<l.length)->i<k->p l[i]=true)(h2:∀h:k<l.length,p l[k]=false)(hk:k<=l.length):l.takeWhile p=l.take k/\l.dropWhile p=l.drop k:=by
 induction l generalizing k with
 |nil=>simp
 |cons x l b=>
  exact Wdw
theorem Qgc (x:ByteArray×Int)(at_:Nat)(h:at_<x.1.size):BV rowC at_ x=(x.1[at_]==48):=by
 unfold BV rowC;exact Wd6
theorem Sh {l:List (ByteArray×Int)}{at_ k:Nat}{c:UInt8}{w:A5}{p q:Option Aa}{n cap:Nat}(h1:∀i,(h:i<l.length)->i<k->BV rowC at_ l[i]=true)(h2:∀h:k<l.length,BV rowC at_ l[k]=false)(hk:k<=l.length)
  (hn:n=if c=48 then k else l.length-k)(d:Cds w q (if c=48 then l.take k else l.drop k))(e:n<=cap)(hm:cap<=maxLen)(b:∀a,q=some a->∃f,p=some f/\f.block=a.block):U6 p l at_ c w (.returned (.slice q n cap)) w:=by
 obtain⟨e1,e2⟩:=Qix (BV rowC at_) l k h1 h2 hk;unfold U6;exact Wdv
theorem lH {p:Option Aa}:∀a,p=some a->∃b,p=some b/\b.block=a.block:=fun a h=>⟨a,h,rfl⟩
theorem mM {p:Option Aa}{n:Nat}:∀a,Option.map (fun x=>Addr.add x n) p=some a->∃c,p=some c/\c.block=a.block:=by
 exact Wd9
set_option maxRecDepth 100000 in
theorem Qiz (l:List (ByteArray×Int))(p:Option Aa)(cap at_:Nat)(c:UInt8)(w:A5)(hc:Cds w p l)(B:l.length<=cap)(q:cap<=maxLen)(m:∀x∈l,at_<x.1.size/\x.1.size<=24):
  A9 prog 254 #[.slice p l.length cap,.int .i64 (at_:Int),.int .u8 (c.toNat:Int)] w (U6 p l at_ c w):=by
 unfold maxLen at q;have D:=Dm m;clear m;have u:(c=48/\((c.toNat:Int)==48)=true)\/(c≠48/\((c.toNat:Int)==48)=false):=by
  exact Wd2
 go_enter func254,ntmps254
 go_wp2
 go_loop [7] (fun i=>∃k:Nat,k<=l.length/\i=.int .i64 k/\Hid (∀i,(h:i<l.length)->i<k->BV rowC at_ l[i]=true)) (fun i=>l.length-(intOf i).toNat)
 case atStart=>exact⟨0,Do _,rfl,Dm (fun i _ h=>absurd h (Fi i))⟩
 case round=>
  obtain⟨k,hk,rfl,g⟩:=hrel;by_cases r:k<l.length
  ·obtain⟨b,o,rfl,_,f⟩:=hc.at sX;have c0:=(f k r).1;have z:=D.out l[k] (Bl r);obtain⟨x,n⟩:=Ah (l[k]);rw[n] at c0 z;obtain⟨v,E⟩:=z;have A:=Dm (show BV rowC at_ l[k]=(x.1[at_]==48) by rw[n];exact Qgc x at_ v);have t:=Dm hc;clear f n hc;by_cases j:x.1[at_].toNat=48
   ·have F:((x.1[at_].toNat:Int)==48)=true:=by rw[j];rfl
    have G:Hid (∀i,(h:i<l.length)->i<k+1->BV rowC at_ l[i]=true):=Dm (fun i hi h=>by
     by_cases e:i=k
     ·exact Wea
     ·exact g.out i hi sX)
    exact Wd7
   ·have F:((x.1[at_].toNat:Int)==48)=false:=uC;have s:Hid (∀h:k<l.length,BV rowC at_ l[k]=false):=Dm (fun _=>by
     rw[A.out,Fe];intro e;exact j uJ)
    clear j;rcases u with ⟨d,y⟩|⟨d,y⟩
    ·have C:=Dm d;clear d
     go_wp2
     go_ret
     exact Sh g.out s.out hk (by rw[Bb C.out]) (by rw[Bb C.out];exact t.out.take k) sX tK (fun a h=>⟨a,h,rfl⟩)
    ·have C:=Dm d;clear d
     go_wp2
     go_ret
     exact Sh g.out s.out hk (by rw[Ba C.out]) (by rw[Ba C.out];exact t.out.drop k) sX tK (fun a h=>⟨_,rfl,by cases h;rfl⟩)
  ·obtain rfl:k=l.length:=sX;have s:Hid (∀h:l.length<l.length,BV rowC at_ l[l.length]=false):=Dm (fun h=>absurd h (Nat.lt_irrefl _));have t:=Dm hc;clear hc;rcases u with ⟨d,y⟩|⟨d,y⟩
   ·have C:=Dm d;clear d
    go_wp2
    go_ret
    exact Sh g.out s.out hk (by rw[Bb C.out]) (by rw[Bb C.out];exact t.out.take _) sX tK (fun a h=>⟨a,h,rfl⟩)
   ·have C:=Dm d;clear d
    go_wp2
    all_goals
     go_ret
     exact Sh g.out s.out hk (by rw[Ba C.out,Ci]) (by rw[Ba C.out,List.drop_length];exact .inl rfl) sX tK (by first|exact lH|exact mM)
def Qpv (m:Option Nat)(q:Option Aa)(n cap:Nat)(L:Int):List A0:=[.map m,.slice q n cap,.int .i64 L]
def IN (m:Option Nat)(q:Option Aa)(n cap:Nat)(L:Int):Obj:=.cells (Qpv m q n cap L).toArray 288 (0,0)
def Uk (w:A5)(lo N b:Nat)(ds:List (ByteArray×Int))(L:Int):Prop:=
 ∃(m:Option Nat) (q:Option Aa) (cap:Nat),w.heap[b]? =some (IN m q ds.length cap L)/\ds.length<=cap/\cap<=maxLen/\Cds w q ds/\QN w m ds/\∀a,q=some a->lo<=a.block/\a.block<N
theorem Y3v (s:ByteArray)(hs:s.size<=maxLen)(w:A5):
  A9 prog 249 #[.string s] w fun e f=>e=.returned (.bool (BW s.data.toList))/\Below w.heap.size w f:=by
 exact Wdu
set_option maxRecDepth 100000 in
theorem Y51 (l:List (ByteArray×Int))(p:Option Aa)(cap:Nat)(w:A5)(r:Bool)(hr:r=true↔∃i,∃h:i+1<l.length,(rowC l[i]).isPrefixOf (rowC l[i+1])=true)(hc:Cds w p l)(hm:l.length<=1048576):
  A9 prog 253 #[.slice p l.length cap] w fun e s=>e=.returned (.bool r)/\Below w.heap.size w s:=by
 have R:=Dm hr;clear hr;obtain⟨B,t⟩:=Ah w.heap.size;have z:∀x,Below B w x->∀i,(h:i<l.length)->∃b o,p=some ⟨b,o,none⟩/\∀j,(h:j<l.length)->x.cell? ⟨b,o+j*2,none⟩=some (.string l[j].1):=by
  intro x g i hi;obtain⟨b,o,rfl,A,c⟩:=hc.at sX;exact⟨b,o,rfl,fun j hj=>(Kb (a:=⟨b,o+j*2,none⟩) (g.block b sX)).trans (c j hj).1⟩
 have G:=Dm z;have m:Below B w w:=Dn _ _;have H:=Dm t;rw[t];clear z hc t
 go_enter func253,ntmps253
 go_wp2
 go_loopw [3] (fun i wr=>∃k:Nat,(k<l.length\/k=0)/\i=.int .i64 ((k:Int)+1)/\Below B w wr/\Hid (∀i,(h:i+1<l.length)->i<k->(rowC l[i]).isPrefixOf (rowC l[i+1])=false)) (fun i _=>l.length+1-(intOf i).toNat)
 case atStart=>exact Wee
 case round=>
  clear m;obtain⟨k,hk,rfl,q,n⟩:=hrel;by_cases f:k+1<l.length
  ·obtain⟨b,o,rfl,c⟩:=G.out wr q (k+1) f;have c1:=c (k+1) f;have c0:=c k sX;obtain⟨x,g⟩:=Ah (l[k+1]);obtain⟨y,u⟩:=Ah (l[k]);rw[g] at c1;rw[u] at c0;have C:=Dm g;have D:=Dm u;have t0:decide ((k:Int)+1<l.length)=true:=tO;have d:∀w,A9 prog 197 #[.string x.1,.string y.1] w fun e s=>e=.returned (.bool (y.1.data.toList.isPrefixOf x.1.data.toList))/\s=w:=fun w=>UV x.1 y.1 w;clear c hk g u;cases hpre:y.1.data.toList.isPrefixOf x.1.data.toList with
   |true=>
    exact Wdy
   |false=>
    rw[hpre] at d;have F:Hid (∀i,(h:i+1<l.length)->i<k+1->(rowC l[i]).isPrefixOf (rowC l[i+1])=false):=Dm (fun i hi h=>by
     by_cases e:i=k
     ·subst e;rw[C.out,D.out];exact hpre
     ·exact n.out i hi sX)
    exact Wdz
  ·exact Wdx
def Qq (ds:List (ByteArray×Int))(s:ByteArray)(rb p:Nat)(w:A5)(e:Ae)(a:A5):Prop:=
 ∃v:Int,e=.returned (.tuple #[.int .i64 v,.int .i64 (tk (ds.map rowC) ((A2 s.data.toList).drop p) 25 1).1])/\
  ((tk (ds.map rowC) ((A2 s.data.toList).drop p) 25 1).1=0->∃x∈ds,rowC x=((A2 s.data.toList).drop p).take (tk (ds.map rowC) ((A2 s.data.toList).drop p) 25 1).2/\x.2=v)/\
  ((tk (ds.map rowC) ((A2 s.data.toList).drop p) 25 1).1≠0->v=0)/\AE a rb s (p+(tk (ds.map rowC) ((A2 s.data.toList).drop p) 25 1).2)/\w.grownBy a (some rb)
theorem cK {ds:List (ByteArray×Int)}{s:ByteArray}{rb p:Nat}{w a:A5}{f:Int}(h:tk (ds.map rowC) ((A2 s.data.toList).drop p) 25 1=(f,0))(b:f≠0)(hr:AE a rb s p)(hg:w.grownBy a (some rb)):
  Qq ds s rb p w (.returned (.tuple #[.int .i64 0,.int .i64 f])) a:=by
 unfold Qq;rw[h];exact⟨0,rfl,fun e=>absurd e b,fun _=>rfl,hr,hg⟩
theorem jB {ds:List (ByteArray×Int)}{s:ByteArray}{rb p n:Nat}{w a:A5}{v:Int}(h:tk (ds.map rowC) ((A2 s.data.toList).drop p) 25 1=(0,n))(b:∃x∈ds,rowC x=((A2 s.data.toList).drop p).take n/\x.2=v)(hr:AE a rb s (p+n))(hg:w.grownBy a (some rb)):
  Qq ds s rb p w (.returned (.tuple #[.int .i64 v,.int .i64 0])) a:=by
 unfold Qq;rw[h];exact⟨v,rfl,fun _=>b,fun e=>absurd rfl e,hr,hg⟩
set_option maxRecDepth 100000 in
theorem Qir (w:A5)(lo N tb rb:Nat)(ds:List (ByteArray×Int))(L:Int)(s:ByteArray)(p:Nat)(ht:Uk w lo N tb ds L)(hr:AE w rb s p)(hN:rb<lo\/N<=rb)
  (hs:ds.Pairwise fun x y=>leL (rowC x) (rowC y)=true)(hf:CJ (ds.map rowC))(ho:∀x∈ds,BW (rowC x)=true):
  A9 prog 240 #[.pointer (some ⟨tb,0,none⟩),.pointer (some ⟨rb,0,none⟩)] w (Qq ds s rb p w):=by
 obtain⟨m,q,cap,h1,h2,h3,hc,_,hq⟩:=ht;have c1:w.cell? ⟨tb,1,none⟩=some (.slice q ds.length cap):=AA h1 rfl;obtain⟨b,T⟩:=Ah ((A2 s.data.toList).drop p);have ag:b.length=8*s.size-p:=by rw[<-T,Bf,AZ];rfl
 have bg:=hr.2.1;obtain⟨B,hB⟩:=Ah w.heap.size;have ah:Below B w w:=Dn _ _;have bc:=Dm hB;have bh:=Dm hs;have bd:=Dm hf;have a3:=Dm ho;have A:=Dm T;have K:=Dm ag;have bi:=Dm hq;have ai:E0 rowC ds (b.take 0)=ds:=by rw[Bk];exact bW rowC ds
 have bj:=Dm ai;have C:∀x∈ds,0<x.1.size/\x.1.size<=24:=fun x f=>by
  have h:=GS (ho x f);have h1:(rowC x).length=x.1.size:=rfl;have h2:=Mf.2 h.1;omega
 have bk:=Dm C;have bl:=Dm hc;clear h1 hB hs hf ho T ag hq ai hc C
 go_enter func240,ntmps240
 go_wp2
 go_loopw [7,8] (fun u v wr=>∃(n:Nat) (a:Option Aa) (l:List (ByteArray×Int)) (cap:Nat),v=.int .i64 ((n:Int)+1)/\u=.slice a l.length cap/\l.length<=cap/\cap<=maxLen/\Hid (l=E0 rowC ds (b.take n))/\Cds wr a l/\Hid (∀x,a=some x->lo<=x.block/\x.block<N)/\n<=23/\n<=b.length/\
  Hid (tk (ds.map rowC) b 25 1=tk (ds.map rowC) b (25-n) (n+1))/\Hid (∀x∈l,n<x.1.size/\x.1.size<=24)/\Below B w wr/\AE wr rb s p) (fun _ v _=>25-(intOf v).toNat)
 case atStart=>exact⟨0,q,ds,cap,rfl,rfl,h2,h3,Dm bj.out.symm,bl.out,Dm bi.out,sX,Do _,Dm rfl,Dm bk.out,ah,hr⟩
 case round=>
  clear ah hr h2 h3 c1;obtain⟨n,a,l,cap,rfl,rfl,aj,ak,hl,hc,ha,hn,bm,al,D,hb,hr⟩:=hrel;unfold maxLen at ak;have M:tk (ds.map rowC) b (25-n) (n+1)=if b.length<n+1 then (2,0) else if b.take (n+1)∈ds.map rowC then (0,n+1) else if (ds.map rowC).any (fun r=>(b.take (n+1)).isPrefixOf r)=true then tk (ds.map rowC) b (24-n) (n+1+1) else (3,0):=by
   rw[show 25-n=(24-n)+1 by omega,tk]
  have U:=Dm (al.out.trans M);clear M al
  go_wp2_with fail
  refine(FP _ _ _ _ ((n:Int)+1) hr).mono ?_;rintro e V ⟨rfl,I⟩;have E:=hr.below I;have am:=hc.below I;have g:Below B w V:=hb.trans (I.mono (by rw[<-bc.out];exact hb.size));have W:w.grownBy V (some rb):=by
   rw[<-bc.out] at g;exact⟨g.os,g.tape,g.output,g.size,fun k hk _=>g.block k hk⟩
  clear hr hc hb I;by_cases z:b.length<n+1
  ·have j:ask s.data.toList p ((n:Int)+1)=(0,2):=FS sX (by rw[K.out] at z;have:s.data.toList.length=s.size:=rfl;omega);have F:=Dm (U.out.trans (Bb z));rw[j];clear z
   go_wp2
   go_ret2
   exact cK vR sY E W
  ·have hfit:p+(n+1)<=8*s.size:=by rw[K.out] at z;omega
   have j:ask s.data.toList p ((n:Int)+1)=(((AB s.data.toList p (n+1):Nat):Int),0):=by
    exact Wd5
   have a4:=Dm (U.out.trans (Ba z));obtain⟨an,O⟩:=QH s.data.toList p n hfit;have X:∃c:UInt8,(c=48\/c=49)/\b[n]? =some c/\AB s.data.toList p (n+1)%2+48=c.toNat:=by
    have e:b[n]? =some ((A2 s.data.toList).drop p)[n]:=by rw[<-A.out];exact Fh an
    rcases O with ⟨h1,h2⟩|⟨h1,h2⟩
    ·exact⟨48,.inl rfl,by rw[e,h1],by rw[h2];rfl⟩
    ·exact⟨49,.inr rfl,by rw[e,h1],by rw[h2];rfl⟩
   obtain⟨c,P,ao,i⟩:=X;have a5:AB s.data.toList p (n+1)<=4294967296:=by
    exact Web
   rw[j];clear z U j O an;obtain⟨t,ap⟩:=Ah (AB s.data.toList p (n+1));rw[ap] at i a5 ⊢;have a6:=Dm P;have bn:=Dm ao;have bw:=Dm i;have Q:(48+bits .and .i64 ((t:Nat):Int) 1)%256=(c.toNat:Int):=by
    exact Wd8
   have bo:=Dm Q;clear P ao i ap Q
   go_wp2_with fail
   rw[bo.out];refine(Qiz l a cap n c V am aj tK D.out).mono ?_;rintro e w2 ⟨a2,cap2,rfl,rfl,G,Y,a7,aq⟩;have ar:(if c=48 then l.takeWhile (BV rowC n) else l.dropWhile (BV rowC n))=E0 rowC ds (b.take (n+1)):=by
    have au:(b.take n).length=n:=tB;have f:=aA rowC (l:=ds) (q:=b.take n) bh.out (fun x f=>(GS (a3.out x f)).2.2) (by rw[au,<-hl.out];exact fun x f=>(D.out x f).1);rw[au,<-hl.out] at f;have a8:b.take (n+1)=b.take n++[c]:=by
     rw[List.take_add_one,bn.out];rfl
    rw[a8];rcases a6.out with e|e
    ·rw[e,Bb rfl];exact f.1
    ·rw[e,Ba sY];exact f.2
   rw[ar] at G Y ⊢;obtain⟨l2,H⟩:=Ah (E0 rowC ds (b.take (n+1)));rw[H] at G Y ⊢;have J:=Dm H;have av:Hid (∀x,a2=some x->lo<=x.block/\x.block<N):=Dm (fun x f=>by
    obtain⟨y,hy,hb⟩:=aq x f;rw[<-hb];exact ha.out y hy)
   unfold maxLen at a7;clear ar H aq am aj ak ha hl D;by_cases h0:l2=[]
   ·have F:Hid (tk (ds.map rowC) b 25 1=(3,0)):=Dm (by
     have Z:(ds.map rowC).any (fun r=>(b.take (n+1)).isPrefixOf r)=false:=by
      rw[Mh];intro r hr hp;obtain⟨x,f,rfl⟩:=Kk.1 hr;have:x∈E0 rowC ds (b.take (n+1)):=Jf.2 ⟨f,hp⟩;rw[J.out,h0] at this;cases this
     rw[a4.out,Ba,Ba (by rw[Z];decide)];intro hm;rw[Mh] at Z;exact Z _ hm (JE _))
    subst h0
    go_wp2
    go_ret2
    exact cK vR sY E W
   ·obtain⟨y,l3,rfl⟩:∃y l3,l2=y::l3:=by
     exact Wec
    obtain⟨cb,o,rfl,a9,d⟩:=G.at sZ;have c0:=(d 0 sZ).1;have c1:=(d 0 sZ).2;simp only[Ji,Cg,C6] at c0 c1;have bp:(((l3.length:Nat):Int)+1==0)=false:=uC;have R:y∈E0 rowC ds (b.take (n+1)):=by rw[J.out];exact Ez
    obtain⟨aa,ab⟩:=Jf.1 R;have ac:n+1<=y.1.size/\y.1.size<=24:=by
     have h1:=HH ab;rw[Be] at h1;have h2:=(GS (a3.out y aa)).2.1;have h3:(rowC y).length=y.1.size:=rfl;have h4:n+1<=b.length:=yD;omega
    have aw:=Dm aa;have a1:=Dm ab;have bx:=Dm d;have bq:=Dm G;clear R aa ab d G h0;obtain⟨y0,y1⟩:=ac;by_cases ad:y.1.size=n+1
    ·have g0:((y.1.size:Int)==(n:Int)+1)=true:=uE;have F:Hid (tk (ds.map rowC) b 25 1=(0,n+1)/\∃x∈ds,rowC x=b.take (n+1)/\x.2=y.2):=Dm (by
      have h1:b.take (n+1)=rowC y:=by
       have h2:=F7.1 a1.out;have h3:(rowC y).length=n+1:=ad;rw[Be,Bv yD,Bh sX] at h2;exact h2.symm
      refine⟨?_,y,aw.out,h1.symm,rfl⟩;rw[a4.out,Bb (by rw[h1];exact Kc aw.out)])
     have ba:cb≠rb:=by have:=av.out _ rfl;simp at this;omega
     have ax:∀x,V.grownBy x (some rb)->x.cell? ⟨cb,o+1,none⟩=some (.int .i64 y.2):=fun x f=>(Kb (a:=⟨cb,o+1,none⟩) (f.block cb a9 yB)).trans c1;have br:=Dm ax;have bf:AE V.drew rb s p:=E;have bt:p<=1125899906842624:=by have:=E.2;omega
     have bu:p+(n+1)<=8*s.size:=hfit;clear ad ax
     go_wp2_with fail
     have sw:IntKind.i64.wrap ((p:Int)+((n:Int)+1))=(p:Int)+((n:Int)+1):=Kd _ sX
     go_region_with (first|(go_at_call 28;refine(EF _ _ _ _ (by assumption)).mono ?_;rintro e w3 ⟨rfl,rfl⟩)|(go_at_call 91;refine(GQ _ _ _ _ _ (by assumption) sX sX).mono ?_;rintro e w3 ⟨rfl,ay,az⟩;have c3:=br.out w3 (AP (KU V _) az)))
     all_goals
      rw[show ((p:Int)+((n:Int)+1)).toNat=p+(n+1) by omega] at ay;have hg4:=AP W (AP (KU V _) az)
      go_wp2
      go_ret2
      exact jB (by rw[A.out];exact F.out.1) (by rw[A.out];exact F.out.2) ay hg4
    ·have g0:((y.1.size:Int)==(n:Int)+1)=false:=uC;have S:∀x,x∈E0 rowC ds (b.take (n+1))->(rowC x).length≠n+1:=by
      intro x f a0;obtain⟨ae,af⟩:=Jf.1 f;have h2:=F7.1 af;rw[Be,Bv yD,Bh sX] at h2;have h3:=NY bd.out (x:=rowC x) (y:=rowC y) (Kc ae) (Kc aw.out) (by rw[h2];exact a1.out);have h4:(rowC y).length=y.1.size:=rfl;rw[h3] at a0;omega
     have F:Hid (tk (ds.map rowC) b 25 1=tk (ds.map rowC) b (25-(n+1)) (n+1+1)):=Dm (by
      rw[a4.out,Ba,Bb (Jn.2 ⟨rowC y,Kc aw.out,a1.out⟩),show 25-(n+1)=24-n by omega];intro hm;have h3:=NY bd.out hm (Kc aw.out) a1.out;have h4:=Bz List.length h3;rw[Be,Bv yD] at h4;exact ad h4.symm)
     have bv:Hid (∀x∈y::l3,n+1<x.1.size/\x.1.size<=24):=Dm (fun x f=>by
      rw[<-J.out] at f;obtain⟨ae,af⟩:=Jf.1 f;have h1:=HH af;rw[Be,Bv yD] at h1;have h2:=(GS (a3.out x ae)).2.1;have h3:(rowC x).length=x.1.size:=rfl;have h4:=S x f;omega)
     have bb:n+1<=b.length:=yD;clear S c1
     go_wp2
     go_roundw
     case rel=>exact⟨n+1,_,y::l3,cap2,tP,rfl,Y,tK,Dm J.out.symm,bq.out,av,sX,bb,F,bv,g,E⟩
     case measure=>simp[intOf];omega
end
end Go.Proofs.YtjjmalchelniiaaGreatDoor
