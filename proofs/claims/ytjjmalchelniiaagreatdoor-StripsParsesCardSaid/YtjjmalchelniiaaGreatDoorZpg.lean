/- No condition. -/
import Derived.Test.YtjjmalchelniiaaGreatDoorZpb
import Derived.Test.YtjjmalchelniiaaGreatDoorZpd
import Derived.Test.YtjjmalchelniiaaGreatDoorZpe
import Derived.Test.YtjjmalchelniiaaGreatDoorZpf
open Go.Proofs.Tryz
open Go renaming World->A5,Calls->A9
set_option maxHeartbeats 1000000
namespace Go.Proofs.YtjjmalchelniiaaGreatDoor
open Go.RowKit
theorem Wbw{p:Prop}(h:p:=by
 go_enter func125,ntmps125
 go_wp2
 go_ret2
 exact⟨S8 A.out,Dn _ _⟩):p:=h
theorem Wbv{p:Prop}(h:p:=by
 go_enter func161,ntmps161
 go_wp2
 go_ret
 exact⟨ES (by rw[A.out];rfl),Dn _ _⟩):p:=h
theorem Wbu{p:Prop}(h:p:=by
 go_wp2
 go_ret
 exact⟨rfl,rfl⟩):p:=h
theorem uB{p:Prop}(h:p:=by decide +kernel):p:=h
theorem uC{p:Prop}(h:p:=by rw[Fe];omega):p:=h
theorem uD{p:Prop}(h:p:=by simpa using h1):p:=h
theorem uE{p:Prop}(h:p:=by rw[Bj];omega):p:=h
theorem uF{p:Prop}(h:p:=by rw[Fj];omega):p:=h
theorem uG{p:Prop}(h:p:=by simpa using h2):p:=h
theorem uH{p:Prop}(h:p:=by unfold gap;omega):p:=h
theorem uI{p:Prop}(h:p:=by rw[h];decide):p:=h
theorem uJ{p:Prop}(h:p:=by rw[e];rfl):p:=h
theorem uK{p:Prop}(h:p:=by unfold wrap64;omega):p:=h
theorem uL{p:Prop}(h:p:=by rw[a];have:=d.out;omega):p:=h
theorem uM{p:Prop}(h:p:=by rw[a];omega):p:=h
abbrev Fe:=@beq_eq_false_iff_ne
abbrev Ff:=@Bool.and_eq_true
abbrev Fg:=@decide_eq_true_iff
abbrev Fh:=@List.getElem?_eq_getElem
abbrev Fi:=@Nat.not_lt_zero
abbrev Fj:=@bne_iff_ne
abbrev Fk:=@Option.some.inj
abbrev Fl:=@List.drop_eq_getElem_cons
abbrev Fm:=@of_decide_eq_true
abbrev Fo:=@List.getElem_take
abbrev Fp:=@List.getElem_drop
abbrev Fq:=@Nat.lt_or_ge
abbrev Fr:=@List.getElem?_eq_none
abbrev Fs:=@Nat.div_one
abbrev Ft:=@Nat.pow_zero
abbrev Fu:=@List.takeWhile_cons_of_pos
abbrev Fv:=@List.takeWhile_cons_of_neg
abbrev Fw:=@Prod.ext
theorem Ah{α}(a:α):∃b,a=b:=⟨a,rfl⟩
def sD (s:ByteArray)(p:Nat):List Value:=[.string s,.int .i64 (p:Int)]
def LA (s:ByteArray)(p:Nat):Obj:=.cells (sD s p).toArray 91 (0,0)
def AE (w:A5)(b:Nat)(s:ByteArray)(p:Nat):Prop:=w.heap[b]? =some (LA s p)/\p<=8*s.size/\s.size<=140737488355328
theorem AE.cells {w:A5}{b:Nat}{s:ByteArray}{p:Nat}(h:AE w b s p):w.cell? ⟨b,0,none⟩=some (.string s)/\w.cell? ⟨b,1,none⟩=some (.int .i64 (p:Int)):=
 ⟨AA h.1 rfl,AA h.1 rfl⟩
theorem AE.lt {w:A5}{b:Nat}{s:ByteArray}{p:Nat}(h:AE w b s p):b<w.heap.size:=(E9.1 h.1).1
theorem AE.below {w a:A5}{b:Nat}{s:ByteArray}{p:Nat}(h:AE w b s p)(c:Below w.heap.size w a):AE a b s p:=⟨by rw[c.block b h.lt];exact h.1,h.2⟩
theorem AE.grown {w d:A5}{b c:Nat}{s:ByteArray}{p:Nat}(h:AE w b s p)(hg:w.grownBy d (some c))(a:b≠c):AE d b s p:=⟨by rw[hg.block b h.lt (by simpa using a)];exact h.1,h.2⟩
theorem AE.fresh {w:A5}{b:Nat}{s:ByteArray}(a:w.heap.size=b)(hs:s.size<=140737488355328):AE (w.alloc (LA s 0)) b s 0:=by
 subst a;exact⟨heap_alloc_new w _,sX,hs⟩
theorem AE.moved {w:A5}{b:Nat}{s:ByteArray}{p:Nat}(h:AE w b s p)(q:Nat)(a:q<=8*s.size):AE (w.setCell ⟨b,1,none⟩ (.int .i64 (q:Int))) b s q:=
 ⟨B3 (o:=1) _ h.1,a,h.2.2⟩
theorem Qa (w:A5)(s:ByteArray):A9 prog 27 #[.string s] w fun e a=>e=.returned (.pointer (some ⟨w.heap.size,0,none⟩))/\w.alloc (LA s 0)=a:=by
 go_enter func27,ntmps27
 exact Wbu
theorem Qpa (y c:Nat)(h:c<256)(d:y<4294967296):bits .or .i64 ((y:Int)*256) (c:Int)=((256*y+c:Nat):Int):=by
 have a:=Cm (i:=8) (b:=c) sX y;have e1:((y:Int)*256)=((256*y:Nat):Int):=sX;rw[e1];show IntKind.i64.wrap ((BitVec.ofInt 64 ((256*y:Nat):Int) ||| BitVec.ofInt 64 (c:Int)).toNat:Int)=_;rw[C7,C7,D9,C8,C8,Bq sX,Bq sX];have e2:256*y ||| c=256*y+c:=by
  have e:(2:Nat)^8=256:=rfl;rw[e] at a;exact a.symm
 rw[e2,Cr];omega
theorem oF (y k n:Nat)(h:n<=32):bits .and .i64 ((y:Int) / 2^k) (wrap64 (wrap64 (2^n)-1))=((y / 2^k%2^n:Nat):Int):=by
 obtain⟨h1,h2⟩:=jG n h;have e1:wrap64 ((2:Int)^n)=2^n:=uK;have e2:wrap64 ((2:Int)^n-1)=2^n-1:=uK;rw[e1,e2,LQ _ n sX];simp
theorem bQ (w:A5)(b:Nat)(s:ByteArray)(p:Nat)(m:Int)(hr:AE w b s p)(h1:0<=m)(h2:m<=32)(h3:m<=8*(s.size:Int)-p):
  A9 prog 155 #[.pointer (some ⟨b,0,none⟩),.int .i64 m] w fun e B=>e=.returned (.int .i64 ((AB s.data.toList p m.toNat:Nat):Int))/\Below w.heap.size w B:=by
 obtain⟨n,rfl⟩:=Dr h1;simp only[Dp];obtain⟨c0,c1⟩:=hr.cells;obtain⟨_,N,hs⟩:=hr;have C:n<=32:=sX;have P:p+n<=8*s.size:=sX;clear h1 h2 h3
 go_enter func155,ntmps155
 go_wp2
 go_region
 obtain⟨f,k,D,hk⟩:∃f k,p / 8=f/\(p+n+7) / 8=f+k:=⟨p / 8,(p+n+7) / 8-p / 8,rfl,sX⟩;rw[show (p:Int) / 8=(f:Int) by omega,show ((p:Int)+n+7) / 8=(f:Int)+k by omega];have E:k<=5:=sX;have r:f+k<=s.size:=sX;have t:8*f<=p:=sX;have u:p+n<=8*(f+k):=sX;have H:8*(f+k)<=p+n+7:=sX;obtain⟨l,hl⟩:=Ah (s.data.toList.drop f);have I:k<=l.length:=by rw[<-hl,Bf];have:s.data.toList.length=s.size:=rfl;omega
 have a:∀j,(h:j<l.length)->(h2:f+j<s.size)->l[j]=s[f+j]:=by
  intro j h h2;subst hl;rw[Fp]
  rfl
 have c:LZ (l.take k) / 2^(8*(f+k)-p-n)%2^n=AB s.data.toList p n:=by
  rw[<-hl];exact Vg _ f k p n t u r
 have o:∀j,j<=k->LZ (l.take j)<256^j:=fun j hj=>Qoc _ _ tB;have G:=Dm a;have F:=Dm c;have L:=Dm hl;have J:=Dm o;have d0:w.drew.cell? ⟨b,0,none⟩=some (.string s):=c0;have d1:w.drew.cell? ⟨b,1,none⟩=some (.int .i64 (p:Int)):=c1;have q:Below w.heap.size w w.drew:=(Dn _ w).drew;clear c0 c1 hl a c o D hk;generalize w.drew=Q at d0 d1 q ⊢
 go_wp2
 go_loop [7,25] (fun x i=>∃j y:Nat,j<=k/\i=.int .i64 j/\x=.int .i64 y/\LZ (l.take j)=y) (fun _ i=>k-(intOf i).toNat)
 case atStart=>exact⟨0,0,Do _,rfl,rfl,rfl⟩
 case round=>
  obtain⟨j,y,hj,rfl,rfl,v⟩:=hrel;have Y:=Dm v;have d:=J.out j hj;rw[v] at d;clear v;by_cases K:j<k
  ·have z:y<4294967296:=by
    have:256^j<=256^4:=Br sX sX;omega
   have A:f+j<s.size:=sX;have hg:=G.out j sX A;have g:=iS l j sX;rw[Y.out,hg] at g;have hc:=s[f+j].toNat_lt;have ho:=Qpa y s[f+j].toNat hc z;have ST:=Dm g;have O:=Dm ho;clear g hg d ho
   go_wp2
   go_round
   case rel=>exact⟨j+1,256*y+s[f+j].toNat,sX,tP,by rw[O.out],ST.out⟩
   case measure=>simp[intOf];omega
  ·obtain rfl:j=k:=sX;have M:y<1099511627776:=by
    have:256^j<=256^5:=Br sX sX;omega
   clear d
   go_wp2
   go_region
   go_wp2
   go_ret
   refine⟨ES ?_,q.drew⟩;rw[oF _ _ _ C,<-F.out,Y.out]
theorem Rf (w:A5)(b:Nat)(s:ByteArray)(p:Nat)(hr:AE w b s p):
  A9 prog 29 #[.pointer (some ⟨b,0,none⟩)] w fun e c=>e=.returned (.int .i64 (8*(s.size:Int)-p))/\Below w.heap.size w c:=by
 obtain⟨c0,c1⟩:=hr.cells;obtain⟨_,d,hs⟩:=hr;have a:Below w.heap.size w w.drew:=(Dn _ w).drew
 go_enter func29,ntmps29
 go_wp2
 go_region
 go_wp2
 go_ret
 exact⟨rfl,a⟩
theorem EF (w:A5)(b:Nat)(s:ByteArray)(p:Nat)(hr:AE w b s p):
  A9 prog 28 #[.pointer (some ⟨b,0,none⟩)] w fun e a=>e=.returned (.int .i64 (p:Int))/\w=a:=by
 obtain⟨c0,c1⟩:=hr.cells
 go_enter func28,ntmps28
 exact Wbu
theorem MH (w:A5)(b:Nat)(s:ByteArray)(p:Nat)(hr:AE w b s p):
  A9 prog 60 #[.pointer (some ⟨b,0,none⟩)] w fun e a=>e=.returned (.string s)/\w=a:=by
 obtain⟨c0,c1⟩:=hr.cells
 go_enter func60,ntmps60
 exact Wbu
theorem S8 {l:List UInt8}{p:Nat}{n:Int}{v c:Int}(h:ask l p n=(v,c)){k a:IntKind}:Ending.returned (.tuple #[.int k v,.int a c])=.returned (.tuple #[.int k (ask l p n).1,.int a (ask l p n).2]):=tE
theorem FP (w:A5)(b:Nat)(s:ByteArray)(p:Nat)(n:Int)(hr:AE w b s p):
  A9 prog 125 #[.pointer (some ⟨b,0,none⟩),.int .i64 n] w fun e g=>e=.returned (.tuple #[.int .i64 (ask s.data.toList p n).1,.int .i64 (ask s.data.toList p n).2])/\Below w.heap.size w g:=by
 have a:s.data.toList.length=s.size:=rfl;by_cases h1:n<0
 ·have A:=Dm (fX (l:=s.data.toList) (p:=p) (n:=n) (.inl h1))
  exact Wbw
 ·by_cases h2:32<n
  ·have A:=Dm (fX (l:=s.data.toList) (p:=p) (n:=n) (.inr h2))
   exact Wbw
  ·have d1:decide (n<0)=false:=uD;have d2:decide (32<n)=false:=uG;by_cases h3:8*(s.size:Int)-p<n
   ·have A:=Dm (FS (l:=s.data.toList) (p:=p) (n:=n) sX (by rw[a];exact h3));have d3:decide (8*(s.size:Int)-p<n)=true:=by simpa using h3
    go_enter func125,ntmps125
    go_wp2_with fail
    refine(Rf _ _ _ _ hr).mono ?_;rintro e h ⟨rfl,c⟩
    go_wp2
    go_ret2
    exact⟨S8 A.out,c⟩
   ·have A:=Dm (EK (l:=s.data.toList) (p:=p) (n:=n) sX uM);have d3:decide (8*(s.size:Int)-p<n)=false:=by simpa using h3
    go_enter func125,ntmps125
    go_wp2_with fail
    refine(Rf _ _ _ _ hr).mono ?_;rintro e h ⟨rfl,c⟩;have d:=hr.below c;have i:=c.size
    go_wp2_with fail
    refine(bQ _ _ _ _ _ d sX sX sX).mono ?_;rintro e j ⟨rfl,f⟩
    go_wp2
    go_ret2
    exact⟨S8 A.out,c.trans (f.mono i)⟩
theorem Qd5 (l:List UInt8)(p:Nat)(n:Int):(ask l p n).2=1\/(ask l p n).2=2\/((ask l p n).2=0/\0<=n/\n<=32/\n<=8*(l.length:Int)-p):=by
 unfold ask
 split
 ·exact .inl rfl
 ·split
  ·exact .inr (.inl rfl)
  ·exact .inr (.inr ⟨rfl,sX⟩)
theorem JH (w:A5)(b:Nat)(s:ByteArray)(p:Nat)(n:Int)(hr:AE w b s p):
  A9 prog 92 #[.pointer (some ⟨b,0,none⟩),.int .i64 n] w fun e r=>e=.returned (.tuple #[.int .i64 (ask s.data.toList p n).1,.int .i64 (ask s.data.toList p n).2])/\AE r b s (CM s.data.toList p n)/\w.grownBy r (some b):=by
 have d:=Qd5 s.data.toList p n;have g:CM s.data.toList p n=if (ask s.data.toList p n).2=0 then p+n.toNat else p:=rfl
 have l:s.data.toList.length=s.size:=rfl;rw[g];generalize t:ask s.data.toList p n=q at d ⊢;obtain⟨v,c⟩:=q;have Q:=Dm t;clear t g
 go_enter func92,ntmps92
 go_wp2_with fail
 refine(FP _ _ _ _ _ hr).mono ?_;rintro e u ⟨rfl,f⟩;rw[Q.out];have a:=hr.below f;have i:w.grownBy u (some b):=⟨f.os,f.tape,f.output,f.size,fun k hk _=>f.block k hk⟩;by_cases x:c=0
 ·subst x;have hn:0<=n/\n<=32/\n<=8*(s.size:Int)-p:=by
   rcases d with h|h|h
   ·cases h
   ·cases h
   ·exact⟨h.2.1,h.2.2.1,by rw[<-l];exact h.2.2.2⟩
  obtain⟨A,B,C⟩:=hn;obtain⟨c0,c1⟩:=a.cells;have y:=AL (o:=1) a.1;have hm:=a.moved (p+n.toNat) sX;have j:=D3 u ⟨b,1,none⟩ (.int .i64 ((p+n.toNat:Nat):Int));have m:((p+n.toNat:Nat):Int)=(p:Int)+n:=sX;rw[m] at hm j;have z:p<=1125899906842624:=by have:=hr.2;omega
  clear d
  go_wp2
  go_ret2
  exact⟨rfl,hm,AP i j⟩
 ·have d0:(c==0)=false:=by rw[Fe];exact x
  go_wp2
  go_ret2
  exact⟨rfl,a,i⟩
theorem fH {l:List UInt8}{p:Nat}{v c:Int}(h:JU l p=(v,c)){k a:IntKind}:Ending.returned (.tuple #[.int k v,.int a c])=.returned (.tuple #[.int k (JU l p).1,.int a (JU l p).2]):=tE
theorem S1 {p n:Nat}(h:p<=8*n):p+gap p<=8*n:=uH
theorem Rv (p:Nat):gap p<8:=uH
theorem VZ (w:A5)(b:Nat)(s:ByteArray)(p:Nat)(hr:AE w b s p):
  A9 prog 159 #[.pointer (some ⟨b,0,none⟩)] w fun e r=>e=.returned (.tuple #[.int .i64 (JU s.data.toList p).1,.int .i64 (JU s.data.toList p).2])/\AE r b s (MY s.data.toList p)/\w.grownBy r (some b):=by
 obtain⟨c0,c1⟩:=hr.cells;have x:=hr.2.1;have hs:=hr.2.2;have m:=S1 x;obtain⟨g,hg⟩:=Ah (gap p);have y:g<8:=by rw[<-hg];exact Rv p
 have t:7-((p:Int)+7)%8=(g:Int):=by rw[<-hg];unfold gap;omega
 have c:MY s.data.toList p=if AB s.data.toList p g=0 then p+g else p:=by unfold MY;rw[hg]
 have h:JU s.data.toList p=if AB s.data.toList p g=0 then ((g:Int),0) else (0,5):=by unfold JU;rw[hg]
 rw[hg] at m;obtain⟨q,n⟩:=Ah (MY s.data.toList p);rw[n];rw[n] at c;have l:=Dm c;have u:=Dm h;have z:=Dm t;clear c h t hg n
 go_enter func159,ntmps159
 go_wp2_with fail
 rw[z.out];refine(bQ _ _ _ _ (g:Int) hr sX sX sX).mono ?_;rintro e v ⟨rfl,f⟩;rw[Dp];have a:=hr.below f;have i:w.grownBy v (some b):=⟨f.os,f.tape,f.output,f.size,fun k hk _=>f.block k hk⟩;by_cases d:AB s.data.toList p g=0
 ·have d0:(((AB s.data.toList p g:Nat):Int) != 0)=false:=by rw[d];rfl
  obtain⟨C,D⟩:=a.cells;have B:=AL (o:=1) a.1;have hm:=a.moved (p+g) sX;have j:=D3 v ⟨b,1,none⟩ (.int .i64 ((p+g:Nat):Int));rw[show ((p+g:Nat):Int)=(p:Int)+g by omega] at hm j;have A:=Dm (u.out.trans (Bb d));obtain rfl:q=p+g:=l.out.trans (Bb d);clear l;clear d c0 c1
  go_wp2
  go_ret2
  exact⟨fH A.out,hm,AP i j⟩
 ·have d0:(((AB s.data.toList p g:Nat):Int) != 0)=true:=uF;have A:=Dm (u.out.trans (Ba d));obtain rfl:q=p:=l.out.trans (Ba d);clear l;clear d
  go_wp2
  go_ret2
  exact⟨fH A.out,a,i⟩
theorem GQ (w:A5)(b:Nat)(s:ByteArray)(p:Nat)(n:Int)(hr:AE w b s p)(h1:0<=n)(h2:n<=8*(s.size:Int)):
  A9 prog 91 #[.pointer (some ⟨b,0,none⟩),.int .i64 n] w fun e a=>e=.returned (.int .i64 0)/\AE a b s n.toNat/\w.grownBy a (some b):=by
 obtain⟨c0,c1⟩:=hr.cells;have hs:=hr.2.2;have c:=AL (o:=1) hr.1;have hm:=hr.moved n.toNat sX;have hg:=D3 w ⟨b,1,none⟩ (.int .i64 ((n.toNat:Nat):Int));rw[show ((n.toNat:Nat):Int)=n by omega] at hm hg;have d1:decide (n<0)=false:=uD;have d2:decide (8*(s.size:Int)<n)=false:=uG
 go_enter func91,ntmps91
 go_wp2
 go_ret
 exact⟨rfl,hm,hg⟩
theorem bH (w:A5)(b:Nat)(s:ByteArray)(p:Nat)(n:Int)(hr:AE w b s p)(h:n<0\/8*(s.size:Int)<n):
  A9 prog 91 #[.pointer (some ⟨b,0,none⟩),.int .i64 n] w fun e a=>e=.returned (.int .i64 1)/\w=a:=by
 obtain⟨c0,c1⟩:=hr.cells;have hs:=hr.2.2;by_cases h1:n<0
 ·have d1:decide (n<0)=true:=uD
  go_enter func91,ntmps91
  exact Wbu
 ·have d1:decide (n<0)=false:=uD;have d2:decide (8*(s.size:Int)<n)=true:=tO;clear h
  go_enter func91,ntmps91
  exact Wbu
theorem N7 (s:ByteArray):(⟨(A2 s.data.toList).toArray⟩:ByteArray).size=8*s.size:=by rw[LD,AZ];rfl
theorem PS (s:ByteArray)(p n:Nat):(⟨(A2 s.data.toList).toArray⟩:ByteArray).extract p (p+n)=⟨(((A2 s.data.toList).drop p).take n).toArray⟩:=by
 rw[Xg,Cu,show p+n-p=n by omega]
section
attribute [local irreducible] HW
theorem X7:∀l:List UInt8,AH l=true->(num l=0↔∀i (h:i<l.length),l[i]=48)
 |[],_=>⟨fun _ i h=>absurd h (Fi i),fun _=>by unfold num;rw[R2]⟩
 |c::l,h=>by
  obtain⟨hc,hl⟩:=YM h;rw[UG];have d:0<2^l.length:=Ch _;have b:=X7 l hl;constructor
  ·intro a i hi;have h1:(c.toNat-48)*2^l.length=0:=sX;have h2:num l=0:=sX;have h3:c.toNat-48=0:=by
    rcases Nat.mul_eq_zero.1 h1 with e|e
    ·exact e
    ·omega
   match i,hi with
   |0,_=>
    rcases hc with e|e
    ·exact e
    ·rw[e] at h3;cases h3
   |i+1,hi=>exact b.1 h2 i tW
  ·intro a;have e0:c=48:=a 0 sZ;have e1:num l=0:=b.2 fun i hi=>a (i+1) tW;rw[e0,e1,show ((48:UInt8).toNat-48)=0 from rfl,Cg]
theorem JJ (l:List UInt8)(p n:Nat)(h:p+n<=8*l.length):AB l p n=0↔∀i,i<n->(A2 l)[p+i]? =some 48:=by
 have hr:=GX l;have hl:=AZ l;unfold AB;generalize A2 l=S at hr hl;rw[X7 _ (ET _ _ (DH _ _ hr))];have b:((S.drop p).take n).length=n:=by rw[Be,Bf];omega
 constructor
 ·intro a i hi;have:=a i sX;rw[Fo,Fp] at this;rw[Fh sX,this]
 ·intro a i hi;have:=a i sX;rw[Fh sX] at this;rw[Fo,Fp];exact Fk this
end
def AM (l:List UInt8)(bit:Int):Int×Int:=
 if bit<0\/8*(l.length:Int)<bit then (0,1) else if 8*(l.length:Int)-bit<22 then (0,2)
 else if AB l bit.toNat 22 / 32=1 then (((AB l bit.toNat 22%32:Nat):Int),0) else (0,4)
theorem QK {l:List UInt8}{bit:Int}(h:bit<0\/8*(l.length:Int)<bit):AM l bit=(0,1):=Bb h
theorem MW {l:List UInt8}{p:Nat}(h:p<=8*l.length)(h2:8*l.length<p+22):AM l p=(0,2):=by
 unfold AM;rw[Ba sX,Bb sX]
theorem IX {l:List UInt8}{p:Nat}(h:p+22<=8*l.length):AM l p=if AB l p 22 / 32=1 then (((AB l p 22%32:Nat):Int),0) else (0,4):=by
 unfold AM;rw[Ba sX,Ba sX,Dp]
def BA (l:List UInt8)(bit:Int):Int×Bool:=
 if bit<0\/8*(l.length:Int)<bit then (0,false) else if AB l bit.toNat (gap bit.toNat)=0 then
  ((AM l ((bit.toNat+gap bit.toNat:Nat):Int)).1,(AM l ((bit.toNat+gap bit.toNat:Nat):Int)).2==0) else (0,false)
theorem QR {l:List UInt8}{bit:Int}(h:bit<0\/8*(l.length:Int)<bit):BA l bit=(0,false):=Bb h
theorem P7 {l:List UInt8}{p:Nat}(h:p<=8*l.length)(h2:AB l p (gap p)=0):BA l p=((AM l ((p+gap p:Nat):Int)).1,(AM l ((p+gap p:Nat):Int)).2==0):=by
 unfold BA;rw[Ba sX,Dp,Bb h2]
theorem Tz {l:List UInt8}{p:Nat}(h:p<=8*l.length)(h2:AB l p (gap p)≠0):BA l p=(0,false):=by
 unfold BA;rw[Ba sX,Dp,Ba h2]
def CK (l:List UInt8)(bit:Int):Nat:=if bit<0 then 0 else (((A2 l).drop bit.toNat).takeWhile (· == 48)).length
theorem Xj:∀(L:List UInt8) (n:Nat),(∀i,i<n->L[i]? =some 48)->L[n]?≠some 48->(L.takeWhile (· == 48)).length=n
 |[],0,_,_=>rfl
 |[],_+1,h,_=>by have:=h 0 (Nat.succ_pos _);cases this
 |c::L,0,_,h=>by
  have hc:¬ c=48:=fun e=>h uJ;rw[Fv (by simpa using hc)];rfl
 |c::L,n+1,h,h2=>by
  have hc:c=48:=by have:=h 0 (Nat.succ_pos _);injection this
  rw[Fu (by simpa using hc),Bi,Xj L n (fun i hi=>h (i+1) sX) h2]
theorem gI {l:List UInt8}{bit:Int}(h:bit<0):CK l bit=0:=Bb h
theorem Y2b {l:List UInt8}{bit:Int}(h:8*(l.length:Int)<=bit):CK l bit=0:=by
 unfold CK;rw[Ba sX,Cd (by rw[AZ];omega)]
 rfl
theorem U1 {l:List UInt8}{p n:Nat}(h:∀i,i<n->(A2 l)[p+i]? =some 48)(h2:(A2 l)[p+n]?≠some 48):CK l p=n:=by
 unfold CK;rw[Ba sX,Dp];exact Xj _ n (fun i hi=>by rw[Ei];exact h i hi) (by rw[Ei];exact h2)
theorem KM (l:List UInt8)(p m n:Nat)(h:p+m+n<=8*l.length):AB l p (m+n)=AB l p m*2^n+AB l (p+m) n:=by
 have hl:=AZ l;unfold AB;rw[Ct,LR,Cf]
 congr 3
 rw[Be,Bf];omega
theorem iY (l:List UInt8)(j:Nat)(h:j<l.length):AB l (8*j) 8=l[j].toNat:=by
 have e:=Vg l j 1 (8*j) 8 sX sX sX;rw[<-e,Fl h];have:=l[j].toNat_lt;show KA 0 [l[j]] / 2^(8*(j+1)-8*j-8)%2^8=_;rw[show 8*(j+1)-8*j-8=0 by omega];show (256*0+l[j].toNat) / 2^0%2^8=_;omega
theorem sJ (l:List UInt8)(p j n:Nat)(h:j<l.length)(h1:8*j<=p)(h2:p+n=8*(j+1)):AB l p n=l[j].toNat%2^n:=by
 have e:=Vg l j 1 p n h1 sX sX;rw[<-e,Fl h];show KA 0 [l[j]] / 2^(8*(j+1)-p-n)%2^n=_;rw[show 8*(j+1)-p-n=0 by omega];show (256*0+l[j].toNat) / 2^0%2^n=_;rw[Ft,Fs,Db,Bn]
theorem Y18 (l:List UInt8)(p m k:Nat)(h:p+m<=8*l.length)(hk:k<m)(h1:2^k<=AB l p m)(h2:AB l p m<2^(k+1)):CK l p=m-(k+1):=by
 have e1:=KM l p (m-(k+1)) (k+1) sX;have e2:=KM l p (m-k) k sX;rw[show m-(k+1)+(k+1)=m by omega] at e1;rw[show m-k+k=m by omega] at e2;have e:=EB l (p+(m-k)) k;have b:AB l p (m-(k+1))=0:=by
  rcases Nat.eq_zero_or_pos (AB l p (m-(k+1))) with h|h
  ·exact h
  ·have:=Cy (2^(k+1)) h;omega
 have c:AB l p (m-k)≠0:=by
  intro h;rw[h,Cg,Bn] at e2;omega
 have a:=(JJ l p _ sX).1 b;have d:=fun h=>c ((JJ l p _ sX).2 h);refine U1 a fun h=>d fun i hi=>?_;rcases Fq i (m-(k+1)) with h3|h3
 ·exact a i h3
 ·rw[show i=m-(k+1) by omega];exact h
theorem Y55 (l:List UInt8)(p m:Nat)(h:p+m=8*l.length)(a:AB l p m=0):CK l p=m:=
 U1 ((JJ l p m sX).1 a) (by rw[Fr (by rw[AZ];omega)];exact fun h=>by cases h)
def hit (l:List UInt8)(i:Nat):Bool:=(AM l ((8*i:Nat):Int)).2==0&&((AM l ((8*i:Nat):Int)).1==0 || (AM l ((8*i:Nat):Int)).1==31)
def DJ (n:Nat):List UInt8:=AF (32+n) 22
theorem iE (n:Nat):AF (((32+n:Nat):Int)).toNat (22:Int).toNat=DJ n:=rfl
theorem JG (n:Nat):(DJ n).length=22:=BS _ _
theorem bC (n:Nat):AH (DJ n)=true:=JL _ _
def EH (r:List UInt8)(n:Nat):List UInt8:=r++List.replicate (gap r.length) 48++DJ n
theorem Uo (r:List UInt8)(n:Nat):(EH r n).length=r.length+gap r.length+22:=by
 unfold EH;rw[B8,B8,Bp,JG]
structure Shd where
 ref:Int
 flags:Int
 fmt:Int
 inter:Bool
 quant:Int
 supp:List Int
def EJ:Shd:=⟨0,0,0,false,0,[]⟩
def IY (b:Int):Bool:=decide (0<=b/\b<=255)
def GG (h:Shd):Bool:=decide (0<=h.ref/\h.ref<=255/\0<=h.flags/\h.flags<=7/\1<=h.quant/\h.quant<=31)&&DS h.fmt&&(decide (h.supp.length<=8)&&h.supp.all IY)
theorem LL {h:Shd}:GG h=true↔(0<=h.ref/\h.ref<=255/\0<=h.flags/\h.flags<=7/\1<=h.quant/\h.quant<=31)/\(1<=h.fmt/\h.fmt<=6)/\h.supp.length<=8/\∀b∈h.supp,0<=b/\b<=255:=by
 unfold GG IY DS;simp only[Ff,Fg,Bw];constructor
 ·rintro⟨⟨a,b⟩,c,d⟩;exact⟨a,b,c,d⟩
 ·rintro⟨a,b,c,d⟩;exact⟨⟨a,b⟩,c,d⟩
def IW:List Int->List UInt8
 |[]=>[48]
 |b::l=>49::(AF b.toNat 8++IW l)
theorem eN:∀l:List Int,(IW l).length=9*l.length+1
 |[]=>rfl
 |b::l=>by
  rw[IW,Bi,B8,BS,eN l,Bi];omega
theorem bB:∀l:List Int,AH (IW l)=true
 |[]=>rfl
 |b::l=>by
  rw[IW,show ((49:UInt8)::(AF b.toNat 8++IW l))=[49]++(AF b.toNat 8++IW l) from rfl,D7,D7,JL,bB l];rfl
def P3 (b:Bool):List UInt8:=AF (if b then 1 else 0) 1
def MG (h:Shd):List UInt8:=
 AF h.ref.toNat 8++(AF 2 2++(AF h.flags.toNat 3++(AF h.fmt.toNat 3++(P3 h.inter++(AF 0 4++(AF h.quant.toNat 5++AF 0 1))))))
def EN (h:Shd):List UInt8:=MG h++IW h.supp
theorem Yy9 (h:Shd):(MG h).length=27:=by
 unfold MG P3;simp only[B8,BS]
theorem Qcg (h:Shd):AH (MG h)=true:=by
 unfold MG P3;simp only[D7,JL,Bool.and_self]
theorem SC (h:Shd):(EN h).length=28+9*h.supp.length:=by
 unfold EN;rw[B8,Yy9,eN];omega
theorem sM (h:Shd):AH (EN h)=true:=by
 unfold EN;rw[D7,Qcg,bB];rfl
def CS:Nat->Nat
 |0=>8
 |1=>2
 |2=>3
 |3=>3
 |4=>1
 |5=>4
 |6=>5
 |_=>1
def C1:Nat->Nat
 |0=>0
 |j+1=>C1 j+CS j
def BX (j:Nat)(v:Nat):Int:=
 if (j=1/\v≠2)\/(j=3/\DS v=false) then 5 else if (j=5\/j=7)/\v≠0 then 6 else if j=6/\v=0 then 9 else 0
def BP (l:List UInt8)(p j:Nat):Nat:=AB l (p+C1 j) (CS j)
def L8 (l:List UInt8)(p j:Nat):Int:=if 8*l.length<p+C1 j+CS j then 2 else BX j (BP l p j)
def upS (l:List UInt8)(p:Nat):Nat->Int
 |0=>0
 |n+1=>if upS l p n≠0 then upS l p n else L8 l p n
theorem V2 {l:List UInt8}{p n:Nat}(h:upS l p n≠0):upS l p (n+1)=upS l p n:=by
 rw[upS,Bb h]
theorem QV {l:List UInt8}{p n:Nat}(h:upS l p n=0):upS l p (n+1)=L8 l p n:=by
 rw[upS,Ba (fun k=>k h)]
theorem UU {l:List UInt8}{p n:Nat}(h:upS l p n≠0):∀k,upS l p (n+k)=upS l p n
 |0=>rfl
 |k+1=>by
  rw[<-By,V2 (by rw[UU h k];exact h),UU h k]
theorem UM {l:List UInt8}{p j:Nat}(h:8*l.length<p+C1 j+CS j):L8 l p j=2:=Bb h
theorem RQ {l:List UInt8}{p j:Nat}(h:p+C1 j+CS j<=8*l.length):L8 l p j=BX j (BP l p j):=Ba sX
theorem Qt {l:List UInt8}{p:Nat}:∀{n:Nat},upS l p n=0↔∀j,j<n->p+C1 j+CS j<=8*l.length/\BX j (BP l p j)=0
 |0=>⟨fun _ j hj=>absurd hj (Fi j),fun _=>rfl⟩
 |n+1=>by
  constructor
  ·intro h;by_cases a:upS l p n=0
   ·rw[QV a] at h;intro j hj;rcases (by omega:j<n\/j=n) with hj|rfl
    ·exact Qt.1 a j hj
    ·by_cases hs:8*l.length<p+C1 j+CS j
     ·rw[UM hs] at h;cases h
     ·rw[RQ sX] at h;exact⟨sX,h⟩
   ·rw[V2 a] at h;exact absurd h a
  ·intro h;have a:upS l p n=0:=Qt.2 fun j hj=>h j sX;obtain⟨h1,h2⟩:=h n sX;rw[QV a,RQ h1,h2]
def BJ (l:List UInt8):Nat->Nat->List Int×Nat×Int
 |0,p=>if 8*l.length<p+1 then ([],0,2) else if AB l p 1=0 then ([],p+1,0) else ([],0,13)
 |k+1,p=>if 8*l.length<p+1 then ([],0,2) else if AB l p 1=0 then ([],p+1,0)
  else if 8*l.length<p+1+8 then ([],0,2) else (((AB l (p+1) 8:Nat):Int)::(BJ l k (p+9)).1,(BJ l k (p+9)).2)
theorem Wf {l:List UInt8}{p:Nat}(h:8*l.length<p+1):∀k,BJ l k p=([],0,2)
 |0=>by rw[BJ,Bb h]
 |k+1=>by rw[BJ,Bb h]
theorem R3 {l:List UInt8}{p:Nat}(h:p+1<=8*l.length)(a:AB l p 1=0):∀k,BJ l k p=([],p+1,0)
 |0=>by rw[BJ,Ba (by omega),Bb a]
 |k+1=>by rw[BJ,Ba (by omega),Bb a]
theorem Wj {l:List UInt8}{p:Nat}(h:p+1<=8*l.length)(a:AB l p 1≠0):BJ l 0 p=([],0,13):=by
 rw[BJ,Ba sX,Ba a]
theorem Vn {l:List UInt8}{p k:Nat}(h:p+1<=8*l.length)(a:AB l p 1≠0)(b:8*l.length<p+1+8):BJ l (k+1) p=([],0,2):=by
 rw[BJ,Ba sX,Ba a,Bb b]
theorem R7 {l:List UInt8}{p k:Nat}(a:AB l p 1≠0)(b:p+1+8<=8*l.length):BJ l (k+1) p=(((AB l (p+1) 8:Nat):Int)::(BJ l k (p+9)).1,(BJ l k (p+9)).2):=by
 rw[BJ,Ba sX,Ba a,Ba sX]
def JK (l:List UInt8)(p:Nat)(s:List Int):Shd:=⟨(BP l p 0:Nat),(BP l p 2:Nat),(BP l p 3:Nat),BP l p 4==1,(BP l p 6:Nat),s⟩
def CR (l:List UInt8)(p:Nat):Int:=if p%8≠0 then 4 else if (AM l p).2≠0 then (AM l p).2 else if (AM l p).1≠0 then 4 else 0
def shk (l:List UInt8)(p:Nat):Shd×Nat×Int:=
 if CR l p≠0 then (EJ,p,CR l p) else if upS l (p+22) 8≠0 then (EJ,p,upS l (p+22) 8)
 else if (BJ l 8 (p+49)).2.2≠0 then (EJ,p,(BJ l 8 (p+49)).2.2) else (JK l (p+22) (BJ l 8 (p+49)).1,(BJ l 8 (p+49)).2.1,0)
theorem OH {l:List UInt8}{p:Nat}(h:CR l p≠0):shk l p=(EJ,p,CR l p):=Bb h
theorem SI {l:List UInt8}{p:Nat}(h:CR l p=0)(h1:upS l (p+22) 8≠0):shk l p=(EJ,p,upS l (p+22) 8):=by
 unfold shk;rw[Ba (fun k=>k h),Bb h1]
theorem SR {l:List UInt8}{p:Nat}(h:CR l p=0)(h1:upS l (p+22) 8=0)(h2:(BJ l 8 (p+49)).2.2≠0):shk l p=(EJ,p,(BJ l 8 (p+49)).2.2):=by
 unfold shk;rw[Ba (fun k=>k h),Ba (fun k=>k h1),Bb h2]
theorem Qx {l:List UInt8}{p:Nat}(h:CR l p=0)(h1:upS l (p+22) 8=0)(h2:(BJ l 8 (p+49)).2.2=0):shk l p=(JK l (p+22) (BJ l 8 (p+49)).1,(BJ l 8 (p+49)).2.1,0):=by
 unfold shk;rw[Ba (fun k=>k h),Ba (fun k=>k h1),Ba (fun k=>k h2)]
theorem cC {l:List UInt8}:∀(s:List Int) (k p q:Nat),s.length<=k->(∀b∈s,0<=b/\b<=255)->Seg (A2 l) p q (IW s)->BJ l k p=(s,q,0)
 |[],k,p,q,_,_,h=>by
  have a:Seg (A2 l) p q (AF 0 1):=h;obtain⟨h1,h2,h3⟩:=ER a sY;rw[R3 h3 h1,h2]
 |b::s,k,p,q,hk,hb,h=>by
  obtain⟨k,rfl⟩:∃j,k=j+1:=⟨k-1,by simp only[Bi] at hk;omega⟩;have a:Seg (A2 l) p q (AF 1 1++(AF b.toNat 8++IW s)):=h;obtain⟨m,c,d⟩:=a.cut;obtain⟨t,e,f⟩:=d.cut;have g:=hb b (Ez ..);obtain⟨i,n,u⟩:=ER c sY;obtain⟨o,b2,b3⟩:=ER e (by show b.toNat<256;omega);subst n b2;rw[R7 (by rw[i];decide) b3,o,cC s k (p+9) q (by simp only[Bi] at hk;omega) (fun x r=>hb x (Ey _ r)) f];rw[show ((b.toNat:Nat):Int)=b by omega]
theorem WL:C1 0=0/\C1 1=8/\C1 2=10/\C1 3=13/\C1 4=16/\C1 5=17/\C1 6=21/\C1 7=26/\C1 8=27:=sY
theorem pU {l:List UInt8}{p q:Nat}{h:Shd}(hp:p%8=0)(hm:GG h=true)(hs:Seg (A2 l) p q (DJ 0++EN h)):shk l p=(h,q,0):=by
 obtain⟨⟨r1,r2,f1,f2,q1,q2⟩,⟨m1,m2⟩,hl,o⟩:=LL.1 hm;unfold EN MG at hs;simp only[Bg] at hs;obtain⟨r,s,hs⟩:=hs.cut;obtain⟨p1,t,hs⟩:=hs.cut;obtain⟨p2,u,hs⟩:=hs.cut;obtain⟨p3,v,hs⟩:=hs.cut;obtain⟨w,x,hs⟩:=hs.cut;obtain⟨y,z,hs⟩:=hs.cut;obtain⟨p6,A,hs⟩:=hs.cut;obtain⟨p7,B,hs⟩:=hs.cut;obtain⟨p8,C,hs⟩:=hs.cut;have f:Seg (A2 l) p r (AF 32 22):=s;have g:Seg (A2 l) w y (AF (if h.inter then 1 else 0) 1):=z;obtain⟨D,e0,E⟩:=ER f sY;obtain⟨F,e1,G⟩:=ER t (by show h.ref.toNat<256;omega);obtain⟨H,e2,b2⟩:=ER u sY;obtain⟨I,J,b3⟩:=ER v (by show h.flags.toNat<8;omega);obtain⟨K,L,b4⟩:=ER x (by show h.fmt.toNat<8;omega);obtain⟨M,N,O⟩:=ER g (by split <;> decide);obtain⟨P,Q,R⟩:=ER A sY;obtain⟨S,T,U⟩:=ER B (by show h.quant.toNat<32;omega);obtain⟨V,W,X⟩:=ER C sY;subst e0 e1 e2 J L N Q T W;have Y:BP l (p+22) 0=h.ref.toNat:=F;have Z:BP l (p+22) 1=2:=H;have v2:BP l (p+22) 2=h.flags.toNat:=I;have i:BP l (p+22) 3=h.fmt.toNat:=K;have v4:BP l (p+22) 4=if h.inter then 1 else 0:=M
 have v5:BP l (p+22) 5=0:=P;have k:BP l (p+22) 6=h.quant.toNat:=S;have v7:BP l (p+22) 7=0:=V;have hM:CR l p=0:=by
  have e:AM l p=(0,0):=by rw[IX E,D];rfl
  unfold CR;rw[Ba sX,e]
  rfl
 have hU:upS l (p+22) 8=0:=Qt.2 fun j hj=>by
  obtain⟨o0,o1,o2,o3,o4,o5,o6,o7,o8⟩:=WL;rcases (by omega:j=0\/j=1\/j=2\/j=3\/j=4\/j=5\/j=6\/j=7) with rfl|rfl|rfl|rfl|rfl|rfl|rfl|rfl
  ·exact⟨G,by unfold BX;simp⟩
  ·exact⟨b2,by rw[Z];rfl⟩
  ·exact⟨b3,by unfold BX;simp⟩
  ·refine⟨b4,?_⟩;rw[i];unfold BX DS;rw[Ba tO,Ba sZ,Ba sZ]
  ·exact⟨O,by unfold BX;simp⟩
  ·exact⟨R,by rw[v5];rfl⟩
  ·refine⟨U,?_⟩;rw[k];unfold BX;rw[Ba sZ,Ba sZ,Ba sX]
  ·exact⟨X,by rw[v7];rfl⟩
 have m:BJ l 8 (p+49)=(h.supp,q,0):=cC h.supp 8 _ q hl o hs;rw[Qx hM hU (by rw[m]),m];unfold JK;rw[Y,v2,i,v4,k];obtain⟨c,a,d,inter,b,n⟩:=h;simp only at *;rw[show ((c.toNat:Nat):Int)=c by omega,show ((a.toNat:Nat):Int)=a by omega,show ((d.toNat:Nat):Int)=d by omega,show ((b.toNat:Nat):Int)=b by omega];cases inter <;> rfl
theorem YR {l:List UInt8}:∀(k p q:Nat) (s:List Int),BJ l k p=(s,q,0)->Seg (A2 l) p q (IW s)/\s.length<=k/\∀b∈s,0<=b/\b<=255
 |k,p,q,s,h=>by
  by_cases h1:8*l.length<p+1
  ·rw[Wf h1] at h;cases h
  ·by_cases a:AB l p 1=0
   ·rw[R3 sX a] at h;injection h with e1 e2;injection e2 with e2 e3;subst e1 e2;have g:=FR (l:=l) (p:=p) (n:=1) sX;rw[a] at g;exact⟨g,Do _,fun b c=>by cases c⟩
   ·match k with
    |0=>
     rw[Wj sX a] at h;cases h
    |k+1=>
     by_cases e:8*l.length<p+1+8
     ·rw[Vn sX a e] at h;cases h
     ·rw[R7 a sX] at h;injection h with e1 e2;obtain⟨f,o,i⟩:=YR k (p+9) q (BJ l k (p+9)).1 (by rw[<-e2]);subst e1;have t1:AB l p 1=1:=by have:=EB l p 1;omega
      have d:=FR (l:=l) (p:=p) (n:=1) sX;rw[t1] at d;have j:=FR (l:=l) (p:=p+1) (n:=8) sX;have m:=EB l (p+1) 8;refine⟨d.app (j.app f),by simp only[Bi];omega,fun b c=>?_⟩;rcases Ee.1 c with rfl|c
      ·omega
      ·exact i b c
theorem fR {l:List UInt8}{p:Nat}(h:CR l p=0):p%8=0/\p+22<=8*l.length/\AB l p 22=32:=by
 unfold CR at h;by_cases a:p%8=0
 ·rw[Ba sX] at h;by_cases h2:(AM l p).2=0
  ·rw[Ba (fun k=>k h2)] at h;by_cases h1:(AM l p).1=0
   ·by_cases b:p<=8*l.length
    ·by_cases hs:p+22<=8*l.length
     ·rw[IX hs] at h1 h2;by_cases ht:AB l p 22 / 32=1
      ·rw[Bb ht] at h1;simp only at h1;exact⟨a,hs,sX⟩
      ·rw[Ba ht] at h2;exact absurd h2 sY
     ·rw[MW b sX] at h2;exact absurd h2 sY
    ·rw[QK (Or.inr sX)] at h2;exact absurd h2 sY
   ·rw[Bb h1] at h;cases h
  ·rw[Bb h2] at h;exact absurd h h2
 ·rw[Bb a] at h;cases h
theorem Si {l:List UInt8}{p q:Nat}{h:Shd}(hk:shk l p=(h,q,0)):p%8=0/\GG h=true/\Seg (A2 l) p q (DJ 0++EN h):=by
 by_cases b:CR l p=0
 ·by_cases c:upS l (p+22) 8=0
  ·by_cases d:(BJ l 8 (p+49)).2.2=0
   ·rw[Qx b c d] at hk;injection hk with e1 e2;injection e2 with e2 _;obtain⟨t1,t2,t3⟩:=YR (l:=l) 8 (p+49) q (BJ l 8 (p+49)).1 (by rw[<-e2];exact Fw rfl (Fw rfl d));have a:=Qt.1 c;obtain⟨T,U,V,W,X,Y,Z,o7,o8⟩:=WL;obtain⟨u,-⟩:=a 0 sX;obtain⟨v,e⟩:=a 1 sX;obtain⟨b2,-⟩:=a 2 sX;obtain⟨b3,f⟩:=a 3 sX;obtain⟨b4,-⟩:=a 4 sX;obtain⟨w,j⟩:=a 5 sX;obtain⟨x,k⟩:=a 6 sX;obtain⟨y,m⟩:=a 7 sX;have x1:BP l (p+22) 1=2:=by
     unfold BX at e
     split at e
     ·cases e
     ·simp_all
    have o:DS (BP l (p+22) 3:Nat)=true:=by
     unfold BX at f
     split at f
     ·cases f
     ·simp_all
    have z:BP l (p+22) 5=0:=by
     unfold BX at j;simp at j
     simp_all
    have A:BP l (p+22) 7=0:=by
     unfold BX at m;simp at m
     simp_all
    have x6:BP l (p+22) 6≠0:=by
     unfold BX at k;simp at k
     simp_all
    have B:=EB l (p+22+C1 0) (CS 0);have C:=EB l (p+22+C1 2) (CS 2);have D:=EB l (p+22+C1 4) (CS 4);have E:=EB l (p+22+C1 6) (CS 6);obtain⟨F,g,i⟩:=fR b;have sm:=FR (l:=l) (p:=p) (n:=22) g;rw[i] at sm;have G:=FR (l:=l) u;have r:=FR (l:=l) v;have H:=FR (l:=l) b2;have I:=FR (l:=l) b3;have J:=FR (l:=l) b4;have s:=FR (l:=l) w;have K:=FR (l:=l) x;have t:=FR (l:=l) y;have y1:AB l (p+22+C1 1) (CS 1)=2:=x1;have L:AB l (p+22+C1 5) (CS 5)=0:=z;have M:AB l (p+22+C1 7) (CS 7)=0:=A;have N:BP l (p+22) 0<256:=B;have O:BP l (p+22) 2<8:=C;have P:BP l (p+22) 4<2:=D;have Q:BP l (p+22) 6<32:=E;rw[y1] at r;rw[L] at s;rw[M] at t;subst e1;have R:Seg (A2 l) (p+22+C1 4) (p+22+C1 4+CS 4) (P3 (BP l (p+22) 4==1)):=by
     have S:(if (BP l (p+22) 4==1)=true then 1 else 0)=BP l (p+22) 4:=by
      rcases (by omega:BP l (p+22) 4=0\/BP l (p+22) 4=1) with h|h <;> rw[h] <;> rfl
     unfold P3;rw[S];exact J
    refine⟨F,LL.2 ⟨?_,?_,t2,t3⟩,?_⟩
    ·unfold JK;simp only;omega
    ·unfold DS at o;exact Fm o
    ·unfold EN MG JK;simp only[Dp,Bg];exact sm.app (G.app (r.app (H.app (I.app (R.app (s.app (K.app (t.app t1))))))))
   ·rw[SR b c d] at hk;injection hk with _ e2;injection e2 with _ e2;exact absurd e2 d
  ·rw[SI b c] at hk;injection hk with _ e2;injection e2 with _ e2;exact absurd e2 c
 ·rw[OH b] at hk;injection hk with _ e2;injection e2 with _ e2;exact absurd e2 b
def JX (id q:Nat):List UInt8:=AF id 2++AF q 5
theorem Yuz (id q:Nat):(JX id q).length=7:=by
 unfold JX;rw[B8,BS,BS]
theorem Y5q (id q:Nat):AH (JX id q)=true:=by
 unfold JX;rw[D7,JL,JL];rfl
def hdk (l:List UInt8)(p:Nat)(n:Int):Int×Int×Nat×Int:=
 if (BA l p).2=false then (0,0,p,4) else if (BA l p).1≠n then (0,0,p,10)
 else if 8*l.length<p+gap p+22+7 then (0,0,p,2)
 else if AB l (p+gap p+22+2) 5=0 then (0,0,p,9)
 else (((AB l (p+gap p+22) 2:Nat):Int),((AB l (p+gap p+22+2) 5:Nat):Int),p+gap p+22+7,0)
theorem UZ {l:List UInt8}{p:Nat}{n:Int}(h:(BA l p).2=false):hdk l p n=(0,0,p,4):=Bb h
theorem TP {l:List UInt8}{p:Nat}{n:Int}(h:(BA l p).2=true)(h1:(BA l p).1≠n):hdk l p n=(0,0,p,10):=by
 unfold hdk;rw[Ba uI,Bb h1]
theorem Ug {l:List UInt8}{p:Nat}{n:Int}(h:(BA l p).2=true)(h1:(BA l p).1=n)(h2:8*l.length<p+gap p+22+7):hdk l p n=(0,0,p,2):=by
 unfold hdk;rw[Ba uI,Ba (fun k=>k h1),Bb h2]
theorem Wb {l:List UInt8}{p:Nat}{n:Int}(h:(BA l p).2=true)(h1:(BA l p).1=n)(h2:p+gap p+22+7<=8*l.length)(h3:AB l (p+gap p+22+2) 5=0):hdk l p n=(0,0,p,9):=by
 unfold hdk;rw[Ba uI,Ba (fun k=>k h1),Ba sX,Bb h3]
theorem RN {l:List UInt8}{p:Nat}{n:Int}(h:(BA l p).2=true)(h1:(BA l p).1=n)(h2:p+gap p+22+7<=8*l.length)(h3:AB l (p+gap p+22+2) 5≠0):
  hdk l p n=(((AB l (p+gap p+22) 2:Nat):Int),((AB l (p+gap p+22+2) 5:Nat):Int),p+gap p+22+7,0):=by
 unfold hdk;rw[Ba uI,Ba (fun k=>k h1),Ba sX,Ba h3]
theorem Xh {l:List UInt8}{p:Nat}(h:(BA l p).2=true):p+gap p+22<=8*l.length:=by
 by_cases a:p<=8*l.length
 ·by_cases b:AB l p (gap p)=0
  ·rw[P7 a b] at h;simp only[Bj] at h;by_cases hs:p+gap p+22<=8*l.length
   ·exact hs
   ·by_cases c:p+gap p<=8*l.length
    ·rw[MW c sX] at h;exact absurd h sY
    ·rw[QK (Or.inr sX)] at h;exact absurd h sY
  ·rw[Tz a b] at h;exact absurd h sY
 ·rw[QR (Or.inr sX)] at h;exact absurd h sY
def IA (a n id q:Nat):List UInt8:=List.replicate (gap a) 48++DJ n++JX id q
theorem Y91 (r:List UInt8)(n id q:Nat):EH r n++JX id q=r++IA r.length n id q:=by
 unfold EH IA;simp only[Bg]
theorem lB (a n id q:Nat):(IA a n id q).length=gap a+29:=by
 unfold IA;rw[B8,B8,Bp,JG,Yuz]
theorem Y5p (a n id q:Nat):AH (IA a n id q)=true:=by
 unfold IA;rw[D7,D7,Ri,bC,Y5q];rfl
theorem U0 {l:List UInt8}{p:Nat}(h:(BA l p).2=true):AB l p (gap p)=0:=by
 by_cases b:p<=8*l.length
 ·by_cases a:AB l p (gap p)=0
  ·exact a
  ·rw[Tz b a] at h;exact absurd h sY
 ·rw[QR (Or.inr sX)] at h;exact absurd h sY
set_option maxRecDepth 100000 in
theorem Qfz (w:A5)(c:Nat)(h:c<256):
  A9 prog 194 #[.int .u8 (c:Int)] w fun e a=>e=.returned (.int .i64 ((bitLen c:Nat):Int))/\w=a:=by
 go_enter func194,ntmps194
 go_wp2
 go_ret
 refine⟨ES ?_,rfl⟩;rw[len8tab_get];have:=bitLen_le8 c h;unfold wrap64;omega
theorem Y7g (w:A5)(c:Nat)(h:c<256):
  A9 prog 180 #[.int .u8 (c:Int)] w fun e b=>e=.returned (.int .i64 ((8-bitLen c:Nat):Int))/\w=b:=by
 have hm:=bitLen_le8 c h;obtain⟨y,a⟩:=Ah (bitLen c);rw[a] at hm ⊢;have Y:=Dm a;clear a
 go_enter func180,ntmps180
 go_wp2_with fail
 refine(Qfz _ c h).mono ?_;rintro e d ⟨rfl,rfl⟩;rw[Y.out]
 go_wp2
 go_ret
 exact⟨ES sX,rfl⟩
theorem mK:∀c:Fin 256,∀g:Fin 8,bits .and .u8 ((c.val:Nat):Int) (((255 / 2^g.val:Nat):Nat):Int)=((c.val%2^(8-g.val):Nat):Int):=uB
theorem Qdd (w:A5)(s:ByteArray)(bit:Int)(hs:s.size<=1099511627776):
  A9 prog 161 #[.string s,.int .i64 bit] w fun e L=>e=.returned (.int .i64 ((CK s.data.toList bit:Nat):Int))/\Below w.heap.size w L:=by
 have a:s.data.toList.length=s.size:=rfl;by_cases h1:bit<0
 ·have A:=Dm (gI (l:=s.data.toList) h1)
  exact Wbv
 ·have d1:decide (bit<0)=false:=uD;by_cases h2:8*(s.size:Int)<=bit
  ·have A:=Dm (Y2b (l:=s.data.toList) (bit:=bit) (by rw[a];exact h2));have d2:decide (8*(s.size:Int)<=bit)=true:=uG
   exact Wbv
  ·obtain⟨p,rfl⟩:=Dr (by omega:0<=bit);have d2:decide (8*(s.size:Int)<=(p:Int))=false:=uG;have U:p<8*s.size:=sX;obtain⟨f,M⟩:=Ah (p / 8);obtain⟨g,hg⟩:=Ah (p%8);have B:(p:Int) / 8=(f:Int):=sX;have C:(p:Int)%8=(g:Int):=sX;have o:f<s.size:=sX;have q:p=8*f+g:=sX;have D:g<8:=sX;have d:=Dm q;clear h1 h2 M hg q
   go_enter func161,ntmps161
   go_wp2
   go_region
   go_wp2
   clear B C
   go_loopw [5,6] (fun i x wr=>∃j c:Nat,f<=j/\j<s.size/\c<256/\i=.int .i64 j/\x=.int .u8 (c:Int)/\Hid (AB s.data.toList p (8*(j+1)-p)=c)/\Below w.heap.size w wr) (fun i _ _=>s.size-(intOf i).toNat)
   case atStart=>
    have r:=mK ⟨s[f].toNat,s[f].toNat_lt⟩ ⟨g,D⟩;have E:=sJ s.data.toList p f (8*(f+1)-p) (by rw[a];exact o) (by have:=d.out;omega) (by have:=d.out;omega);have t:s[f].toNat%2^(8-g)<256:=Nat.lt_of_le_of_lt (Nat.mod_le _ _) s[f].toNat_lt;refine⟨f,s[f].toNat%2^(8-g),B9 _,o,t,rfl,?_,Dm ?_,(Dn _ w).drew⟩
    ·rw[<-r];simp
    ·rw[E,show 8*(f+1)-p=8-g by have:=d.out;omega]
     rfl
   case round=>
    obtain⟨j,c,N,O,hc,rfl,rfl,T,m⟩:=hrel;by_cases k:c=0
    ·have d0:((c:Int)==0)=true:=by rw[k];rfl
     by_cases h3:j+1=s.size
     ·have A:=Dm (Y55 s.data.toList p (8*(j+1)-p) uL (by rw[T.out,k]));have d3:((j:Int)+1==(s.size:Int))=true:=uE;have P:p<=8*j+8:=by have:=d.out;omega
      have K:j<=1099511627776:=sX;clear k
      go_wp2
      go_ret
      exact⟨ES (by rw[A.out];omega),m⟩
     ·have d3:((j:Int)+1==(s.size:Int))=false:=uC;have u:j+1<s.size:=sX;have Q:=Dm ((by
       have e:=KM s.data.toList p (8*(j+1)-p) 8 uL;rw[T.out,k,show p+(8*(j+1)-p)=8*(j+1) by have:=d.out;omega,iY _ _ (by rw[a];exact u)] at e;rw[show 8*(j+1+1)-p=8*(j+1)-p+8 by have:=d.out;omega,e,Cg,Bn]
       rfl:AB s.data.toList p (8*(j+1+1)-p)=s[j+1].toNat))
      have G:=s[j+1].toNat_lt;clear k h3
      go_wp2
      go_roundw
      case rel=>exact⟨j+1,s[j+1].toNat,sX,u,G,tP,rfl,Q,m⟩
      case measure=>simp[intOf];omega
    ·have d0:((c:Int)==0)=false:=uC;have v:=bitLen_le8 c hc;have b:(((8*(j:Int)+((8-bitLen c:Nat):Int)-p):Int))=((CK s.data.toList (p:Int):Nat):Int):=by
      have z:=bitLen_spec c;have R:bitLen c≠0:=by unfold bitLen;rw[Ba k];omega
      have H:=z.2 k;have I:=EB s.data.toList p (8*(j+1)-p);have hk:bitLen c-1<8*(j+1)-p:=by
       rcases Fq (bitLen c-1) (8*(j+1)-p) with h|h
       ·exact h
       ·have:=Br (n:=2) sX h;rw[T.out] at I;omega
      have A:=Y18 s.data.toList p (8*(j+1)-p) (bitLen c-1) uL hk (by rw[T.out];exact H) (by rw[T.out,show bitLen c-1+1=bitLen c by omega];exact z.1);rw[A];omega
     obtain⟨y,J⟩:=Ah (8-bitLen c);rw[J] at b;have Y:=Dm J;have F:=Dm b;have S:y<=8:=sX;clear b J v k
     go_wp2_with fail
     refine(Y7g _ c hc).mono ?_;rintro e V ⟨rfl,rfl⟩;rw[Y.out]
     go_wp2
     go_ret
     exact⟨ES (by rw[<-F.out]),m⟩
end Go.Proofs.YtjjmalchelniiaaGreatDoor