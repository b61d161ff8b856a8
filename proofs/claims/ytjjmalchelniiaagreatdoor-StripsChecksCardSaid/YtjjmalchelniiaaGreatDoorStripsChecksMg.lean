/- StripsChecks, 7. No condition. -/
import Derived.Test.YtjjmalchelniiaaGreatDoorStripsChecksMb
import Derived.Test.YtjjmalchelniiaaGreatDoorStripsChecksMd
import Derived.Test.YtjjmalchelniiaaGreatDoorStripsChecksMe
import Derived.Test.YtjjmalchelniiaaGreatDoorStripsChecksMf
open Go.Proofs.Tryz
open Go renaming World->A5,Calls->A9
set_option maxHeartbeats 1000000
namespace Go.Proofs.YtjjmalchelniiaaGreatDoor
open Go.RowKit
abbrev Ez:=@beq_eq_false_iff_ne
abbrev Fa:=@Bool.and_eq_true
abbrev Fb:=@decide_eq_true_iff
abbrev Fc:=@Nat.not_lt_zero
abbrev Fe:=@List.getElem?_eq_getElem
abbrev Ff:=@bne_iff_ne
abbrev Fg:=@Option.some.inj
abbrev Fh:=@List.getElem_take
abbrev Fi:=@List.drop_eq_getElem_cons
abbrev Fj:=@of_decide_eq_true
abbrev Fk:=@List.getElem_drop
abbrev Fl:=@Nat.div_one
abbrev Fm:=@Nat.pow_zero
abbrev Fo:=@Nat.lt_or_ge
abbrev Fp:=@List.getElem?_eq_none
abbrev Fq:=@List.takeWhile_cons_of_pos
abbrev Fr:=@List.takeWhile_cons_of_neg
theorem Ai{α}(a:α):∃b,a=b:=⟨a,rfl⟩
def sF (s:ByteArray)(p:Nat):List Value:=[.string s,.int .i64 (p:Int)]
def KA (s:ByteArray)(p:Nat):Obj:=.cells (sF s p).toArray 91 (0,0)
def AG (w:A5)(b:Nat)(s:ByteArray)(p:Nat):Prop:=w.heap[b]? =some (KA s p)/\p<=8*s.size/\s.size<=140737488355328
theorem AG.cells {w:A5}{b:Nat}{s:ByteArray}{p:Nat}(h:AG w b s p):w.cell? ⟨b,0,none⟩=some (.string s)/\w.cell? ⟨b,1,none⟩=some (.int .i64 (p:Int)):=
 ⟨A2 h.1 rfl,A2 h.1 rfl⟩
theorem AG.lt {w:A5}{b:Nat}{s:ByteArray}{p:Nat}(h:AG w b s p):b<w.heap.size:=(Dy.1 h.1).1
theorem AG.below {w a:A5}{b:Nat}{s:ByteArray}{p:Nat}(h:AG w b s p)(c:Below w.heap.size w a):AG a b s p:=⟨by rw[c.block b h.lt];exact h.1,h.2⟩
theorem AG.grown {w d:A5}{b c:Nat}{s:ByteArray}{p:Nat}(h:AG w b s p)(e:w.grownBy d (some c))(a:b≠c):AG d b s p:=⟨by rw[e.block b h.lt (by simpa using a)];exact h.1,h.2⟩
theorem AG.fresh {w:A5}{b:Nat}{s:ByteArray}(a:w.heap.size=b)(hs:s.size<=140737488355328):AG (w.alloc (KA s 0)) b s 0:=by
 subst a;exact⟨heap_alloc_new w _,by omega,hs⟩
theorem AG.moved {w:A5}{b:Nat}{s:ByteArray}{p:Nat}(h:AG w b s p)(q:Nat)(a:q<=8*s.size):AG (w.setCell ⟨b,1,none⟩ (.int .i64 (q:Int))) b s q:=
 ⟨B3 (o:=1) _ h.1,a,h.2.2⟩
theorem NW (w:A5)(s:ByteArray):A9 prog 27 #[.string s] w fun e a=>e=.returned (.pointer (some ⟨w.heap.size,0,none⟩))/\w.alloc (KA s 0)=a:=by
 go_enter func27,ntmps27
 go_wp2
 go_ret
 exact⟨rfl,rfl⟩
theorem nF (y c:Nat)(h:c<256)(g:y<4294967296):bits .or .i64 ((y:Int)*256) (c:Int)=((256*y+c:Nat):Int):=by
 have a:=Ch (i:=8) (b:=c) (by omega) y;have d:((y:Int)*256)=((256*y:Nat):Int):=by omega
 rw[d];show IntKind.i64.wrap ((BitVec.ofInt 64 ((256*y:Nat):Int) ||| BitVec.ofInt 64 (c:Int)).toNat:Int)=_;rw[C6,C6,D9,C7,C7,Bn (by omega),Bn (by omega)];have f:256*y ||| c=256*y+c:=by
  have e:(2:Nat)^8=256:=rfl;rw[e] at a;exact a.symm
 rw[f,Cn];omega
theorem hW (y k n:Nat)(h:n<=32):bits .and .i64 ((y:Int) / 2^k) (wrap64 (wrap64 (2^n)-1))=((y / 2^k%2^n:Nat):Int):=by
 obtain⟨h1,h2⟩:=ZW n h;have a:wrap64 ((2:Int)^n)=2^n:=by unfold wrap64;omega
 have b:wrap64 ((2:Int)^n-1)=2^n-1:=by unfold wrap64;omega
 rw[a,b,KE _ n (by omega)];simp
theorem V8 (w:A5)(b:Nat)(s:ByteArray)(p:Nat)(m:Int)(hr:AG w b s p)(h1:0<=m)(h2:m<=32)(h3:m<=8*(s.size:Int)-p):
  A9 prog 155 #[.pointer (some ⟨b,0,none⟩),.int .i64 m] w fun e D=>e=.returned (.int .i64 ((AD s.data.toList p m.toNat:Nat):Int))/\Below w.heap.size w D:=by
 obtain⟨n,rfl⟩:=Dq h1;simp only[Do];obtain⟨B,c1⟩:=hr.cells;obtain⟨_,R,hs⟩:=hr;have E:n<=32:=by omega
 have S:p+n<=8*s.size:=by omega
 clear h1 h2 h3
 go_enter func155,ntmps155
 go_wp2
 go_region
 obtain⟨f,k,H,I⟩:∃f k,p / 8=f/\(p+n+7) / 8=f+k:=⟨p / 8,(p+n+7) / 8-p / 8,rfl,by omega⟩;rw[show (p:Int) / 8=(f:Int) by omega,show ((p:Int)+n+7) / 8=(f:Int)+k by omega];have J:k<=5:=by omega
 have r:f+k<=s.size:=by omega
 have t:8*f<=p:=by omega
 have u:p+n<=8*(f+k):=by omega
 have K:8*(f+k)<=p+n+7:=by omega
 obtain⟨l,hl⟩:=Ai (s.data.toList.drop f);have M:k<=l.length:=by rw[<-hl,Bj];have:s.data.toList.length=s.size:=rfl;omega
 have a:∀j,(h:j<l.length)->(h2:f+j<s.size)->l[j]=s[f+j]:=by
  intro j h h2;subst hl;rw[Fk]
  rfl
 have c:Lq (l.take k) / 2^(8*(f+k)-p-n)%2^n=AD s.data.toList p n:=by
  rw[<-hl];exact TL _ f k p n t u r
 have o:∀j,j<=k->Lq (l.take j)<256^j:=fun j hj=>jR _ _ (by rw[Be];omega);have G:=Dl a;have F:=Dl c;have L:=Dl hl;have N:=Dl o;have d0:w.drew.cell? ⟨b,0,none⟩=some (.string s):=B;have d1:w.drew.cell? ⟨b,1,none⟩=some (.int .i64 (p:Int)):=c1;have q:Below w.heap.size w w.drew:=(Dm _ w).drew;clear B c1 hl a c o H I
 generalize w.drew=T at d0 d1 q ⊢
 go_wp2
 go_loop [7,25] (fun x i=>∃j y:Nat,j<=k/\i=.int .i64 j/\x=.int .i64 y/\Lq (l.take j)=y) (fun _ i=>k-(intOf i).toNat)
 case atStart=>exact⟨0,0,Dn _,rfl,rfl,rfl⟩
 case round=>
  obtain⟨j,y,hj,rfl,rfl,v⟩:=hrel;have Y:=Dl v;have d:=N.out j hj;rw[v] at d;clear v;by_cases P:j<k
  ·have z:y<4294967296:=by
    have:256^j<=256^4:=Bt (by omega) (by omega);omega
   have A:f+j<s.size:=by omega
   have C:=G.out j (by omega) A;have g:=qL l j (by omega);rw[Y.out,C] at g;have hc:=s[f+j].toNat_lt;have ho:=nF y s[f+j].toNat hc z;have ST:=Dl g;have O:=Dl ho;clear g C d ho
   go_wp2
   go_round
   case rel=>exact⟨j+1,256*y+s[f+j].toNat,by omega,by go_num,by rw[O.out],ST.out⟩
   case measure=>simp[intOf];omega
  ·obtain rfl:j=k:=by omega
   have Q:y<1099511627776:=by
    have:256^j<=256^5:=Bt (by omega) (by omega);omega
   clear d
   go_wp2
   go_region
   go_wp2
   go_ret
   refine⟨H0 ?_,q.drew⟩;rw[hW _ _ _ E,<-F.out,Y.out]
theorem Pr (w:A5)(b:Nat)(s:ByteArray)(p:Nat)(hr:AG w b s p):
  A9 prog 29 #[.pointer (some ⟨b,0,none⟩)] w fun e c=>e=.returned (.int .i64 (8*(s.size:Int)-p))/\Below w.heap.size w c:=by
 obtain⟨d,c1⟩:=hr.cells;obtain⟨_,f,hs⟩:=hr;have a:Below w.heap.size w w.drew:=(Dm _ w).drew
 go_enter func29,ntmps29
 go_wp2
 go_region
 go_wp2
 go_ret
 exact⟨rfl,a⟩
theorem E1 (w:A5)(b:Nat)(s:ByteArray)(p:Nat)(hr:AG w b s p):
  A9 prog 28 #[.pointer (some ⟨b,0,none⟩)] w fun e a=>e=.returned (.int .i64 (p:Int))/\w=a:=by
 obtain⟨c,c1⟩:=hr.cells
 go_enter func28,ntmps28
 go_wp2
 go_ret
 exact⟨rfl,rfl⟩
theorem KK (w:A5)(b:Nat)(s:ByteArray)(p:Nat)(hr:AG w b s p):
  A9 prog 60 #[.pointer (some ⟨b,0,none⟩)] w fun e a=>e=.returned (.string s)/\w=a:=by
 obtain⟨c,c1⟩:=hr.cells
 go_enter func60,ntmps60
 go_wp2
 go_ret
 exact⟨rfl,rfl⟩
theorem PZ {l:List UInt8}{p:Nat}{n:Int}{v c:Int}(h:ask l p n=(v,c)){k a:IntKind}:Ending.returned (.tuple #[.int k v,.int a c])=.returned (.tuple #[.int k (ask l p n).1,.int a (ask l p n).2]):=by rw[h]
theorem FD (w:A5)(b:Nat)(s:ByteArray)(p:Nat)(n:Int)(hr:AG w b s p):
  A9 prog 125 #[.pointer (some ⟨b,0,none⟩),.int .i64 n] w fun e g=>e=.returned (.tuple #[.int .i64 (ask s.data.toList p n).1,.int .i64 (ask s.data.toList p n).2])/\Below w.heap.size w g:=by
 have a:s.data.toList.length=s.size:=rfl;by_cases h1:n<0
 ·have A:=Dl (Xf (l:=s.data.toList) (p:=p) (n:=n) (.inl h1))
  go_enter func125,ntmps125
  go_wp2
  go_ret2
  exact⟨PZ A.out,Dm _ _⟩
 ·by_cases h2:32<n
  ·have A:=Dl (Xf (l:=s.data.toList) (p:=p) (n:=n) (.inr h2))
   go_enter func125,ntmps125
   go_wp2
   go_ret2
   exact⟨PZ A.out,Dm _ _⟩
  ·have d1:decide (n<0)=false:=by simpa using h1
   have d2:decide (32<n)=false:=by simpa using h2
   by_cases h3:8*(s.size:Int)-p<n
   ·have A:=Dl (FG (l:=s.data.toList) (p:=p) (n:=n) (by omega) (by rw[a];exact h3));have d3:decide (8*(s.size:Int)-p<n)=true:=by simpa using h3
    go_enter func125,ntmps125
    go_wp2_with fail
    refine(Pr _ _ _ _ hr).mono ?_;rintro e h ⟨rfl,c⟩
    go_wp2
    go_ret2
    exact⟨PZ A.out,c⟩
   ·have A:=Dl (E7 (l:=s.data.toList) (p:=p) (n:=n) (by omega) (by rw[a];omega));have d3:decide (8*(s.size:Int)-p<n)=false:=by simpa using h3
    go_enter func125,ntmps125
    go_wp2_with fail
    refine(Pr _ _ _ _ hr).mono ?_;rintro e h ⟨rfl,c⟩;have d:=hr.below c;have i:=c.size
    go_wp2_with fail
    refine(V8 _ _ _ _ _ d (by omega) (by omega) (by omega)).mono ?_;rintro e j ⟨rfl,f⟩
    go_wp2
    go_ret2
    exact⟨PZ A.out,c.trans (f.mono i)⟩
theorem xU (l:List UInt8)(p:Nat)(n:Int):(ask l p n).2=1\/(ask l p n).2=2\/((ask l p n).2=0/\0<=n/\n<=32/\n<=8*(l.length:Int)-p):=by
 unfold ask
 split
 ·exact .inl rfl
 ·split
  ·exact .inr (.inl rfl)
  ·exact .inr (.inr ⟨rfl,by omega⟩)
theorem IL (w:A5)(b:Nat)(s:ByteArray)(p:Nat)(n:Int)(hr:AG w b s p):
  A9 prog 92 #[.pointer (some ⟨b,0,none⟩),.int .i64 n] w fun e r=>e=.returned (.tuple #[.int .i64 (ask s.data.toList p n).1,.int .i64 (ask s.data.toList p n).2])/\AG r b s (C1 s.data.toList p n)/\w.grownBy r (some b):=by
 have d:=xU s.data.toList p n;have g:C1 s.data.toList p n=if (ask s.data.toList p n).2=0 then p+n.toNat else p:=rfl
 have l:s.data.toList.length=s.size:=rfl;rw[g];generalize t:ask s.data.toList p n=q at d ⊢;obtain⟨v,c⟩:=q;have Q:=Dl t;clear t g
 go_enter func92,ntmps92
 go_wp2_with fail
 refine(FD _ _ _ _ _ hr).mono ?_;rintro e u ⟨rfl,f⟩;rw[Q.out];have a:=hr.below f;have i:w.grownBy u (some b):=⟨f.os,f.tape,f.output,f.size,fun k y _=>f.block k y⟩;by_cases x:c=0
 ·subst x;have hn:0<=n/\n<=32/\n<=8*(s.size:Int)-p:=by
   rcases d with h|h|h
   ·cases h
   ·cases h
   ·exact⟨h.2.1,h.2.2.1,by rw[<-l];exact h.2.2.2⟩
  obtain⟨B,C,D⟩:=hn;obtain⟨E,c1⟩:=a.cells;have z:=AW (o:=1) a.1;have hm:=a.moved (p+n.toNat) (by omega);have j:=DC u ⟨b,1,none⟩ (.int .i64 ((p+n.toNat:Nat):Int));have m:((p+n.toNat:Nat):Int)=(p:Int)+n:=by omega
  rw[m] at hm j;have A:p<=1125899906842624:=by have:=hr.2;omega
  clear d
  go_wp2
  go_ret2
  exact⟨rfl,hm,AO i j⟩
 ·have d0:(c==0)=false:=by rw[Ez];exact x
  go_wp2
  go_ret2
  exact⟨rfl,a,i⟩
theorem Wf {l:List UInt8}{p:Nat}{v c:Int}(h:JB l p=(v,c)){k a:IntKind}:Ending.returned (.tuple #[.int k v,.int a c])=.returned (.tuple #[.int k (JB l p).1,.int a (JB l p).2]):=by rw[h]
theorem Vl {p n:Nat}(h:p<=8*n):p+gap p<=8*n:=by unfold gap;omega
theorem Q9 (p:Nat):gap p<8:=by unfold gap;omega
theorem TM (w:A5)(b:Nat)(s:ByteArray)(p:Nat)(hr:AG w b s p):
  A9 prog 159 #[.pointer (some ⟨b,0,none⟩)] w fun e t=>e=.returned (.tuple #[.int .i64 (JB s.data.toList p).1,.int .i64 (JB s.data.toList p).2])/\AG t b s (MC s.data.toList p)/\w.grownBy t (some b):=by
 obtain⟨y,c1⟩:=hr.cells;have z:=hr.2.1;have hs:=hr.2.2;have n:=Vl z;obtain⟨g,f⟩:=Ai (gap p);have B:g<8:=by rw[<-f];exact Q9 p
 have u:7-((p:Int)+7)%8=(g:Int):=by rw[<-f];unfold gap;omega
 have c:MC s.data.toList p=if AD s.data.toList p g=0 then p+g else p:=by unfold MC;rw[f]
 have i:JB s.data.toList p=if AD s.data.toList p g=0 then ((g:Int),0) else (0,5):=by unfold JB;rw[f]
 rw[f] at n;obtain⟨q,r⟩:=Ai (MC s.data.toList p);rw[r];rw[r] at c;have m:=Dl c;have v:=Dl i;have C:=Dl u;clear c i u f r
 go_enter func159,ntmps159
 go_wp2_with fail
 rw[C.out];refine(V8 _ _ _ _ (g:Int) hr (by omega) (by omega) (by omega)).mono ?_;rintro e x ⟨rfl,h⟩;rw[Do];have a:=hr.below h;have j:w.grownBy x (some b):=⟨h.os,h.tape,h.output,h.size,fun k D _=>h.block k D⟩;by_cases d:AD s.data.toList p g=0
 ·have d0:(((AD s.data.toList p g:Nat):Int) != 0)=false:=by rw[d];rfl
  obtain⟨F,G⟩:=a.cells;have E:=AW (o:=1) a.1;have hm:=a.moved (p+g) (by omega);have l:=DC x ⟨b,1,none⟩ (.int .i64 ((p+g:Nat):Int));rw[show ((p+g:Nat):Int)=(p:Int)+g by omega] at hm l;have A:=Dl (v.out.trans (Bc d));obtain rfl:q=p+g:=m.out.trans (Bc d);clear m;clear d y c1
  go_wp2
  go_ret2
  exact⟨Wf A.out,hm,AO j l⟩
 ·have d0:(((AD s.data.toList p g:Nat):Int) != 0)=true:=by rw[Ff];omega
  have A:=Dl (v.out.trans (Bb d));obtain rfl:q=p:=m.out.trans (Bb d);clear m;clear d
  go_wp2
  go_ret2
  exact⟨Wf A.out,a,j⟩
theorem GA (w:A5)(b:Nat)(s:ByteArray)(p:Nat)(n:Int)(hr:AG w b s p)(h1:0<=n)(h2:n<=8*(s.size:Int)):
  A9 prog 91 #[.pointer (some ⟨b,0,none⟩),.int .i64 n] w fun e a=>e=.returned (.int .i64 0)/\AG a b s n.toNat/\w.grownBy a (some b):=by
 obtain⟨f,c1⟩:=hr.cells;have hs:=hr.2.2;have d:=AW (o:=1) hr.1;have hm:=hr.moved n.toNat (by omega);have c:=DC w ⟨b,1,none⟩ (.int .i64 ((n.toNat:Nat):Int));rw[show ((n.toNat:Nat):Int)=n by omega] at hm c;have d1:decide (n<0)=false:=by simpa using h1
 have d2:decide (8*(s.size:Int)<n)=false:=by simpa using h2
 go_enter func91,ntmps91
 go_wp2
 go_ret
 exact⟨rfl,hm,c⟩
theorem V5 (w:A5)(b:Nat)(s:ByteArray)(p:Nat)(n:Int)(hr:AG w b s p)(h:n<0\/8*(s.size:Int)<n):
  A9 prog 91 #[.pointer (some ⟨b,0,none⟩),.int .i64 n] w fun e a=>e=.returned (.int .i64 1)/\w=a:=by
 obtain⟨c,c1⟩:=hr.cells;have hs:=hr.2.2;by_cases h1:n<0
 ·have d1:decide (n<0)=true:=by simpa using h1
  go_enter func91,ntmps91
  go_wp2
  go_ret
  exact⟨rfl,rfl⟩
 ·have d1:decide (n<0)=false:=by simpa using h1
  have d2:decide (8*(s.size:Int)<n)=true:=by simp;omega
  clear h
  go_enter func91,ntmps91
  go_wp2
  go_ret
  exact⟨rfl,rfl⟩
section
attribute [local irreducible] HJ
theorem Zr:∀l:List UInt8,AK l=true->(num l=0↔∀i (h:i<l.length),l[i]=48)
 |[],_=>⟨fun _ i h=>absurd h (Fc i),fun _=>by unfold num;rw[OS]⟩
 |c::l,h=>by
  obtain⟨hc,hl⟩:=UP h;rw[RI];have g:0<2^l.length:=Cc _;have b:=Zr l hl;constructor
  ·intro a i hi;have h1:(c.toNat-48)*2^l.length=0:=by omega
   have h2:num l=0:=by omega
   have h3:c.toNat-48=0:=by
    rcases Nat.mul_eq_zero.1 h1 with e|e
    ·exact e
    ·omega
   match i,hi with
   |0,_=>
    rcases hc with e|e
    ·exact e
    ·rw[e] at h3;cases h3
   |i+1,hi=>exact b.1 h2 i (by simpa using hi)
  ·intro a;have d:c=48:=a 0 (by simp);have f:num l=0:=b.2 fun i hi=>a (i+1) (by simpa using hi);rw[d,f,show ((48:UInt8).toNat-48)=0 from rfl,Cf]
theorem KR (l:List UInt8)(p n:Nat)(h:p+n<=8*l.length):AD l p n=0↔∀i,i<n->(AA l)[p+i]? =some 48:=by
 have hr:=K0 l;have hl:=BB l;unfold AD;generalize AA l=S at hr hl;rw[Zr _ (HZ _ _ (FO _ _ hr))];have b:((S.drop p).take n).length=n:=by rw[Be,Bj];omega
 constructor
 ·intro a i hi;have:=a i (by omega);rw[Fh,Fk] at this;rw[Fe (by omega),this]
 ·intro a i hi;have:=a i (by omega);rw[Fe (by omega)] at this;rw[Fh,Fk];exact Fg this
end
def AX (l:List UInt8)(bit:Int):Int×Int:=
 if bit<0\/8*(l.length:Int)<bit then (0,1) else if 8*(l.length:Int)-bit<22 then (0,2)
 else if AD l bit.toNat 22 / 32=1 then (((AD l bit.toNat 22%32:Nat):Int),0) else (0,4)
theorem RW {l:List UInt8}{bit:Int}(h:bit<0\/8*(l.length:Int)<bit):AX l bit=(0,1):=Bc h
theorem MO {l:List UInt8}{p:Nat}(h:p<=8*l.length)(h2:8*l.length<p+22):AX l p=(0,2):=by
 unfold AX;rw[Bb (by omega),Bc (by omega)]
theorem IZ {l:List UInt8}{p:Nat}(h:p+22<=8*l.length):AX l p=if AD l p 22 / 32=1 then (((AD l p 22%32:Nat):Int),0) else (0,4):=by
 unfold AX;rw[Bb (by omega),Bb (by omega),Do]
def B4 (l:List UInt8)(bit:Int):Int×Bool:=
 if bit<0\/8*(l.length:Int)<bit then (0,false) else if AD l bit.toNat (gap bit.toNat)=0 then
  ((AX l ((bit.toNat+gap bit.toNat:Nat):Int)).1,(AX l ((bit.toNat+gap bit.toNat:Nat):Int)).2==0) else (0,false)
theorem Rb {l:List UInt8}{bit:Int}(h:bit<0\/8*(l.length:Int)<bit):B4 l bit=(0,false):=Bc h
theorem OU {l:List UInt8}{p:Nat}(h:p<=8*l.length)(h2:AD l p (gap p)=0):B4 l p=((AX l ((p+gap p:Nat):Int)).1,(AX l ((p+gap p:Nat):Int)).2==0):=by
 unfold B4;rw[Bb (by omega),Do,Bc h2]
theorem Sv {l:List UInt8}{p:Nat}(h:p<=8*l.length)(h2:AD l p (gap p)≠0):B4 l p=(0,false):=by
 unfold B4;rw[Bb (by omega),Do,Bb h2]
def C0 (l:List UInt8)(bit:Int):Nat:=if bit<0 then 0 else (((AA l).drop bit.toNat).takeWhile (· == 48)).length
theorem WJ:∀(L:List UInt8) (n:Nat),(∀i,i<n->L[i]? =some 48)->L[n]?≠some 48->(L.takeWhile (· == 48)).length=n
 |[],0,_,_=>rfl
 |[],_+1,h,_=>by have:=h 0 (Nat.succ_pos _);cases this
 |c::L,0,_,h=>by
  have hc:¬ c=48:=fun e=>h (by rw[e];rfl);rw[Fr (by simpa using hc)];rfl
 |c::L,n+1,h,h2=>by
  have hc:c=48:=by have:=h 0 (Nat.succ_pos _);injection this
  rw[Fq (by simpa using hc),Bi,WJ L n (fun i hi=>h (i+1) (by omega)) h2]
theorem nX {l:List UInt8}{bit:Int}(h:bit<0):C0 l bit=0:=Bc h
theorem wO {l:List UInt8}{bit:Int}(h:8*(l.length:Int)<=bit):C0 l bit=0:=by
 unfold C0;rw[Bb (by omega),Cp (by rw[BB];omega)]
 rfl
theorem RO {l:List UInt8}{p n:Nat}(h:∀i,i<n->(AA l)[p+i]? =some 48)(h2:(AA l)[p+n]?≠some 48):C0 l p=n:=by
 unfold C0;rw[Bb (by omega),Do];exact WJ _ n (fun i hi=>by rw[Ef];exact h i hi) (by rw[Ef];exact h2)
theorem KZ (l:List UInt8)(p m n:Nat)(h:p+m+n<=8*l.length):AD l p (m+n)=AD l p m*2^n+AD l (p+m) n:=by
 have hl:=BB l;unfold AD;rw[Cz,MZ,Co]
 congr 3
 rw[Be,Bj];omega
theorem rN (l:List UInt8)(j:Nat)(h:j<l.length):AD l (8*j) 8=l[j].toNat:=by
 have e:=TL l j 1 (8*j) 8 (by omega) (by omega) (by omega);rw[<-e,Fi h];have:=l[j].toNat_lt;show JC 0 [l[j]] / 2^(8*(j+1)-8*j-8)%2^8=_;rw[show 8*(j+1)-8*j-8=0 by omega];show (256*0+l[j].toNat) / 2^0%2^8=_;omega
theorem tY (l:List UInt8)(p j n:Nat)(h:j<l.length)(h1:8*j<=p)(h2:p+n=8*(j+1)):AD l p n=l[j].toNat%2^n:=by
 have e:=TL l j 1 p n h1 (by omega) (by omega);rw[<-e,Fi h];show JC 0 [l[j]] / 2^(8*(j+1)-p-n)%2^n=_;rw[show 8*(j+1)-p-n=0 by omega];show (256*0+l[j].toNat) / 2^0%2^n=_;rw[Fm,Fl,Dc,Br]
theorem Zz (l:List UInt8)(p m k:Nat)(h:p+m<=8*l.length)(g:k<m)(h1:2^k<=AD l p m)(h2:AD l p m<2^(k+1)):C0 l p=m-(k+1):=by
 have c:=KZ l p (m-(k+1)) (k+1) (by omega);have a:=KZ l p (m-k) k (by omega);rw[show m-(k+1)+(k+1)=m by omega] at c;rw[show m-k+k=m by omega] at a;have j:=EA l (p+(m-k)) k;have d:AD l p (m-(k+1))=0:=by
  rcases Nat.eq_zero_or_pos (AD l p (m-(k+1))) with h|h
  ·exact h
  ·have:=Cy (2^(k+1)) h;omega
 have e:AD l p (m-k)≠0:=by
  intro h;rw[h,Cf,Br] at a;omega
 have b:=(KR l p _ (by omega)).1 d;have f:=fun h=>e ((KR l p _ (by omega)).2 h);refine RO b fun h=>f fun i hi=>?_;rcases Fo i (m-(k+1)) with h3|h3
 ·exact b i h3
 ·rw[show i=m-(k+1) by omega];exact h
theorem qY (l:List UInt8)(p m:Nat)(h:p+m=8*l.length)(a:AD l p m=0):C0 l p=m:=
 RO ((KR l p m (by omega)).1 a) (by rw[Fp (by rw[BB];omega)];exact fun h=>by cases h)
def hit (l:List UInt8)(i:Nat):Bool:=(AX l ((8*i:Nat):Int)).2==0&&((AX l ((8*i:Nat):Int)).1==0 || (AX l ((8*i:Nat):Int)).1==31)
def D5 (n:Nat):List UInt8:=AI (32+n) 22
theorem qU (n:Nat):AI (((32+n:Nat):Int)).toNat (22:Int).toNat=D5 n:=rfl
theorem IB (n:Nat):(D5 n).length=22:=BN _ _
theorem Zu (n:Nat):AK (D5 n)=true:=IW _ _
def E2 (r:List UInt8)(n:Nat):List UInt8:=r++List.replicate (gap r.length) 48++D5 n
theorem RY (r:List UInt8)(n:Nat):(E2 r n).length=r.length+gap r.length+22:=by
 unfold E2;rw[B9,B9,Bp,IB]
structure Shd where
 ref:Int
 flags:Int
 fmt:Int
 inter:Bool
 quant:Int
 supp:List Int
def FB:Shd:=⟨0,0,0,false,0,[]⟩
def E4 (b:Int):Bool:=decide (0<=b/\b<=255)
def Ec (h:Shd):Bool:=decide (0<=h.ref/\h.ref<=255/\0<=h.flags/\h.flags<=7/\1<=h.quant/\h.quant<=31)&&DG h.fmt&&(decide (h.supp.length<=8)&&h.supp.all E4)
theorem KM {h:Shd}:Ec h=true↔(0<=h.ref/\h.ref<=255/\0<=h.flags/\h.flags<=7/\1<=h.quant/\h.quant<=31)/\(1<=h.fmt/\h.fmt<=6)/\h.supp.length<=8/\∀b∈h.supp,0<=b/\b<=255:=by
 unfold Ec E4 DG;simp only[Fa,Fb,Bu];constructor
 ·rintro⟨⟨a,b⟩,c,d⟩;exact⟨a,b,c,d⟩
 ·rintro⟨a,b,c,d⟩;exact⟨⟨a,b⟩,c,d⟩
def HQ:List Int->List UInt8
 |[]=>[48]
 |b::l=>49::(AI b.toNat 8++HQ l)
theorem X9:∀l:List Int,(HQ l).length=9*l.length+1
 |[]=>rfl
 |b::l=>by
  rw[HQ,Bi,B9,BN,X9 l,Bi];omega
theorem Zf:∀l:List Int,AK (HQ l)=true
 |[]=>rfl
 |b::l=>by
  rw[HQ,show ((49:UInt8)::(AI b.toNat 8++HQ l))=[49]++(AI b.toNat 8++HQ l) from rfl,CX,CX,IW,Zf l];rfl
def O1 (b:Bool):List UInt8:=AI (if b then 1 else 0) 1
def KF (h:Shd):List UInt8:=
 AI h.ref.toNat 8++(AI 2 2++(AI h.flags.toNat 3++(AI h.fmt.toNat 3++(O1 h.inter++(AI 0 4++(AI h.quant.toNat 5++AI 0 1))))))
def EF (h:Shd):List UInt8:=KF h++HQ h.supp
theorem pO (h:Shd):(KF h).length=27:=by
 unfold KF O1;simp only[B9,BN]
theorem uR (h:Shd):AK (KF h)=true:=by
 unfold KF O1;simp only[CX,IW,Bool.and_self]
theorem QD (h:Shd):(EF h).length=28+9*h.supp.length:=by
 unfold EF;rw[B9,pO,X9];omega
theorem vF (h:Shd):AK (EF h)=true:=by
 unfold EF;rw[CX,uR,Zf];rfl
def EP:Nat->Nat
 |0=>8
 |1=>2
 |2=>3
 |3=>3
 |4=>1
 |5=>4
 |6=>5
 |_=>1
def CB:Nat->Nat
 |0=>0
 |j+1=>CB j+EP j
def DM (j:Nat)(v:Nat):Int:=
 if (j=1/\v≠2)\/(j=3/\DG v=false) then 5 else if (j=5\/j=7)/\v≠0 then 6 else if j=6/\v=0 then 9 else 0
def C5 (l:List UInt8)(p j:Nat):Nat:=AD l (p+CB j) (EP j)
def Pm (l:List UInt8)(p j:Nat):Int:=if 8*l.length<p+CB j+EP j then 2 else DM j (C5 l p j)
def upS (l:List UInt8)(p:Nat):Nat->Int
 |0=>0
 |n+1=>if upS l p n≠0 then upS l p n else Pm l p n
theorem Yq {l:List UInt8}{p n:Nat}(h:upS l p n≠0):upS l p (n+1)=upS l p n:=by
 rw[upS,Bc h]
theorem TR {l:List UInt8}{p n:Nat}(h:upS l p n=0):upS l p (n+1)=Pm l p n:=by
 rw[upS,Bb (fun k=>k h)]
theorem VC {l:List UInt8}{p j:Nat}(h:8*l.length<p+CB j+EP j):Pm l p j=2:=Bc h
theorem TI {l:List UInt8}{p j:Nat}(h:p+CB j+EP j<=8*l.length):Pm l p j=DM j (C5 l p j):=Bb (by omega)
theorem PR {l:List UInt8}{p:Nat}:∀{n:Nat},upS l p n=0↔∀j,j<n->p+CB j+EP j<=8*l.length/\DM j (C5 l p j)=0
 |0=>⟨fun _ j hj=>absurd hj (Fc j),fun _=>rfl⟩
 |n+1=>by
  constructor
  ·intro h;by_cases a:upS l p n=0
   ·rw[TR a] at h;intro j hj;rcases (by omega:j<n\/j=n) with hj|rfl
    ·exact PR.1 a j hj
    ·by_cases hs:8*l.length<p+CB j+EP j
     ·rw[VC hs] at h;cases h
     ·rw[TI (by omega)] at h;exact⟨by omega,h⟩
   ·rw[Yq a] at h;exact absurd h a
  ·intro h;have a:upS l p n=0:=PR.2 fun j hj=>h j (by omega);obtain⟨h1,h2⟩:=h n (by omega);rw[TR a,TI h1,h2]
def BV (l:List UInt8):Nat->Nat->List Int×Nat×Int
 |0,p=>if 8*l.length<p+1 then ([],0,2) else if AD l p 1=0 then ([],p+1,0) else ([],0,13)
 |k+1,p=>if 8*l.length<p+1 then ([],0,2) else if AD l p 1=0 then ([],p+1,0)
  else if 8*l.length<p+1+8 then ([],0,2) else (((AD l (p+1) 8:Nat):Int)::(BV l k (p+9)).1,(BV l k (p+9)).2)
theorem Vi {l:List UInt8}{p:Nat}(h:8*l.length<p+1):∀k,BV l k p=([],0,2)
 |0=>by rw[BV,Bc h]
 |k+1=>by rw[BV,Bc h]
theorem T4 {l:List UInt8}{p:Nat}(h:p+1<=8*l.length)(a:AD l p 1=0):∀k,BV l k p=([],p+1,0)
 |0=>by rw[BV,Bb (by omega),Bc a]
 |k+1=>by rw[BV,Bb (by omega),Bc a]
theorem X3 {l:List UInt8}{p:Nat}(h:p+1<=8*l.length)(a:AD l p 1≠0):BV l 0 p=([],0,13):=by
 rw[BV,Bb (by omega),Bb a]
theorem Ya {l:List UInt8}{p k:Nat}(h:p+1<=8*l.length)(a:AD l p 1≠0)(b:8*l.length<p+1+8):BV l (k+1) p=([],0,2):=by
 rw[BV,Bb (by omega),Bb a,Bc b]
theorem Rr {l:List UInt8}{p k:Nat}(a:AD l p 1≠0)(b:p+1+8<=8*l.length):BV l (k+1) p=(((AD l (p+1) 8:Nat):Int)::(BV l k (p+9)).1,(BV l k (p+9)).2):=by
 rw[BV,Bb (by omega),Bb a,Bb (by omega)]
def KH (l:List UInt8)(p:Nat)(s:List Int):Shd:=⟨(C5 l p 0:Nat),(C5 l p 2:Nat),(C5 l p 3:Nat),C5 l p 4==1,(C5 l p 6:Nat),s⟩
def CT (l:List UInt8)(p:Nat):Int:=if p%8≠0 then 4 else if (AX l p).2≠0 then (AX l p).2 else if (AX l p).1≠0 then 4 else 0
def shk (l:List UInt8)(p:Nat):Shd×Nat×Int:=
 if CT l p≠0 then (FB,p,CT l p) else if upS l (p+22) 8≠0 then (FB,p,upS l (p+22) 8)
 else if (BV l 8 (p+49)).2.2≠0 then (FB,p,(BV l 8 (p+49)).2.2) else (KH l (p+22) (BV l 8 (p+49)).1,(BV l 8 (p+49)).2.1,0)
theorem Qa {l:List UInt8}{p:Nat}(h:CT l p≠0):shk l p=(FB,p,CT l p):=Bc h
theorem TD {l:List UInt8}{p:Nat}(h:CT l p=0)(h1:upS l (p+22) 8≠0):shk l p=(FB,p,upS l (p+22) 8):=by
 unfold shk;rw[Bb (fun k=>k h),Bc h1]
theorem T5 {l:List UInt8}{p:Nat}(h:CT l p=0)(h1:upS l (p+22) 8=0)(h2:(BV l 8 (p+49)).2.2≠0):shk l p=(FB,p,(BV l 8 (p+49)).2.2):=by
 unfold shk;rw[Bb (fun k=>k h),Bb (fun k=>k h1),Bc h2]
theorem QF {l:List UInt8}{p:Nat}(h:CT l p=0)(h1:upS l (p+22) 8=0)(h2:(BV l 8 (p+49)).2.2=0):shk l p=(KH l (p+22) (BV l 8 (p+49)).1,(BV l 8 (p+49)).2.1,0):=by
 unfold shk;rw[Bb (fun k=>k h),Bb (fun k=>k h1),Bb (fun k=>k h2)]
theorem X1 {l:List UInt8}:∀(s:List Int) (k p q:Nat),s.length<=k->(∀b∈s,0<=b/\b<=255)->Seg (AA l) p q (HQ s)->BV l k p=(s,q,0)
 |[],k,p,q,_,_,h=>by
  have a:Seg (AA l) p q (AI 0 1):=h;obtain⟨h1,h2,h3⟩:=EK a (by decide);rw[T4 h3 h1,h2]
 |b::s,k,p,q,hk,hb,h=>by
  obtain⟨k,rfl⟩:∃j,k=j+1:=⟨k-1,by simp only[Bi] at hk;omega⟩;have a:Seg (AA l) p q (AI 1 1++(AI b.toNat 8++HQ s)):=h;obtain⟨m,c,d⟩:=a.cut;obtain⟨t,e,f⟩:=d.cut;have g:=hb b (Eu ..);obtain⟨i,n,u⟩:=EK c (by decide);obtain⟨o,b2,b3⟩:=EK e (by show b.toNat<256;omega);subst n b2
  rw[Rr (by rw[i];decide) b3,o,X1 s k (p+9) q (by simp only[Bi] at hk;omega) (fun x r=>hb x (Et _ r)) f];rw[show ((b.toNat:Nat):Int)=b by omega]
theorem XH:CB 0=0/\CB 1=8/\CB 2=10/\CB 3=13/\CB 4=16/\CB 5=17/\CB 6=21/\CB 7=26/\CB 8=27:=by decide
theorem gY {l:List UInt8}{p q:Nat}{h:Shd}(hp:p%8=0)(hm:Ec h=true)(hs:Seg (AA l) p q (D5 0++EF h)):shk l p=(h,q,0):=by
 obtain⟨⟨r1,r2,f1,f2,q1,q2⟩,⟨m1,m2⟩,hl,o⟩:=KM.1 hm;unfold EF KF at hs;simp only[Bf] at hs;obtain⟨r,s,hs⟩:=hs.cut;obtain⟨p1,t,hs⟩:=hs.cut;obtain⟨p2,u,hs⟩:=hs.cut;obtain⟨p3,v,hs⟩:=hs.cut;obtain⟨w,x,hs⟩:=hs.cut;obtain⟨y,z,hs⟩:=hs.cut;obtain⟨p6,A,hs⟩:=hs.cut;obtain⟨p7,B,hs⟩:=hs.cut;obtain⟨p8,C,hs⟩:=hs.cut;have f:Seg (AA l) p r (AI 32 22):=s
 have g:Seg (AA l) w y (AI (if h.inter then 1 else 0) 1):=z;obtain⟨D,E,F⟩:=EK f (by decide);obtain⟨G,H,I⟩:=EK t (by show h.ref.toNat<256;omega);obtain⟨J,K,b2⟩:=EK u (by decide);obtain⟨L,M,b3⟩:=EK v (by show h.flags.toNat<8;omega);obtain⟨N,O,b4⟩:=EK x (by show h.fmt.toNat<8;omega);obtain⟨P,Q,R⟩:=EK g (by split <;> decide);obtain⟨S,T,U⟩:=EK A (by decide)
 obtain⟨V,W,X⟩:=EK B (by show h.quant.toNat<32;omega);obtain⟨Y,Z,b8⟩:=EK C (by decide);subst E H K M O Q T W Z;have v0:C5 l (p+22) 0=h.ref.toNat:=G;have v1:C5 l (p+22) 1=2:=J;have v2:C5 l (p+22) 2=h.flags.toNat:=L;have i:C5 l (p+22) 3=h.fmt.toNat:=N;have v4:C5 l (p+22) 4=if h.inter then 1 else 0:=P
 have v5:C5 l (p+22) 5=0:=S;have k:C5 l (p+22) 6=h.quant.toNat:=V;have v7:C5 l (p+22) 7=0:=Y;have hM:CT l p=0:=by
  have e:AX l p=(0,0):=by rw[IZ F,D];rfl
  unfold CT;rw[Bb (by omega),e]
  rfl
 have hU:upS l (p+22) 8=0:=PR.2 fun j hj=>by
  obtain⟨o0,o1,o2,o3,o4,o5,o6,o7,o8⟩:=XH;rcases (by omega:j=0\/j=1\/j=2\/j=3\/j=4\/j=5\/j=6\/j=7) with rfl|rfl|rfl|rfl|rfl|rfl|rfl|rfl
  ·exact⟨I,by unfold DM;simp⟩
  ·exact⟨b2,by rw[v1];rfl⟩
  ·exact⟨b3,by unfold DM;simp⟩
  ·refine⟨b4,?_⟩;rw[i];unfold DM DG;rw[Bb (by simp;omega),Bb (by simp),Bb (by simp)]
  ·exact⟨R,by unfold DM;simp⟩
  ·exact⟨U,by rw[v5];rfl⟩
  ·refine⟨X,?_⟩;rw[k];unfold DM;rw[Bb (by simp),Bb (by simp),Bb (by omega)]
  ·exact⟨b8,by rw[v7];rfl⟩
 have m:BV l 8 (p+49)=(h.supp,q,0):=X1 h.supp 8 _ q hl o hs;rw[QF hM hU (by rw[m]),m];unfold KH;rw[v0,v2,i,v4,k];obtain⟨c,a,d,inter,b,n⟩:=h;simp only at *;rw[show ((c.toNat:Nat):Int)=c by omega,show ((a.toNat:Nat):Int)=a by omega,show ((d.toNat:Nat):Int)=d by omega,show ((b.toNat:Nat):Int)=b by omega];cases inter <;> rfl
theorem Xu {l:List UInt8}:∀(k p q:Nat) (s:List Int),BV l k p=(s,q,0)->Seg (AA l) p q (HQ s)/\s.length<=k/\∀b∈s,0<=b/\b<=255
 |k,p,q,s,h=>by
  by_cases h1:8*l.length<p+1
  ·rw[Vi h1] at h;cases h
  ·by_cases a:AD l p 1=0
   ·rw[T4 (by omega) a] at h;injection h with e1 e2;injection e2 with e2 e3;subst e1 e2;have g:=GG (l:=l) (p:=p) (n:=1) (by omega);rw[a] at g;exact⟨g,Dn _,fun b c=>by cases c⟩
   ·match k with
    |0=>
     rw[X3 (by omega) a] at h;cases h
    |k+1=>
     by_cases e:8*l.length<p+1+8
     ·rw[Ya (by omega) a e] at h;cases h
     ·rw[Rr a (by omega)] at h;injection h with e1 e2;obtain⟨f,o,i⟩:=Xu k (p+9) q (BV l k (p+9)).1 (by rw[<-e2]);subst e1;have t1:AD l p 1=1:=by have:=EA l p 1;omega
      have d:=GG (l:=l) (p:=p) (n:=1) (by omega);rw[t1] at d;have j:=GG (l:=l) (p:=p+1) (n:=8) (by omega);have m:=EA l (p+1) 8;refine⟨d.app (j.app f),by simp only[Bi];omega,fun b c=>?_⟩;rcases Eb.1 c with rfl|c
      ·omega
      ·exact i b c
theorem Yf {l:List UInt8}{p:Nat}(h:CT l p=0):p%8=0/\p+22<=8*l.length/\AD l p 22=32:=by
 unfold CT at h;by_cases a:p%8=0
 ·rw[Bb (by omega)] at h;by_cases h2:(AX l p).2=0
  ·rw[Bb (fun k=>k h2)] at h;by_cases h1:(AX l p).1=0
   ·by_cases b:p<=8*l.length
    ·by_cases hs:p+22<=8*l.length
     ·rw[IZ hs] at h1 h2;by_cases ht:AD l p 22 / 32=1
      ·rw[Bc ht] at h1;simp only at h1;exact⟨a,hs,by omega⟩
      ·rw[Bb ht] at h2;exact absurd h2 (by decide)
     ·rw[MO b (by omega)] at h2;exact absurd h2 (by decide)
    ·rw[RW (Or.inr (by omega))] at h2;exact absurd h2 (by decide)
   ·rw[Bc h1] at h;cases h
  ·rw[Bc h2] at h;exact absurd h h2
 ·rw[Bc a] at h;cases h
theorem WP {l:List UInt8}{p q:Nat}{h:Shd}(a:shk l p=(h,q,0)):p%8=0/\Ec h=true/\Seg (AA l) p q (D5 0++EF h):=by
 by_cases c:CT l p=0
 ·by_cases d:upS l (p+22) 8=0
  ·by_cases e:(BV l 8 (p+49)).2.2=0
   ·rw[QF c d e] at a;injection a with e1 e2;injection e2 with e2 _;obtain⟨t1,t2,t3⟩:=Xu (l:=l) 8 (p+49) q (BV l 8 (p+49)).1 (by rw[<-e2];exact Prod.ext rfl (Prod.ext rfl e));have b:=PR.1 d;obtain⟨V,W,X,Y,Z,o5,o6,o7,o8⟩:=XH;obtain⟨v,-⟩:=b 0 (by omega);obtain⟨w,f⟩:=b 1 (by omega);obtain⟨b2,-⟩:=b 2 (by omega);obtain⟨b3,g⟩:=b 3 (by omega);obtain⟨b4,-⟩:=b 4 (by omega)
    obtain⟨x,k⟩:=b 5 (by omega);obtain⟨y,m⟩:=b 6 (by omega);obtain⟨z,o⟩:=b 7 (by omega);have A:C5 l (p+22) 1=2:=by
     unfold DM at f
     split at f
     ·cases f
     ·simp_all
    have r:DG (C5 l (p+22) 3:Nat)=true:=by
     unfold DM at g
     split at g
     ·cases g
     ·simp_all
    have B:C5 l (p+22) 5=0:=by
     unfold DM at k;simp at k
     simp_all
    have C:C5 l (p+22) 7=0:=by
     unfold DM at o;simp at o
     simp_all
    have x6:C5 l (p+22) 6≠0:=by
     unfold DM at m;simp at m
     simp_all
    have D:=EA l (p+22+CB 0) (EP 0);have E:=EA l (p+22+CB 2) (EP 2);have F:=EA l (p+22+CB 4) (EP 4);have G:=EA l (p+22+CB 6) (EP 6);obtain⟨H,i,j⟩:=Yf c;have sm:=GG (l:=l) (p:=p) (n:=22) i;rw[j] at sm;have I:=GG (l:=l) v;have s:=GG (l:=l) w;have J:=GG (l:=l) b2;have K:=GG (l:=l) b3;have L:=GG (l:=l) b4;have t:=GG (l:=l) x;have M:=GG (l:=l) y
    have u:=GG (l:=l) z;have y1:AD l (p+22+CB 1) (EP 1)=2:=A;have N:AD l (p+22+CB 5) (EP 5)=0:=B;have O:AD l (p+22+CB 7) (EP 7)=0:=C;have P:C5 l (p+22) 0<256:=D;have Q:C5 l (p+22) 2<8:=E;have R:C5 l (p+22) 4<2:=F;have S:C5 l (p+22) 6<32:=G;rw[y1] at s;rw[N] at t;rw[O] at u;subst e1
    have T:Seg (AA l) (p+22+CB 4) (p+22+CB 4+EP 4) (O1 (C5 l (p+22) 4==1)):=by
     have U:(if (C5 l (p+22) 4==1)=true then 1 else 0)=C5 l (p+22) 4:=by
      rcases (by omega:C5 l (p+22) 4=0\/C5 l (p+22) 4=1) with h|h <;> rw[h] <;> rfl
     unfold O1;rw[U];exact L
    refine⟨H,KM.2 ⟨?_,?_,t2,t3⟩,?_⟩
    ·unfold KH;simp only;omega
    ·unfold DG at r;exact Fj r
    ·unfold EF KF KH;simp only[Do,Bf];exact sm.app (I.app (s.app (J.app (K.app (T.app (t.app (M.app (u.app t1))))))))
   ·rw[T5 c d e] at a;injection a with _ e2;injection e2 with _ e2;exact absurd e2 e
  ·rw[TD c d] at a;injection a with _ e2;injection e2 with _ e2;exact absurd e2 d
 ·rw[Qa c] at a;injection a with _ e2;injection e2 with _ e2;exact absurd e2 c
def JH (id q:Nat):List UInt8:=AI id 2++AI q 5
theorem bJ (id q:Nat):(JH id q).length=7:=by
 unfold JH;rw[B9,BN,BN]
theorem eU (id q:Nat):AK (JH id q)=true:=by
 unfold JH;rw[CX,IW,IW];rfl
def hdk (l:List UInt8)(p:Nat)(n:Int):Int×Int×Nat×Int:=
 if (B4 l p).2=false then (0,0,p,4) else if (B4 l p).1≠n then (0,0,p,10)
 else if 8*l.length<p+gap p+22+7 then (0,0,p,2)
 else if AD l (p+gap p+22+2) 5=0 then (0,0,p,9)
 else (((AD l (p+gap p+22) 2:Nat):Int),((AD l (p+gap p+22+2) 5:Nat):Int),p+gap p+22+7,0)
theorem Ve {l:List UInt8}{p:Nat}{n:Int}(h:(B4 l p).2=false):hdk l p n=(0,0,p,4):=Bc h
theorem UU {l:List UInt8}{p:Nat}{n:Int}(h:(B4 l p).2=true)(h1:(B4 l p).1≠n):hdk l p n=(0,0,p,10):=by
 unfold hdk;rw[Bb (by rw[h];decide),Bc h1]
theorem YF {l:List UInt8}{p:Nat}{n:Int}(h:(B4 l p).2=true)(h1:(B4 l p).1=n)(h2:8*l.length<p+gap p+22+7):hdk l p n=(0,0,p,2):=by
 unfold hdk;rw[Bb (by rw[h];decide),Bb (fun k=>k h1),Bc h2]
theorem Un {l:List UInt8}{p:Nat}{n:Int}(h:(B4 l p).2=true)(h1:(B4 l p).1=n)(h2:p+gap p+22+7<=8*l.length)(h3:AD l (p+gap p+22+2) 5=0):hdk l p n=(0,0,p,9):=by
 unfold hdk;rw[Bb (by rw[h];decide),Bb (fun k=>k h1),Bb (by omega),Bc h3]
theorem Rc {l:List UInt8}{p:Nat}{n:Int}(h:(B4 l p).2=true)(h1:(B4 l p).1=n)(h2:p+gap p+22+7<=8*l.length)(h3:AD l (p+gap p+22+2) 5≠0):
  hdk l p n=(((AD l (p+gap p+22) 2:Nat):Int),((AD l (p+gap p+22+2) 5:Nat):Int),p+gap p+22+7,0):=by
 unfold hdk;rw[Bb (by rw[h];decide),Bb (fun k=>k h1),Bb (by omega),Bb h3]
theorem VE {l:List UInt8}{p:Nat}(h:(B4 l p).2=true):p+gap p+22<=8*l.length:=by
 by_cases a:p<=8*l.length
 ·by_cases b:AD l p (gap p)=0
  ·rw[OU a b] at h;simp only[Bm] at h;by_cases hs:p+gap p+22<=8*l.length
   ·exact hs
   ·by_cases c:p+gap p<=8*l.length
    ·rw[MO c (by omega)] at h;exact absurd h (by decide)
    ·rw[RW (Or.inr (by omega))] at h;exact absurd h (by decide)
  ·rw[Sv a b] at h;exact absurd h (by decide)
 ·rw[Rb (Or.inr (by omega))] at h;exact absurd h (by decide)
def HG (a n id q:Nat):List UInt8:=List.replicate (gap a) 48++D5 n++JH id q
theorem Z4 (r:List UInt8)(n id q:Nat):E2 r n++JH id q=r++HG r.length n id q:=by
 unfold E2 HG;simp only[Bf]
theorem vC (a n id q:Nat):(HG a n id q).length=gap a+29:=by
 unfold HG;rw[B9,B9,Bp,IB,bJ]
theorem fX (a n id q:Nat):AK (HG a n id q)=true:=by
 unfold HG;rw[CX,CX,P1,Zu,eU];rfl
theorem Se {l:List UInt8}{p:Nat}(h:(B4 l p).2=true):AD l p (gap p)=0:=by
 by_cases b:p<=8*l.length
 ·by_cases a:AD l p (gap p)=0
  ·exact a
  ·rw[Sv b a] at h;exact absurd h (by decide)
 ·rw[Rb (Or.inr (by omega))] at h;exact absurd h (by decide)
set_option maxRecDepth 100000 in
theorem xE (w:A5)(c:Nat)(h:c<256):
  A9 prog 194 #[.int .u8 (c:Int)] w fun e a=>e=.returned (.int .i64 ((bitLen c:Nat):Int))/\w=a:=by
 go_enter func194,ntmps194
 go_wp2
 go_ret
 refine⟨H0 ?_,rfl⟩;rw[len8tab_get];have:=bitLen_le8 c h;unfold wrap64;omega
theorem fG (w:A5)(c:Nat)(h:c<256):
  A9 prog 180 #[.int .u8 (c:Int)] w fun e b=>e=.returned (.int .i64 ((8-bitLen c:Nat):Int))/\w=b:=by
 have hm:=bitLen_le8 c h;obtain⟨y,a⟩:=Ai (bitLen c);rw[a] at hm ⊢;have Y:=Dl a;clear a
 go_enter func180,ntmps180
 go_wp2_with fail
 refine(xE _ c h).mono ?_;rintro e d ⟨rfl,rfl⟩;rw[Y.out]
 go_wp2
 go_ret
 exact⟨H0 (by omega),rfl⟩
theorem kI:∀c:Fin 256,∀g:Fin 8,bits .and .u8 ((c.val:Nat):Int) (((255 / 2^g.val:Nat):Nat):Int)=((c.val%2^(8-g.val):Nat):Int):=by decide +kernel
theorem mO (w:A5)(s:ByteArray)(bit:Int)(hs:s.size<=1099511627776):
  A9 prog 161 #[.string s,.int .i64 bit] w fun e L=>e=.returned (.int .i64 ((C0 s.data.toList bit:Nat):Int))/\Below w.heap.size w L:=by
 have a:s.data.toList.length=s.size:=rfl;by_cases h1:bit<0
 ·have A:=Dl (nX (l:=s.data.toList) h1)
  go_enter func161,ntmps161
  go_wp2
  go_ret
  exact⟨H0 (by rw[A.out];rfl),Dm _ _⟩
 ·have d1:decide (bit<0)=false:=by simpa using h1
  by_cases h2:8*(s.size:Int)<=bit
  ·have A:=Dl (wO (l:=s.data.toList) (bit:=bit) (by rw[a];exact h2));have d2:decide (8*(s.size:Int)<=bit)=true:=by simpa using h2
   go_enter func161,ntmps161
   go_wp2
   go_ret
   exact⟨H0 (by rw[A.out];rfl),Dm _ _⟩
  ·obtain⟨p,rfl⟩:=Dq (by omega:0<=bit);have d2:decide (8*(s.size:Int)<=(p:Int))=false:=by simpa using h2
   have W:p<8*s.size:=by omega
   obtain⟨f,M⟩:=Ai (p / 8);obtain⟨g,N⟩:=Ai (p%8);have B:(p:Int) / 8=(f:Int):=by omega
   have C:(p:Int)%8=(g:Int):=by omega
   have o:f<s.size:=by omega
   have q:p=8*f+g:=by omega
   have D:g<8:=by omega
   have d:=Dl q;clear h1 h2 M N q
   go_enter func161,ntmps161
   go_wp2
   go_region
   go_wp2
   clear B C
   go_loopw [5,6] (fun i x wr=>∃j c:Nat,f<=j/\j<s.size/\c<256/\i=.int .i64 j/\x=.int .u8 (c:Int)/\Hid (AD s.data.toList p (8*(j+1)-p)=c)/\Below w.heap.size w wr) (fun i _ _=>s.size-(intOf i).toNat)
   case atStart=>
    have r:=kI ⟨s[f].toNat,s[f].toNat_lt⟩ ⟨g,D⟩;have E:=tY s.data.toList p f (8*(f+1)-p) (by rw[a];exact o) (by have:=d.out;omega) (by have:=d.out;omega);have t:s[f].toNat%2^(8-g)<256:=Nat.lt_of_le_of_lt (Nat.mod_le _ _) s[f].toNat_lt;refine⟨f,s[f].toNat%2^(8-g),Ba _,o,t,rfl,?_,Dl ?_,(Dm _ w).drew⟩
    ·rw[<-r];simp
    ·rw[E,show 8*(f+1)-p=8-g by have:=d.out;omega]
     rfl
   case round=>
    obtain⟨j,c,O,P,hc,rfl,rfl,T,m⟩:=hrel;by_cases k:c=0
    ·have d0:((c:Int)==0)=true:=by rw[k];rfl
     by_cases h3:j+1=s.size
     ·have A:=Dl (qY s.data.toList p (8*(j+1)-p) (by rw[a];have:=d.out;omega) (by rw[T.out,k]));have d3:((j:Int)+1==(s.size:Int))=true:=by rw[Bm];omega
      have Q:p<=8*j+8:=by have:=d.out;omega
      have K:j<=1099511627776:=by omega
      clear k
      go_wp2
      go_ret
      exact⟨H0 (by rw[A.out];omega),m⟩
     ·have d3:((j:Int)+1==(s.size:Int))=false:=by rw[Ez];omega
      have u:j+1<s.size:=by omega
      have R:=Dl ((by
       have e:=KZ s.data.toList p (8*(j+1)-p) 8 (by rw[a];have:=d.out;omega);rw[T.out,k,show p+(8*(j+1)-p)=8*(j+1) by have:=d.out;omega,rN _ _ (by rw[a];exact u)] at e;rw[show 8*(j+1+1)-p=8*(j+1)-p+8 by have:=d.out;omega,e,Cf,Br]
       rfl:AD s.data.toList p (8*(j+1+1)-p)=s[j+1].toNat))
      have G:=s[j+1].toNat_lt;clear k h3
      go_wp2
      go_roundw
      case rel=>exact⟨j+1,s[j+1].toNat,by omega,u,G,by go_num,rfl,R,m⟩
      case measure=>simp[intOf];omega
    ·have d0:((c:Int)==0)=false:=by rw[Ez];omega
     have v:=bitLen_le8 c hc;have b:(((8*(j:Int)+((8-bitLen c:Nat):Int)-p):Int))=((C0 s.data.toList (p:Int):Nat):Int):=by
      have z:=bitLen_spec c;have S:bitLen c≠0:=by unfold bitLen;rw[Bb k];omega
      have H:=z.2 k;have I:=EA s.data.toList p (8*(j+1)-p);have U:bitLen c-1<8*(j+1)-p:=by
       rcases Fo (bitLen c-1) (8*(j+1)-p) with h|h
       ·exact h
       ·have:=Bt (n:=2) (by omega) h;rw[T.out] at I;omega
      have A:=Zz s.data.toList p (8*(j+1)-p) (bitLen c-1) (by rw[a];have:=d.out;omega) U (by rw[T.out];exact H) (by rw[T.out,show bitLen c-1+1=bitLen c by omega];exact z.1);rw[A];omega
     obtain⟨y,J⟩:=Ai (8-bitLen c);rw[J] at b;have Y:=Dl J;have F:=Dl b;have V:y<=8:=by omega
     clear b J v k
     go_wp2_with fail
     refine(fG _ c hc).mono ?_;rintro e X ⟨rfl,rfl⟩;rw[Y.out]
     go_wp2
     go_ret
     exact⟨H0 (by rw[<-F.out]),m⟩
end Go.Proofs.YtjjmalchelniiaaGreatDoor