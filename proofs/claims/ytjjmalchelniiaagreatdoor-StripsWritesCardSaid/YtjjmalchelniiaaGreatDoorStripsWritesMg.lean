/- StripsWrites, 7. No condition. -/
import Derived.Test.YtjjmalchelniiaaGreatDoorStripsWritesMb
import Derived.Test.YtjjmalchelniiaaGreatDoorStripsWritesMd
import Derived.Test.YtjjmalchelniiaaGreatDoorStripsWritesMe
import Derived.Test.YtjjmalchelniiaaGreatDoorStripsWritesMf
open Go.Proofs.Tryz
open Go renaming World->A5,Calls->A9
set_option maxHeartbeats 1000000
namespace Go.Proofs.YtjjmalchelniiaaGreatDoor
open Go.RowKit
abbrev Fg:=@beq_eq_false_iff_ne
abbrev Fh:=@Bool.and_eq_true
abbrev Fi:=@decide_eq_true_iff
abbrev Fj:=@List.getElem?_eq_getElem
abbrev Fk:=@Nat.not_lt_zero
abbrev Fl:=@bne_iff_ne
abbrev Fm:=@Option.some.inj
abbrev Fo:=@List.drop_eq_getElem_cons
abbrev Fp:=@List.getElem_take
abbrev Fq:=@of_decide_eq_true
abbrev Fr:=@List.getElem_drop
abbrev Fs:=@Nat.div_one
abbrev Ft:=@Nat.pow_zero
abbrev Fu:=@Nat.lt_or_ge
abbrev Fv:=@List.getElem?_eq_none
abbrev Fw:=@List.takeWhile_cons_of_pos
abbrev Fx:=@List.takeWhile_cons_of_neg
theorem Ah{α}(a:α):∃b,a=b:=⟨a,rfl⟩
def eF (s:ByteArray)(p:Nat):List Value:=[.string s,.int .i64 (p:Int)]
def KX (s:ByteArray)(p:Nat):Obj:=.cells (eF s p).toArray 91 (0,0)
def AI (w:A5)(b:Nat)(s:ByteArray)(p:Nat):Prop:=w.heap[b]? =some (KX s p)/\p<=8*s.size/\s.size<=140737488355328
theorem AI.cells {w:A5}{b:Nat}{s:ByteArray}{p:Nat}(h:AI w b s p):w.cell? ⟨b,0,none⟩=some (.string s)/\w.cell? ⟨b,1,none⟩=some (.int .i64 (p:Int)):=
 ⟨AA h.1 rfl,AA h.1 rfl⟩
theorem AI.lt {w:A5}{b:Nat}{s:ByteArray}{p:Nat}(h:AI w b s p):b<w.heap.size:=(Ed.1 h.1).1
theorem AI.below {w a:A5}{b:Nat}{s:ByteArray}{p:Nat}(h:AI w b s p)(c:Below w.heap.size w a):AI a b s p:=⟨by rw[c.block b h.lt];exact h.1,h.2⟩
theorem AI.grown {w d:A5}{b c:Nat}{s:ByteArray}{p:Nat}(h:AI w b s p)(e:w.grownBy d (some c))(a:b≠c):AI d b s p:=⟨by rw[e.block b h.lt (by simpa using a)];exact h.1,h.2⟩
theorem AI.fresh {w:A5}{b:Nat}{s:ByteArray}(a:w.heap.size=b)(hs:s.size<=140737488355328):AI (w.alloc (KX s 0)) b s 0:=by
 subst a;exact⟨heap_alloc_new w _,by omega,hs⟩
theorem AI.moved {w:A5}{b:Nat}{s:ByteArray}{p:Nat}(h:AI w b s p)(q:Nat)(a:q<=8*s.size):AI (w.setCell ⟨b,1,none⟩ (.int .i64 (q:Int))) b s q:=
 ⟨BF (o:=1) _ h.1,a,h.2.2⟩
theorem Pq (w:A5)(s:ByteArray):A9 prog 27 #[.string s] w fun e a=>e=.returned (.pointer (some ⟨w.heap.size,0,none⟩))/\w.alloc (KX s 0)=a:=by
 go_enter func27,ntmps27
 go_wp2
 go_ret
 exact⟨rfl,rfl⟩
theorem Qng (y c:Nat)(h:c<256)(g:y<4294967296):bits .or .i64 ((y:Int)*256) (c:Int)=((256*y+c:Nat):Int):=by
 have a:=Ck (i:=8) (b:=c) (by omega) y;have d:((y:Int)*256)=((256*y:Nat):Int):=by omega
 rw[d];show IntKind.i64.wrap ((BitVec.ofInt 64 ((256*y:Nat):Int) ||| BitVec.ofInt 64 (c:Int)).toNat:Int)=_;rw[C7,C7,Dc,Ca,Ca,Bp (by omega),Bp (by omega)];have f:256*y ||| c=256*y+c:=by
  have e:(2:Nat)^8=256:=rfl;rw[e] at a;exact a.symm
 rw[f,Cq];omega
theorem qV (y k n:Nat)(h:n<=32):bits .and .i64 ((y:Int) / 2^k) (wrap64 (wrap64 (2^n)-1))=((y / 2^k%2^n:Nat):Int):=by
 obtain⟨h1,h2⟩:=gR n h;have a:wrap64 ((2:Int)^n)=2^n:=by unfold wrap64;omega
 have b:wrap64 ((2:Int)^n-1)=2^n-1:=by unfold wrap64;omega
 rw[a,b,LR _ n (by omega)];simp
theorem Wq (w:A5)(b:Nat)(s:ByteArray)(p:Nat)(m:Int)(hr:AI w b s p)(h1:0<=m)(h2:m<=32)(h3:m<=8*(s.size:Int)-p):
  A9 prog 155 #[.pointer (some ⟨b,0,none⟩),.int .i64 m] w fun e D=>e=.returned (.int .i64 ((AE s.data.toList p m.toNat:Nat):Int))/\Below w.heap.size w D:=by
 obtain⟨n,rfl⟩:=Du h1;simp only[Dr];obtain⟨B,c1⟩:=hr.cells;obtain⟨_,R,hs⟩:=hr;have E:n<=32:=by omega
 have S:p+n<=8*s.size:=by omega
 clear h1 h2 h3
 go_enter func155,ntmps155
 go_wp2
 go_region
 obtain⟨f,k,H,I⟩:∃f k,p / 8=f/\(p+n+7) / 8=f+k:=⟨p / 8,(p+n+7) / 8-p / 8,rfl,by omega⟩;rw[show (p:Int) / 8=(f:Int) by omega,show ((p:Int)+n+7) / 8=(f:Int)+k by omega];have J:k<=5:=by omega
 have r:f+k<=s.size:=by omega
 have t:8*f<=p:=by omega
 have u:p+n<=8*(f+k):=by omega
 have K:8*(f+k)<=p+n+7:=by omega
 obtain⟨l,hl⟩:=Ah (s.data.toList.drop f);have M:k<=l.length:=by rw[<-hl,Bj];have:s.data.toList.length=s.size:=rfl;omega
 have a:∀j,(h:j<l.length)->(h2:f+j<s.size)->l[j]=s[f+j]:=by
  intro j h h2;subst hl;rw[Fr]
  rfl
 have c:LV (l.take k) / 2^(8*(f+k)-p-n)%2^n=AE s.data.toList p n:=by
  rw[<-hl];exact Sh _ f k p n t u r
 have o:∀j,j<=k->LV (l.take j)<256^j:=fun j hj=>yF _ _ (by rw[Bf];omega);have G:=Dp a;have F:=Dp c;have L:=Dp hl;have N:=Dp o;have d0:w.drew.cell? ⟨b,0,none⟩=some (.string s):=B;have d1:w.drew.cell? ⟨b,1,none⟩=some (.int .i64 (p:Int)):=c1;have q:Below w.heap.size w w.drew:=(Dq _ w).drew;clear B c1 hl a c o H I
 generalize w.drew=T at d0 d1 q ⊢
 go_wp2
 go_loop [7,25] (fun x i=>∃j y:Nat,j<=k/\i=.int .i64 j/\x=.int .i64 y/\LV (l.take j)=y) (fun _ i=>k-(intOf i).toNat)
 case atStart=>exact⟨0,0,Ds _,rfl,rfl,rfl⟩
 case round=>
  obtain⟨j,y,hj,rfl,rfl,v⟩:=hrel;have Y:=Dp v;have d:=N.out j hj;rw[v] at d;clear v;by_cases P:j<k
  ·have z:y<4294967296:=by
    have:256^j<=256^4:=Br (by omega) (by omega);omega
   have A:f+j<s.size:=by omega
   have C:=G.out j (by omega) A;have g:=nB l j (by omega);rw[Y.out,C] at g;have hc:=s[f+j].toNat_lt;have ho:=Qng y s[f+j].toNat hc z;have ST:=Dp g;have O:=Dp ho;clear g C d ho
   go_wp2
   go_round
   case rel=>exact⟨j+1,256*y+s[f+j].toNat,by omega,by go_num,by rw[O.out],ST.out⟩
   case measure=>simp[intOf];omega
  ·obtain rfl:j=k:=by omega
   have Q:y<1099511627776:=by
    have:256^j<=256^5:=Br (by omega) (by omega);omega
   clear d
   go_wp2
   go_region
   go_wp2
   go_ret
   refine⟨FT ?_,q.drew⟩;rw[qV _ _ _ E,<-F.out,Y.out]
theorem PR (w:A5)(b:Nat)(s:ByteArray)(p:Nat)(hr:AI w b s p):
  A9 prog 29 #[.pointer (some ⟨b,0,none⟩)] w fun e c=>e=.returned (.int .i64 (8*(s.size:Int)-p))/\Below w.heap.size w c:=by
 obtain⟨d,c1⟩:=hr.cells;obtain⟨_,f,hs⟩:=hr;have a:Below w.heap.size w w.drew:=(Dq _ w).drew
 go_enter func29,ntmps29
 go_wp2
 go_region
 go_wp2
 go_ret
 exact⟨rfl,a⟩
theorem ED (w:A5)(b:Nat)(s:ByteArray)(p:Nat)(hr:AI w b s p):
  A9 prog 28 #[.pointer (some ⟨b,0,none⟩)] w fun e a=>e=.returned (.int .i64 (p:Int))/\w=a:=by
 obtain⟨c,c1⟩:=hr.cells
 go_enter func28,ntmps28
 go_wp2
 go_ret
 exact⟨rfl,rfl⟩
theorem LG (w:A5)(b:Nat)(s:ByteArray)(p:Nat)(hr:AI w b s p):
  A9 prog 60 #[.pointer (some ⟨b,0,none⟩)] w fun e a=>e=.returned (.string s)/\w=a:=by
 obtain⟨c,c1⟩:=hr.cells
 go_enter func60,ntmps60
 go_wp2
 go_ret
 exact⟨rfl,rfl⟩
theorem RP {l:List UInt8}{p:Nat}{n:Int}{v c:Int}(h:ask l p n=(v,c)){k a:IntKind}:Ending.returned (.tuple #[.int k v,.int a c])=.returned (.tuple #[.int k (ask l p n).1,.int a (ask l p n).2]):=by rw[h]
theorem FU (w:A5)(b:Nat)(s:ByteArray)(p:Nat)(n:Int)(hr:AI w b s p):
  A9 prog 125 #[.pointer (some ⟨b,0,none⟩),.int .i64 n] w fun e g=>e=.returned (.tuple #[.int .i64 (ask s.data.toList p n).1,.int .i64 (ask s.data.toList p n).2])/\Below w.heap.size w g:=by
 have a:s.data.toList.length=s.size:=rfl;by_cases h1:n<0
 ·have A:=Dp (Ya (l:=s.data.toList) (p:=p) (n:=n) (.inl h1))
  go_enter func125,ntmps125
  go_wp2
  go_ret2
  exact⟨RP A.out,Dq _ _⟩
 ·by_cases h2:32<n
  ·have A:=Dp (Ya (l:=s.data.toList) (p:=p) (n:=n) (.inr h2))
   go_enter func125,ntmps125
   go_wp2
   go_ret2
   exact⟨RP A.out,Dq _ _⟩
  ·have d1:decide (n<0)=false:=by simpa using h1
   have d2:decide (32<n)=false:=by simpa using h2
   by_cases h3:8*(s.size:Int)-p<n
   ·have A:=Dp (FM (l:=s.data.toList) (p:=p) (n:=n) (by omega) (by rw[a];exact h3));have d3:decide (8*(s.size:Int)-p<n)=true:=by simpa using h3
    go_enter func125,ntmps125
    go_wp2_with fail
    refine(PR _ _ _ _ hr).mono ?_;rintro e h ⟨rfl,c⟩
    go_wp2
    go_ret2
    exact⟨RP A.out,c⟩
   ·have A:=Dp (EL (l:=s.data.toList) (p:=p) (n:=n) (by omega) (by rw[a];omega));have d3:decide (8*(s.size:Int)-p<n)=false:=by simpa using h3
    go_enter func125,ntmps125
    go_wp2_with fail
    refine(PR _ _ _ _ hr).mono ?_;rintro e h ⟨rfl,c⟩;have d:=hr.below c;have i:=c.size
    go_wp2_with fail
    refine(Wq _ _ _ _ _ d (by omega) (by omega) (by omega)).mono ?_;rintro e j ⟨rfl,f⟩
    go_wp2
    go_ret2
    exact⟨RP A.out,c.trans (f.mono i)⟩
theorem vR (l:List UInt8)(p:Nat)(n:Int):(ask l p n).2=1\/(ask l p n).2=2\/((ask l p n).2=0/\0<=n/\n<=32/\n<=8*(l.length:Int)-p):=by
 unfold ask
 split
 ·exact .inl rfl
 ·split
  ·exact .inr (.inl rfl)
  ·exact .inr (.inr ⟨rfl,by omega⟩)
theorem JF (w:A5)(b:Nat)(s:ByteArray)(p:Nat)(n:Int)(hr:AI w b s p):
  A9 prog 92 #[.pointer (some ⟨b,0,none⟩),.int .i64 n] w fun e r=>e=.returned (.tuple #[.int .i64 (ask s.data.toList p n).1,.int .i64 (ask s.data.toList p n).2])/\AI r b s (CF s.data.toList p n)/\w.grownBy r (some b):=by
 have d:=vR s.data.toList p n;have g:CF s.data.toList p n=if (ask s.data.toList p n).2=0 then p+n.toNat else p:=rfl
 have l:s.data.toList.length=s.size:=rfl;rw[g];generalize t:ask s.data.toList p n=q at d ⊢;obtain⟨v,c⟩:=q;have Q:=Dp t;clear t g
 go_enter func92,ntmps92
 go_wp2_with fail
 refine(FU _ _ _ _ _ hr).mono ?_;rintro e u ⟨rfl,f⟩;rw[Q.out];have a:=hr.below f;have i:w.grownBy u (some b):=⟨f.os,f.tape,f.output,f.size,fun k y _=>f.block k y⟩;by_cases x:c=0
 ·subst x;have hn:0<=n/\n<=32/\n<=8*(s.size:Int)-p:=by
   rcases d with h|h|h
   ·cases h
   ·cases h
   ·exact⟨h.2.1,h.2.2.1,by rw[<-l];exact h.2.2.2⟩
  obtain⟨B,C,D⟩:=hn;obtain⟨E,c1⟩:=a.cells;have z:=AZ (o:=1) a.1;have hm:=a.moved (p+n.toNat) (by omega);have j:=DM u ⟨b,1,none⟩ (.int .i64 ((p+n.toNat:Nat):Int));have m:((p+n.toNat:Nat):Int)=(p:Int)+n:=by omega
  rw[m] at hm j;have A:p<=1125899906842624:=by have:=hr.2;omega
  clear d
  go_wp2
  go_ret2
  exact⟨rfl,hm,AR i j⟩
 ·have d0:(c==0)=false:=by rw[Fg];exact x
  go_wp2
  go_ret2
  exact⟨rfl,a,i⟩
theorem Vr {l:List UInt8}{p:Nat}{v c:Int}(h:K2 l p=(v,c)){k a:IntKind}:Ending.returned (.tuple #[.int k v,.int a c])=.returned (.tuple #[.int k (K2 l p).1,.int a (K2 l p).2]):=by rw[h]
theorem aJ {p n:Nat}(h:p<=8*n):p+gap p<=8*n:=by unfold gap;omega
theorem Ps (p:Nat):gap p<8:=by unfold gap;omega
theorem UW (w:A5)(b:Nat)(s:ByteArray)(p:Nat)(hr:AI w b s p):
  A9 prog 159 #[.pointer (some ⟨b,0,none⟩)] w fun e t=>e=.returned (.tuple #[.int .i64 (K2 s.data.toList p).1,.int .i64 (K2 s.data.toList p).2])/\AI t b s (MK s.data.toList p)/\w.grownBy t (some b):=by
 obtain⟨y,c1⟩:=hr.cells;have z:=hr.2.1;have hs:=hr.2.2;have n:=aJ z;obtain⟨g,f⟩:=Ah (gap p);have B:g<8:=by rw[<-f];exact Ps p
 have u:7-((p:Int)+7)%8=(g:Int):=by rw[<-f];unfold gap;omega
 have c:MK s.data.toList p=if AE s.data.toList p g=0 then p+g else p:=by unfold MK;rw[f]
 have i:K2 s.data.toList p=if AE s.data.toList p g=0 then ((g:Int),0) else (0,5):=by unfold K2;rw[f]
 rw[f] at n;obtain⟨q,r⟩:=Ah (MK s.data.toList p);rw[r];rw[r] at c;have m:=Dp c;have v:=Dp i;have C:=Dp u;clear c i u f r
 go_enter func159,ntmps159
 go_wp2_with fail
 rw[C.out];refine(Wq _ _ _ _ (g:Int) hr (by omega) (by omega) (by omega)).mono ?_;rintro e x ⟨rfl,h⟩;rw[Dr];have a:=hr.below h;have j:w.grownBy x (some b):=⟨h.os,h.tape,h.output,h.size,fun k D _=>h.block k D⟩;by_cases d:AE s.data.toList p g=0
 ·have d0:(((AE s.data.toList p g:Nat):Int) != 0)=false:=by rw[d];rfl
  obtain⟨F,G⟩:=a.cells;have E:=AZ (o:=1) a.1;have hm:=a.moved (p+g) (by omega);have l:=DM x ⟨b,1,none⟩ (.int .i64 ((p+g:Nat):Int));rw[show ((p+g:Nat):Int)=(p:Int)+g by omega] at hm l;have A:=Dp (v.out.trans (Bc d));obtain rfl:q=p+g:=m.out.trans (Bc d);clear m;clear d y c1
  go_wp2
  go_ret2
  exact⟨Vr A.out,hm,AR j l⟩
 ·have d0:(((AE s.data.toList p g:Nat):Int) != 0)=true:=by rw[Fl];omega
  have A:=Dp (v.out.trans (Bb d));obtain rfl:q=p:=m.out.trans (Bb d);clear m;clear d
  go_wp2
  go_ret2
  exact⟨Vr A.out,a,j⟩
theorem GH (w:A5)(b:Nat)(s:ByteArray)(p:Nat)(n:Int)(hr:AI w b s p)(h1:0<=n)(h2:n<=8*(s.size:Int)):
  A9 prog 91 #[.pointer (some ⟨b,0,none⟩),.int .i64 n] w fun e a=>e=.returned (.int .i64 0)/\AI a b s n.toNat/\w.grownBy a (some b):=by
 obtain⟨f,c1⟩:=hr.cells;have hs:=hr.2.2;have d:=AZ (o:=1) hr.1;have hm:=hr.moved n.toNat (by omega);have c:=DM w ⟨b,1,none⟩ (.int .i64 ((n.toNat:Nat):Int));rw[show ((n.toNat:Nat):Int)=n by omega] at hm c;have d1:decide (n<0)=false:=by simpa using h1
 have d2:decide (8*(s.size:Int)<n)=false:=by simpa using h2
 go_enter func91,ntmps91
 go_wp2
 go_ret
 exact⟨rfl,hm,c⟩
theorem Z8 (w:A5)(b:Nat)(s:ByteArray)(p:Nat)(n:Int)(hr:AI w b s p)(h:n<0\/8*(s.size:Int)<n):
  A9 prog 91 #[.pointer (some ⟨b,0,none⟩),.int .i64 n] w fun e a=>e=.returned (.int .i64 1)/\w=a:=by
 obtain⟨c,c1⟩:=hr.cells;have hs:=hr.2.2;by_cases h1:n<0
 ·have d1:decide (n<0)=true:=by simpa using h1
  go_enter func91,ntmps91
  go_wp2
  go_ret
  exact⟨rfl,rfl⟩
 ·have d1:decide (n<0)=false:=by simpa using h1
  have d2:decide (8*(s.size:Int)<n)=true:=by simp;omega
  clear h
  go_enter func91,ntmps91
  go_wp2
  go_ret
  exact⟨rfl,rfl⟩
section
attribute [local irreducible] IE
theorem Zw:∀l:List UInt8,AL l=true->(num l=0↔∀i (h:i<l.length),l[i]=48)
 |[],_=>⟨fun _ i h=>absurd h (Fk i),fun _=>by unfold num;rw[Qz]⟩
 |c::l,h=>by
  obtain⟨hc,hl⟩:=WL h;rw[TO];have g:0<2^l.length:=Cf _;have b:=Zw l hl;constructor
  ·intro a i hi;have h1:(c.toNat-48)*2^l.length=0:=by omega
   have h2:num l=0:=by omega
   have h3:c.toNat-48=0:=by
    rcases Nat.mul_eq_zero.1 h1 with e|e
    ·exact e
    ·omega
   match i,hi with
   |0,_=>
    rcases hc with e|e
    ·exact e
    ·rw[e] at h3;cases h3
   |i+1,hi=>exact b.1 h2 i (by simpa using hi)
  ·intro a;have d:c=48:=a 0 (by simp);have f:num l=0:=b.2 fun i hi=>a (i+1) (by simpa using hi);rw[d,f,show ((48:UInt8).toNat-48)=0 from rfl,Ch]
theorem LK (l:List UInt8)(p n:Nat)(h:p+n<=8*l.length):AE l p n=0↔∀i,i<n->(A2 l)[p+i]? =some 48:=by
 have hr:=KS l;have hl:=BO l;unfold AE;generalize A2 l=S at hr hl;rw[Zw _ (I1 _ _ (FR _ _ hr))];have b:((S.drop p).take n).length=n:=by rw[Bf,Bj];omega
 constructor
 ·intro a i hi;have:=a i (by omega);rw[Fp,Fr] at this;rw[Fj (by omega),this]
 ·intro a i hi;have:=a i (by omega);rw[Fj (by omega)] at this;rw[Fp,Fr];exact Fm this
end
def B0 (l:List UInt8)(bit:Int):Int×Int:=
 if bit<0\/8*(l.length:Int)<bit then (0,1) else if 8*(l.length:Int)-bit<22 then (0,2)
 else if AE l bit.toNat 22 / 32=1 then (((AE l bit.toNat 22%32:Nat):Int),0) else (0,4)
theorem U3 {l:List UInt8}{bit:Int}(h:bit<0\/8*(l.length:Int)<bit):B0 l bit=(0,1):=Bc h
theorem NY {l:List UInt8}{p:Nat}(h:p<=8*l.length)(h2:8*l.length<p+22):B0 l p=(0,2):=by
 unfold B0;rw[Bb (by omega),Bc (by omega)]
theorem K0 {l:List UInt8}{p:Nat}(h:p+22<=8*l.length):B0 l p=if AE l p 22 / 32=1 then (((AE l p 22%32:Nat):Int),0) else (0,4):=by
 unfold B0;rw[Bb (by omega),Bb (by omega),Dr]
def BH (l:List UInt8)(bit:Int):Int×Bool:=
 if bit<0\/8*(l.length:Int)<bit then (0,false) else if AE l bit.toNat (gap bit.toNat)=0 then
  ((B0 l ((bit.toNat+gap bit.toNat:Nat):Int)).1,(B0 l ((bit.toNat+gap bit.toNat:Nat):Int)).2==0) else (0,false)
theorem U8 {l:List UInt8}{bit:Int}(h:bit<0\/8*(l.length:Int)<bit):BH l bit=(0,false):=Bc h
theorem Qo {l:List UInt8}{p:Nat}(h:p<=8*l.length)(h2:AE l p (gap p)=0):BH l p=((B0 l ((p+gap p:Nat):Int)).1,(B0 l ((p+gap p:Nat):Int)).2==0):=by
 unfold BH;rw[Bb (by omega),Dr,Bc h2]
theorem Tt {l:List UInt8}{p:Nat}(h:p<=8*l.length)(h2:AE l p (gap p)≠0):BH l p=(0,false):=by
 unfold BH;rw[Bb (by omega),Dr,Bb h2]
def CE (l:List UInt8)(bit:Int):Nat:=if bit<0 then 0 else (((A2 l).drop bit.toNat).takeWhile (· == 48)).length
theorem ZC:∀(L:List UInt8) (n:Nat),(∀i,i<n->L[i]? =some 48)->L[n]?≠some 48->(L.takeWhile (· == 48)).length=n
 |[],0,_,_=>rfl
 |[],_+1,h,_=>by have:=h 0 (Nat.succ_pos _);cases this
 |c::L,0,_,h=>by
  have hc:¬ c=48:=fun e=>h (by rw[e];rfl);rw[Fx (by simpa using hc)];rfl
 |c::L,n+1,h,h2=>by
  have hc:c=48:=by have:=h 0 (Nat.succ_pos _);injection this
  rw[Fw (by simpa using hc),Bh,ZC L n (fun i hi=>h (i+1) (by omega)) h2]
theorem qL {l:List UInt8}{bit:Int}(h:bit<0):CE l bit=0:=Bc h
theorem uO {l:List UInt8}{bit:Int}(h:8*(l.length:Int)<=bit):CE l bit=0:=by
 unfold CE;rw[Bb (by omega),Cs (by rw[BO];omega)]
 rfl
theorem Sr {l:List UInt8}{p n:Nat}(h:∀i,i<n->(A2 l)[p+i]? =some 48)(h2:(A2 l)[p+n]?≠some 48):CE l p=n:=by
 unfold CE;rw[Bb (by omega),Dr];exact ZC _ n (fun i hi=>by rw[El];exact h i hi) (by rw[El];exact h2)
theorem LC (l:List UInt8)(p m n:Nat)(h:p+m+n<=8*l.length):AE l p (m+n)=AE l p m*2^n+AE l (p+m) n:=by
 have hl:=BO l;unfold AE;rw[D9,MI,Cr]
 congr 3
 rw[Bf,Bj];omega
theorem iT (l:List UInt8)(j:Nat)(h:j<l.length):AE l (8*j) 8=l[j].toNat:=by
 have e:=Sh l j 1 (8*j) 8 (by omega) (by omega) (by omega);rw[<-e,Fo h];have:=l[j].toNat_lt;show KF 0 [l[j]] / 2^(8*(j+1)-8*j-8)%2^8=_;rw[show 8*(j+1)-8*j-8=0 by omega];show (256*0+l[j].toNat) / 2^0%2^8=_;omega
theorem iO (l:List UInt8)(p j n:Nat)(h:j<l.length)(h1:8*j<=p)(h2:p+n=8*(j+1)):AE l p n=l[j].toNat%2^n:=by
 have e:=Sh l j 1 p n h1 (by omega) (by omega);rw[<-e,Fo h];show KF 0 [l[j]] / 2^(8*(j+1)-p-n)%2^n=_;rw[show 8*(j+1)-p-n=0 by omega];show (256*0+l[j].toNat) / 2^0%2^n=_;rw[Ft,Fs,Dh,Bo]
theorem yL (l:List UInt8)(p m k:Nat)(h:p+m<=8*l.length)(g:k<m)(h1:2^k<=AE l p m)(h2:AE l p m<2^(k+1)):CE l p=m-(k+1):=by
 have c:=LC l p (m-(k+1)) (k+1) (by omega);have a:=LC l p (m-k) k (by omega);rw[show m-(k+1)+(k+1)=m by omega] at c;rw[show m-k+k=m by omega] at a;have j:=F1 l (p+(m-k)) k;have d:AE l p (m-(k+1))=0:=by
  rcases Nat.eq_zero_or_pos (AE l p (m-(k+1))) with h|h
  ·exact h
  ·have:=D8 (2^(k+1)) h;omega
 have e:AE l p (m-k)≠0:=by
  intro h;rw[h,Ch,Bo] at a;omega
 have b:=(LK l p _ (by omega)).1 d;have f:=fun h=>e ((LK l p _ (by omega)).2 h);refine Sr b fun h=>f fun i hi=>?_;rcases Fu i (m-(k+1)) with h3|h3
 ·exact b i h3
 ·rw[show i=m-(k+1) by omega];exact h
theorem mF (l:List UInt8)(p m:Nat)(h:p+m=8*l.length)(a:AE l p m=0):CE l p=m:=
 Sr ((LK l p m (by omega)).1 a) (by rw[Fv (by rw[BO];omega)];exact fun h=>by cases h)
def hit (l:List UInt8)(i:Nat):Bool:=(B0 l ((8*i:Nat):Int)).2==0&&((B0 l ((8*i:Nat):Int)).1==0 || (B0 l ((8*i:Nat):Int)).1==31)
def BR (n:Nat):List UInt8:=AB (32+n) 22
theorem xX (n:Nat):AB (((32+n:Nat):Int)).toNat (22:Int).toNat=BR n:=rfl
theorem GI (n:Nat):(BR n).length=22:=BB _ _
theorem Ye (n:Nat):AL (BR n)=true:=I2 _ _
def DS (r:List UInt8)(n:Nat):List UInt8:=r++List.replicate (gap r.length) 48++BR n
theorem Ur (r:List UInt8)(n:Nat):(DS r n).length=r.length+gap r.length+22:=by
 unfold DS;rw[B9,B9,Bl,GI]
structure Shd where
 ref:Int
 flags:Int
 fmt:Int
 inter:Bool
 quant:Int
 supp:List Int
def FK:Shd:=⟨0,0,0,false,0,[]⟩
def ER (b:Int):Bool:=decide (0<=b/\b<=255)
def E5 (h:Shd):Bool:=decide (0<=h.ref/\h.ref<=255/\0<=h.flags/\h.flags<=7/\1<=h.quant/\h.quant<=31)&&DV h.fmt&&(decide (h.supp.length<=8)&&h.supp.all ER)
theorem JX {h:Shd}:E5 h=true↔(0<=h.ref/\h.ref<=255/\0<=h.flags/\h.flags<=7/\1<=h.quant/\h.quant<=31)/\(1<=h.fmt/\h.fmt<=6)/\h.supp.length<=8/\∀b∈h.supp,0<=b/\b<=255:=by
 unfold E5 ER DV;simp only[Fh,Fi,Bu];constructor
 ·rintro⟨⟨a,b⟩,c,d⟩;exact⟨a,b,c,d⟩
 ·rintro⟨a,b,c,d⟩;exact⟨⟨a,b⟩,c,d⟩
def IS:List Int->List UInt8
 |[]=>[48]
 |b::l=>49::(AB b.toNat 8++IS l)
theorem Wz:∀l:List Int,(IS l).length=9*l.length+1
 |[]=>rfl
 |b::l=>by
  rw[IS,Bh,B9,BB,Wz l,Bh];omega
theorem Zq:∀l:List Int,AL (IS l)=true
 |[]=>rfl
 |b::l=>by
  rw[IS,show ((49:UInt8)::(AB b.toNat 8++IS l))=[49]++(AB b.toNat 8++IS l) from rfl,CO,CO,I2,Zq l];rfl
def JP (b:Bool):List UInt8:=AB (if b then 1 else 0) 1
def K6 (h:Shd):List UInt8:=
 AB h.ref.toNat 8++(AB 2 2++(AB h.flags.toNat 3++(AB h.fmt.toNat 3++(JP h.inter++(AB 0 4++(AB h.quant.toNat 5++AB 0 1))))))
def Eh (h:Shd):List UInt8:=K6 h++IS h.supp
theorem lM (h:Shd):(K6 h).length=27:=by
 unfold K6 JP;simp only[B9,BB]
theorem eZ (h:Shd):AL (K6 h)=true:=by
 unfold K6 JP;simp only[CO,I2,Bool.and_self]
theorem Pl (h:Shd):(Eh h).length=28+9*h.supp.length:=by
 unfold Eh;rw[B9,lM,Wz];omega
theorem mZ (h:Shd):AL (Eh h)=true:=by
 unfold Eh;rw[CO,eZ,Zq];rfl
def EZ:Nat->Nat
 |0=>8
 |1=>2
 |2=>3
 |3=>3
 |4=>1
 |5=>4
 |6=>5
 |_=>1
def CN:Nat->Nat
 |0=>0
 |j+1=>CN j+EZ j
def E0 (j:Nat)(v:Nat):Int:=
 if (j=1/\v≠2)\/(j=3/\DV v=false) then 5 else if (j=5\/j=7)/\v≠0 then 6 else if j=6/\v=0 then 9 else 0
def CK (l:List UInt8)(p j:Nat):Nat:=AE l (p+CN j) (EZ j)
def PD (l:List UInt8)(p j:Nat):Int:=if 8*l.length<p+CN j+EZ j then 2 else E0 j (CK l p j)
def upS (l:List UInt8)(p:Nat):Nat->Int
 |0=>0
 |n+1=>if upS l p n≠0 then upS l p n else PD l p n
theorem Vi {l:List UInt8}{p n:Nat}(h:upS l p n≠0):upS l p (n+1)=upS l p n:=by
 rw[upS,Bc h]
theorem TE {l:List UInt8}{p n:Nat}(h:upS l p n=0):upS l p (n+1)=PD l p n:=by
 rw[upS,Bb (fun k=>k h)]
theorem Zx {l:List UInt8}{p j:Nat}(h:8*l.length<p+CN j+EZ j):PD l p j=2:=Bc h
theorem UZ {l:List UInt8}{p j:Nat}(h:p+CN j+EZ j<=8*l.length):PD l p j=E0 j (CK l p j):=Bb (by omega)
theorem R1 {l:List UInt8}{p:Nat}:∀{n:Nat},upS l p n=0↔∀j,j<n->p+CN j+EZ j<=8*l.length/\E0 j (CK l p j)=0
 |0=>⟨fun _ j hj=>absurd hj (Fk j),fun _=>rfl⟩
 |n+1=>by
  constructor
  ·intro h;by_cases a:upS l p n=0
   ·rw[TE a] at h;intro j hj;rcases (by omega:j<n\/j=n) with hj|rfl
    ·exact R1.1 a j hj
    ·by_cases hs:8*l.length<p+CN j+EZ j
     ·rw[Zx hs] at h;cases h
     ·rw[UZ (by omega)] at h;exact⟨by omega,h⟩
   ·rw[Vi a] at h;exact absurd h a
  ·intro h;have a:upS l p n=0:=R1.2 fun j hj=>h j (by omega);obtain⟨h1,h2⟩:=h n (by omega);rw[TE a,UZ h1,h2]
def CC (l:List UInt8):Nat->Nat->List Int×Nat×Int
 |0,p=>if 8*l.length<p+1 then ([],0,2) else if AE l p 1=0 then ([],p+1,0) else ([],0,13)
 |k+1,p=>if 8*l.length<p+1 then ([],0,2) else if AE l p 1=0 then ([],p+1,0)
  else if 8*l.length<p+1+8 then ([],0,2) else (((AE l (p+1) 8:Nat):Int)::(CC l k (p+9)).1,(CC l k (p+9)).2)
theorem Z1 {l:List UInt8}{p:Nat}(h:8*l.length<p+1):∀k,CC l k p=([],0,2)
 |0=>by rw[CC,Bc h]
 |k+1=>by rw[CC,Bc h]
theorem SU {l:List UInt8}{p:Nat}(h:p+1<=8*l.length)(a:AE l p 1=0):∀k,CC l k p=([],p+1,0)
 |0=>by rw[CC,Bb (by omega),Bc a]
 |k+1=>by rw[CC,Bb (by omega),Bc a]
theorem Wo {l:List UInt8}{p:Nat}(h:p+1<=8*l.length)(a:AE l p 1≠0):CC l 0 p=([],0,13):=by
 rw[CC,Bb (by omega),Bb a]
theorem YU {l:List UInt8}{p k:Nat}(h:p+1<=8*l.length)(a:AE l p 1≠0)(b:8*l.length<p+1+8):CC l (k+1) p=([],0,2):=by
 rw[CC,Bb (by omega),Bb a,Bc b]
theorem UI {l:List UInt8}{p k:Nat}(a:AE l p 1≠0)(b:p+1+8<=8*l.length):CC l (k+1) p=(((AE l (p+1) 8:Nat):Int)::(CC l k (p+9)).1,(CC l k (p+9)).2):=by
 rw[CC,Bb (by omega),Bb a,Bb (by omega)]
def LI (l:List UInt8)(p:Nat)(s:List Int):Shd:=⟨(CK l p 0:Nat),(CK l p 2:Nat),(CK l p 3:Nat),CK l p 4==1,(CK l p 6:Nat),s⟩
def D7 (l:List UInt8)(p:Nat):Int:=if p%8≠0 then 4 else if (B0 l p).2≠0 then (B0 l p).2 else if (B0 l p).1≠0 then 4 else 0
def shk (l:List UInt8)(p:Nat):Shd×Nat×Int:=
 if D7 l p≠0 then (FK,p,D7 l p) else if upS l (p+22) 8≠0 then (FK,p,upS l (p+22) 8)
 else if (CC l 8 (p+49)).2.2≠0 then (FK,p,(CC l 8 (p+49)).2.2) else (LI l (p+22) (CC l 8 (p+49)).1,(CC l 8 (p+49)).2.1,0)
theorem Rs {l:List UInt8}{p:Nat}(h:D7 l p≠0):shk l p=(FK,p,D7 l p):=Bc h
theorem Ue {l:List UInt8}{p:Nat}(h:D7 l p=0)(h1:upS l (p+22) 8≠0):shk l p=(FK,p,upS l (p+22) 8):=by
 unfold shk;rw[Bb (fun k=>k h),Bc h1]
theorem TR {l:List UInt8}{p:Nat}(h:D7 l p=0)(h1:upS l (p+22) 8=0)(h2:(CC l 8 (p+49)).2.2≠0):shk l p=(FK,p,(CC l 8 (p+49)).2.2):=by
 unfold shk;rw[Bb (fun k=>k h),Bb (fun k=>k h1),Bc h2]
theorem QV {l:List UInt8}{p:Nat}(h:D7 l p=0)(h1:upS l (p+22) 8=0)(h2:(CC l 8 (p+49)).2.2=0):shk l p=(LI l (p+22) (CC l 8 (p+49)).1,(CC l 8 (p+49)).2.1,0):=by
 unfold shk;rw[Bb (fun k=>k h),Bb (fun k=>k h1),Bb (fun k=>k h2)]
theorem Vu {l:List UInt8}:∀(s:List Int) (k p q:Nat),s.length<=k->(∀b∈s,0<=b/\b<=255)->Seg (A2 l) p q (IS s)->CC l k p=(s,q,0)
 |[],k,p,q,_,_,h=>by
  have a:Seg (A2 l) p q (AB 0 1):=h;obtain⟨h1,h2,h3⟩:=ET a (by decide);rw[SU h3 h1,h2]
 |b::s,k,p,q,hk,hb,h=>by
  obtain⟨k,rfl⟩:∃j,k=j+1:=⟨k-1,by simp only[Bh] at hk;omega⟩;have a:Seg (A2 l) p q (AB 1 1++(AB b.toNat 8++IS s)):=h;obtain⟨m,c,d⟩:=a.cut;obtain⟨t,e,f⟩:=d.cut;have g:=hb b (Fa ..);obtain⟨i,n,u⟩:=ET c (by decide);obtain⟨o,b2,b3⟩:=ET e (by show b.toNat<256;omega);subst n b2
  rw[UI (by rw[i];decide) b3,o,Vu s k (p+9) q (by simp only[Bh] at hk;omega) (fun x r=>hb x (Ez _ r)) f];rw[show ((b.toNat:Nat):Int)=b by omega]
theorem Wh:CN 0=0/\CN 1=8/\CN 2=10/\CN 3=13/\CN 4=16/\CN 5=17/\CN 6=21/\CN 7=26/\CN 8=27:=by decide
theorem cQ {l:List UInt8}{p q:Nat}{h:Shd}(hp:p%8=0)(hm:E5 h=true)(hs:Seg (A2 l) p q (BR 0++Eh h)):shk l p=(h,q,0):=by
 obtain⟨⟨r1,r2,f1,f2,q1,q2⟩,⟨m1,m2⟩,hl,o⟩:=JX.1 hm;unfold Eh K6 at hs;simp only[Bd] at hs;obtain⟨r,s,hs⟩:=hs.cut;obtain⟨p1,t,hs⟩:=hs.cut;obtain⟨p2,u,hs⟩:=hs.cut;obtain⟨p3,v,hs⟩:=hs.cut;obtain⟨w,x,hs⟩:=hs.cut;obtain⟨y,z,hs⟩:=hs.cut;obtain⟨p6,A,hs⟩:=hs.cut;obtain⟨p7,B,hs⟩:=hs.cut;obtain⟨p8,C,hs⟩:=hs.cut;have f:Seg (A2 l) p r (AB 32 22):=s
 have g:Seg (A2 l) w y (AB (if h.inter then 1 else 0) 1):=z;obtain⟨D,E,F⟩:=ET f (by decide);obtain⟨G,H,I⟩:=ET t (by show h.ref.toNat<256;omega);obtain⟨J,K,b2⟩:=ET u (by decide);obtain⟨L,M,b3⟩:=ET v (by show h.flags.toNat<8;omega);obtain⟨N,O,b4⟩:=ET x (by show h.fmt.toNat<8;omega);obtain⟨P,Q,R⟩:=ET g (by split <;> decide);obtain⟨S,T,U⟩:=ET A (by decide)
 obtain⟨V,W,X⟩:=ET B (by show h.quant.toNat<32;omega);obtain⟨Y,Z,b8⟩:=ET C (by decide);subst E H K M O Q T W Z;have v0:CK l (p+22) 0=h.ref.toNat:=G;have v1:CK l (p+22) 1=2:=J;have v2:CK l (p+22) 2=h.flags.toNat:=L;have i:CK l (p+22) 3=h.fmt.toNat:=N;have v4:CK l (p+22) 4=if h.inter then 1 else 0:=P
 have v5:CK l (p+22) 5=0:=S;have k:CK l (p+22) 6=h.quant.toNat:=V;have v7:CK l (p+22) 7=0:=Y;have hM:D7 l p=0:=by
  have e:B0 l p=(0,0):=by rw[K0 F,D];rfl
  unfold D7;rw[Bb (by omega),e]
  rfl
 have hU:upS l (p+22) 8=0:=R1.2 fun j hj=>by
  obtain⟨o0,o1,o2,o3,o4,o5,o6,o7,o8⟩:=Wh;rcases (by omega:j=0\/j=1\/j=2\/j=3\/j=4\/j=5\/j=6\/j=7) with rfl|rfl|rfl|rfl|rfl|rfl|rfl|rfl
  ·exact⟨I,by unfold E0;simp⟩
  ·exact⟨b2,by rw[v1];rfl⟩
  ·exact⟨b3,by unfold E0;simp⟩
  ·refine⟨b4,?_⟩;rw[i];unfold E0 DV;rw[Bb (by simp;omega),Bb (by simp),Bb (by simp)]
  ·exact⟨R,by unfold E0;simp⟩
  ·exact⟨U,by rw[v5];rfl⟩
  ·refine⟨X,?_⟩;rw[k];unfold E0;rw[Bb (by simp),Bb (by simp),Bb (by omega)]
  ·exact⟨b8,by rw[v7];rfl⟩
 have m:CC l 8 (p+49)=(h.supp,q,0):=Vu h.supp 8 _ q hl o hs;rw[QV hM hU (by rw[m]),m];unfold LI;rw[v0,v2,i,v4,k];obtain⟨c,a,d,inter,b,n⟩:=h;simp only at *;rw[show ((c.toNat:Nat):Int)=c by omega,show ((a.toNat:Nat):Int)=a by omega,show ((d.toNat:Nat):Int)=d by omega,show ((b.toNat:Nat):Int)=b by omega];cases inter <;> rfl
theorem aB {l:List UInt8}:∀(k p q:Nat) (s:List Int),CC l k p=(s,q,0)->Seg (A2 l) p q (IS s)/\s.length<=k/\∀b∈s,0<=b/\b<=255
 |k,p,q,s,h=>by
  by_cases h1:8*l.length<p+1
  ·rw[Z1 h1] at h;cases h
  ·by_cases a:AE l p 1=0
   ·rw[SU (by omega) a] at h;injection h with e1 e2;injection e2 with e2 e3;subst e1 e2;have g:=GN (l:=l) (p:=p) (n:=1) (by omega);rw[a] at g;exact⟨g,Ds _,fun b c=>by cases c⟩
   ·match k with
    |0=>
     rw[Wo (by omega) a] at h;cases h
    |k+1=>
     by_cases e:8*l.length<p+1+8
     ·rw[YU (by omega) a e] at h;cases h
     ·rw[UI a (by omega)] at h;injection h with e1 e2;obtain⟨f,o,i⟩:=aB k (p+9) q (CC l k (p+9)).1 (by rw[<-e2]);subst e1;have t1:AE l p 1=1:=by have:=F1 l p 1;omega
      have d:=GN (l:=l) (p:=p) (n:=1) (by omega);rw[t1] at d;have j:=GN (l:=l) (p:=p+1) (n:=8) (by omega);have m:=F1 l (p+1) 8;refine⟨d.app (j.app f),by simp only[Bh];omega,fun b c=>?_⟩;rcases Ei.1 c with rfl|c
      ·omega
      ·exact i b c
theorem VK {l:List UInt8}{p:Nat}(h:D7 l p=0):p%8=0/\p+22<=8*l.length/\AE l p 22=32:=by
 unfold D7 at h;by_cases a:p%8=0
 ·rw[Bb (by omega)] at h;by_cases h2:(B0 l p).2=0
  ·rw[Bb (fun k=>k h2)] at h;by_cases h1:(B0 l p).1=0
   ·by_cases b:p<=8*l.length
    ·by_cases hs:p+22<=8*l.length
     ·rw[K0 hs] at h1 h2;by_cases ht:AE l p 22 / 32=1
      ·rw[Bc ht] at h1;simp only at h1;exact⟨a,hs,by omega⟩
      ·rw[Bb ht] at h2;exact absurd h2 (by decide)
     ·rw[NY b (by omega)] at h2;exact absurd h2 (by decide)
    ·rw[U3 (Or.inr (by omega))] at h2;exact absurd h2 (by decide)
   ·rw[Bc h1] at h;cases h
  ·rw[Bc h2] at h;exact absurd h h2
 ·rw[Bc a] at h;cases h
theorem VT {l:List UInt8}{p q:Nat}{h:Shd}(a:shk l p=(h,q,0)):p%8=0/\E5 h=true/\Seg (A2 l) p q (BR 0++Eh h):=by
 by_cases c:D7 l p=0
 ·by_cases d:upS l (p+22) 8=0
  ·by_cases e:(CC l 8 (p+49)).2.2=0
   ·rw[QV c d e] at a;injection a with e1 e2;injection e2 with e2 _;obtain⟨t1,t2,t3⟩:=aB (l:=l) 8 (p+49) q (CC l 8 (p+49)).1 (by rw[<-e2];exact Prod.ext rfl (Prod.ext rfl e));have b:=R1.1 d;obtain⟨V,W,X,Y,Z,o5,o6,o7,o8⟩:=Wh;obtain⟨v,-⟩:=b 0 (by omega);obtain⟨w,f⟩:=b 1 (by omega);obtain⟨b2,-⟩:=b 2 (by omega);obtain⟨b3,g⟩:=b 3 (by omega);obtain⟨b4,-⟩:=b 4 (by omega)
    obtain⟨x,k⟩:=b 5 (by omega);obtain⟨y,m⟩:=b 6 (by omega);obtain⟨z,o⟩:=b 7 (by omega);have A:CK l (p+22) 1=2:=by
     unfold E0 at f
     split at f
     ·cases f
     ·simp_all
    have r:DV (CK l (p+22) 3:Nat)=true:=by
     unfold E0 at g
     split at g
     ·cases g
     ·simp_all
    have B:CK l (p+22) 5=0:=by
     unfold E0 at k;simp at k
     simp_all
    have C:CK l (p+22) 7=0:=by
     unfold E0 at o;simp at o
     simp_all
    have x6:CK l (p+22) 6≠0:=by
     unfold E0 at m;simp at m
     simp_all
    have D:=F1 l (p+22+CN 0) (EZ 0);have E:=F1 l (p+22+CN 2) (EZ 2);have F:=F1 l (p+22+CN 4) (EZ 4);have G:=F1 l (p+22+CN 6) (EZ 6);obtain⟨H,i,j⟩:=VK c;have sm:=GN (l:=l) (p:=p) (n:=22) i;rw[j] at sm;have I:=GN (l:=l) v;have s:=GN (l:=l) w;have J:=GN (l:=l) b2;have K:=GN (l:=l) b3;have L:=GN (l:=l) b4;have t:=GN (l:=l) x;have M:=GN (l:=l) y
    have u:=GN (l:=l) z;have y1:AE l (p+22+CN 1) (EZ 1)=2:=A;have N:AE l (p+22+CN 5) (EZ 5)=0:=B;have O:AE l (p+22+CN 7) (EZ 7)=0:=C;have P:CK l (p+22) 0<256:=D;have Q:CK l (p+22) 2<8:=E;have R:CK l (p+22) 4<2:=F;have S:CK l (p+22) 6<32:=G;rw[y1] at s;rw[N] at t;rw[O] at u;subst e1
    have T:Seg (A2 l) (p+22+CN 4) (p+22+CN 4+EZ 4) (JP (CK l (p+22) 4==1)):=by
     have U:(if (CK l (p+22) 4==1)=true then 1 else 0)=CK l (p+22) 4:=by
      rcases (by omega:CK l (p+22) 4=0\/CK l (p+22) 4=1) with h|h <;> rw[h] <;> rfl
     unfold JP;rw[U];exact L
    refine⟨H,JX.2 ⟨?_,?_,t2,t3⟩,?_⟩
    ·unfold LI;simp only;omega
    ·unfold DV at r;exact Fq r
    ·unfold Eh K6 LI;simp only[Dr,Bd];exact sm.app (I.app (s.app (J.app (K.app (T.app (t.app (M.app (u.app t1))))))))
   ·rw[TR c d e] at a;injection a with _ e2;injection e2 with _ e2;exact absurd e2 e
  ·rw[Ue c d] at a;injection a with _ e2;injection e2 with _ e2;exact absurd e2 d
 ·rw[Rs c] at a;injection a with _ e2;injection e2 with _ e2;exact absurd e2 c
def JE (id q:Nat):List UInt8:=AB id 2++AB q 5
theorem uP (id q:Nat):(JE id q).length=7:=by
 unfold JE;rw[B9,BB,BB]
theorem Y3i (id q:Nat):AL (JE id q)=true:=by
 unfold JE;rw[CO,I2,I2];rfl
def hdk (l:List UInt8)(p:Nat)(n:Int):Int×Int×Nat×Int:=
 if (BH l p).2=false then (0,0,p,4) else if (BH l p).1≠n then (0,0,p,10)
 else if 8*l.length<p+gap p+22+7 then (0,0,p,2)
 else if AE l (p+gap p+22+2) 5=0 then (0,0,p,9)
 else (((AE l (p+gap p+22) 2:Nat):Int),((AE l (p+gap p+22+2) 5:Nat):Int),p+gap p+22+7,0)
theorem Yx {l:List UInt8}{p:Nat}{n:Int}(h:(BH l p).2=false):hdk l p n=(0,0,p,4):=Bc h
theorem Y7 {l:List UInt8}{p:Nat}{n:Int}(h:(BH l p).2=true)(h1:(BH l p).1≠n):hdk l p n=(0,0,p,10):=by
 unfold hdk;rw[Bb (by rw[h];decide),Bc h1]
theorem WQ {l:List UInt8}{p:Nat}{n:Int}(h:(BH l p).2=true)(h1:(BH l p).1=n)(h2:8*l.length<p+gap p+22+7):hdk l p n=(0,0,p,2):=by
 unfold hdk;rw[Bb (by rw[h];decide),Bb (fun k=>k h1),Bc h2]
theorem Vq {l:List UInt8}{p:Nat}{n:Int}(h:(BH l p).2=true)(h1:(BH l p).1=n)(h2:p+gap p+22+7<=8*l.length)(h3:AE l (p+gap p+22+2) 5=0):hdk l p n=(0,0,p,9):=by
 unfold hdk;rw[Bb (by rw[h];decide),Bb (fun k=>k h1),Bb (by omega),Bc h3]
theorem US {l:List UInt8}{p:Nat}{n:Int}(h:(BH l p).2=true)(h1:(BH l p).1=n)(h2:p+gap p+22+7<=8*l.length)(h3:AE l (p+gap p+22+2) 5≠0):
  hdk l p n=(((AE l (p+gap p+22) 2:Nat):Int),((AE l (p+gap p+22+2) 5:Nat):Int),p+gap p+22+7,0):=by
 unfold hdk;rw[Bb (by rw[h];decide),Bb (fun k=>k h1),Bb (by omega),Bb h3]
theorem W1 {l:List UInt8}{p:Nat}(h:(BH l p).2=true):p+gap p+22<=8*l.length:=by
 by_cases a:p<=8*l.length
 ·by_cases b:AE l p (gap p)=0
  ·rw[Qo a b] at h;simp only[Bm] at h;by_cases hs:p+gap p+22<=8*l.length
   ·exact hs
   ·by_cases c:p+gap p<=8*l.length
    ·rw[NY c (by omega)] at h;exact absurd h (by decide)
    ·rw[U3 (Or.inr (by omega))] at h;exact absurd h (by decide)
  ·rw[Tt a b] at h;exact absurd h (by decide)
 ·rw[U8 (Or.inr (by omega))] at h;exact absurd h (by decide)
def EQ (a n id q:Nat):List UInt8:=List.replicate (gap a) 48++BR n++JE id q
theorem eX (r:List UInt8)(n id q:Nat):DS r n++JE id q=r++EQ r.length n id q:=by
 unfold DS EQ;simp only[Bd]
theorem Wg (a n id q:Nat):(EQ a n id q).length=gap a+29:=by
 unfold EQ;rw[B9,B9,Bl,GI,uP]
theorem cF (a n id q:Nat):AL (EQ a n id q)=true:=by
 unfold EQ;rw[CO,CO,OT,Ye,Y3i];rfl
theorem SR {l:List UInt8}{p:Nat}(h:(BH l p).2=true):AE l p (gap p)=0:=by
 by_cases b:p<=8*l.length
 ·by_cases a:AE l p (gap p)=0
  ·exact a
  ·rw[Tt b a] at h;exact absurd h (by decide)
 ·rw[U8 (Or.inr (by omega))] at h;exact absurd h (by decide)
set_option maxRecDepth 100000 in
theorem mE (w:A5)(c:Nat)(h:c<256):
  A9 prog 194 #[.int .u8 (c:Int)] w fun e a=>e=.returned (.int .i64 ((bitLen c:Nat):Int))/\w=a:=by
 go_enter func194,ntmps194
 go_wp2
 go_ret
 refine⟨FT ?_,rfl⟩;rw[len8tab_get];have:=bitLen_le8 c h;unfold wrap64;omega
theorem xP (w:A5)(c:Nat)(h:c<256):
  A9 prog 180 #[.int .u8 (c:Int)] w fun e b=>e=.returned (.int .i64 ((8-bitLen c:Nat):Int))/\w=b:=by
 have hm:=bitLen_le8 c h;obtain⟨y,a⟩:=Ah (bitLen c);rw[a] at hm ⊢;have Y:=Dp a;clear a
 go_enter func180,ntmps180
 go_wp2_with fail
 refine(mE _ c h).mono ?_;rintro e d ⟨rfl,rfl⟩;rw[Y.out]
 go_wp2
 go_ret
 exact⟨FT (by omega),rfl⟩
theorem fD:∀c:Fin 256,∀g:Fin 8,bits .and .u8 ((c.val:Nat):Int) (((255 / 2^g.val:Nat):Nat):Int)=((c.val%2^(8-g.val):Nat):Int):=by decide +kernel
theorem kG (w:A5)(s:ByteArray)(bit:Int)(hs:s.size<=1099511627776):
  A9 prog 161 #[.string s,.int .i64 bit] w fun e L=>e=.returned (.int .i64 ((CE s.data.toList bit:Nat):Int))/\Below w.heap.size w L:=by
 have a:s.data.toList.length=s.size:=rfl;by_cases h1:bit<0
 ·have A:=Dp (qL (l:=s.data.toList) h1)
  go_enter func161,ntmps161
  go_wp2
  go_ret
  exact⟨FT (by rw[A.out];rfl),Dq _ _⟩
 ·have d1:decide (bit<0)=false:=by simpa using h1
  by_cases h2:8*(s.size:Int)<=bit
  ·have A:=Dp (uO (l:=s.data.toList) (bit:=bit) (by rw[a];exact h2));have d2:decide (8*(s.size:Int)<=bit)=true:=by simpa using h2
   go_enter func161,ntmps161
   go_wp2
   go_ret
   exact⟨FT (by rw[A.out];rfl),Dq _ _⟩
  ·obtain⟨p,rfl⟩:=Du (by omega:0<=bit);have d2:decide (8*(s.size:Int)<=(p:Int))=false:=by simpa using h2
   have W:p<8*s.size:=by omega
   obtain⟨f,M⟩:=Ah (p / 8);obtain⟨g,N⟩:=Ah (p%8);have B:(p:Int) / 8=(f:Int):=by omega
   have C:(p:Int)%8=(g:Int):=by omega
   have o:f<s.size:=by omega
   have q:p=8*f+g:=by omega
   have D:g<8:=by omega
   have d:=Dp q;clear h1 h2 M N q
   go_enter func161,ntmps161
   go_wp2
   go_region
   go_wp2
   clear B C
   go_loopw [5,6] (fun i x wr=>∃j c:Nat,f<=j/\j<s.size/\c<256/\i=.int .i64 j/\x=.int .u8 (c:Int)/\Hid (AE s.data.toList p (8*(j+1)-p)=c)/\Below w.heap.size w wr) (fun i _ _=>s.size-(intOf i).toNat)
   case atStart=>
    have r:=fD ⟨s[f].toNat,s[f].toNat_lt⟩ ⟨g,D⟩;have E:=iO s.data.toList p f (8*(f+1)-p) (by rw[a];exact o) (by have:=d.out;omega) (by have:=d.out;omega);have t:s[f].toNat%2^(8-g)<256:=Nat.lt_of_le_of_lt (Nat.mod_le _ _) s[f].toNat_lt;refine⟨f,s[f].toNat%2^(8-g),Ba _,o,t,rfl,?_,Dp ?_,(Dq _ w).drew⟩
    ·rw[<-r];simp
    ·rw[E,show 8*(f+1)-p=8-g by have:=d.out;omega]
     rfl
   case round=>
    obtain⟨j,c,O,P,hc,rfl,rfl,T,m⟩:=hrel;by_cases k:c=0
    ·have d0:((c:Int)==0)=true:=by rw[k];rfl
     by_cases h3:j+1=s.size
     ·have A:=Dp (mF s.data.toList p (8*(j+1)-p) (by rw[a];have:=d.out;omega) (by rw[T.out,k]));have d3:((j:Int)+1==(s.size:Int))=true:=by rw[Bm];omega
      have Q:p<=8*j+8:=by have:=d.out;omega
      have K:j<=1099511627776:=by omega
      clear k
      go_wp2
      go_ret
      exact⟨FT (by rw[A.out];omega),m⟩
     ·have d3:((j:Int)+1==(s.size:Int))=false:=by rw[Fg];omega
      have u:j+1<s.size:=by omega
      have R:=Dp ((by
       have e:=LC s.data.toList p (8*(j+1)-p) 8 (by rw[a];have:=d.out;omega);rw[T.out,k,show p+(8*(j+1)-p)=8*(j+1) by have:=d.out;omega,iT _ _ (by rw[a];exact u)] at e;rw[show 8*(j+1+1)-p=8*(j+1)-p+8 by have:=d.out;omega,e,Ch,Bo]
       rfl:AE s.data.toList p (8*(j+1+1)-p)=s[j+1].toNat))
      have G:=s[j+1].toNat_lt;clear k h3
      go_wp2
      go_roundw
      case rel=>exact⟨j+1,s[j+1].toNat,by omega,u,G,by go_num,rfl,R,m⟩
      case measure=>simp[intOf];omega
    ·have d0:((c:Int)==0)=false:=by rw[Fg];omega
     have v:=bitLen_le8 c hc;have b:(((8*(j:Int)+((8-bitLen c:Nat):Int)-p):Int))=((CE s.data.toList (p:Int):Nat):Int):=by
      have z:=bitLen_spec c;have S:bitLen c≠0:=by unfold bitLen;rw[Bb k];omega
      have H:=z.2 k;have I:=F1 s.data.toList p (8*(j+1)-p);have U:bitLen c-1<8*(j+1)-p:=by
       rcases Fu (bitLen c-1) (8*(j+1)-p) with h|h
       ·exact h
       ·have:=Br (n:=2) (by omega) h;rw[T.out] at I;omega
      have A:=yL s.data.toList p (8*(j+1)-p) (bitLen c-1) (by rw[a];have:=d.out;omega) U (by rw[T.out];exact H) (by rw[T.out,show bitLen c-1+1=bitLen c by omega];exact z.1);rw[A];omega
     obtain⟨y,J⟩:=Ah (8-bitLen c);rw[J] at b;have Y:=Dp J;have F:=Dp b;have V:y<=8:=by omega
     clear b J v k
     go_wp2_with fail
     refine(xP _ c hc).mono ?_;rintro e X ⟨rfl,rfl⟩;rw[Y.out]
     go_wp2
     go_ret
     exact⟨FT (by rw[<-F.out]),m⟩
end Go.Proofs.YtjjmalchelniiaaGreatDoor