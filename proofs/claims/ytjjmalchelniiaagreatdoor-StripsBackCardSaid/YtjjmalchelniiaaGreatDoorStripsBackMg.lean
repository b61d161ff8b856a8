/- Part 7 of StripsBack. No condition. -/
import Derived.Test.YtjjmalchelniiaaGreatDoorStripsBackMb
import Derived.Test.YtjjmalchelniiaaGreatDoorStripsBackMd
import Derived.Test.YtjjmalchelniiaaGreatDoorStripsBackMe
import Derived.Test.YtjjmalchelniiaaGreatDoorStripsBackMf
import Derived.Laws.MathBits
namespace Go.Proofs.YtjjmalchelniiaaGreatDoor
open Go.RowKit
def Qjl (s:ByteArray)(p:Nat):List Value:=[.string s,.int .i64 (p:Int)]
def Yq1 (s:ByteArray)(p:Nat):Obj:=.cells (Qjl s p).toArray 91 (0,0)
def Ybc (w:World)(b:Nat)(s:ByteArray)(p:Nat):Prop:=w.heap[b]? =some (Yq1 s p)∧p≤8*s.size∧s.size≤140737488355328
theorem Ybc.cells {w:World}{b:Nat}{s:ByteArray}{p:Nat}(h:Ybc w b s p):w.cell? ⟨b,0,none⟩=some (.string s)∧w.cell? ⟨b,1,none⟩=some (.int .i64 (p:Int)):=
 ⟨Yab h.1 rfl,Yab h.1 rfl⟩
theorem Ybc.lt {w:World}{b:Nat}{s:ByteArray}{p:Nat}(h:Ybc w b s p):b<w.heap.size:=(Array.getElem?_eq_some_iff.1 h.1).1
theorem Ybc.below {w w':World}{b:Nat}{s:ByteArray}{p:Nat}(h:Ybc w b s p)(hb:Below w.heap.size w w'):Ybc w' b s p:=⟨by rw[hb.block b h.lt];exact h.1,h.2⟩
theorem Ybc.grown {w w':World}{b c:Nat}{s:ByteArray}{p:Nat}(h:Ybc w b s p)(hg:w.grownBy w' (some c))(hne:b≠c):Ybc w' b s p:=⟨by rw[hg.block b h.lt (by simpa using hne)];exact h.1,h.2⟩
theorem Ybc.fresh {w:World}{b:Nat}{s:ByteArray}(hb:w.heap.size=b)(hs:s.size≤140737488355328):Ybc (w.alloc (Yq1 s 0)) b s 0:=by
 subst hb;exact⟨heap_alloc_new w _,by omega,hs⟩
theorem Ybc.moved {w:World}{b:Nat}{s:ByteArray}{p:Nat}(h:Ybc w b s p)(q:Nat)(hq:q≤8*s.size):Ybc (w.setCell ⟨b,1,none⟩ (.int .i64 (q:Int))) b s q:=
 ⟨Yau (o:=1) _ h.1,hq,h.2.2⟩
set_option maxHeartbeats 1000000 in
theorem Ygq (w:World)(s:ByteArray):Calls Tryz.prog 27 #[.string s] w fun e w'=>e=.returned (.pointer (some ⟨w.heap.size,0,none⟩))∧w.alloc (Yq1 s 0)=w':=by
 go_enter Tryz.func27,Tryz.ntmps27
 go_wp2
 go_ret
 exact⟨rfl,rfl⟩
theorem Qjg (y c:Nat)(h:c<256)(hy:y<4294967296):bits .or .i64 ((y:Int)*256) (c:Int)=((256*y+c:Nat):Int):=by
 have hor:=Nat.two_pow_add_eq_or_of_lt (i:=8) (b:=c) (by omega) y;have e1:((y:Int)*256)=((256*y:Nat):Int):=by omega
 rw[e1];show IntKind.i64.wrap ((BitVec.ofInt 64 ((256*y:Nat):Int) ||| BitVec.ofInt 64 (c:Int)).toNat:Int)=_;rw[BitVec.ofInt_natCast,BitVec.ofInt_natCast,BitVec.toNat_or,BitVec.toNat_ofNat,BitVec.toNat_ofNat,Nat.mod_eq_of_lt (by omega),Nat.mod_eq_of_lt (by omega)];have e2:256*y ||| c=256*y+c:=by
  have e:(2:Nat)^8=256:=rfl;rw[e] at hor;exact hor.symm
 rw[e2,IntKind.wrap_i64];omega
theorem Qku (y k n:Nat)(h:n≤32):bits .and .i64 ((y:Int) / 2^k) (wrap64 (wrap64 (2^n)-1))=((y / 2^k%2^n:Nat):Int):=by
 obtain⟨h1,h2⟩:=Qf7 n h;have e1:wrap64 ((2:Int)^n)=2^n:=by unfold wrap64;omega
 have e2:wrap64 ((2:Int)^n-1)=2^n-1:=by unfold wrap64;omega
 rw[e1,e2,Yg3 _ n (by omega)];simp
set_option maxHeartbeats 1000000 in
theorem Yo7 (w:World)(b:Nat)(s:ByteArray)(p:Nat)(ni:Int)(hr:Ybc w b s p)(h1:0≤ni)(h2:ni≤32)(h3:ni≤8*(s.size:Int)-p):
  Calls Tryz.prog 155 #[.pointer (some ⟨b,0,none⟩),.int .i64 ni] w fun e w'=>e=.returned (.int .i64 ((Ya5 s.data.toList p ni.toNat:Nat):Int))∧Below w.heap.size w w':=by
 obtain⟨n,rfl⟩:=Int.eq_ofNat_of_zero_le h1;simp only[Int.toNat_natCast];obtain⟨c0,c1⟩:=hr.cells;obtain⟨_,hp,hs⟩:=hr;have n2:n≤32:=by omega
 have n3:p+n≤8*s.size:=by omega
 clear h1 h2 h3
 go_enter Tryz.func155,Tryz.ntmps155
 go_wp2
 go_region
 obtain⟨f,k,hf,hk⟩:∃f k,p / 8=f∧(p+n+7) / 8=f+k:=⟨p / 8,(p+n+7) / 8-p / 8,rfl,by omega⟩;rw[show (p:Int) / 8=(f:Int) by omega,show ((p:Int)+n+7) / 8=(f:Int)+k by omega];have hk5:k≤5:=by omega
 have hfk:f+k≤s.size:=by omega
 have hf8:8*f≤p:=by omega
 have hg8:p+n≤8*(f+k):=by omega
 have hg9:8*(f+k)≤p+n+7:=by omega
 obtain⟨l,hl⟩:∃l,s.data.toList.drop f=l:=⟨_,rfl⟩;have hll:k≤l.length:=by rw[←hl,List.length_drop];have:s.data.toList.length=s.size:=rfl;omega
 have hget:∀j,(h:j<l.length)→(h2:f+j<s.size)→l[j]=s[f+j]:=by
  intro j h h2;subst hl;rw[List.getElem_drop]
  rfl
 have hfin:Qd8 (l.take k) / 2^(8*(f+k)-p-n)%2^n=Ya5 s.data.toList p n:=by
  rw[←hl];exact Yme _ f k p n hf8 hg8 hfk
 have hbn:∀j,j≤k→Qd8 (l.take j)<256^j:=fun j hj=>Qii _ _ (by rw[List.length_take];omega);have G:=Lib.hid hget;have F:=Lib.hid hfin;have L:=Lib.hid hl;have BN:=Lib.hid hbn;have d0:w.drew.cell? ⟨b,0,none⟩=some (.string s):=c0;have d1:w.drew.cell? ⟨b,1,none⟩=some (.int .i64 (p:Int)):=c1;have hb1:Below w.heap.size w w.drew:=(Below.refl _ w).drew;clear c0 c1 hl hget hfin hbn hf hk
 generalize w.drew=w1 at d0 d1 hb1 ⊢
 go_wp2
 go_loop [7,25] (fun x i=>∃j y:Nat,j≤k∧i=.int .i64 j∧x=.int .i64 y∧Qd8 (l.take j)=y) (fun _ i=>k-(intOf i).toNat)
 case atStart=>exact⟨0,0,Nat.zero_le _,rfl,rfl,rfl⟩
 case round=>
  obtain⟨j,y,hj,rfl,rfl,hy⟩:=hrel;have Y:=Lib.hid hy;have hyb:=BN.out j hj;rw[hy] at hyb;clear hy;by_cases hlt:j<k
  ·have hy4:y<4294967296:=by
    have:256^j≤256^4:=Nat.pow_le_pow_right (by omega) (by omega);omega
   have hfj:f+j<s.size:=by omega
   have hg:=G.out j (by omega) hfj;have hst:=Y8e l j (by omega);rw[Y.out,hg] at hst;have hc:=s[f+j].toNat_lt;have ho:=Qjg y s[f+j].toNat hc hy4;have ST:=Lib.hid hst;have O:=Lib.hid ho;clear hst hg hyb ho
   go_wp2
   go_round
   case rel=>exact⟨j+1,256*y+s[f+j].toNat,by omega,by go_num,by rw[O.out],ST.out⟩
   case measure=>simp[intOf];omega
  ·obtain rfl:j=k:=by omega
   have hy5:y<1099511627776:=by
    have:256^j≤256^5:=Nat.pow_le_pow_right (by omega) (by omega);omega
   clear hyb
   go_wp2
   go_region
   go_wp2
   go_ret
   refine⟨Yd3 ?_,hb1.drew⟩;rw[Qku _ _ _ n2,←F.out,Y.out]
theorem Yh7 (w:World)(b:Nat)(s:ByteArray)(p:Nat)(hr:Ybc w b s p):
  Calls Tryz.prog 29 #[.pointer (some ⟨b,0,none⟩)] w fun e w'=>e=.returned (.int .i64 (8*(s.size:Int)-p))∧Below w.heap.size w w':=by
 obtain⟨c0,c1⟩:=hr.cells;obtain⟨_,hp,hs⟩:=hr;have hb1:Below w.heap.size w w.drew:=(Below.refl _ w).drew
 go_enter Tryz.func29,Tryz.ntmps29
 go_wp2
 go_region
 go_wp2
 go_ret
 exact⟨rfl,hb1⟩
theorem Yb7 (w:World)(b:Nat)(s:ByteArray)(p:Nat)(hr:Ybc w b s p):
  Calls Tryz.prog 28 #[.pointer (some ⟨b,0,none⟩)] w fun e w'=>e=.returned (.int .i64 (p:Int))∧w=w':=by
 obtain⟨c0,c1⟩:=hr.cells
 go_enter Tryz.func28,Tryz.ntmps28
 go_wp2
 go_ret
 exact⟨rfl,rfl⟩
theorem Ydl (w:World)(b:Nat)(s:ByteArray)(p:Nat)(hr:Ybc w b s p):
  Calls Tryz.prog 60 #[.pointer (some ⟨b,0,none⟩)] w fun e w'=>e=.returned (.string s)∧w=w':=by
 obtain⟨c0,c1⟩:=hr.cells
 go_enter Tryz.func60,Tryz.ntmps60
 go_wp2
 go_ret
 exact⟨rfl,rfl⟩
theorem Ynf {l:List UInt8}{p:Nat}{n:Int}{v c:Int}(h:ask l p n=(v,c)){k k':IntKind}:Ending.returned (.tuple #[.int k v,.int k' c])=.returned (.tuple #[.int k (ask l p n).1,.int k' (ask l p n).2]):=by rw[h]
set_option maxHeartbeats 1000000 in
theorem Ybs (w:World)(b:Nat)(s:ByteArray)(p:Nat)(n:Int)(hr:Ybc w b s p):
  Calls Tryz.prog 125 #[.pointer (some ⟨b,0,none⟩),.int .i64 n] w fun e w'=>e=.returned (.tuple #[.int .i64 (ask s.data.toList p n).1,.int .i64 (ask s.data.toList p n).2])∧Below w.heap.size w w':=by
 have hsl:s.data.toList.length=s.size:=rfl;by_cases h1:n<0
 ·have A:=Lib.hid (Y75 (l:=s.data.toList) (p:=p) (n:=n) (.inl h1))
  go_enter Tryz.func125,Tryz.ntmps125
  go_wp2
  go_ret2
  exact⟨Ynf A.out,Below.refl _ _⟩
 ·by_cases h2:32<n
  ·have A:=Lib.hid (Y75 (l:=s.data.toList) (p:=p) (n:=n) (.inr h2))
   go_enter Tryz.func125,Tryz.ntmps125
   go_wp2
   go_ret2
   exact⟨Ynf A.out,Below.refl _ _⟩
  ·have d1:decide (n<0)=false:=by simpa using h1
   have d2:decide (32<n)=false:=by simpa using h2
   by_cases h3:8*(s.size:Int)-p<n
   ·have A:=Lib.hid (Ybp (l:=s.data.toList) (p:=p) (n:=n) (by omega) (by rw[hsl];exact h3));have d3:decide (8*(s.size:Int)-p<n)=true:=by simpa using h3
    go_enter Tryz.func125,Tryz.ntmps125
    go_wp2_with fail
    refine(Yh7 _ _ _ _ hr).mono ?_;rintro e w1 ⟨rfl,hb⟩
    go_wp2
    go_ret2
    exact⟨Ynf A.out,hb⟩
   ·have A:=Lib.hid (Yda (l:=s.data.toList) (p:=p) (n:=n) (by omega) (by rw[hsl];omega));have d3:decide (8*(s.size:Int)-p<n)=false:=by simpa using h3
    go_enter Tryz.func125,Tryz.ntmps125
    go_wp2_with fail
    refine(Yh7 _ _ _ _ hr).mono ?_;rintro e w1 ⟨rfl,hb⟩;have hr1:=hr.below hb;have hz:=hb.size
    go_wp2_with fail
    refine(Yo7 _ _ _ _ _ hr1 (by omega) (by omega) (by omega)).mono ?_;rintro e w2 ⟨rfl,hb2⟩
    go_wp2
    go_ret2
    exact⟨Ynf A.out,hb.trans (hb2.mono hz)⟩
theorem Y76 (l:List UInt8)(p:Nat)(n:Int):(ask l p n).2=1∨(ask l p n).2=2∨((ask l p n).2=0∧0≤n∧n≤32∧n≤8*(l.length:Int)-p):=by
 unfold ask
 split
 ·exact .inl rfl
 ·split
  ·exact .inr (.inl rfl)
  ·exact .inr (.inr ⟨rfl,by omega⟩)
set_option maxHeartbeats 1000000 in
theorem Yc0 (w:World)(b:Nat)(s:ByteArray)(p:Nat)(n:Int)(hr:Ybc w b s p):
  Calls Tryz.prog 92 #[.pointer (some ⟨b,0,none⟩),.int .i64 n] w fun e w'=>e=.returned (.tuple #[.int .i64 (ask s.data.toList p n).1,.int .i64 (ask s.data.toList p n).2])∧Ybc w' b s (Yc3 s.data.toList p n)∧w.grownBy w' (some b):=by
 have hrg:=Y76 s.data.toList p n;have hto:Yc3 s.data.toList p n=if (ask s.data.toList p n).2=0 then p+n.toNat else p:=rfl
 have hsl:s.data.toList.length=s.size:=rfl;rw[hto];generalize hq:ask s.data.toList p n=q at hrg ⊢;obtain⟨v,c⟩:=q;have Q:=Lib.hid hq;clear hq hto
 go_enter Tryz.func92,Tryz.ntmps92
 go_wp2_with fail
 refine(Ybs _ _ _ _ _ hr).mono ?_;rintro e w1 ⟨rfl,hb⟩;rw[Q.out];have hr1:=hr.below hb;have hg1:w.grownBy w1 (some b):=⟨hb.os,hb.tape,hb.output,hb.size,fun k hk _=>hb.block k hk⟩;by_cases h0:c=0
 ·subst h0;have hn:0≤n∧n≤32∧n≤8*(s.size:Int)-p:=by
   rcases hrg with h|h|h
   ·cases h
   ·cases h
   ·exact⟨h.2.1,h.2.2.1,by rw[←hsl];exact h.2.2.2⟩
  obtain⟨n0,n1,n2⟩:=hn;obtain⟨c0,c1⟩:=hr1.cells;have hfr:=Yaj (o:=1) hr1.1;have hm:=hr1.moved (p+n.toNat) (by omega);have hg2:=Yap w1 ⟨b,1,none⟩ (.int .i64 ((p+n.toNat:Nat):Int));have hnn:((p+n.toNat:Nat):Int)=(p:Int)+n:=by omega
  rw[hnn] at hm hg2;have hps:p≤1125899906842624:=by have:=hr.2;omega
  clear hrg
  go_wp2
  go_ret2
  exact⟨rfl,hm,Yac hg1 hg2⟩
 ·have d0:(c==0)=false:=by rw[beq_eq_false_iff_ne];exact h0
  go_wp2
  go_ret2
  exact⟨rfl,hr1,hg1⟩
theorem Ywm {l:List UInt8}{p:Nat}{v c:Int}(h:Yh4 l p=(v,c)){k k':IntKind}:Ending.returned (.tuple #[.int k v,.int k' c])=.returned (.tuple #[.int k (Yh4 l p).1,.int k' (Yh4 l p).2]):=by rw[h]
theorem Y2g {p n:Nat}(h:p≤8*n):p+gap p≤8*n:=by unfold gap;omega
theorem Y2h (p:Nat):gap p<8:=by unfold gap;omega
set_option maxHeartbeats 1000000 in
theorem Yl2 (w:World)(b:Nat)(s:ByteArray)(p:Nat)(hr:Ybc w b s p):
  Calls Tryz.prog 159 #[.pointer (some ⟨b,0,none⟩)] w fun e w'=>e=.returned (.tuple #[.int .i64 (Yh4 s.data.toList p).1,.int .i64 (Yh4 s.data.toList p).2])∧Ybc w' b s (Ymn s.data.toList p)∧w.grownBy w' (some b):=by
 obtain⟨c0,c1⟩:=hr.cells;have hp:=hr.2.1;have hs:=hr.2.2;have hgf:=Y2g hp;obtain⟨g,hg⟩:∃g,gap p=g:=⟨_,rfl⟩;have hg7:g<8:=by rw[←hg];exact Y2h p
 have eg:7-((p:Int)+7)%8=(g:Int):=by rw[←hg];unfold gap;omega
 have hto:Ymn s.data.toList p=if Ya5 s.data.toList p g=0 then p+g else p:=by unfold Ymn;rw[hg]
 have hof:Yh4 s.data.toList p=if Ya5 s.data.toList p g=0 then ((g:Int),0) else (0,5):=by unfold Yh4;rw[hg]
 rw[hg] at hgf;obtain⟨q,hq⟩:∃q,Ymn s.data.toList p=q:=⟨_,rfl⟩;rw[hq];rw[hq] at hto;have TO:=Lib.hid hto;have OF:=Lib.hid hof;have EG:=Lib.hid eg;clear hto hof eg hg hq
 go_enter Tryz.func159,Tryz.ntmps159
 go_wp2_with fail
 rw[EG.out];refine(Yo7 _ _ _ _ (g:Int) hr (by omega) (by omega) (by omega)).mono ?_;rintro e w1 ⟨rfl,hb⟩;rw[Int.toNat_natCast];have hr1:=hr.below hb;have hg1:w.grownBy w1 (some b):=⟨hb.os,hb.tape,hb.output,hb.size,fun k hk _=>hb.block k hk⟩;by_cases h0:Ya5 s.data.toList p g=0
 ·have d0:(((Ya5 s.data.toList p g:Nat):Int) != 0)=false:=by rw[h0];rfl
  obtain⟨q0,q1⟩:=hr1.cells;have hfr:=Yaj (o:=1) hr1.1;have hm:=hr1.moved (p+g) (by omega);have hg2:=Yap w1 ⟨b,1,none⟩ (.int .i64 ((p+g:Nat):Int));rw[show ((p+g:Nat):Int)=(p:Int)+g by omega] at hm hg2;have A:=Lib.hid (OF.out.trans (if_pos h0));obtain rfl:q=p+g:=TO.out.trans (if_pos h0);clear TO;clear h0 c0 c1
  go_wp2
  go_ret2
  exact⟨Ywm A.out,hm,Yac hg1 hg2⟩
 ·have d0:(((Ya5 s.data.toList p g:Nat):Int) != 0)=true:=by rw[bne_iff_ne];omega
  have A:=Lib.hid (OF.out.trans (if_neg h0));obtain rfl:q=p:=TO.out.trans (if_neg h0);clear TO;clear h0
  go_wp2
  go_ret2
  exact⟨Ywm A.out,hr1,hg1⟩
set_option maxHeartbeats 1000000 in
theorem Yb3 (w:World)(b:Nat)(s:ByteArray)(p:Nat)(n:Int)(hr:Ybc w b s p)(h1:0≤n)(h2:n≤8*(s.size:Int)):
  Calls Tryz.prog 91 #[.pointer (some ⟨b,0,none⟩),.int .i64 n] w fun e w'=>e=.returned (.int .i64 0)∧Ybc w' b s n.toNat∧w.grownBy w' (some b):=by
 obtain⟨c0,c1⟩:=hr.cells;have hs:=hr.2.2;have hfr:=Yaj (o:=1) hr.1;have hm:=hr.moved n.toNat (by omega);have hg:=Yap w ⟨b,1,none⟩ (.int .i64 ((n.toNat:Nat):Int));rw[show ((n.toNat:Nat):Int)=n by omega] at hm hg;have d1:decide (n<0)=false:=by simpa using h1
 have d2:decide (8*(s.size:Int)<n)=false:=by simpa using h2
 go_enter Tryz.func91,Tryz.ntmps91
 go_wp2
 go_ret
 exact⟨rfl,hm,hg⟩
set_option maxHeartbeats 1000000 in
theorem Y28 (w:World)(b:Nat)(s:ByteArray)(p:Nat)(n:Int)(hr:Ybc w b s p)(h:n<0∨8*(s.size:Int)<n):
  Calls Tryz.prog 91 #[.pointer (some ⟨b,0,none⟩),.int .i64 n] w fun e w'=>e=.returned (.int .i64 1)∧w=w':=by
 obtain⟨c0,c1⟩:=hr.cells;have hs:=hr.2.2;by_cases h1:n<0
 ·have d1:decide (n<0)=true:=by simpa using h1
  go_enter Tryz.func91,Tryz.ntmps91
  go_wp2
  go_ret
  exact⟨rfl,rfl⟩
 ·have d1:decide (n<0)=false:=by simpa using h1
  have d2:decide (8*(s.size:Int)<n)=true:=by simp;omega
  clear h
  go_enter Tryz.func91,Tryz.ntmps91
  go_wp2
  go_ret
  exact⟨rfl,rfl⟩
section
attribute [local irreducible] Yee
theorem Ymp:∀l:List UInt8,Yax l=true→(num l=0↔∀i (h:i<l.length),l[i]=48)
 |[],_=>⟨fun _ i h=>absurd h (Nat.not_lt_zero i),fun _=>by unfold num;rw[Yfy]⟩
 |c::l,h=>by
  obtain⟨hc,hl⟩:=Yrq h;rw[Yuc];have hp:0<2^l.length:=Nat.two_pow_pos _;have ih:=Ymp l hl;constructor
  ·intro h0 i hi;have h1:(c.toNat-48)*2^l.length=0:=by omega
   have h2:num l=0:=by omega
   have h3:c.toNat-48=0:=by
    rcases Nat.mul_eq_zero.1 h1 with e|e
    ·exact e
    ·omega
   match i,hi with
   |0,_=>
    rcases hc with e|e
    ·exact e
    ·rw[e] at h3;cases h3
   |i+1,hi=>exact ih.1 h2 i (by simpa using hi)
  ·intro h0;have e0:c=48:=h0 0 (by simp);have e1:num l=0:=ih.2 fun i hi=>h0 (i+1) (by simpa using hi);rw[e0,e1,show ((48:UInt8).toNat-48)=0 from rfl,Nat.zero_mul]
theorem Yci (l:List UInt8)(p n:Nat)(h:p+n≤8*l.length):Ya5 l p n=0↔∀i,i<n→(Yae l)[p+i]? =some 48:=by
 have hr:=Ydx l;have hl:=Yah l;unfold Ya5;generalize Yae l=S at hr hl;rw[Ymp _ (Ycc _ _ (Ybg _ _ hr))];have hlen:((S.drop p).take n).length=n:=by rw[List.length_take,List.length_drop];omega
 constructor
 ·intro h0 i hi;have:=h0 i (by omega);rw[List.getElem_take,List.getElem_drop] at this;rw[List.getElem?_eq_getElem (by omega),this]
 ·intro h0 i hi;have:=h0 i (by omega);rw[List.getElem?_eq_getElem (by omega)] at this;rw[List.getElem_take,List.getElem_drop];exact Option.some.inj this
end
def Yaz (l:List UInt8)(bit:Int):Int×Int:=
 if bit<0∨8*(l.length:Int)<bit then (0,1) else if 8*(l.length:Int)-bit<22 then (0,2)
 else if Ya5 l bit.toNat 22 / 32=1 then (((Ya5 l bit.toNat 22%32:Nat):Int),0) else (0,4)
theorem Yt4 {l:List UInt8}{bit:Int}(h:bit<0∨8*(l.length:Int)<bit):Yaz l bit=(0,1):=if_pos h
theorem Yet {l:List UInt8}{p:Nat}(h:p≤8*l.length)(h2:8*l.length<p+22):Yaz l p=(0,2):=by
 unfold Yaz;rw[if_neg (by omega),if_pos (by omega)]
theorem Yfb {l:List UInt8}{p:Nat}(h:p+22≤8*l.length):Yaz l p=if Ya5 l p 22 / 32=1 then (((Ya5 l p 22%32:Nat):Int),0) else (0,4):=by
 unfold Yaz;rw[if_neg (by omega),if_neg (by omega),Int.toNat_natCast]
def Ya9 (l:List UInt8)(bit:Int):Int×Bool:=
 if bit<0∨8*(l.length:Int)<bit then (0,false) else if Ya5 l bit.toNat (gap bit.toNat)=0 then
  ((Yaz l ((bit.toNat+gap bit.toNat:Nat):Int)).1,(Yaz l ((bit.toNat+gap bit.toNat:Nat):Int)).2==0) else (0,false)
theorem Yt9 {l:List UInt8}{bit:Int}(h:bit<0∨8*(l.length:Int)<bit):Ya9 l bit=(0,false):=if_pos h
theorem Yo3 {l:List UInt8}{p:Nat}(h:p≤8*l.length)(h2:Ya5 l p (gap p)=0):Ya9 l p=((Yaz l ((p+gap p:Nat):Int)).1,(Yaz l ((p+gap p:Nat):Int)).2==0):=by
 unfold Ya9;rw[if_neg (by omega),Int.toNat_natCast,if_pos h2]
theorem Yub {l:List UInt8}{p:Nat}(h:p≤8*l.length)(h2:Ya5 l p (gap p)≠0):Ya9 l p=(0,false):=by
 unfold Ya9;rw[if_neg (by omega),Int.toNat_natCast,if_neg h2]
def Yba (l:List UInt8)(bit:Int):Nat:=if bit<0 then 0 else (((Yae l).drop bit.toNat).takeWhile (· == 48)).length
theorem Yoy:∀(L:List UInt8) (n:Nat),(∀i,i<n→L[i]? =some 48)→L[n]?≠some 48→(L.takeWhile (· == 48)).length=n
 |[],0,_,_=>rfl
 |[],_+1,h,_=>by have:=h 0 (Nat.succ_pos _);cases this
 |c::L,0,_,h=>by
  have hc:¬ c=48:=fun e=>h (by rw[e];rfl);rw[List.takeWhile_cons_of_neg (by simpa using hc)];rfl
 |c::L,n+1,h,h2=>by
  have hc:c=48:=by have:=h 0 (Nat.succ_pos _);injection this
  rw[List.takeWhile_cons_of_pos (by simpa using hc),List.length_cons,Yoy L n (fun i hi=>h (i+1) (by omega)) h2]
theorem Yxb {l:List UInt8}{bit:Int}(h:bit<0):Yba l bit=0:=if_pos h
theorem Yxd {l:List UInt8}{bit:Int}(h:8*(l.length:Int)≤bit):Yba l bit=0:=by
 unfold Yba;rw[if_neg (by omega),List.drop_eq_nil_of_le (by rw[Yah];omega)]
 rfl
theorem Yjy {l:List UInt8}{p n:Nat}(h:∀i,i<n→(Yae l)[p+i]? =some 48)(h2:(Yae l)[p+n]?≠some 48):Yba l p=n:=by
 unfold Yba;rw[if_neg (by omega),Int.toNat_natCast];exact Yoy _ n (fun i hi=>by rw[List.getElem?_drop];exact h i hi) (by rw[List.getElem?_drop];exact h2)
theorem Yej (l:List UInt8)(p m n:Nat)(h:p+m+n≤8*l.length):Ya5 l p (m+n)=Ya5 l p m*2^n+Ya5 l (p+m) n:=by
 have hl:=Yah l;unfold Ya5;rw[List.take_add,Yeu,List.drop_drop]
 congr 3
 rw[List.length_take,List.length_drop];omega
theorem Qcw (l:List UInt8)(j:Nat)(h:j<l.length):Ya5 l (8*j) 8=l[j].toNat:=by
 have e:=Yme l j 1 (8*j) 8 (by omega) (by omega) (by omega);rw[←e,List.drop_eq_getElem_cons h];have:=l[j].toNat_lt;show Yn5 0 [l[j]] / 2^(8*(j+1)-8*j-8)%2^8=_;rw[show 8*(j+1)-8*j-8=0 by omega];show (256*0+l[j].toNat) / 2^0%2^8=_;omega
theorem Qg3 (l:List UInt8)(p j n:Nat)(h:j<l.length)(h1:8*j≤p)(h2:p+n=8*(j+1)):Ya5 l p n=l[j].toNat%2^n:=by
 have e:=Yme l j 1 p n h1 (by omega) (by omega);rw[←e,List.drop_eq_getElem_cons h];show Yn5 0 [l[j]] / 2^(8*(j+1)-p-n)%2^n=_;rw[show 8*(j+1)-p-n=0 by omega];show (256*0+l[j].toNat) / 2^0%2^n=_;rw[Nat.pow_zero,Nat.div_one,Nat.mul_zero,Nat.zero_add]
theorem Yxa (l:List UInt8)(p m k:Nat)(h:p+m≤8*l.length)(hk:k<m)(h1:2^k≤Ya5 l p m)(h2:Ya5 l p m<2^(k+1)):Yba l p=m-(k+1):=by
 have e1:=Yej l p (m-(k+1)) (k+1) (by omega);have e2:=Yej l p (m-k) k (by omega);rw[show m-(k+1)+(k+1)=m by omega] at e1;rw[show m-k+k=m by omega] at e2;have l2:=Ych l (p+(m-k)) k;have z1:Ya5 l p (m-(k+1))=0:=by
  rcases Nat.eq_zero_or_pos (Ya5 l p (m-(k+1))) with h|h
  ·exact h
  ·have:=Nat.mul_le_mul_right (2^(k+1)) h;omega
 have z2:Ya5 l p (m-k)≠0:=by
  intro h;rw[h,Nat.zero_mul,Nat.zero_add] at e2;omega
 have n1:=(Yci l p _ (by omega)).1 z1;have n2:=fun h=>z2 ((Yci l p _ (by omega)).2 h);refine Yjy n1 fun h=>n2 fun i hi=>?_;rcases Nat.lt_or_ge i (m-(k+1)) with h3|h3
 ·exact n1 i h3
 ·rw[show i=m-(k+1) by omega];exact h
theorem Y0q (l:List UInt8)(p m:Nat)(h:p+m=8*l.length)(h0:Ya5 l p m=0):Yba l p=m:=
 Yjy ((Yci l p m (by omega)).1 h0) (by rw[List.getElem?_eq_none (by rw[Yah];omega)];exact fun h=>by cases h)
def hit (l:List UInt8)(i:Nat):Bool:=(Yaz l ((8*i:Nat):Int)).2==0&&((Yaz l ((8*i:Nat):Int)).1==0 || (Yaz l ((8*i:Nat):Int)).1==31)
def Ybr (n:Nat):List UInt8:=Yav (32+n) 22
theorem Y5m (n:Nat):Yav (((32+n:Nat):Int)).toNat (22:Int).toNat=Ybr n:=rfl
theorem Ybd (n:Nat):(Ybr n).length=22:=Yan _ _
theorem Yo0 (n:Nat):Yax (Ybr n)=true:=Ycy _ _
def Yc5 (r:List UInt8)(n:Nat):List UInt8:=r++List.replicate (gap r.length) 48++Ybr n
theorem Yg4 (r:List UInt8)(n:Nat):(Yc5 r n).length=r.length+gap r.length+22:=by
 unfold Yc5;rw[List.length_append,List.length_append,List.length_replicate,Ybd]
structure Shd where
 ref:Int
 flags:Int
 fmt:Int
 inter:Bool
 quant:Int
 supp:List Int
def Yuk:Shd:=⟨0,0,0,false,0,[]⟩
def Yhj (b:Int):Bool:=decide (0≤b∧b≤255)
def Yep (h:Shd):Bool:=decide (0≤h.ref∧h.ref≤255∧0≤h.flags∧h.flags≤7∧1≤h.quant∧h.quant≤31)&&Yg6 h.fmt&&(decide (h.supp.length≤8)&&h.supp.all Yhj)
theorem Yd6 {h:Shd}:Yep h=true↔(0≤h.ref∧h.ref≤255∧0≤h.flags∧h.flags≤7∧1≤h.quant∧h.quant≤31)∧(1≤h.fmt∧h.fmt≤6)∧h.supp.length≤8∧∀b∈h.supp,0≤b∧b≤255:=by
 unfold Yep Yhj Yg6;simp only[Bool.and_eq_true,decide_eq_true_iff,List.all_eq_true];constructor
 ·rintro⟨⟨a,b⟩,c,d⟩;exact⟨a,b,c,d⟩
 ·rintro⟨a,b,c,d⟩;exact⟨⟨a,b⟩,c,d⟩
def Yma:List Int→List UInt8
 |[]=>[48]
 |b::l=>49::(Yav b.toNat 8++Yma l)
theorem Ymy:∀l:List Int,(Yma l).length=9*l.length+1
 |[]=>rfl
 |b::l=>by
  rw[Yma,List.length_cons,List.length_append,Yan,Ymy l,List.length_cons];omega
theorem Yyb:∀l:List Int,Yax (Yma l)=true
 |[]=>rfl
 |b::l=>by
  rw[Yma,show ((49:UInt8)::(Yav b.toNat 8++Yma l))=[49]++(Yav b.toNat 8++Yma l) from rfl,Yar,Yar,Ycy,Yyb l];rfl
def Qkc (b:Bool):List UInt8:=Yav (if b then 1 else 0) 1
def Yk3 (h:Shd):List UInt8:=
 Yav h.ref.toNat 8++(Yav 2 2++(Yav h.flags.toNat 3++(Yav h.fmt.toNat 3++(Qkc h.inter++(Yav 0 4++(Yav h.quant.toNat 5++Yav 0 1))))))
def Ydn (h:Shd):List UInt8:=Yk3 h++Yma h.supp
theorem Yui (h:Shd):(Yk3 h).length=27:=by
 unfold Yk3 Qkc;simp only[List.length_append,Yan]
theorem Y6l (h:Shd):Yax (Yk3 h)=true:=by
 unfold Yk3 Qkc;simp only[Yar,Ycy,Bool.and_self]
theorem Yfn (h:Shd):(Ydn h).length=28+9*h.supp.length:=by
 unfold Ydn;rw[List.length_append,Yui,Ymy];omega
theorem Y6m (h:Shd):Yax (Ydn h)=true:=by
 unfold Ydn;rw[Yar,Y6l,Yyb];rfl
def Yqk:Nat→Nat
 |0=>8
 |1=>2
 |2=>3
 |3=>3
 |4=>1
 |5=>4
 |6=>5
 |_=>1
def Yic:Nat→Nat
 |0=>0
 |j+1=>Yic j+Yqk j
def Ymi (j:Nat)(v:Nat):Int:=
 if (j=1∧v≠2)∨(j=3∧Yg6 v=false) then 5 else if (j=5∨j=7)∧v≠0 then 6 else if j=6∧v=0 then 9 else 0
def Yhq (l:List UInt8)(p j:Nat):Nat:=Ya5 l (p+Yic j) (Yqk j)
def Qa8 (l:List UInt8)(p j:Nat):Int:=if 8*l.length<p+Yic j+Yqk j then 2 else Ymi j (Yhq l p j)
def upS (l:List UInt8)(p:Nat):Nat→Int
 |0=>0
 |n+1=>if upS l p n≠0 then upS l p n else Qa8 l p n
theorem Y3r {l:List UInt8}{p n:Nat}(h:upS l p n≠0):upS l p (n+1)=upS l p n:=by
 rw[upS,if_pos h]
theorem Yu4 {l:List UInt8}{p n:Nat}(h:upS l p n=0):upS l p (n+1)=Qa8 l p n:=by
 rw[upS,if_neg (fun k=>k h)]
theorem Ypg {l:List UInt8}{p j:Nat}(h:8*l.length<p+Yic j+Yqk j):Qa8 l p j=2:=if_pos h
theorem Yue {l:List UInt8}{p j:Nat}(h:p+Yic j+Yqk j≤8*l.length):Qa8 l p j=Ymi j (Yhq l p j):=if_neg (by omega)
theorem Yns {l:List UInt8}{p:Nat}:∀{n:Nat},upS l p n=0↔∀j,j<n→p+Yic j+Yqk j≤8*l.length∧Ymi j (Yhq l p j)=0
 |0=>⟨fun _ j hj=>absurd hj (Nat.not_lt_zero j),fun _=>rfl⟩
 |n+1=>by
  constructor
  ·intro h;by_cases h0:upS l p n=0
   ·rw[Yu4 h0] at h;intro j hj;rcases (by omega:j<n∨j=n) with hj|rfl
    ·exact Yns.1 h0 j hj
    ·by_cases hs:8*l.length<p+Yic j+Yqk j
     ·rw[Ypg hs] at h;cases h
     ·rw[Yue (by omega)] at h;exact⟨by omega,h⟩
   ·rw[Y3r h0] at h;exact absurd h h0
  ·intro h;have h0:upS l p n=0:=Yns.2 fun j hj=>h j (by omega);obtain⟨h1,h2⟩:=h n (by omega);rw[Yu4 h0,Yue h1,h2]
def Ycz (l:List UInt8):Nat→Nat→List Int×Nat×Int
 |0,p=>if 8*l.length<p+1 then ([],0,2) else if Ya5 l p 1=0 then ([],p+1,0) else ([],0,13)
 |k+1,p=>if 8*l.length<p+1 then ([],0,2) else if Ya5 l p 1=0 then ([],p+1,0)
  else if 8*l.length<p+1+8 then ([],0,2) else (((Ya5 l (p+1) 8:Nat):Int)::(Ycz l k (p+9)).1,(Ycz l k (p+9)).2)
theorem Ysp {l:List UInt8}{p:Nat}(h:8*l.length<p+1):∀k,Ycz l k p=([],0,2)
 |0=>by rw[Ycz,if_pos h]
 |k+1=>by rw[Ycz,if_pos h]
theorem Yp3 {l:List UInt8}{p:Nat}(h:p+1≤8*l.length)(h0:Ya5 l p 1=0):∀k,Ycz l k p=([],p+1,0)
 |0=>by rw[Ycz,if_neg (by omega),if_pos h0]
 |k+1=>by rw[Ycz,if_neg (by omega),if_pos h0]
theorem Yso {l:List UInt8}{p:Nat}(h:p+1≤8*l.length)(h0:Ya5 l p 1≠0):Ycz l 0 p=([],0,13):=by
 rw[Ycz,if_neg (by omega),if_neg h0]
theorem Yye {l:List UInt8}{p k:Nat}(h:p+1≤8*l.length)(h0:Ya5 l p 1≠0)(h8:8*l.length<p+1+8):Ycz l (k+1) p=([],0,2):=by
 rw[Ycz,if_neg (by omega),if_neg h0,if_pos h8]
theorem Ymb {l:List UInt8}{p k:Nat}(h0:Ya5 l p 1≠0)(h8:p+1+8≤8*l.length):Ycz l (k+1) p=(((Ya5 l (p+1) 8:Nat):Int)::(Ycz l k (p+9)).1,(Ycz l k (p+9)).2):=by
 rw[Ycz,if_neg (by omega),if_neg h0,if_neg (by omega)]
def Yuj (l:List UInt8)(p:Nat)(s:List Int):Shd:=⟨(Yhq l p 0:Nat),(Yhq l p 2:Nat),(Yhq l p 3:Nat),Yhq l p 4==1,(Yhq l p 6:Nat),s⟩
def Ycd (l:List UInt8)(p:Nat):Int:=if p%8≠0 then 4 else if (Yaz l p).2≠0 then (Yaz l p).2 else if (Yaz l p).1≠0 then 4 else 0
def shk (l:List UInt8)(p:Nat):Shd×Nat×Int:=
 if Ycd l p≠0 then (Yuk,p,Ycd l p) else if upS l (p+22) 8≠0 then (Yuk,p,upS l (p+22) 8)
 else if (Ycz l 8 (p+49)).2.2≠0 then (Yuk,p,(Ycz l 8 (p+49)).2.2) else (Yuj l (p+22) (Ycz l 8 (p+49)).1,(Ycz l 8 (p+49)).2.1,0)
theorem Yno {l:List UInt8}{p:Nat}(h:Ycd l p≠0):shk l p=(Yuk,p,Ycd l p):=if_pos h
theorem Yul {l:List UInt8}{p:Nat}(h:Ycd l p=0)(h1:upS l (p+22) 8≠0):shk l p=(Yuk,p,upS l (p+22) 8):=by
 unfold shk;rw[if_neg (fun k=>k h),if_pos h1]
theorem Yum {l:List UInt8}{p:Nat}(h:Ycd l p=0)(h1:upS l (p+22) 8=0)(h2:(Ycz l 8 (p+49)).2.2≠0):shk l p=(Yuk,p,(Ycz l 8 (p+49)).2.2):=by
 unfold shk;rw[if_neg (fun k=>k h),if_neg (fun k=>k h1),if_pos h2]
theorem Y3b {l:List UInt8}{p:Nat}(h:Ycd l p=0)(h1:upS l (p+22) 8=0)(h2:(Ycz l 8 (p+49)).2.2=0):shk l p=(Yuj l (p+22) (Ycz l 8 (p+49)).1,(Ycz l 8 (p+49)).2.1,0):=by
 unfold shk;rw[if_neg (fun k=>k h),if_neg (fun k=>k h1),if_neg (fun k=>k h2)]
theorem Yp4 {l:List UInt8}:∀(s:List Int) (k p q:Nat),s.length≤k→(∀b∈s,0≤b∧b≤255)→Seg (Yae l) p q (Yma s)→Ycz l k p=(s,q,0)
 |[],k,p,q,_,_,h=>by
  have h':Seg (Yae l) p q (Yav 0 1):=h;obtain⟨h1,h2,h3⟩:=Ybw h' (by decide);rw[Yp3 h3 h1,h2]
 |b::s,k,p,q,hk,hb,h=>by
  obtain⟨k,rfl⟩:∃j,k=j+1:=⟨k-1,by simp only[List.length_cons] at hk;omega⟩;have h':Seg (Yae l) p q (Yav 1 1++(Yav b.toNat 8++Yma s)):=h;obtain⟨m,g1,g2⟩:=h'.cut;obtain⟨m2,g3,g4⟩:=g2.cut;have hb0:=hb b (List.mem_cons_self ..);obtain⟨a1,a2,a3⟩:=Ybw g1 (by decide);obtain⟨b1,b2,b3⟩:=Ybw g3 (by show b.toNat<256;omega);subst a2 b2
  rw[Ymb (by rw[a1];decide) b3,b1,Yp4 s k (p+9) q (by simp only[List.length_cons] at hk;omega) (fun x hx=>hb x (List.mem_cons_of_mem _ hx)) g4];rw[show ((b.toNat:Nat):Int)=b by omega]
theorem Qax:Yic 0=0∧Yic 1=8∧Yic 2=10∧Yic 3=13∧Yic 4=16∧Yic 5=17∧Yic 6=21∧Yic 7=26∧Yic 8=27:=by decide
theorem Qb9 {l:List UInt8}{p q:Nat}{h:Shd}(hp:p%8=0)(hm:Yep h=true)(hs:Seg (Yae l) p q (Ybr 0++Ydn h)):shk l p=(h,q,0):=by
 obtain⟨⟨r1,r2,f1,f2,q1,q2⟩,⟨m1,m2⟩,hl,hb⟩:=Yd6.1 hm;unfold Ydn Yk3 at hs;simp only[List.append_assoc] at hs;obtain⟨p0,g0,hs⟩:=hs.cut;obtain⟨p1,g1,hs⟩:=hs.cut;obtain⟨p2,g2,hs⟩:=hs.cut;obtain⟨p3,g3,hs⟩:=hs.cut;obtain⟨p4,g4,hs⟩:=hs.cut;obtain⟨p5,g5,hs⟩:=hs.cut;obtain⟨p6,g6,hs⟩:=hs.cut;obtain⟨p7,g7,hs⟩:=hs.cut;obtain⟨p8,g8,hs⟩:=hs.cut;have g0':Seg (Yae l) p p0 (Yav 32 22):=g0
 have g5':Seg (Yae l) p4 p5 (Yav (if h.inter then 1 else 0) 1):=g5;obtain⟨a0,e0,b0⟩:=Ybw g0' (by decide);obtain⟨a1,e1,b1⟩:=Ybw g1 (by show h.ref.toNat<256;omega);obtain⟨a2,e2,b2⟩:=Ybw g2 (by decide);obtain⟨a3,e3,b3⟩:=Ybw g3 (by show h.flags.toNat<8;omega);obtain⟨a4,e4,b4⟩:=Ybw g4 (by show h.fmt.toNat<8;omega);obtain⟨a5,e5,b5⟩:=Ybw g5' (by split <;> decide);obtain⟨a6,e6,b6⟩:=Ybw g6 (by decide)
 obtain⟨a7,e7,b7⟩:=Ybw g7 (by show h.quant.toNat<32;omega);obtain⟨a8,e8,b8⟩:=Ybw g8 (by decide);subst e0 e1 e2 e3 e4 e5 e6 e7 e8;have v0:Yhq l (p+22) 0=h.ref.toNat:=a1;have v1:Yhq l (p+22) 1=2:=a2;have v2:Yhq l (p+22) 2=h.flags.toNat:=a3;have v3:Yhq l (p+22) 3=h.fmt.toNat:=a4;have v4:Yhq l (p+22) 4=if h.inter then 1 else 0:=a5
 have v5:Yhq l (p+22) 5=0:=a6;have v6:Yhq l (p+22) 6=h.quant.toNat:=a7;have v7:Yhq l (p+22) 7=0:=a8;have hM:Ycd l p=0:=by
  have e:Yaz l p=(0,0):=by rw[Yfb b0,a0];rfl
  unfold Ycd;rw[if_neg (by omega),e]
  rfl
 have hU:upS l (p+22) 8=0:=Yns.2 fun j hj=>by
  obtain⟨o0,o1,o2,o3,o4,o5,o6,o7,o8⟩:=Qax;rcases (by omega:j=0∨j=1∨j=2∨j=3∨j=4∨j=5∨j=6∨j=7) with rfl|rfl|rfl|rfl|rfl|rfl|rfl|rfl
  ·exact⟨b1,by unfold Ymi;simp⟩
  ·exact⟨b2,by rw[v1];rfl⟩
  ·exact⟨b3,by unfold Ymi;simp⟩
  ·refine⟨b4,?_⟩;rw[v3];unfold Ymi Yg6;rw[if_neg (by simp;omega),if_neg (by simp),if_neg (by simp)]
  ·exact⟨b5,by unfold Ymi;simp⟩
  ·exact⟨b6,by rw[v5];rfl⟩
  ·refine⟨b7,?_⟩;rw[v6];unfold Ymi;rw[if_neg (by simp),if_neg (by simp),if_neg (by omega)]
  ·exact⟨b8,by rw[v7];rfl⟩
 have hT:Ycz l 8 (p+49)=(h.supp,q,0):=Yp4 h.supp 8 _ q hl hb hs;rw[Y3b hM hU (by rw[hT]),hT];unfold Yuj;rw[v0,v2,v3,v4,v6];obtain⟨ref,flags,fmt,inter,quant,supp⟩:=h;simp only at *;rw[show ((ref.toNat:Nat):Int)=ref by omega,show ((flags.toNat:Nat):Int)=flags by omega,show ((fmt.toNat:Nat):Int)=fmt by omega,show ((quant.toNat:Nat):Int)=quant by omega];cases inter <;> rfl
theorem Ysq {l:List UInt8}:∀(k p q:Nat) (s:List Int),Ycz l k p=(s,q,0)→Seg (Yae l) p q (Yma s)∧s.length≤k∧∀b∈s,0≤b∧b≤255
 |k,p,q,s,h=>by
  by_cases h1:8*l.length<p+1
  ·rw[Ysp h1] at h;cases h
  ·by_cases h0:Ya5 l p 1=0
   ·rw[Yp3 (by omega) h0] at h;injection h with e1 e2;injection e2 with e2 e3;subst e1 e2;have g:=Ycf (l:=l) (p:=p) (n:=1) (by omega);rw[h0] at g;exact⟨g,Nat.zero_le _,fun b hb=>by cases hb⟩
   ·match k with
    |0=>
     rw[Yso (by omega) h0] at h;cases h
    |k+1=>
     by_cases h8:8*l.length<p+1+8
     ·rw[Yye (by omega) h0 h8] at h;cases h
     ·rw[Ymb h0 (by omega)] at h;injection h with e1 e2;obtain⟨g1,g2,g3⟩:=Ysq k (p+9) q (Ycz l k (p+9)).1 (by rw[←e2]);subst e1;have t1:Ya5 l p 1=1:=by have:=Ych l p 1;omega
      have s1:=Ycf (l:=l) (p:=p) (n:=1) (by omega);rw[t1] at s1;have s2:=Ycf (l:=l) (p:=p+1) (n:=8) (by omega);have hlt:=Ych l (p+1) 8;refine⟨s1.app (s2.app g1),by simp only[List.length_cons];omega,fun b hb=>?_⟩;rcases List.mem_cons.1 hb with rfl|hb
      ·omega
      ·exact g3 b hb
theorem Ypu {l:List UInt8}{p:Nat}(h:Ycd l p=0):p%8=0∧p+22≤8*l.length∧Ya5 l p 22=32:=by
 unfold Ycd at h;by_cases h8:p%8=0
 ·rw[if_neg (by omega)] at h;by_cases h2:(Yaz l p).2=0
  ·rw[if_neg (fun k=>k h2)] at h;by_cases h1:(Yaz l p).1=0
   ·by_cases hp:p≤8*l.length
    ·by_cases hs:p+22≤8*l.length
     ·rw[Yfb hs] at h1 h2;by_cases ht:Ya5 l p 22 / 32=1
      ·rw[if_pos ht] at h1;simp only at h1;exact⟨h8,hs,by omega⟩
      ·rw[if_neg ht] at h2;exact absurd h2 (by decide)
     ·rw[Yet hp (by omega)] at h2;exact absurd h2 (by decide)
    ·rw[Yt4 (Or.inr (by omega))] at h2;exact absurd h2 (by decide)
   ·rw[if_pos h1] at h;cases h
  ·rw[if_pos h2] at h;exact absurd h h2
 ·rw[if_pos h8] at h;cases h
theorem Y3c {l:List UInt8}{p q:Nat}{h:Shd}(hk:shk l p=(h,q,0)):p%8=0∧Yep h=true∧Seg (Yae l) p q (Ybr 0++Ydn h):=by
 by_cases hM:Ycd l p=0
 ·by_cases hU:upS l (p+22) 8=0
  ·by_cases hT:(Ycz l 8 (p+49)).2.2=0
   ·rw[Y3b hM hU hT] at hk;injection hk with e1 e2;injection e2 with e2 _;obtain⟨t1,t2,t3⟩:=Ysq (l:=l) 8 (p+49) q (Ycz l 8 (p+49)).1 (by rw[←e2];exact Prod.ext rfl (Prod.ext rfl hT));have hu:=Yns.1 hU;obtain⟨o0,o1,o2,o3,o4,o5,o6,o7,o8⟩:=Qax;obtain⟨b0,-⟩:=hu 0 (by omega);obtain⟨b1,w1⟩:=hu 1 (by omega);obtain⟨b2,-⟩:=hu 2 (by omega);obtain⟨b3,w3⟩:=hu 3 (by omega);obtain⟨b4,-⟩:=hu 4 (by omega)
    obtain⟨b5,w5⟩:=hu 5 (by omega);obtain⟨b6,w6⟩:=hu 6 (by omega);obtain⟨b7,w7⟩:=hu 7 (by omega);have x1:Yhq l (p+22) 1=2:=by
     unfold Ymi at w1
     split at w1
     ·cases w1
     ·simp_all
    have x3:Yg6 (Yhq l (p+22) 3:Nat)=true:=by
     unfold Ymi at w3
     split at w3
     ·cases w3
     ·simp_all
    have x5:Yhq l (p+22) 5=0:=by
     unfold Ymi at w5;simp at w5
     simp_all
    have x7:Yhq l (p+22) 7=0:=by
     unfold Ymi at w7;simp at w7
     simp_all
    have x6:Yhq l (p+22) 6≠0:=by
     unfold Ymi at w6;simp at w6
     simp_all
    have l0:=Ych l (p+22+Yic 0) (Yqk 0);have l2:=Ych l (p+22+Yic 2) (Yqk 2);have l4:=Ych l (p+22+Yic 4) (Yqk 4);have l6:=Ych l (p+22+Yic 6) (Yqk 6);obtain⟨m8,m22,m32⟩:=Ypu hM;have sm:=Ycf (l:=l) (p:=p) (n:=22) m22;rw[m32] at sm;have s0:=Ycf (l:=l) b0;have s1:=Ycf (l:=l) b1;have s2:=Ycf (l:=l) b2;have s3:=Ycf (l:=l) b3;have s4:=Ycf (l:=l) b4;have s5:=Ycf (l:=l) b5;have s6:=Ycf (l:=l) b6
    have s7:=Ycf (l:=l) b7;have y1:Ya5 l (p+22+Yic 1) (Yqk 1)=2:=x1;have y5:Ya5 l (p+22+Yic 5) (Yqk 5)=0:=x5;have y7:Ya5 l (p+22+Yic 7) (Yqk 7)=0:=x7;have l0':Yhq l (p+22) 0<256:=l0;have l2':Yhq l (p+22) 2<8:=l2;have l4':Yhq l (p+22) 4<2:=l4;have l6':Yhq l (p+22) 6<32:=l6;rw[y1] at s1;rw[y5] at s5;rw[y7] at s7;subst e1
    have z4:Seg (Yae l) (p+22+Yic 4) (p+22+Yic 4+Yqk 4) (Qkc (Yhq l (p+22) 4==1)):=by
     have hb:(if (Yhq l (p+22) 4==1)=true then 1 else 0)=Yhq l (p+22) 4:=by
      rcases (by omega:Yhq l (p+22) 4=0∨Yhq l (p+22) 4=1) with h|h <;> rw[h] <;> rfl
     unfold Qkc;rw[hb];exact s4
    refine⟨m8,Yd6.2 ⟨?_,?_,t2,t3⟩,?_⟩
    ·unfold Yuj;simp only;omega
    ·unfold Yg6 at x3;exact of_decide_eq_true x3
    ·unfold Ydn Yk3 Yuj;simp only[Int.toNat_natCast,List.append_assoc];exact sm.app (s0.app (s1.app (s2.app (s3.app (z4.app (s5.app (s6.app (s7.app t1))))))))
   ·rw[Yum hM hU hT] at hk;injection hk with _ e2;injection e2 with _ e2;exact absurd e2 hT
  ·rw[Yul hM hU] at hk;injection hk with _ e2;injection e2 with _ e2;exact absurd e2 hU
 ·rw[Yno hM] at hk;injection hk with _ e2;injection e2 with _ e2;exact absurd e2 hM
def Yfx (id q:Nat):List UInt8:=Yav id 2++Yav q 5
theorem Yqx (id q:Nat):(Yfx id q).length=7:=by
 unfold Yfx;rw[List.length_append,Yan,Yan]
theorem Y0c (id q:Nat):Yax (Yfx id q)=true:=by
 unfold Yfx;rw[Yar,Ycy,Ycy];rfl
def hdk (l:List UInt8)(p:Nat)(n:Int):Int×Int×Nat×Int:=
 if (Ya9 l p).2=false then (0,0,p,4) else if (Ya9 l p).1≠n then (0,0,p,10)
 else if 8*l.length<p+gap p+22+7 then (0,0,p,2)
 else if Ya5 l (p+gap p+22+2) 5=0 then (0,0,p,9)
 else (((Ya5 l (p+gap p+22) 2:Nat):Int),((Ya5 l (p+gap p+22+2) 5:Nat):Int),p+gap p+22+7,0)
theorem Y2i {l:List UInt8}{p:Nat}{n:Int}(h:(Ya9 l p).2=false):hdk l p n=(0,0,p,4):=if_pos h
theorem Ywu {l:List UInt8}{p:Nat}{n:Int}(h:(Ya9 l p).2=true)(h1:(Ya9 l p).1≠n):hdk l p n=(0,0,p,10):=by
 unfold hdk;rw[if_neg (by rw[h];decide),if_pos h1]
theorem Yww {l:List UInt8}{p:Nat}{n:Int}(h:(Ya9 l p).2=true)(h1:(Ya9 l p).1=n)(h2:8*l.length<p+gap p+22+7):hdk l p n=(0,0,p,2):=by
 unfold hdk;rw[if_neg (by rw[h];decide),if_neg (fun k=>k h1),if_pos h2]
theorem Ywv {l:List UInt8}{p:Nat}{n:Int}(h:(Ya9 l p).2=true)(h1:(Ya9 l p).1=n)(h2:p+gap p+22+7≤8*l.length)(h3:Ya5 l (p+gap p+22+2) 5=0):hdk l p n=(0,0,p,9):=by
 unfold hdk;rw[if_neg (by rw[h];decide),if_neg (fun k=>k h1),if_neg (by omega),if_pos h3]
theorem Y94 {l:List UInt8}{p:Nat}{n:Int}(h:(Ya9 l p).2=true)(h1:(Ya9 l p).1=n)(h2:p+gap p+22+7≤8*l.length)(h3:Ya5 l (p+gap p+22+2) 5≠0):
  hdk l p n=(((Ya5 l (p+gap p+22) 2:Nat):Int),((Ya5 l (p+gap p+22+2) 5:Nat):Int),p+gap p+22+7,0):=by
 unfold hdk;rw[if_neg (by rw[h];decide),if_neg (fun k=>k h1),if_neg (by omega),if_neg h3]
theorem Yo4 {l:List UInt8}{p:Nat}(h:(Ya9 l p).2=true):p+gap p+22≤8*l.length:=by
 by_cases hp:p≤8*l.length
 ·by_cases h0:Ya5 l p (gap p)=0
  ·rw[Yo3 hp h0] at h;simp only[beq_iff_eq] at h;by_cases hs:p+gap p+22≤8*l.length
   ·exact hs
   ·by_cases hq:p+gap p≤8*l.length
    ·rw[Yet hq (by omega)] at h;exact absurd h (by decide)
    ·rw[Yt4 (Or.inr (by omega))] at h;exact absurd h (by decide)
  ·rw[Yub hp h0] at h;exact absurd h (by decide)
 ·rw[Yt9 (Or.inr (by omega))] at h;exact absurd h (by decide)
def Yec (a n id q:Nat):List UInt8:=List.replicate (gap a) 48++Ybr n++Yfx id q
theorem Y37 (r:List UInt8)(n id q:Nat):Yc5 r n++Yfx id q=r++Yec r.length n id q:=by
 unfold Yc5 Yec;simp only[List.append_assoc]
theorem Yqw (a n id q:Nat):(Yec a n id q).length=gap a+29:=by
 unfold Yec;rw[List.length_append,List.length_append,List.length_replicate,Ybd,Yqx]
theorem Y0b (a n id q:Nat):Yax (Yec a n id q)=true:=by
 unfold Yec;rw[Yar,Yar,Yed,Yo0,Y0c];rfl
theorem Yua {l:List UInt8}{p:Nat}(h:(Ya9 l p).2=true):Ya5 l p (gap p)=0:=by
 by_cases hp:p≤8*l.length
 ·by_cases h0:Ya5 l p (gap p)=0
  ·exact h0
  ·rw[Yub hp h0] at h;exact absurd h (by decide)
 ·rw[Yt9 (Or.inr (by omega))] at h;exact absurd h (by decide)
set_option maxRecDepth 100000 in
set_option maxHeartbeats 1000000 in
theorem Qaf (w:World)(c:Nat)(h:c<256):
  Calls Tryz.prog 194 #[.int .u8 (c:Int)] w fun e w'=>e=.returned (.int .i64 ((bitLen c:Nat):Int))∧w=w':=by
 go_enter Tryz.func194,Tryz.ntmps194
 go_wp2
 go_ret
 refine⟨Yd3 ?_,rfl⟩;rw[len8tab_get];have:=bitLen_le8 c h;unfold wrap64;omega
set_option maxHeartbeats 1000000 in
theorem Y1p (w:World)(c:Nat)(h:c<256):
  Calls Tryz.prog 180 #[.int .u8 (c:Int)] w fun e w'=>e=.returned (.int .i64 ((8-bitLen c:Nat):Int))∧w=w':=by
 have hm:=bitLen_le8 c h;obtain⟨y,hy⟩:∃y,bitLen c=y:=⟨_,rfl⟩;rw[hy] at hm ⊢;have Y:=Lib.hid hy;clear hy
 go_enter Tryz.func180,Tryz.ntmps180
 go_wp2_with fail
 refine(Qaf _ c h).mono ?_;rintro e w1 ⟨rfl,rfl⟩;rw[Y.out]
 go_wp2
 go_ret
 exact⟨Yd3 (by omega),rfl⟩
theorem Qfl:∀c:Fin 256,∀g:Fin 8,bits .and .u8 ((c.val:Nat):Int) (((255 / 2^g.val:Nat):Nat):Int)=((c.val%2^(8-g.val):Nat):Int):=by decide +kernel
set_option maxHeartbeats 1000000 in
theorem Y7l (w:World)(s:ByteArray)(bit:Int)(hs:s.size≤1099511627776):
  Calls Tryz.prog 161 #[.string s,.int .i64 bit] w fun e w'=>e=.returned (.int .i64 ((Yba s.data.toList bit:Nat):Int))∧Below w.heap.size w w':=by
 have hsl:s.data.toList.length=s.size:=rfl;by_cases h1:bit<0
 ·have A:=Lib.hid (Yxb (l:=s.data.toList) h1)
  go_enter Tryz.func161,Tryz.ntmps161
  go_wp2
  go_ret
  exact⟨Yd3 (by rw[A.out];rfl),Below.refl _ _⟩
 ·have d1:decide (bit<0)=false:=by simpa using h1
  by_cases h2:8*(s.size:Int)≤bit
  ·have A:=Lib.hid (Yxd (l:=s.data.toList) (bit:=bit) (by rw[hsl];exact h2));have d2:decide (8*(s.size:Int)≤bit)=true:=by simpa using h2
   go_enter Tryz.func161,Tryz.ntmps161
   go_wp2
   go_ret
   exact⟨Yd3 (by rw[A.out];rfl),Below.refl _ _⟩
  ·obtain⟨p,rfl⟩:=Int.eq_ofNat_of_zero_le (by omega:0≤bit);have d2:decide (8*(s.size:Int)≤(p:Int))=false:=by simpa using h2
   have hp:p<8*s.size:=by omega
   obtain⟨f,hf⟩:∃f,p / 8=f:=⟨_,rfl⟩;obtain⟨g,hg⟩:∃g,p%8=g:=⟨_,rfl⟩;have hpf:(p:Int) / 8=(f:Int):=by omega
   have hpg:(p:Int)%8=(g:Int):=by omega
   have hfs:f<s.size:=by omega
   have hfg:p=8*f+g:=by omega
   have hg8:g<8:=by omega
   have FG:=Lib.hid hfg;clear h1 h2 hf hg hfg
   go_enter Tryz.func161,Tryz.ntmps161
   go_wp2
   go_region
   go_wp2
   clear hpf hpg
   go_loopw [5,6] (fun i x wr=>∃j c:Nat,f≤j∧j<s.size∧c<256∧i=.int .i64 j∧x=.int .u8 (c:Int)∧Hid (Ya5 s.data.toList p (8*(j+1)-p)=c)∧Below w.heap.size w wr) (fun i _ _=>s.size-(intOf i).toNat)
   case atStart=>
    have hlow:=Qfl ⟨s[f].toNat,s[f].toNat_lt⟩ ⟨g,hg8⟩;have htl:=Qg3 s.data.toList p f (8*(f+1)-p) (by rw[hsl];exact hfs) (by have:=FG.out;omega) (by have:=FG.out;omega);have hmod:s[f].toNat%2^(8-g)<256:=Nat.lt_of_le_of_lt (Nat.mod_le _ _) s[f].toNat_lt;refine⟨f,s[f].toNat%2^(8-g),Nat.le_refl _,hfs,hmod,rfl,?_,Lib.hid ?_,(Below.refl _ w).drew⟩
    ·rw[←hlow];simp
    ·rw[htl,show 8*(f+1)-p=8-g by have:=FG.out;omega]
     rfl
   case round=>
    obtain⟨j,c,hfj,hjs,hc,rfl,rfl,T,hbw⟩:=hrel;by_cases h0:c=0
    ·have d0:((c:Int)==0)=true:=by rw[h0];rfl
     by_cases h3:j+1=s.size
     ·have A:=Lib.hid (Y0q s.data.toList p (8*(j+1)-p) (by rw[hsl];have:=FG.out;omega) (by rw[T.out,h0]));have d3:((j:Int)+1==(s.size:Int))=true:=by rw[beq_iff_eq];omega
      have hpj:p≤8*j+8:=by have:=FG.out;omega
      have hj40:j≤1099511627776:=by omega
      clear h0
      go_wp2
      go_ret
      exact⟨Yd3 (by rw[A.out];omega),hbw⟩
     ·have d3:((j:Int)+1==(s.size:Int))=false:=by rw[beq_eq_false_iff_ne];omega
      have hj1:j+1<s.size:=by omega
      have T2:=Lib.hid ((by
       have e:=Yej s.data.toList p (8*(j+1)-p) 8 (by rw[hsl];have:=FG.out;omega);rw[T.out,h0,show p+(8*(j+1)-p)=8*(j+1) by have:=FG.out;omega,Qcw _ _ (by rw[hsl];exact hj1)] at e;rw[show 8*(j+1+1)-p=8*(j+1)-p+8 by have:=FG.out;omega,e,Nat.zero_mul,Nat.zero_add]
       rfl:Ya5 s.data.toList p (8*(j+1+1)-p)=s[j+1].toNat))
      have hc2:=s[j+1].toNat_lt;clear h0 h3
      go_wp2
      go_roundw
      case rel=>exact⟨j+1,s[j+1].toNat,by omega,hj1,hc2,by go_num,rfl,T2,hbw⟩
      case measure=>simp[intOf];omega
    ·have d0:((c:Int)==0)=false:=by rw[beq_eq_false_iff_ne];omega
     have hlen:=bitLen_le8 c hc;have hfin:(((8*(j:Int)+((8-bitLen c:Nat):Int)-p):Int))=((Yba s.data.toList (p:Int):Nat):Int):=by
      have hs2:=bitLen_spec c;have hne:bitLen c≠0:=by unfold bitLen;rw[if_neg h0];omega
      have hpl:=hs2.2 h0;have hlt:=Ych s.data.toList p (8*(j+1)-p);have hk:bitLen c-1<8*(j+1)-p:=by
       rcases Nat.lt_or_ge (bitLen c-1) (8*(j+1)-p) with h|h
       ·exact h
       ·have:=Nat.pow_le_pow_right (n:=2) (by omega) h;rw[T.out] at hlt;omega
      have A:=Yxa s.data.toList p (8*(j+1)-p) (bitLen c-1) (by rw[hsl];have:=FG.out;omega) hk (by rw[T.out];exact hpl) (by rw[T.out,show bitLen c-1+1=bitLen c by omega];exact hs2.1);rw[A];omega
     obtain⟨y,hy⟩:∃y,8-bitLen c=y:=⟨_,rfl⟩;rw[hy] at hfin;have Y:=Lib.hid hy;have F:=Lib.hid hfin;have hy8:y≤8:=by omega
     clear hfin hy hlen h0
     go_wp2_with fail
     refine(Y1p _ c hc).mono ?_;rintro e w1 ⟨rfl,rfl⟩;rw[Y.out]
     go_wp2
     go_ret
     exact⟨Yd3 (by rw[←F.out]),hbw⟩
end Go.Proofs.YtjjmalchelniiaaGreatDoor