/- Part 7 of StripsOnce. No condition. -/
import Derived.Test.YtjjmalchelniiaaGreatDoorStripsOnceMb
import Derived.Test.YtjjmalchelniiaaGreatDoorStripsOnceMd
import Derived.Test.YtjjmalchelniiaaGreatDoorStripsOnceMe
import Derived.Test.YtjjmalchelniiaaGreatDoorStripsOnceMf
import Derived.Laws.MathBits
namespace Go.Proofs.YtjjmalchelniiaaGreatDoor
open Go.RowKit
def Qic (s:ByteArray)(p:Nat):List Value:=[.string s,.int .i64 (p:Int)]
def Yqq (s:ByteArray)(p:Nat):Obj:=.cells (Qic s p).toArray 91 (0,0)
def Yba (w:World)(b:Nat)(s:ByteArray)(p:Nat):Prop:=w.heap[b]? =some (Yqq s p)∧p≤8*s.size∧s.size≤140737488355328
theorem Yba.cells {w:World}{b:Nat}{s:ByteArray}{p:Nat}(h:Yba w b s p):w.cell? ⟨b,0,none⟩=some (.string s)∧w.cell? ⟨b,1,none⟩=some (.int .i64 (p:Int)):=
 ⟨Yab h.1 rfl,Yab h.1 rfl⟩
theorem Yba.lt {w:World}{b:Nat}{s:ByteArray}{p:Nat}(h:Yba w b s p):b<w.heap.size:=(Array.getElem?_eq_some_iff.1 h.1).1
theorem Yba.below {w w':World}{b:Nat}{s:ByteArray}{p:Nat}(h:Yba w b s p)(hb:Below w.heap.size w w'):Yba w' b s p:=⟨by rw[hb.block b h.lt];exact h.1,h.2⟩
theorem Yba.grown {w w':World}{b c:Nat}{s:ByteArray}{p:Nat}(h:Yba w b s p)(hg:w.grownBy w' (some c))(hne:b≠c):Yba w' b s p:=⟨by rw[hg.block b h.lt (by simpa using hne)];exact h.1,h.2⟩
theorem Yba.fresh {w:World}{b:Nat}{s:ByteArray}(hb:w.heap.size=b)(hs:s.size≤140737488355328):Yba (w.alloc (Yqq s 0)) b s 0:=by
 subst hb;exact⟨heap_alloc_new w _,by omega,hs⟩
theorem Yba.moved {w:World}{b:Nat}{s:ByteArray}{p:Nat}(h:Yba w b s p)(q:Nat)(hq:q≤8*s.size):Yba (w.setCell ⟨b,1,none⟩ (.int .i64 (q:Int))) b s q:=
 ⟨Yau (o:=1) _ h.1,hq,h.2.2⟩
set_option maxHeartbeats 1000000 in
theorem Ygh (w:World)(s:ByteArray):Calls Tryz.prog 27 #[.string s] w fun e w'=>e=.returned (.pointer (some ⟨w.heap.size,0,none⟩))∧w.alloc (Yqq s 0)=w':=by
 go_enter Tryz.func27,Tryz.ntmps27
 go_wp2
 go_ret
 exact⟨rfl,rfl⟩
theorem Qh7 (y c:Nat)(h:c<256)(hy:y<4294967296):bits .or .i64 ((y:Int)*256) (c:Int)=((256*y+c:Nat):Int):=by
 have hor:=Nat.two_pow_add_eq_or_of_lt (i:=8) (b:=c) (by omega) y;have e1:((y:Int)*256)=((256*y:Nat):Int):=by omega
 rw[e1];show IntKind.i64.wrap ((BitVec.ofInt 64 ((256*y:Nat):Int) ||| BitVec.ofInt 64 (c:Int)).toNat:Int)=_;rw[BitVec.ofInt_natCast,BitVec.ofInt_natCast,BitVec.toNat_or,BitVec.toNat_ofNat,BitVec.toNat_ofNat,Nat.mod_eq_of_lt (by omega),Nat.mod_eq_of_lt (by omega)];have e2:256*y ||| c=256*y+c:=by
  have e:(2:Nat)^8=256:=rfl;rw[e] at hor;exact hor.symm
 rw[e2,IntKind.wrap_i64];omega
theorem Qji (y k n:Nat)(h:n≤32):bits .and .i64 ((y:Int) / 2^k) (wrap64 (wrap64 (2^n)-1))=((y / 2^k%2^n:Nat):Int):=by
 obtain⟨h1,h2⟩:=Qev n h;have e1:wrap64 ((2:Int)^n)=2^n:=by unfold wrap64;omega
 have e2:wrap64 ((2:Int)^n-1)=2^n-1:=by unfold wrap64;omega
 rw[e1,e2,Ygt _ n (by omega)];simp
set_option maxHeartbeats 1000000 in
theorem Yo0 (w:World)(b:Nat)(s:ByteArray)(p:Nat)(ni:Int)(hr:Yba w b s p)(h1:0≤ni)(h2:ni≤32)(h3:ni≤8*(s.size:Int)-p):
  Calls Tryz.prog 155 #[.pointer (some ⟨b,0,none⟩),.int .i64 ni] w fun e w'=>e=.returned (.int .i64 ((Ya3 s.data.toList p ni.toNat:Nat):Int))∧Below w.heap.size w w':=by
 obtain⟨n,rfl⟩:=Int.eq_ofNat_of_zero_le h1;simp only[Int.toNat_natCast];obtain⟨c0,c1⟩:=hr.cells;obtain⟨_,hp,hs⟩:=hr;have n2:n≤32:=by omega
 have n3:p+n≤8*s.size:=by omega
 clear h1 h2 h3
 go_enter Tryz.func155,Tryz.ntmps155
 go_wp2
 go_region
 obtain⟨f,k,hf,hk⟩:∃f k,p / 8=f∧(p+n+7) / 8=f+k:=⟨p / 8,(p+n+7) / 8-p / 8,rfl,by omega⟩;rw[show (p:Int) / 8=(f:Int) by omega,show ((p:Int)+n+7) / 8=(f:Int)+k by omega];have hk5:k≤5:=by omega
 have hfk:f+k≤s.size:=by omega
 have hf8:8*f≤p:=by omega
 have hg8:p+n≤8*(f+k):=by omega
 have hg9:8*(f+k)≤p+n+7:=by omega
 obtain⟨l,hl⟩:∃l,s.data.toList.drop f=l:=⟨_,rfl⟩;have hll:k≤l.length:=by rw[←hl,List.length_drop];have:s.data.toList.length=s.size:=rfl;omega
 have hget:∀j,(h:j<l.length)→(h2:f+j<s.size)→l[j]=s[f+j]:=by
  intro j h h2;subst hl;rw[List.getElem_drop]
  rfl
 have hfin:Qcx (l.take k) / 2^(8*(f+k)-p-n)%2^n=Ya3 s.data.toList p n:=by
  rw[←hl];exact Yl5 _ f k p n hf8 hg8 hfk
 have hbn:∀j,j≤k→Qcx (l.take j)<256^j:=fun j hj=>Qg9 _ _ (by rw[List.length_take];omega);have G:=Lib.hid hget;have F:=Lib.hid hfin;have L:=Lib.hid hl;have BN:=Lib.hid hbn;have d0:w.drew.cell? ⟨b,0,none⟩=some (.string s):=c0;have d1:w.drew.cell? ⟨b,1,none⟩=some (.int .i64 (p:Int)):=c1;have hb1:Below w.heap.size w w.drew:=(Below.refl _ w).drew;clear c0 c1 hl hget hfin hbn hf hk
 generalize w.drew=w1 at d0 d1 hb1 ⊢
 go_wp2
 go_loop [7,25] (fun x i=>∃j y:Nat,j≤k∧i=.int .i64 j∧x=.int .i64 y∧Qcx (l.take j)=y) (fun _ i=>k-(intOf i).toNat)
 case atStart=>exact⟨0,0,Nat.zero_le _,rfl,rfl,rfl⟩
 case round=>
  obtain⟨j,y,hj,rfl,rfl,hy⟩:=hrel;have Y:=Lib.hid hy;have hyb:=BN.out j hj;rw[hy] at hyb;clear hy;by_cases hlt:j<k
  ·have hy4:y<4294967296:=by
    have:256^j≤256^4:=Nat.pow_le_pow_right (by omega) (by omega);omega
   have hfj:f+j<s.size:=by omega
   have hg:=G.out j (by omega) hfj;have hst:=Y7c l j (by omega);rw[Y.out,hg] at hst;have hc:=s[f+j].toNat_lt;have ho:=Qh7 y s[f+j].toNat hc hy4;have ST:=Lib.hid hst;have O:=Lib.hid ho;clear hst hg hyb ho
   go_wp2
   go_round
   case rel=>exact⟨j+1,256*y+s[f+j].toNat,by omega,by go_num,by rw[O.out],ST.out⟩
   case measure=>simp[intOf];omega
  ·obtain rfl:j=k:=by omega
   have hy5:y<1099511627776:=by
    have:256^j≤256^5:=Nat.pow_le_pow_right (by omega) (by omega);omega
   clear hyb
   go_wp2
   go_region
   go_wp2
   go_ret
   refine⟨Ydy ?_,hb1.drew⟩;rw[Qji _ _ _ n2,←F.out,Y.out]
theorem Yhz (w:World)(b:Nat)(s:ByteArray)(p:Nat)(hr:Yba w b s p):
  Calls Tryz.prog 29 #[.pointer (some ⟨b,0,none⟩)] w fun e w'=>e=.returned (.int .i64 (8*(s.size:Int)-p))∧Below w.heap.size w w':=by
 obtain⟨c0,c1⟩:=hr.cells;obtain⟨_,hp,hs⟩:=hr;have hb1:Below w.heap.size w w.drew:=(Below.refl _ w).drew
 go_enter Tryz.func29,Tryz.ntmps29
 go_wp2
 go_region
 go_wp2
 go_ret
 exact⟨rfl,hb1⟩
theorem Yb7 (w:World)(b:Nat)(s:ByteArray)(p:Nat)(hr:Yba w b s p):
  Calls Tryz.prog 28 #[.pointer (some ⟨b,0,none⟩)] w fun e w'=>e=.returned (.int .i64 (p:Int))∧w=w':=by
 obtain⟨c0,c1⟩:=hr.cells
 go_enter Tryz.func28,Tryz.ntmps28
 go_wp2
 go_ret
 exact⟨rfl,rfl⟩
theorem Ydg (w:World)(b:Nat)(s:ByteArray)(p:Nat)(hr:Yba w b s p):
  Calls Tryz.prog 60 #[.pointer (some ⟨b,0,none⟩)] w fun e w'=>e=.returned (.string s)∧w=w':=by
 obtain⟨c0,c1⟩:=hr.cells
 go_enter Tryz.func60,Tryz.ntmps60
 go_wp2
 go_ret
 exact⟨rfl,rfl⟩
theorem Ym8 {l:List UInt8}{p:Nat}{n:Int}{v c:Int}(h:ask l p n=(v,c)){k k':IntKind}:Ending.returned (.tuple #[.int k v,.int k' c])=.returned (.tuple #[.int k (ask l p n).1,.int k' (ask l p n).2]):=by rw[h]
set_option maxHeartbeats 1000000 in
theorem Ybr (w:World)(b:Nat)(s:ByteArray)(p:Nat)(n:Int)(hr:Yba w b s p):
  Calls Tryz.prog 125 #[.pointer (some ⟨b,0,none⟩),.int .i64 n] w fun e w'=>e=.returned (.tuple #[.int .i64 (ask s.data.toList p n).1,.int .i64 (ask s.data.toList p n).2])∧Below w.heap.size w w':=by
 have hsl:s.data.toList.length=s.size:=rfl;by_cases h1:n<0
 ·have A:=Lib.hid (Y63 (l:=s.data.toList) (p:=p) (n:=n) (.inl h1))
  go_enter Tryz.func125,Tryz.ntmps125
  go_wp2
  go_ret2
  exact⟨Ym8 A.out,Below.refl _ _⟩
 ·by_cases h2:32<n
  ·have A:=Lib.hid (Y63 (l:=s.data.toList) (p:=p) (n:=n) (.inr h2))
   go_enter Tryz.func125,Tryz.ntmps125
   go_wp2
   go_ret2
   exact⟨Ym8 A.out,Below.refl _ _⟩
  ·have d1:decide (n<0)=false:=by simpa using h1
   have d2:decide (32<n)=false:=by simpa using h2
   by_cases h3:8*(s.size:Int)-p<n
   ·have A:=Lib.hid (Ybo (l:=s.data.toList) (p:=p) (n:=n) (by omega) (by rw[hsl];exact h3));have d3:decide (8*(s.size:Int)-p<n)=true:=by simpa using h3
    go_enter Tryz.func125,Tryz.ntmps125
    go_wp2_with fail
    refine(Yhz _ _ _ _ hr).mono ?_;rintro e w1 ⟨rfl,hb⟩
    go_wp2
    go_ret2
    exact⟨Ym8 A.out,hb⟩
   ·have A:=Lib.hid (Yc8 (l:=s.data.toList) (p:=p) (n:=n) (by omega) (by rw[hsl];omega));have d3:decide (8*(s.size:Int)-p<n)=false:=by simpa using h3
    go_enter Tryz.func125,Tryz.ntmps125
    go_wp2_with fail
    refine(Yhz _ _ _ _ hr).mono ?_;rintro e w1 ⟨rfl,hb⟩;have hr1:=hr.below hb;have hz:=hb.size
    go_wp2_with fail
    refine(Yo0 _ _ _ _ _ hr1 (by omega) (by omega) (by omega)).mono ?_;rintro e w2 ⟨rfl,hb2⟩
    go_wp2
    go_ret2
    exact⟨Ym8 A.out,hb.trans (hb2.mono hz)⟩
theorem Y64 (l:List UInt8)(p:Nat)(n:Int):(ask l p n).2=1∨(ask l p n).2=2∨((ask l p n).2=0∧0≤n∧n≤32∧n≤8*(l.length:Int)-p):=by
 unfold ask
 split
 ·exact .inl rfl
 ·split
  ·exact .inr (.inl rfl)
  ·exact .inr (.inr ⟨rfl,by omega⟩)
set_option maxHeartbeats 1000000 in
theorem Ycz (w:World)(b:Nat)(s:ByteArray)(p:Nat)(n:Int)(hr:Yba w b s p):
  Calls Tryz.prog 92 #[.pointer (some ⟨b,0,none⟩),.int .i64 n] w fun e w'=>e=.returned (.tuple #[.int .i64 (ask s.data.toList p n).1,.int .i64 (ask s.data.toList p n).2])∧Yba w' b s (Yc1 s.data.toList p n)∧w.grownBy w' (some b):=by
 have hrg:=Y64 s.data.toList p n;have hto:Yc1 s.data.toList p n=if (ask s.data.toList p n).2=0 then p+n.toNat else p:=rfl
 have hsl:s.data.toList.length=s.size:=rfl;rw[hto];generalize hq:ask s.data.toList p n=q at hrg ⊢;obtain⟨v,c⟩:=q;have Q:=Lib.hid hq;clear hq hto
 go_enter Tryz.func92,Tryz.ntmps92
 go_wp2_with fail
 refine(Ybr _ _ _ _ _ hr).mono ?_;rintro e w1 ⟨rfl,hb⟩;rw[Q.out];have hr1:=hr.below hb;have hg1:w.grownBy w1 (some b):=⟨hb.os,hb.tape,hb.output,hb.size,fun k hk _=>hb.block k hk⟩;by_cases h0:c=0
 ·subst h0;have hn:0≤n∧n≤32∧n≤8*(s.size:Int)-p:=by
   rcases hrg with h|h|h
   ·cases h
   ·cases h
   ·exact⟨h.2.1,h.2.2.1,by rw[←hsl];exact h.2.2.2⟩
  obtain⟨n0,n1,n2⟩:=hn;obtain⟨c0,c1⟩:=hr1.cells;have hfr:=Yai (o:=1) hr1.1;have hm:=hr1.moved (p+n.toNat) (by omega);have hg2:=Yap w1 ⟨b,1,none⟩ (.int .i64 ((p+n.toNat:Nat):Int));have hnn:((p+n.toNat:Nat):Int)=(p:Int)+n:=by omega
  rw[hnn] at hm hg2;have hps:p≤1125899906842624:=by have:=hr.2;omega
  clear hrg
  go_wp2
  go_ret2
  exact⟨rfl,hm,Yac hg1 hg2⟩
 ·have d0:(c==0)=false:=by rw[beq_eq_false_iff_ne];exact h0
  go_wp2
  go_ret2
  exact⟨rfl,hr1,hg1⟩
theorem Yv9 {l:List UInt8}{p:Nat}{v c:Int}(h:Yhw l p=(v,c)){k k':IntKind}:Ending.returned (.tuple #[.int k v,.int k' c])=.returned (.tuple #[.int k (Yhw l p).1,.int k' (Yhw l p).2]):=by rw[h]
theorem Y1n {p n:Nat}(h:p≤8*n):p+gap p≤8*n:=by unfold gap;omega
theorem Y1o (p:Nat):gap p<8:=by unfold gap;omega
set_option maxHeartbeats 1000000 in
theorem Ylt (w:World)(b:Nat)(s:ByteArray)(p:Nat)(hr:Yba w b s p):
  Calls Tryz.prog 159 #[.pointer (some ⟨b,0,none⟩)] w fun e w'=>e=.returned (.tuple #[.int .i64 (Yhw s.data.toList p).1,.int .i64 (Yhw s.data.toList p).2])∧Yba w' b s (Yme s.data.toList p)∧w.grownBy w' (some b):=by
 obtain⟨c0,c1⟩:=hr.cells;have hp:=hr.2.1;have hs:=hr.2.2;have hgf:=Y1n hp;obtain⟨g,hg⟩:∃g,gap p=g:=⟨_,rfl⟩;have hg7:g<8:=by rw[←hg];exact Y1o p
 have eg:7-((p:Int)+7)%8=(g:Int):=by rw[←hg];unfold gap;omega
 have hto:Yme s.data.toList p=if Ya3 s.data.toList p g=0 then p+g else p:=by unfold Yme;rw[hg]
 have hof:Yhw s.data.toList p=if Ya3 s.data.toList p g=0 then ((g:Int),0) else (0,5):=by unfold Yhw;rw[hg]
 rw[hg] at hgf;obtain⟨q,hq⟩:∃q,Yme s.data.toList p=q:=⟨_,rfl⟩;rw[hq];rw[hq] at hto;have TO:=Lib.hid hto;have OF:=Lib.hid hof;have EG:=Lib.hid eg;clear hto hof eg hg hq
 go_enter Tryz.func159,Tryz.ntmps159
 go_wp2_with fail
 rw[EG.out];refine(Yo0 _ _ _ _ (g:Int) hr (by omega) (by omega) (by omega)).mono ?_;rintro e w1 ⟨rfl,hb⟩;rw[Int.toNat_natCast];have hr1:=hr.below hb;have hg1:w.grownBy w1 (some b):=⟨hb.os,hb.tape,hb.output,hb.size,fun k hk _=>hb.block k hk⟩;by_cases h0:Ya3 s.data.toList p g=0
 ·have d0:(((Ya3 s.data.toList p g:Nat):Int) != 0)=false:=by rw[h0];rfl
  obtain⟨q0,q1⟩:=hr1.cells;have hfr:=Yai (o:=1) hr1.1;have hm:=hr1.moved (p+g) (by omega);have hg2:=Yap w1 ⟨b,1,none⟩ (.int .i64 ((p+g:Nat):Int));rw[show ((p+g:Nat):Int)=(p:Int)+g by omega] at hm hg2;have A:=Lib.hid (OF.out.trans (if_pos h0));obtain rfl:q=p+g:=TO.out.trans (if_pos h0);clear TO;clear h0 c0 c1
  go_wp2
  go_ret2
  exact⟨Yv9 A.out,hm,Yac hg1 hg2⟩
 ·have d0:(((Ya3 s.data.toList p g:Nat):Int) != 0)=true:=by rw[bne_iff_ne];omega
  have A:=Lib.hid (OF.out.trans (if_neg h0));obtain rfl:q=p:=TO.out.trans (if_neg h0);clear TO;clear h0
  go_wp2
  go_ret2
  exact⟨Yv9 A.out,hr1,hg1⟩
set_option maxHeartbeats 1000000 in
theorem Yb2 (w:World)(b:Nat)(s:ByteArray)(p:Nat)(n:Int)(hr:Yba w b s p)(h1:0≤n)(h2:n≤8*(s.size:Int)):
  Calls Tryz.prog 91 #[.pointer (some ⟨b,0,none⟩),.int .i64 n] w fun e w'=>e=.returned (.int .i64 0)∧Yba w' b s n.toNat∧w.grownBy w' (some b):=by
 obtain⟨c0,c1⟩:=hr.cells;have hs:=hr.2.2;have hfr:=Yai (o:=1) hr.1;have hm:=hr.moved n.toNat (by omega);have hg:=Yap w ⟨b,1,none⟩ (.int .i64 ((n.toNat:Nat):Int));rw[show ((n.toNat:Nat):Int)=n by omega] at hm hg;have d1:decide (n<0)=false:=by simpa using h1
 have d2:decide (8*(s.size:Int)<n)=false:=by simpa using h2
 go_enter Tryz.func91,Tryz.ntmps91
 go_wp2
 go_ret
 exact⟨rfl,hm,hg⟩
set_option maxHeartbeats 1000000 in
theorem Y2f (w:World)(b:Nat)(s:ByteArray)(p:Nat)(n:Int)(hr:Yba w b s p)(h:n<0∨8*(s.size:Int)<n):
  Calls Tryz.prog 91 #[.pointer (some ⟨b,0,none⟩),.int .i64 n] w fun e w'=>e=.returned (.int .i64 1)∧w=w':=by
 obtain⟨c0,c1⟩:=hr.cells;have hs:=hr.2.2;by_cases h1:n<0
 ·have d1:decide (n<0)=true:=by simpa using h1
  go_enter Tryz.func91,Tryz.ntmps91
  go_wp2
  go_ret
  exact⟨rfl,rfl⟩
 ·have d1:decide (n<0)=false:=by simpa using h1
  have d2:decide (8*(s.size:Int)<n)=true:=by simp;omega
  clear h
  go_enter Tryz.func91,Tryz.ntmps91
  go_wp2
  go_ret
  exact⟨rfl,rfl⟩
section
attribute [local irreducible] Yea
theorem Ymg:∀l:List UInt8,Yax l=true→(num l=0↔∀i (h:i<l.length),l[i]=48)
 |[],_=>⟨fun _ i h=>absurd h (Nat.not_lt_zero i),fun _=>by unfold num;rw[Yfp]⟩
 |c::l,h=>by
  obtain⟨hc,hl⟩:=Yrf h;rw[Yt1];have hp:0<2^l.length:=Nat.two_pow_pos _;have ih:=Ymg l hl;constructor
  ·intro h0 i hi;have h1:(c.toNat-48)*2^l.length=0:=by omega
   have h2:num l=0:=by omega
   have h3:c.toNat-48=0:=by
    rcases Nat.mul_eq_zero.1 h1 with e|e
    ·exact e
    ·omega
   match i,hi with
   |0,_=>
    rcases hc with e|e
    ·exact e
    ·rw[e] at h3;cases h3
   |i+1,hi=>exact ih.1 h2 i (by simpa using hi)
  ·intro h0;have e0:c=48:=h0 0 (by simp);have e1:num l=0:=ih.2 fun i hi=>h0 (i+1) (by simpa using hi);rw[e0,e1,show ((48:UInt8).toNat-48)=0 from rfl,Nat.zero_mul]
theorem Yci (l:List UInt8)(p n:Nat)(h:p+n≤8*l.length):Ya3 l p n=0↔∀i,i<n→(Yad l)[p+i]? =some 48:=by
 have hr:=Yds l;have hl:=Yag l;unfold Ya3;generalize Yad l=S at hr hl;rw[Ymg _ (Ycb _ _ (Ybf _ _ hr))];have hlen:((S.drop p).take n).length=n:=by rw[List.length_take,List.length_drop];omega
 constructor
 ·intro h0 i hi;have:=h0 i (by omega);rw[List.getElem_take,List.getElem_drop] at this;rw[List.getElem?_eq_getElem (by omega),this]
 ·intro h0 i hi;have:=h0 i (by omega);rw[List.getElem?_eq_getElem (by omega)] at this;rw[List.getElem_take,List.getElem_drop];exact Option.some.inj this
end
def Yaz (l:List UInt8)(bit:Int):Int×Int:=
 if bit<0∨8*(l.length:Int)<bit then (0,1) else if 8*(l.length:Int)-bit<22 then (0,2)
 else if Ya3 l bit.toNat 22 / 32=1 then (((Ya3 l bit.toNat 22%32:Nat):Int),0) else (0,4)
theorem Ytt {l:List UInt8}{bit:Int}(h:bit<0∨8*(l.length:Int)<bit):Yaz l bit=(0,1):=if_pos h
theorem Yen {l:List UInt8}{p:Nat}(h:p≤8*l.length)(h2:8*l.length<p+22):Yaz l p=(0,2):=by
 unfold Yaz;rw[if_neg (by omega),if_pos (by omega)]
theorem Ye4 {l:List UInt8}{p:Nat}(h:p+22≤8*l.length):Yaz l p=if Ya3 l p 22 / 32=1 then (((Ya3 l p 22%32:Nat):Int),0) else (0,4):=by
 unfold Yaz;rw[if_neg (by omega),if_neg (by omega),Int.toNat_natCast]
def Ya6 (l:List UInt8)(bit:Int):Int×Bool:=
 if bit<0∨8*(l.length:Int)<bit then (0,false) else if Ya3 l bit.toNat (gap bit.toNat)=0 then
  ((Yaz l ((bit.toNat+gap bit.toNat:Nat):Int)).1,(Yaz l ((bit.toNat+gap bit.toNat:Nat):Int)).2==0) else (0,false)
theorem Yty {l:List UInt8}{bit:Int}(h:bit<0∨8*(l.length:Int)<bit):Ya6 l bit=(0,false):=if_pos h
theorem Yow {l:List UInt8}{p:Nat}(h:p≤8*l.length)(h2:Ya3 l p (gap p)=0):Ya6 l p=((Yaz l ((p+gap p:Nat):Int)).1,(Yaz l ((p+gap p:Nat):Int)).2==0):=by
 unfold Ya6;rw[if_neg (by omega),Int.toNat_natCast,if_pos h2]
theorem Yt0 {l:List UInt8}{p:Nat}(h:p≤8*l.length)(h2:Ya3 l p (gap p)≠0):Ya6 l p=(0,false):=by
 unfold Ya6;rw[if_neg (by omega),Int.toNat_natCast,if_neg h2]
def Ya8 (l:List UInt8)(bit:Int):Nat:=if bit<0 then 0 else (((Yad l).drop bit.toNat).takeWhile (· == 48)).length
theorem Yor:∀(L:List UInt8) (n:Nat),(∀i,i<n→L[i]? =some 48)→L[n]?≠some 48→(L.takeWhile (· == 48)).length=n
 |[],0,_,_=>rfl
 |[],_+1,h,_=>by have:=h 0 (Nat.succ_pos _);cases this
 |c::L,0,_,h=>by
  have hc:¬ c=48:=fun e=>h (by rw[e];rfl);rw[List.takeWhile_cons_of_neg (by simpa using hc)];rfl
 |c::L,n+1,h,h2=>by
  have hc:c=48:=by have:=h 0 (Nat.succ_pos _);injection this
  rw[List.takeWhile_cons_of_pos (by simpa using hc),List.length_cons,Yor L n (fun i hi=>h (i+1) (by omega)) h2]
theorem Ywy {l:List UInt8}{bit:Int}(h:bit<0):Ya8 l bit=0:=if_pos h
theorem Yw0 {l:List UInt8}{bit:Int}(h:8*(l.length:Int)≤bit):Ya8 l bit=0:=by
 unfold Ya8;rw[if_neg (by omega),List.drop_eq_nil_of_le (by rw[Yag];omega)]
 rfl
theorem Yjq {l:List UInt8}{p n:Nat}(h:∀i,i<n→(Yad l)[p+i]? =some 48)(h2:(Yad l)[p+n]?≠some 48):Ya8 l p=n:=by
 unfold Ya8;rw[if_neg (by omega),Int.toNat_natCast];exact Yor _ n (fun i hi=>by rw[List.getElem?_drop];exact h i hi) (by rw[List.getElem?_drop];exact h2)
theorem Yee (l:List UInt8)(p m n:Nat)(h:p+m+n≤8*l.length):Ya3 l p (m+n)=Ya3 l p m*2^n+Ya3 l (p+m) n:=by
 have hl:=Yag l;unfold Ya3;rw[List.take_add,Yeo,List.drop_drop]
 congr 3
 rw[List.length_take,List.length_drop];omega
theorem Qbk (l:List UInt8)(j:Nat)(h:j<l.length):Ya3 l (8*j) 8=l[j].toNat:=by
 have e:=Yl5 l j 1 (8*j) 8 (by omega) (by omega) (by omega);rw[←e,List.drop_eq_getElem_cons h];have:=l[j].toNat_lt;show Yny 0 [l[j]] / 2^(8*(j+1)-8*j-8)%2^8=_;rw[show 8*(j+1)-8*j-8=0 by omega];show (256*0+l[j].toNat) / 2^0%2^8=_;omega
theorem Qfq (l:List UInt8)(p j n:Nat)(h:j<l.length)(h1:8*j≤p)(h2:p+n=8*(j+1)):Ya3 l p n=l[j].toNat%2^n:=by
 have e:=Yl5 l j 1 p n h1 (by omega) (by omega);rw[←e,List.drop_eq_getElem_cons h];show Yny 0 [l[j]] / 2^(8*(j+1)-p-n)%2^n=_;rw[show 8*(j+1)-p-n=0 by omega];show (256*0+l[j].toNat) / 2^0%2^n=_;rw[Nat.pow_zero,Nat.div_one,Nat.mul_zero,Nat.zero_add]
theorem Ywx (l:List UInt8)(p m k:Nat)(h:p+m≤8*l.length)(hk:k<m)(h1:2^k≤Ya3 l p m)(h2:Ya3 l p m<2^(k+1)):Ya8 l p=m-(k+1):=by
 have e1:=Yee l p (m-(k+1)) (k+1) (by omega);have e2:=Yee l p (m-k) k (by omega);rw[show m-(k+1)+(k+1)=m by omega] at e1;rw[show m-k+k=m by omega] at e2;have l2:=Ycg l (p+(m-k)) k;have z1:Ya3 l p (m-(k+1))=0:=by
  rcases Nat.eq_zero_or_pos (Ya3 l p (m-(k+1))) with h|h
  ·exact h
  ·have:=Nat.mul_le_mul_right (2^(k+1)) h;omega
 have z2:Ya3 l p (m-k)≠0:=by
  intro h;rw[h,Nat.zero_mul,Nat.zero_add] at e2;omega
 have n1:=(Yci l p _ (by omega)).1 z1;have n2:=fun h=>z2 ((Yci l p _ (by omega)).2 h);refine Yjq n1 fun h=>n2 fun i hi=>?_;rcases Nat.lt_or_ge i (m-(k+1)) with h3|h3
 ·exact n1 i h3
 ·rw[show i=m-(k+1) by omega];exact h
theorem Yz2 (l:List UInt8)(p m:Nat)(h:p+m=8*l.length)(h0:Ya3 l p m=0):Ya8 l p=m:=
 Yjq ((Yci l p m (by omega)).1 h0) (by rw[List.getElem?_eq_none (by rw[Yag];omega)];exact fun h=>by cases h)
def hit (l:List UInt8)(i:Nat):Bool:=(Yaz l ((8*i:Nat):Int)).2==0&&((Yaz l ((8*i:Nat):Int)).1==0 || (Yaz l ((8*i:Nat):Int)).1==31)
def Ybq (n:Nat):List UInt8:=Yav (32+n) 22
theorem Y4r (n:Nat):Yav (((32+n:Nat):Int)).toNat (22:Int).toNat=Ybq n:=rfl
theorem Ybb (n:Nat):(Ybq n).length=22:=Yal _ _
theorem Yot (n:Nat):Yax (Ybq n)=true:=Ycx _ _
def Yc3 (r:List UInt8)(n:Nat):List UInt8:=r++List.replicate (gap r.length) 48++Ybq n
theorem Ygu (r:List UInt8)(n:Nat):(Yc3 r n).length=r.length+gap r.length+22:=by
 unfold Yc3;rw[List.length_append,List.length_append,List.length_replicate,Ybb]
structure Shd where
 ref:Int
 flags:Int
 fmt:Int
 inter:Bool
 quant:Int
 supp:List Int
def Yt9:Shd:=⟨0,0,0,false,0,[]⟩
def Yhb (b:Int):Bool:=decide (0≤b∧b≤255)
def Yej (h:Shd):Bool:=decide (0≤h.ref∧h.ref≤255∧0≤h.flags∧h.flags≤7∧1≤h.quant∧h.quant≤31)&&Ygx h.fmt&&(decide (h.supp.length≤8)&&h.supp.all Yhb)
theorem Yd2 {h:Shd}:Yej h=true↔(0≤h.ref∧h.ref≤255∧0≤h.flags∧h.flags≤7∧1≤h.quant∧h.quant≤31)∧(1≤h.fmt∧h.fmt≤6)∧h.supp.length≤8∧∀b∈h.supp,0≤b∧b≤255:=by
 unfold Yej Yhb Ygx;simp only[Bool.and_eq_true,decide_eq_true_iff,List.all_eq_true];constructor
 ·rintro⟨⟨a,b⟩,c,d⟩;exact⟨a,b,c,d⟩
 ·rintro⟨a,b,c,d⟩;exact⟨⟨a,b⟩,c,d⟩
def Yl1:List Int→List UInt8
 |[]=>[48]
 |b::l=>49::(Yav b.toNat 8++Yl1 l)
theorem Ymq:∀l:List Int,(Yl1 l).length=9*l.length+1
 |[]=>rfl
 |b::l=>by
  rw[Yl1,List.length_cons,List.length_append,Yal,Ymq l,List.length_cons];omega
theorem Yxr:∀l:List Int,Yax (Yl1 l)=true
 |[]=>rfl
 |b::l=>by
  rw[Yl1,show ((49:UInt8)::(Yav b.toNat 8++Yl1 l))=[49]++(Yav b.toNat 8++Yl1 l) from rfl,Yar,Yar,Ycx,Yxr l];rfl
def Qi1 (b:Bool):List UInt8:=Yav (if b then 1 else 0) 1
def Yku (h:Shd):List UInt8:=
 Yav h.ref.toNat 8++(Yav 2 2++(Yav h.flags.toNat 3++(Yav h.fmt.toNat 3++(Qi1 h.inter++(Yav 0 4++(Yav h.quant.toNat 5++Yav 0 1))))))
def Ydi (h:Shd):List UInt8:=Yku h++Yl1 h.supp
theorem Yt7 (h:Shd):(Yku h).length=27:=by
 unfold Yku Qi1;simp only[List.length_append,Yal]
theorem Y5n (h:Shd):Yax (Yku h)=true:=by
 unfold Yku Qi1;simp only[Yar,Ycx,Bool.and_self]
theorem Yff (h:Shd):(Ydi h).length=28+9*h.supp.length:=by
 unfold Ydi;rw[List.length_append,Yt7,Ymq];omega
theorem Y5o (h:Shd):Yax (Ydi h)=true:=by
 unfold Ydi;rw[Yar,Y5n,Yxr];rfl
def Yqc:Nat→Nat
 |0=>8
 |1=>2
 |2=>3
 |3=>3
 |4=>1
 |5=>4
 |6=>5
 |_=>1
def Yh4:Nat→Nat
 |0=>0
 |j+1=>Yh4 j+Yqc j
def Yl9 (j:Nat)(v:Nat):Int:=
 if (j=1∧v≠2)∨(j=3∧Ygx v=false) then 5 else if (j=5∨j=7)∧v≠0 then 6 else if j=6∧v=0 then 9 else 0
def Yhi (l:List UInt8)(p j:Nat):Nat:=Ya3 l (p+Yh4 j) (Yqc j)
def Y9x (l:List UInt8)(p j:Nat):Int:=if 8*l.length<p+Yh4 j+Yqc j then 2 else Yl9 j (Yhi l p j)
def upS (l:List UInt8)(p:Nat):Nat→Int
 |0=>0
 |n+1=>if upS l p n≠0 then upS l p n else Y9x l p n
theorem Y2z {l:List UInt8}{p n:Nat}(h:upS l p n≠0):upS l p (n+1)=upS l p n:=by
 rw[upS,if_pos h]
theorem Yuu {l:List UInt8}{p n:Nat}(h:upS l p n=0):upS l p (n+1)=Y9x l p n:=by
 rw[upS,if_neg (fun k=>k h)]
theorem Yo8 {l:List UInt8}{p j:Nat}(h:8*l.length<p+Yh4 j+Yqc j):Y9x l p j=2:=if_pos h
theorem Yt3 {l:List UInt8}{p j:Nat}(h:p+Yh4 j+Yqc j≤8*l.length):Y9x l p j=Yl9 j (Yhi l p j):=if_neg (by omega)
theorem Ynk {l:List UInt8}{p:Nat}:∀{n:Nat},upS l p n=0↔∀j,j<n→p+Yh4 j+Yqc j≤8*l.length∧Yl9 j (Yhi l p j)=0
 |0=>⟨fun _ j hj=>absurd hj (Nat.not_lt_zero j),fun _=>rfl⟩
 |n+1=>by
  constructor
  ·intro h;by_cases h0:upS l p n=0
   ·rw[Yuu h0] at h;intro j hj;rcases (by omega:j<n∨j=n) with hj|rfl
    ·exact Ynk.1 h0 j hj
    ·by_cases hs:8*l.length<p+Yh4 j+Yqc j
     ·rw[Yo8 hs] at h;cases h
     ·rw[Yt3 (by omega)] at h;exact⟨by omega,h⟩
   ·rw[Y2z h0] at h;exact absurd h h0
  ·intro h;have h0:upS l p n=0:=Ynk.2 fun j hj=>h j (by omega);obtain⟨h1,h2⟩:=h n (by omega);rw[Yuu h0,Yt3 h1,h2]
def Ycy (l:List UInt8):Nat→Nat→List Int×Nat×Int
 |0,p=>if 8*l.length<p+1 then ([],0,2) else if Ya3 l p 1=0 then ([],p+1,0) else ([],0,13)
 |k+1,p=>if 8*l.length<p+1 then ([],0,2) else if Ya3 l p 1=0 then ([],p+1,0)
  else if 8*l.length<p+1+8 then ([],0,2) else (((Ya3 l (p+1) 8:Nat):Int)::(Ycy l k (p+9)).1,(Ycy l k (p+9)).2)
theorem Ysf {l:List UInt8}{p:Nat}(h:8*l.length<p+1):∀k,Ycy l k p=([],0,2)
 |0=>by rw[Ycy,if_pos h]
 |k+1=>by rw[Ycy,if_pos h]
theorem Ypy {l:List UInt8}{p:Nat}(h:p+1≤8*l.length)(h0:Ya3 l p 1=0):∀k,Ycy l k p=([],p+1,0)
 |0=>by rw[Ycy,if_neg (by omega),if_pos h0]
 |k+1=>by rw[Ycy,if_neg (by omega),if_pos h0]
theorem Yse {l:List UInt8}{p:Nat}(h:p+1≤8*l.length)(h0:Ya3 l p 1≠0):Ycy l 0 p=([],0,13):=by
 rw[Ycy,if_neg (by omega),if_neg h0]
theorem Yxu {l:List UInt8}{p k:Nat}(h:p+1≤8*l.length)(h0:Ya3 l p 1≠0)(h8:8*l.length<p+1+8):Ycy l (k+1) p=([],0,2):=by
 rw[Ycy,if_neg (by omega),if_neg h0,if_pos h8]
theorem Yl2 {l:List UInt8}{p k:Nat}(h0:Ya3 l p 1≠0)(h8:p+1+8≤8*l.length):Ycy l (k+1) p=(((Ya3 l (p+1) 8:Nat):Int)::(Ycy l k (p+9)).1,(Ycy l k (p+9)).2):=by
 rw[Ycy,if_neg (by omega),if_neg h0,if_neg (by omega)]
def Yt8 (l:List UInt8)(p:Nat)(s:List Int):Shd:=⟨(Yhi l p 0:Nat),(Yhi l p 2:Nat),(Yhi l p 3:Nat),Yhi l p 4==1,(Yhi l p 6:Nat),s⟩
def Ycc (l:List UInt8)(p:Nat):Int:=if p%8≠0 then 4 else if (Yaz l p).2≠0 then (Yaz l p).2 else if (Yaz l p).1≠0 then 4 else 0
def shk (l:List UInt8)(p:Nat):Shd×Nat×Int:=
 if Ycc l p≠0 then (Yt9,p,Ycc l p) else if upS l (p+22) 8≠0 then (Yt9,p,upS l (p+22) 8)
 else if (Ycy l 8 (p+49)).2.2≠0 then (Yt9,p,(Ycy l 8 (p+49)).2.2) else (Yt8 l (p+22) (Ycy l 8 (p+49)).1,(Ycy l 8 (p+49)).2.1,0)
theorem Ynh {l:List UInt8}{p:Nat}(h:Ycc l p≠0):shk l p=(Yt9,p,Ycc l p):=if_pos h
theorem Yua {l:List UInt8}{p:Nat}(h:Ycc l p=0)(h1:upS l (p+22) 8≠0):shk l p=(Yt9,p,upS l (p+22) 8):=by
 unfold shk;rw[if_neg (fun k=>k h),if_pos h1]
theorem Yub {l:List UInt8}{p:Nat}(h:Ycc l p=0)(h1:upS l (p+22) 8=0)(h2:(Ycy l 8 (p+49)).2.2≠0):shk l p=(Yt9,p,(Ycy l 8 (p+49)).2.2):=by
 unfold shk;rw[if_neg (fun k=>k h),if_neg (fun k=>k h1),if_pos h2]
theorem Y2i {l:List UInt8}{p:Nat}(h:Ycc l p=0)(h1:upS l (p+22) 8=0)(h2:(Ycy l 8 (p+49)).2.2=0):shk l p=(Yt8 l (p+22) (Ycy l 8 (p+49)).1,(Ycy l 8 (p+49)).2.1,0):=by
 unfold shk;rw[if_neg (fun k=>k h),if_neg (fun k=>k h1),if_neg (fun k=>k h2)]
theorem Ypz {l:List UInt8}:∀(s:List Int) (k p q:Nat),s.length≤k→(∀b∈s,0≤b∧b≤255)→Seg (Yad l) p q (Yl1 s)→Ycy l k p=(s,q,0)
 |[],k,p,q,_,_,h=>by
  have h':Seg (Yad l) p q (Yav 0 1):=h;obtain⟨h1,h2,h3⟩:=Ybv h' (by decide);rw[Ypy h3 h1,h2]
 |b::s,k,p,q,hk,hb,h=>by
  obtain⟨k,rfl⟩:∃j,k=j+1:=⟨k-1,by simp only[List.length_cons] at hk;omega⟩;have h':Seg (Yad l) p q (Yav 1 1++(Yav b.toNat 8++Yl1 s)):=h;obtain⟨m,g1,g2⟩:=h'.cut;obtain⟨m2,g3,g4⟩:=g2.cut;have hb0:=hb b (List.mem_cons_self ..);obtain⟨a1,a2,a3⟩:=Ybv g1 (by decide);obtain⟨b1,b2,b3⟩:=Ybv g3 (by show b.toNat<256;omega);subst a2 b2
  rw[Yl2 (by rw[a1];decide) b3,b1,Ypz s k (p+9) q (by simp only[List.length_cons] at hk;omega) (fun x hx=>hb x (List.mem_cons_of_mem _ hx)) g4];rw[show ((b.toNat:Nat):Int)=b by omega]
theorem Y9m:Yh4 0=0∧Yh4 1=8∧Yh4 2=10∧Yh4 3=13∧Yh4 4=16∧Yh4 5=17∧Yh4 6=21∧Yh4 7=26∧Yh4 8=27:=by decide
theorem Qax {l:List UInt8}{p q:Nat}{h:Shd}(hp:p%8=0)(hm:Yej h=true)(hs:Seg (Yad l) p q (Ybq 0++Ydi h)):shk l p=(h,q,0):=by
 obtain⟨⟨r1,r2,f1,f2,q1,q2⟩,⟨m1,m2⟩,hl,hb⟩:=Yd2.1 hm;unfold Ydi Yku at hs;simp only[List.append_assoc] at hs;obtain⟨p0,g0,hs⟩:=hs.cut;obtain⟨p1,g1,hs⟩:=hs.cut;obtain⟨p2,g2,hs⟩:=hs.cut;obtain⟨p3,g3,hs⟩:=hs.cut;obtain⟨p4,g4,hs⟩:=hs.cut;obtain⟨p5,g5,hs⟩:=hs.cut;obtain⟨p6,g6,hs⟩:=hs.cut;obtain⟨p7,g7,hs⟩:=hs.cut;obtain⟨p8,g8,hs⟩:=hs.cut;have g0':Seg (Yad l) p p0 (Yav 32 22):=g0
 have g5':Seg (Yad l) p4 p5 (Yav (if h.inter then 1 else 0) 1):=g5;obtain⟨a0,e0,b0⟩:=Ybv g0' (by decide);obtain⟨a1,e1,b1⟩:=Ybv g1 (by show h.ref.toNat<256;omega);obtain⟨a2,e2,b2⟩:=Ybv g2 (by decide);obtain⟨a3,e3,b3⟩:=Ybv g3 (by show h.flags.toNat<8;omega);obtain⟨a4,e4,b4⟩:=Ybv g4 (by show h.fmt.toNat<8;omega);obtain⟨a5,e5,b5⟩:=Ybv g5' (by split <;> decide);obtain⟨a6,e6,b6⟩:=Ybv g6 (by decide)
 obtain⟨a7,e7,b7⟩:=Ybv g7 (by show h.quant.toNat<32;omega);obtain⟨a8,e8,b8⟩:=Ybv g8 (by decide);subst e0 e1 e2 e3 e4 e5 e6 e7 e8;have v0:Yhi l (p+22) 0=h.ref.toNat:=a1;have v1:Yhi l (p+22) 1=2:=a2;have v2:Yhi l (p+22) 2=h.flags.toNat:=a3;have v3:Yhi l (p+22) 3=h.fmt.toNat:=a4;have v4:Yhi l (p+22) 4=if h.inter then 1 else 0:=a5
 have v5:Yhi l (p+22) 5=0:=a6;have v6:Yhi l (p+22) 6=h.quant.toNat:=a7;have v7:Yhi l (p+22) 7=0:=a8;have hM:Ycc l p=0:=by
  have e:Yaz l p=(0,0):=by rw[Ye4 b0,a0];rfl
  unfold Ycc;rw[if_neg (by omega),e]
  rfl
 have hU:upS l (p+22) 8=0:=Ynk.2 fun j hj=>by
  obtain⟨o0,o1,o2,o3,o4,o5,o6,o7,o8⟩:=Y9m;rcases (by omega:j=0∨j=1∨j=2∨j=3∨j=4∨j=5∨j=6∨j=7) with rfl|rfl|rfl|rfl|rfl|rfl|rfl|rfl
  ·exact⟨b1,by unfold Yl9;simp⟩
  ·exact⟨b2,by rw[v1];rfl⟩
  ·exact⟨b3,by unfold Yl9;simp⟩
  ·refine⟨b4,?_⟩;rw[v3];unfold Yl9 Ygx;rw[if_neg (by simp;omega),if_neg (by simp),if_neg (by simp)]
  ·exact⟨b5,by unfold Yl9;simp⟩
  ·exact⟨b6,by rw[v5];rfl⟩
  ·refine⟨b7,?_⟩;rw[v6];unfold Yl9;rw[if_neg (by simp),if_neg (by simp),if_neg (by omega)]
  ·exact⟨b8,by rw[v7];rfl⟩
 have hT:Ycy l 8 (p+49)=(h.supp,q,0):=Ypz h.supp 8 _ q hl hb hs;rw[Y2i hM hU (by rw[hT]),hT];unfold Yt8;rw[v0,v2,v3,v4,v6];obtain⟨ref,flags,fmt,inter,quant,supp⟩:=h;simp only at *;rw[show ((ref.toNat:Nat):Int)=ref by omega,show ((flags.toNat:Nat):Int)=flags by omega,show ((fmt.toNat:Nat):Int)=fmt by omega,show ((quant.toNat:Nat):Int)=quant by omega];cases inter <;> rfl
theorem Ysg {l:List UInt8}:∀(k p q:Nat) (s:List Int),Ycy l k p=(s,q,0)→Seg (Yad l) p q (Yl1 s)∧s.length≤k∧∀b∈s,0≤b∧b≤255
 |k,p,q,s,h=>by
  by_cases h1:8*l.length<p+1
  ·rw[Ysf h1] at h;cases h
  ·by_cases h0:Ya3 l p 1=0
   ·rw[Ypy (by omega) h0] at h;injection h with e1 e2;injection e2 with e2 e3;subst e1 e2;have g:=Yce (l:=l) (p:=p) (n:=1) (by omega);rw[h0] at g;exact⟨g,Nat.zero_le _,fun b hb=>by cases hb⟩
   ·match k with
    |0=>
     rw[Yse (by omega) h0] at h;cases h
    |k+1=>
     by_cases h8:8*l.length<p+1+8
     ·rw[Yxu (by omega) h0 h8] at h;cases h
     ·rw[Yl2 h0 (by omega)] at h;injection h with e1 e2;obtain⟨g1,g2,g3⟩:=Ysg k (p+9) q (Ycy l k (p+9)).1 (by rw[←e2]);subst e1;have t1:Ya3 l p 1=1:=by have:=Ycg l p 1;omega
      have s1:=Yce (l:=l) (p:=p) (n:=1) (by omega);rw[t1] at s1;have s2:=Yce (l:=l) (p:=p+1) (n:=8) (by omega);have hlt:=Ycg l (p+1) 8;refine⟨s1.app (s2.app g1),by simp only[List.length_cons];omega,fun b hb=>?_⟩;rcases List.mem_cons.1 hb with rfl|hb
      ·omega
      ·exact g3 b hb
theorem Ypm {l:List UInt8}{p:Nat}(h:Ycc l p=0):p%8=0∧p+22≤8*l.length∧Ya3 l p 22=32:=by
 unfold Ycc at h;by_cases h8:p%8=0
 ·rw[if_neg (by omega)] at h;by_cases h2:(Yaz l p).2=0
  ·rw[if_neg (fun k=>k h2)] at h;by_cases h1:(Yaz l p).1=0
   ·by_cases hp:p≤8*l.length
    ·by_cases hs:p+22≤8*l.length
     ·rw[Ye4 hs] at h1 h2;by_cases ht:Ya3 l p 22 / 32=1
      ·rw[if_pos ht] at h1;simp only at h1;exact⟨h8,hs,by omega⟩
      ·rw[if_neg ht] at h2;exact absurd h2 (by decide)
     ·rw[Yen hp (by omega)] at h2;exact absurd h2 (by decide)
    ·rw[Ytt (Or.inr (by omega))] at h2;exact absurd h2 (by decide)
   ·rw[if_pos h1] at h;cases h
  ·rw[if_pos h2] at h;exact absurd h h2
 ·rw[if_pos h8] at h;cases h
theorem Y2j {l:List UInt8}{p q:Nat}{h:Shd}(hk:shk l p=(h,q,0)):p%8=0∧Yej h=true∧Seg (Yad l) p q (Ybq 0++Ydi h):=by
 by_cases hM:Ycc l p=0
 ·by_cases hU:upS l (p+22) 8=0
  ·by_cases hT:(Ycy l 8 (p+49)).2.2=0
   ·rw[Y2i hM hU hT] at hk;injection hk with e1 e2;injection e2 with e2 _;obtain⟨t1,t2,t3⟩:=Ysg (l:=l) 8 (p+49) q (Ycy l 8 (p+49)).1 (by rw[←e2];exact Prod.ext rfl (Prod.ext rfl hT));have hu:=Ynk.1 hU;obtain⟨o0,o1,o2,o3,o4,o5,o6,o7,o8⟩:=Y9m;obtain⟨b0,-⟩:=hu 0 (by omega);obtain⟨b1,w1⟩:=hu 1 (by omega);obtain⟨b2,-⟩:=hu 2 (by omega);obtain⟨b3,w3⟩:=hu 3 (by omega);obtain⟨b4,-⟩:=hu 4 (by omega)
    obtain⟨b5,w5⟩:=hu 5 (by omega);obtain⟨b6,w6⟩:=hu 6 (by omega);obtain⟨b7,w7⟩:=hu 7 (by omega);have x1:Yhi l (p+22) 1=2:=by
     unfold Yl9 at w1
     split at w1
     ·cases w1
     ·simp_all
    have x3:Ygx (Yhi l (p+22) 3:Nat)=true:=by
     unfold Yl9 at w3
     split at w3
     ·cases w3
     ·simp_all
    have x5:Yhi l (p+22) 5=0:=by
     unfold Yl9 at w5;simp at w5
     simp_all
    have x7:Yhi l (p+22) 7=0:=by
     unfold Yl9 at w7;simp at w7
     simp_all
    have x6:Yhi l (p+22) 6≠0:=by
     unfold Yl9 at w6;simp at w6
     simp_all
    have l0:=Ycg l (p+22+Yh4 0) (Yqc 0);have l2:=Ycg l (p+22+Yh4 2) (Yqc 2);have l4:=Ycg l (p+22+Yh4 4) (Yqc 4);have l6:=Ycg l (p+22+Yh4 6) (Yqc 6);obtain⟨m8,m22,m32⟩:=Ypm hM;have sm:=Yce (l:=l) (p:=p) (n:=22) m22;rw[m32] at sm;have s0:=Yce (l:=l) b0;have s1:=Yce (l:=l) b1;have s2:=Yce (l:=l) b2;have s3:=Yce (l:=l) b3;have s4:=Yce (l:=l) b4;have s5:=Yce (l:=l) b5;have s6:=Yce (l:=l) b6
    have s7:=Yce (l:=l) b7;have y1:Ya3 l (p+22+Yh4 1) (Yqc 1)=2:=x1;have y5:Ya3 l (p+22+Yh4 5) (Yqc 5)=0:=x5;have y7:Ya3 l (p+22+Yh4 7) (Yqc 7)=0:=x7;have l0':Yhi l (p+22) 0<256:=l0;have l2':Yhi l (p+22) 2<8:=l2;have l4':Yhi l (p+22) 4<2:=l4;have l6':Yhi l (p+22) 6<32:=l6;rw[y1] at s1;rw[y5] at s5;rw[y7] at s7;subst e1
    have z4:Seg (Yad l) (p+22+Yh4 4) (p+22+Yh4 4+Yqc 4) (Qi1 (Yhi l (p+22) 4==1)):=by
     have hb:(if (Yhi l (p+22) 4==1)=true then 1 else 0)=Yhi l (p+22) 4:=by
      rcases (by omega:Yhi l (p+22) 4=0∨Yhi l (p+22) 4=1) with h|h <;> rw[h] <;> rfl
     unfold Qi1;rw[hb];exact s4
    refine⟨m8,Yd2.2 ⟨?_,?_,t2,t3⟩,?_⟩
    ·unfold Yt8;simp only;omega
    ·unfold Ygx at x3;exact of_decide_eq_true x3
    ·unfold Ydi Yku Yt8;simp only[Int.toNat_natCast,List.append_assoc];exact sm.app (s0.app (s1.app (s2.app (s3.app (z4.app (s5.app (s6.app (s7.app t1))))))))
   ·rw[Yub hM hU hT] at hk;injection hk with _ e2;injection e2 with _ e2;exact absurd e2 hT
  ·rw[Yua hM hU] at hk;injection hk with _ e2;injection e2 with _ e2;exact absurd e2 hU
 ·rw[Ynh hM] at hk;injection hk with _ e2;injection e2 with _ e2;exact absurd e2 hM
def Yfo (id q:Nat):List UInt8:=Yav id 2++Yav q 5
theorem Yqm (id q:Nat):(Yfo id q).length=7:=by
 unfold Yfo;rw[List.length_append,Yal,Yal]
theorem Yzp (id q:Nat):Yax (Yfo id q)=true:=by
 unfold Yfo;rw[Yar,Ycx,Ycx];rfl
def hdk (l:List UInt8)(p:Nat)(n:Int):Int×Int×Nat×Int:=
 if (Ya6 l p).2=false then (0,0,p,4) else if (Ya6 l p).1≠n then (0,0,p,10)
 else if 8*l.length<p+gap p+22+7 then (0,0,p,2)
 else if Ya3 l (p+gap p+22+2) 5=0 then (0,0,p,9)
 else (((Ya3 l (p+gap p+22) 2:Nat):Int),((Ya3 l (p+gap p+22+2) 5:Nat):Int),p+gap p+22+7,0)
theorem Y1p {l:List UInt8}{p:Nat}{n:Int}(h:(Ya6 l p).2=false):hdk l p n=(0,0,p,4):=if_pos h
theorem Ywh {l:List UInt8}{p:Nat}{n:Int}(h:(Ya6 l p).2=true)(h1:(Ya6 l p).1≠n):hdk l p n=(0,0,p,10):=by
 unfold hdk;rw[if_neg (by rw[h];decide),if_pos h1]
theorem Ywj {l:List UInt8}{p:Nat}{n:Int}(h:(Ya6 l p).2=true)(h1:(Ya6 l p).1=n)(h2:8*l.length<p+gap p+22+7):hdk l p n=(0,0,p,2):=by
 unfold hdk;rw[if_neg (by rw[h];decide),if_neg (fun k=>k h1),if_pos h2]
theorem Ywi {l:List UInt8}{p:Nat}{n:Int}(h:(Ya6 l p).2=true)(h1:(Ya6 l p).1=n)(h2:p+gap p+22+7≤8*l.length)(h3:Ya3 l (p+gap p+22+2) 5=0):hdk l p n=(0,0,p,9):=by
 unfold hdk;rw[if_neg (by rw[h];decide),if_neg (fun k=>k h1),if_neg (by omega),if_pos h3]
theorem Y8w {l:List UInt8}{p:Nat}{n:Int}(h:(Ya6 l p).2=true)(h1:(Ya6 l p).1=n)(h2:p+gap p+22+7≤8*l.length)(h3:Ya3 l (p+gap p+22+2) 5≠0):
  hdk l p n=(((Ya3 l (p+gap p+22) 2:Nat):Int),((Ya3 l (p+gap p+22+2) 5:Nat):Int),p+gap p+22+7,0):=by
 unfold hdk;rw[if_neg (by rw[h];decide),if_neg (fun k=>k h1),if_neg (by omega),if_neg h3]
theorem Yox {l:List UInt8}{p:Nat}(h:(Ya6 l p).2=true):p+gap p+22≤8*l.length:=by
 by_cases hp:p≤8*l.length
 ·by_cases h0:Ya3 l p (gap p)=0
  ·rw[Yow hp h0] at h;simp only[beq_iff_eq] at h;by_cases hs:p+gap p+22≤8*l.length
   ·exact hs
   ·by_cases hq:p+gap p≤8*l.length
    ·rw[Yen hq (by omega)] at h;exact absurd h (by decide)
    ·rw[Ytt (Or.inr (by omega))] at h;exact absurd h (by decide)
  ·rw[Yt0 hp h0] at h;exact absurd h (by decide)
 ·rw[Yty (Or.inr (by omega))] at h;exact absurd h (by decide)
def Yd8 (a n id q:Nat):List UInt8:=List.replicate (gap a) 48++Ybq n++Yfo id q
theorem Y3f (r:List UInt8)(n id q:Nat):Yc3 r n++Yfo id q=r++Yd8 r.length n id q:=by
 unfold Yc3 Yd8;simp only[List.append_assoc]
theorem Yql (a n id q:Nat):(Yd8 a n id q).length=gap a+29:=by
 unfold Yd8;rw[List.length_append,List.length_append,List.length_replicate,Ybb,Yqm]
theorem Yzo (a n id q:Nat):Yax (Yd8 a n id q)=true:=by
 unfold Yd8;rw[Yar,Yar,Yd9,Yot,Yzp];rfl
theorem Ytz {l:List UInt8}{p:Nat}(h:(Ya6 l p).2=true):Ya3 l p (gap p)=0:=by
 by_cases hp:p≤8*l.length
 ·by_cases h0:Ya3 l p (gap p)=0
  ·exact h0
  ·rw[Yt0 hp h0] at h;exact absurd h (by decide)
 ·rw[Yty (Or.inr (by omega))] at h;exact absurd h (by decide)
set_option maxRecDepth 100000 in
set_option maxHeartbeats 1000000 in
theorem Y85 (w:World)(c:Nat)(h:c<256):
  Calls Tryz.prog 194 #[.int .u8 (c:Int)] w fun e w'=>e=.returned (.int .i64 ((bitLen c:Nat):Int))∧w=w':=by
 go_enter Tryz.func194,Tryz.ntmps194
 go_wp2
 go_ret
 refine⟨Ydy ?_,rfl⟩;rw[len8tab_get];have:=bitLen_le8 c h;unfold wrap64;omega
set_option maxHeartbeats 1000000 in
theorem Y0y (w:World)(c:Nat)(h:c<256):
  Calls Tryz.prog 180 #[.int .u8 (c:Int)] w fun e w'=>e=.returned (.int .i64 ((8-bitLen c:Nat):Int))∧w=w':=by
 have hm:=bitLen_le8 c h;obtain⟨y,hy⟩:∃y,bitLen c=y:=⟨_,rfl⟩;rw[hy] at hm ⊢;have Y:=Lib.hid hy;clear hy
 go_enter Tryz.func180,Tryz.ntmps180
 go_wp2_with fail
 refine(Y85 _ c h).mono ?_;rintro e w1 ⟨rfl,rfl⟩;rw[Y.out]
 go_wp2
 go_ret
 exact⟨Ydy (by omega),rfl⟩
theorem Qd9:∀c:Fin 256,∀g:Fin 8,bits .and .u8 ((c.val:Nat):Int) (((255 / 2^g.val:Nat):Nat):Int)=((c.val%2^(8-g.val):Nat):Int):=by decide +kernel
set_option maxHeartbeats 1000000 in
theorem Y6k (w:World)(s:ByteArray)(bit:Int)(hs:s.size≤1099511627776):
  Calls Tryz.prog 161 #[.string s,.int .i64 bit] w fun e w'=>e=.returned (.int .i64 ((Ya8 s.data.toList bit:Nat):Int))∧Below w.heap.size w w':=by
 have hsl:s.data.toList.length=s.size:=rfl;by_cases h1:bit<0
 ·have A:=Lib.hid (Ywy (l:=s.data.toList) h1)
  go_enter Tryz.func161,Tryz.ntmps161
  go_wp2
  go_ret
  exact⟨Ydy (by rw[A.out];rfl),Below.refl _ _⟩
 ·have d1:decide (bit<0)=false:=by simpa using h1
  by_cases h2:8*(s.size:Int)≤bit
  ·have A:=Lib.hid (Yw0 (l:=s.data.toList) (bit:=bit) (by rw[hsl];exact h2));have d2:decide (8*(s.size:Int)≤bit)=true:=by simpa using h2
   go_enter Tryz.func161,Tryz.ntmps161
   go_wp2
   go_ret
   exact⟨Ydy (by rw[A.out];rfl),Below.refl _ _⟩
  ·obtain⟨p,rfl⟩:=Int.eq_ofNat_of_zero_le (by omega:0≤bit);have d2:decide (8*(s.size:Int)≤(p:Int))=false:=by simpa using h2
   have hp:p<8*s.size:=by omega
   obtain⟨f,hf⟩:∃f,p / 8=f:=⟨_,rfl⟩;obtain⟨g,hg⟩:∃g,p%8=g:=⟨_,rfl⟩;have hpf:(p:Int) / 8=(f:Int):=by omega
   have hpg:(p:Int)%8=(g:Int):=by omega
   have hfs:f<s.size:=by omega
   have hfg:p=8*f+g:=by omega
   have hg8:g<8:=by omega
   have FG:=Lib.hid hfg;clear h1 h2 hf hg hfg
   go_enter Tryz.func161,Tryz.ntmps161
   go_wp2
   go_region
   go_wp2
   clear hpf hpg
   go_loopw [5,6] (fun i x wr=>∃j c:Nat,f≤j∧j<s.size∧c<256∧i=.int .i64 j∧x=.int .u8 (c:Int)∧Hid (Ya3 s.data.toList p (8*(j+1)-p)=c)∧Below w.heap.size w wr) (fun i _ _=>s.size-(intOf i).toNat)
   case atStart=>
    have hlow:=Qd9 ⟨s[f].toNat,s[f].toNat_lt⟩ ⟨g,hg8⟩;have htl:=Qfq s.data.toList p f (8*(f+1)-p) (by rw[hsl];exact hfs) (by have:=FG.out;omega) (by have:=FG.out;omega);have hmod:s[f].toNat%2^(8-g)<256:=Nat.lt_of_le_of_lt (Nat.mod_le _ _) s[f].toNat_lt;refine⟨f,s[f].toNat%2^(8-g),Nat.le_refl _,hfs,hmod,rfl,?_,Lib.hid ?_,(Below.refl _ w).drew⟩
    ·rw[←hlow];simp
    ·rw[htl,show 8*(f+1)-p=8-g by have:=FG.out;omega]
     rfl
   case round=>
    obtain⟨j,c,hfj,hjs,hc,rfl,rfl,T,hbw⟩:=hrel;by_cases h0:c=0
    ·have d0:((c:Int)==0)=true:=by rw[h0];rfl
     by_cases h3:j+1=s.size
     ·have A:=Lib.hid (Yz2 s.data.toList p (8*(j+1)-p) (by rw[hsl];have:=FG.out;omega) (by rw[T.out,h0]));have d3:((j:Int)+1==(s.size:Int))=true:=by rw[beq_iff_eq];omega
      have hpj:p≤8*j+8:=by have:=FG.out;omega
      have hj40:j≤1099511627776:=by omega
      clear h0
      go_wp2
      go_ret
      exact⟨Ydy (by rw[A.out];omega),hbw⟩
     ·have d3:((j:Int)+1==(s.size:Int))=false:=by rw[beq_eq_false_iff_ne];omega
      have hj1:j+1<s.size:=by omega
      have T2:=Lib.hid ((by
       have e:=Yee s.data.toList p (8*(j+1)-p) 8 (by rw[hsl];have:=FG.out;omega);rw[T.out,h0,show p+(8*(j+1)-p)=8*(j+1) by have:=FG.out;omega,Qbk _ _ (by rw[hsl];exact hj1)] at e;rw[show 8*(j+1+1)-p=8*(j+1)-p+8 by have:=FG.out;omega,e,Nat.zero_mul,Nat.zero_add]
       rfl:Ya3 s.data.toList p (8*(j+1+1)-p)=s[j+1].toNat))
      have hc2:=s[j+1].toNat_lt;clear h0 h3
      go_wp2
      go_roundw
      case rel=>exact⟨j+1,s[j+1].toNat,by omega,hj1,hc2,by go_num,rfl,T2,hbw⟩
      case measure=>simp[intOf];omega
    ·have d0:((c:Int)==0)=false:=by rw[beq_eq_false_iff_ne];omega
     have hlen:=bitLen_le8 c hc;have hfin:(((8*(j:Int)+((8-bitLen c:Nat):Int)-p):Int))=((Ya8 s.data.toList (p:Int):Nat):Int):=by
      have hs2:=bitLen_spec c;have hne:bitLen c≠0:=by unfold bitLen;rw[if_neg h0];omega
      have hpl:=hs2.2 h0;have hlt:=Ycg s.data.toList p (8*(j+1)-p);have hk:bitLen c-1<8*(j+1)-p:=by
       rcases Nat.lt_or_ge (bitLen c-1) (8*(j+1)-p) with h|h
       ·exact h
       ·have:=Nat.pow_le_pow_right (n:=2) (by omega) h;rw[T.out] at hlt;omega
      have A:=Ywx s.data.toList p (8*(j+1)-p) (bitLen c-1) (by rw[hsl];have:=FG.out;omega) hk (by rw[T.out];exact hpl) (by rw[T.out,show bitLen c-1+1=bitLen c by omega];exact hs2.1);rw[A];omega
     obtain⟨y,hy⟩:∃y,8-bitLen c=y:=⟨_,rfl⟩;rw[hy] at hfin;have Y:=Lib.hid hy;have F:=Lib.hid hfin;have hy8:y≤8:=by omega
     clear hfin hy hlen h0
     go_wp2_with fail
     refine(Y0y _ c hc).mono ?_;rintro e w1 ⟨rfl,rfl⟩;rw[Y.out]
     go_wp2
     go_ret
     exact⟨Ydy (by rw[←F.out]),hbw⟩
end Go.Proofs.YtjjmalchelniiaaGreatDoor