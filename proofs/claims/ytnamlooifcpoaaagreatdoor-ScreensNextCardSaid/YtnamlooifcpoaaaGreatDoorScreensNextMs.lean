/- No condition. -/
import Derived.Test.YtnamlooifcpoaaaGreatDoorScreensNextMb
import Derived.Test.YtnamlooifcpoaaaGreatDoorRows
import Derived.WalkKit
import Derived.WalkMore
import Derived.ProofKit
namespace Go.Proofs.YtnamlooifcpoaaaGreatDoor
open Go.RowKit
set_option maxHeartbeats 1000000 in
theorem Ygb (k:Int)(w:World):Calls Tryz.prog 48 #[.int .i64 k] w fun e w'=>e=.returned (.tuple #[.int .i64 (Yd3 k),.int .i64 (Yd6 k),.bool (Yb6 k)])∧w=w':=by
 rcases Ych k with rfl|rfl|rfl|rfl|rfl|rfl|⟨h,hv⟩
 case _|_|_|_|_|_=>
  go_enter Tryz.func48,Tryz.ntmps48
  go_wp2
  go_ret3
  exact⟨rfl,rfl⟩
 obtain⟨t1,t2,t3,t4,t5,t6⟩:=Yrx h;unfold Yd3 Yd6;rw[h,hv];clear h hv
 go_enter Tryz.func48,Tryz.ntmps48
 go_wp2
 go_ret3
 exact⟨rfl,rfl⟩
set_option maxHeartbeats 1000000 in
theorem Yk9 (k:Int)(w:World):Calls Tryz.prog 90 #[.int .i64 k] w fun e w'=>e=.returned (.tuple #[.int .i64 (Yga k),.int .i64 (Ygz k)])∧w=w':=by
 rcases Ych k with rfl|rfl|rfl|rfl|rfl|rfl|⟨h,hv⟩
 case _|_|_|_|_|_=>
  go_enter Tryz.func90,Tryz.ntmps90
  go_wp2
  go_ret2
  exact⟨rfl,rfl⟩
 obtain⟨t1,t2,t3,t4,t5,t6⟩:=Yrx h;unfold Yga Ygz;rw[hv];clear h hv
 go_enter Tryz.func90,Tryz.ntmps90
 go_wp2
 go_ret2
 exact⟨rfl,rfl⟩
def Yrv (k:Int):Int:=Yd3 k / 16
def Yu7 (k:Int):Int:=Yd6 k / 16
set_option maxHeartbeats 1000000 in
theorem Ydu (k:Int)(w:World):Calls Tryz.prog 81 #[.int .i64 k] w fun e w'=>e=.returned (.tuple #[.int .i64 (Yrv k),.int .i64 (Yu7 k)])∧w=w':=by
 have c:=Ygb k w;have hv:(Yd3 k).tdiv 16=Yrv k∧(Yd6 k).tdiv 16=Yu7 k:=by
  rcases Ych k with rfl|rfl|rfl|rfl|rfl|rfl|⟨_,hv⟩
  case _|_|_|_|_|_=>exact⟨rfl,rfl⟩
  unfold Yrv Yu7 Yd3 Yd6;rw[hv];exact⟨rfl,rfl⟩
 have hw:IntKind.i64.wrap (Yrv k)=Yrv k∧IntKind.i64.wrap (Yu7 k)=Yu7 k:=by
  rcases Ych k with rfl|rfl|rfl|rfl|rfl|rfl|⟨_,hv⟩
  case _|_|_|_|_|_=>exact⟨rfl,rfl⟩
  unfold Yrv Yu7 Yd3 Yd6;rw[hv];exact⟨rfl,rfl⟩
 obtain⟨v1,v2⟩:=hv;obtain⟨v3,v4⟩:=hw;generalize Yd3 k=a at c v1;generalize Yd6 k=b at c v2;generalize Yrv k=a2 at v1 v3 ⊢;generalize Yu7 k=b2 at v2 v4 ⊢
 go_enter Tryz.func81,Tryz.ntmps81
 go_wp2_with (first|(with_reducible refine c.mono ?_;rintro e w1 ⟨rfl,rfl⟩))
 go_ret2
 exact⟨rfl,rfl⟩
def Y3h (k p:Int):Int×Int:=if p=0 then (Yd3 k,Yd6 k) else if p=1∨p=2 then (Yd3 k / 2,Yd6 k / 2) else (0,0)
theorem Yg0 (k p:Int)(w:World):Calls Tryz.prog 47 #[.int .i64 k,.int .i64 p] w fun e w'=>e=.returned (.tuple #[.int .i64 (Y3h k p).1,.int .i64 (Y3h k p).2])∧w=w':=by
 have c:=Ygb k w;have hv:(Yd3 k).tdiv 2=Yd3 k / 2∧(Yd6 k).tdiv 2=Yd6 k / 2:=by
  rcases Ych k with rfl|rfl|rfl|rfl|rfl|rfl|⟨_,hv⟩
  case _|_|_|_|_|_=>exact⟨rfl,rfl⟩
  unfold Yd3 Yd6;rw[hv];exact⟨rfl,rfl⟩
 have hw:IntKind.i64.wrap (Yd3 k / 2)=Yd3 k / 2∧IntKind.i64.wrap (Yd6 k / 2)=Yd6 k / 2:=by
  rcases Ych k with rfl|rfl|rfl|rfl|rfl|rfl|⟨_,hv⟩
  case _|_|_|_|_|_=>exact⟨rfl,rfl⟩
  unfold Yd3 Yd6;rw[hv];exact⟨rfl,rfl⟩
 obtain⟨v1,v2⟩:=hv;obtain⟨v3,v4⟩:=hw;unfold Y3h;generalize Yd3 k / 2=a2 at v1 v3 ⊢;generalize Yd6 k / 2=b2 at v2 v4 ⊢;generalize Yd3 k=a at c v1 ⊢;generalize Yd6 k=b at c v2 ⊢;by_cases h0:p=0
 ·subst h0
  go_enter Tryz.func47,Tryz.ntmps47
  go_wp2_with (first|(with_reducible refine c.mono ?_;rintro e w1 ⟨rfl,rfl⟩))
  go_ret2
  exact⟨rfl,rfl⟩
 by_cases h1:p=1
 ·subst h1
  go_enter Tryz.func47,Tryz.ntmps47
  go_wp2_with (first|(with_reducible refine c.mono ?_;rintro e w1 ⟨rfl,rfl⟩))
  go_ret2
  exact⟨rfl,rfl⟩
 by_cases h2:p=2
 ·subst h2
  go_enter Tryz.func47,Tryz.ntmps47
  go_wp2_with (first|(with_reducible refine c.mono ?_;rintro e w1 ⟨rfl,rfl⟩))
  go_ret2
  exact⟨rfl,rfl⟩
 rw[if_neg h0,if_neg (by omega)];have t0:(p==0)=false:=by simpa using h0
 have t1:(p==1)=false:=by simpa using h1
 have t2:(p==2)=false:=by simpa using h2
 clear h0 h1 h2
 go_enter Tryz.func47,Tryz.ntmps47
 go_wp2_with (first|(with_reducible refine c.mono ?_;rintro e w1 ⟨rfl,rfl⟩))
 go_ret2
 exact⟨rfl,rfl⟩
theorem Ymo (w:World)(o1 o2:Obj):((w.alloc o1).alloc o2).heap[w.heap.size]? =some o1:=by
 show ((w.heap.push o1).push o2)[w.heap.size]? =some o1;rw[Array.getElem?_push,if_neg (by simp)];simp
theorem Yjo (w:World)(o1 o2:Obj):Below w.heap.size w ((w.alloc o1).alloc o2):=((Below.refl _ w).alloc (Nat.le_refl _) _).alloc (by simp) _
def Yrw (k:Int):Array Value:=#[.int .i64 (Yd3 k),.int .i64 (Yd6 k),.int .i64 (Yga k),.int .i64 (Ygz k)]
set_option maxHeartbeats 2000000 in
theorem Yc9 (k:Int)(w:World):Calls Tryz.prog 34 #[.int .i64 k] w fun e w'=>e=.returned (.agg (Yrw k))∧Below w.heap.size w w':=by
 by_cases hk:k<0∨6<k
 ·have hv:Yrw k=#[.int .i64 0,.int .i64 0,.int .i64 0,.int .i64 0]:=by
   have hf:Y1e k=(0,0,0,0):=by
    unfold Y1e;rw[if_neg (by omega),if_neg (by omega),if_neg (by omega),if_neg (by omega),if_neg (by omega),if_neg (by omega)]
   unfold Yrw Yd3 Yd6 Yga Ygz;rw[hf]
  rw[hv];clear hv;by_cases hn:k<0
  ·have t0:decide (k<0)=true:=by simpa using hn
   clear hk hn
   go_enter Tryz.func34,Tryz.ntmps34
   go_wp2
   exact bodyPost_ret (results_cell_row rfl _ _ w.heap.size 75 _ (0,0) _ rfl (Ymo w _ _) Tryz.underlying75 rfl (by kernel_rfl)) rfl ⟨rfl,Yjo w _ _⟩
  ·have t0:decide (k<0)=false:=by simpa using hn
   have t1:decide (7≤k)=true:=by simp;omega
   clear hk hn
   go_enter Tryz.func34,Tryz.ntmps34
   go_wp2
   exact bodyPost_ret (results_cell_row rfl _ _ w.heap.size 75 _ (0,0) _ rfl (Ymo w _ _) Tryz.underlying75 rfl (by kernel_rfl)) rfl ⟨rfl,Yjo w _ _⟩
 have hk2:k=0∨k=1∨k=2∨k=3∨k=4∨k=5∨k=6:=by omega
 clear hk;rcases hk2 with rfl|rfl|rfl|rfl|rfl|rfl|rfl
 all_goals
  go_enter Tryz.func34,Tryz.ntmps34
  go_wp2
  exact bodyPost_ret (results_cell_row rfl _ _ w.heap.size 75 _ (0,0) _ rfl (Ymo w _ _) Tryz.underlying75 rfl (by kernel_rfl)) rfl ⟨rfl,Yjo w _ _⟩
end Go.Proofs.YtnamlooifcpoaaaGreatDoor
namespace Go.Proofs.YtnamlooifcpoaaaGreatDoor
def acr (k:Int):Nat:=(Yrv k).toNat
def dow (k:Int):Nat:=(Yu7 k).toNat
def wid (k:Int)(p:Nat):Nat:=if p=0 then 16*acr k else 8*acr k
def hei (k:Int)(p:Nat):Nat:=if p=0 then 16*dow k else 8*dow k
def siz (k:Int)(p:Nat):Nat:=wid k p*hei k p
def Ybg (k:Int):Nat:=acr k*dow k
theorem Yb5 (k:Int):(acr k:Int)=Yrv k∧(dow k:Int)=Yu7 k∧Yd3 k=16*(acr k:Int)∧Yd6 k=16*(dow k:Int)∧acr k≤88∧dow k≤72:=by
 rcases Ych k with rfl|rfl|rfl|rfl|rfl|rfl|⟨h,hv⟩
 case _|_|_|_|_|_=>decide +kernel
 unfold acr dow Yrv Yu7 Yd3 Yd6;rw[hv]
 decide +kernel
theorem Yra {k:Int}(h:Yb6 k=false):acr k=0∧dow k=0:=by
 rcases Ych k with rfl|rfl|rfl|rfl|rfl|rfl|⟨_,hv⟩
 case _|_|_|_|_|_=>cases h
 unfold acr dow Yrv Yu7 Yd3 Yd6;rw[hv];exact⟨rfl,rfl⟩
theorem Yl5 {k:Int}(h:Yb6 k=true):0<acr k∧0<dow k:=by
 rcases Ych k with rfl|rfl|rfl|rfl|rfl|rfl|⟨h2,_⟩
 case _|_|_|_|_|_=>decide +kernel
 rw[h] at h2;cases h2
theorem Yh3 {k:Int}(h:Yb6 k=false):Ybg k=0:=by
 unfold Ybg;rw[(Yra h).1,Nat.zero_mul]
theorem Ydr (k:Int):Ybg k≤6336:=Nat.mul_le_mul (Yb5 k).2.2.2.2.1 (Yb5 k).2.2.2.2.2
theorem Yn2 {k:Int}{n:Nat}(h:n<Ybg k):Yb6 k=true:=by
 cases hq:Yb6 k with
 |true=>rfl
 |false=>rw[Yh3 hq] at h;cases h
theorem Yp2 (k:Int)(p:Nat)(hp:p<3):Y3h k (p:Int)=((wid k p:Int),(hei k p:Int)):=by
 obtain⟨_,_,h3,h4,_⟩:=Yb5 k;unfold Y3h wid hei
 match p,hp with
 |0,_=>simp[h3,h4]
 |1,_=>simp[h3,h4];omega
 |2,_=>simp[h3,h4];omega
theorem Ygg (k:Int)(p:Nat):wid k p≤1408∧hei k p≤1152:=by
 have:=Yb5 k;unfold wid hei
 split <;> omega
theorem Ydx (k:Int)(p:Nat):siz k p≤1622016:=Nat.mul_le_mul (Ygg k p).1 (Ygg k p).2
theorem Yb4 {k:Int}(h:Yb6 k=true)(p:Nat):0<siz k p:=by
 have:=Yl5 h;refine Nat.mul_pos ?_ ?_
 ·unfold wid;split <;> omega
 ·unfold hei;split <;> omega
def plc (b:Nat):Nat:=if b<4 then 0 else b-3
def col (k:Int)(n b:Nat):Nat:=if b<4 then 2*(n%acr k)+b%2 else n%acr k
def lin (k:Int)(n b:Nat):Nat:=if b<4 then 2*(n / acr k)+b / 2 else n / acr k
def Yni (k:Int)(n b:Nat):Nat:=8*(lin k n b*wid k (plc b)+col k n b)
def pos (k:Int)(n b i:Nat):Nat:=Yni k n b+i / 8*wid k (plc b)+i%8
theorem Ygd {b:Nat}(h:b<6):plc b<3:=by unfold plc;split <;> omega
theorem Ydq {k:Int}{n:Nat}(h:n<Ybg k):0<acr k∧n%acr k<acr k∧n / acr k<dow k:=by
 have h0:0<acr k:=by
  rcases Nat.eq_zero_or_pos (acr k) with h1|h1
  ·unfold Ybg at h;rw[h1,Nat.zero_mul] at h;cases h
  ·exact h1
 exact⟨h0,Nat.mod_lt _ h0,Nat.div_lt_of_lt_mul h⟩
theorem Yiw {k:Int}{n b:Nat}(h:n<Ybg k)(hb:b<6):8*col k n b+8≤wid k (plc b):=by
 obtain⟨_,h2,_⟩:=Ydq h;unfold col wid plc;by_cases h4:b<4
 ·simp only[if_pos h4,if_true];omega
 ·simp only[if_neg h4,if_neg (show ¬ b-3=0 by omega)];omega
theorem Yi2 {k:Int}{n b:Nat}(h:n<Ybg k)(hb:b<6):8*lin k n b+8≤hei k (plc b):=by
 obtain⟨_,_,h2⟩:=Ydq h;unfold lin hei plc;by_cases h4:b<4
 ·simp only[if_pos h4,if_true];omega
 ·simp only[if_neg h4,if_neg (show ¬ b-3=0 by omega)];omega
theorem Yof (k:Int)(n b y:Nat):Yni k n b+y*wid k (plc b)=(8*lin k n b+y)*wid k (plc b)+8*col k n b:=by
 unfold Yni;rw[Nat.add_mul,Nat.mul_add,Nat.mul_assoc];omega
theorem Yp5 {k:Int}{n b y:Nat}(h:n<Ybg k)(hb:b<6)(hy:y<8):Yni k n b+y*wid k (plc b)+8≤siz k (plc b):=by
 have h1:=Yiw h hb;have h2:=Yi2 h hb;rw[Yof];have h3:(8*lin k n b+y+1)*wid k (plc b)≤hei k (plc b)*wid k (plc b):=Nat.mul_le_mul_right _ (by omega);rw[Nat.succ_mul] at h3;unfold siz;rw[Nat.mul_comm (wid k (plc b))];omega
theorem Y3m {k:Int}{n b i:Nat}(h:n<Ybg k)(hb:b<6)(hi:i<64):pos k n b i<siz k (plc b):=by
 have:=Yp5 (y:=i / 8) h hb (by omega);unfold pos;omega
theorem Ym0 (k:Int)(n b i:Nat):(8*lin k n b+i / 8)*wid k (plc b)+(8*col k n b+i%8)=pos k n b i:=by
 unfold pos;rw[Yof];omega
def Y27 (k:Int)(n:Nat)(f:Nat→Nat→Int):Nat→Int:=fun s=>f (plc (s / 64)) (pos k n (s / 64) (s%64))
def Ygi (k:Int)(n:Nat)(pt:Nat→Int)(f:Nat→Nat→Int):Nat→Nat→Nat→Int
 |0=>f
 |s+1=>fun p j=>if p=plc (s / 64)∧j=pos k n (s / 64) (s%64) then Yax (pt s) 0 255 else Ygi k n pt f s p j
theorem Ywv (k:Int)(n:Nat)(pt:Nat→Int)(f:Nat→Nat→Int)(b y:Nat)(hy:y<8)(p j:Nat):∀m,m≤8→
  Ygi k n pt f (64*b+8*y+m) p j=if p=plc b∧Yni k n b+y*wid k (plc b)≤j∧j<Yni k n b+y*wid k (plc b)+m then Yax (pt (64*b+8*y+(j-(Yni k n b+y*wid k (plc b))))) 0 255 else Ygi k n pt f (64*b+8*y) p j
 |0,_=>by
  rw[if_neg (by omega)]
  rfl
 |m+1,hm=>by
  have ih:=Ywv k n pt f b y hy p j m (by omega);show (if p=plc ((64*b+8*y+m) / 64)∧j=pos k n ((64*b+8*y+m) / 64) ((64*b+8*y+m)%64) then Yax (pt (64*b+8*y+m)) 0 255 else Ygi k n pt f (64*b+8*y+m) p j)=_;have e1:(64*b+8*y+m) / 64=b:=by omega
  have e2:(64*b+8*y+m)%64=8*y+m:=by omega
  have e3:pos k n b (8*y+m)=Yni k n b+y*wid k (plc b)+m:=by
   unfold pos;rw[show (8*y+m) / 8=y by omega,show (8*y+m)%8=m by omega]
  rw[e1,e2,e3,ih];generalize Yni k n b+y*wid k (plc b)=q;by_cases h1:p=plc b∧j=q+m
  ·rw[if_pos h1,if_pos (by omega),show j-q=m by omega]
  ·rw[if_neg h1];by_cases h2:p=plc b∧q≤j∧j<q+m
   ·rw[if_pos h2,if_pos (by omega)]
   ·rw[if_neg h2,if_neg (by omega)]
theorem Ynv (k:Int)(n:Nat)(f g:Nat→Nat→Int)(hf:∀p j,0≤f p j∧f p j≤255){p j:Nat}(h:g p j=f p j):∀s,Ygi k n (Y27 k n f) g s p j=f p j
 |0=>h
 |s+1=>by
  unfold Ygi
  split
  ·next h1=>
   unfold Y27;rw[Ygw _ _ _ (hf _ _).1 (hf _ _).2,h1.1,h1.2]
  ·exact Ynv k n f g hf h s
theorem Ynu (k:Int)(n:Nat)(f g:Nat→Nat→Int)(hf:∀p j,0≤f p j∧f p j≤255)(b i:Nat)(hi:i<64):∀s,64*b+i<s→Ygi k n (Y27 k n f) g s (plc b) (pos k n b i)=f (plc b) (pos k n b i)
 |s+1,hs=>by
  unfold Ygi
  split
  ·next h1=>
   unfold Y27;rw[Ygw _ _ _ (hf _ _).1 (hf _ _).2,←h1.1,←h1.2]
  ·next h1=>
   by_cases e:64*b+i=s
   ·subst e;exact absurd ⟨by rw[show (64*b+i) / 64=b by omega],by rw[show (64*b+i) / 64=b by omega,show (64*b+i)%64=i by omega]⟩ h1
   ·exact Ynu k n f g hf b i hi s (by omega)
theorem Yyo {k:Int}{p j:Nat}(hp:p<3)(hj:j<siz k p):∃n b i,n<Ybg k∧b<6∧i<64∧plc b=p∧pos k n b i=j:=by
 have hW:0<wid k p:=by
  rcases Nat.eq_zero_or_pos (wid k p) with h|h
  ·unfold siz at hj;rw[h,Nat.zero_mul] at hj;cases hj
  ·exact h
 have hc:j%wid k p<wid k p:=Nat.mod_lt _ hW;have hr:j / wid k p<hei k p:=Nat.div_lt_of_lt_mul hj;have hjj:j / wid k p*wid k p+j%wid k p=j:=by rw[Nat.mul_comm];exact Nat.div_add_mod j _
 generalize j / wid k p=r at hr hjj;generalize j%wid k p=c at hc hjj;have ha:0<acr k:=by unfold wid at hW;split at hW <;> omega
 have at_cell:∀x y,x<acr k→y<dow k→y*acr k+x<Ybg k∧(y*acr k+x)%acr k=x∧(y*acr k+x) / acr k=y:=by
  intro x y hx hy;refine⟨?_,?_,?_⟩
  ·have:(y+1)*acr k≤dow k*acr k:=Nat.mul_le_mul_right _ hy;rw[Nat.add_mul] at this;unfold Ybg;rw[Nat.mul_comm (acr k)];omega
  ·rw[Nat.add_comm,Nat.add_mul_mod_self_right];exact Nat.mod_eq_of_lt hx
  ·rw[Nat.add_comm,Nat.add_mul_div_right _ _ ha,Nat.div_eq_of_lt hx];omega
 by_cases h0:p=0
 ·subst h0;have hc':c<16*acr k:=hc;have hr':r<16*dow k:=hr;obtain⟨h1,h2,h3⟩:=at_cell (c / 16) (r / 16) (by omega) (by omega);refine⟨r / 16*acr k+c / 16,r / 8%2*2+c / 8%2,r%8*8+c%8,h1,by omega,by omega,by unfold plc;rw[if_pos (by omega)],?_⟩;rw[←Ym0];have e1:plc (r / 8%2*2+c / 8%2)=0:=by unfold plc;rw[if_pos (by omega)]
  have e2:8*lin k (r / 16*acr k+c / 16) (r / 8%2*2+c / 8%2)+(r%8*8+c%8) / 8=r:=by
   unfold lin;rw[if_pos (by omega),h3];omega
  have e3:8*col k (r / 16*acr k+c / 16) (r / 8%2*2+c / 8%2)+(r%8*8+c%8)%8=c:=by
   unfold col;rw[if_pos (by omega),h2];omega
  rw[e1,e2,e3];exact hjj
 ·have hW8:wid k p=8*acr k:=if_neg h0;have hH8:hei k p=8*dow k:=if_neg h0;obtain⟨h1,h2,h3⟩:=at_cell (c / 8) (r / 8) (by omega) (by omega);have e1:plc (p+3)=p:=by unfold plc;rw[if_neg (by omega)];omega
  refine⟨r / 8*acr k+c / 8,p+3,r%8*8+c%8,h1,by omega,by omega,e1,?_⟩;rw[←Ym0];have e2:8*lin k (r / 8*acr k+c / 8) (p+3)+(r%8*8+c%8) / 8=r:=by
   unfold lin;rw[if_neg (by omega),h3];omega
  have e3:8*col k (r / 8*acr k+c / 8) (p+3)+(r%8*8+c%8)%8=c:=by
   unfold col;rw[if_neg (by omega),h2];omega
  rw[e1,e2,e3];exact hjj
end Go.Proofs.YtnamlooifcpoaaaGreatDoor
namespace Go.Proofs.YtnamlooifcpoaaaGreatDoor
open Go.RowKit
def Yoi (k n:Int):Bool:=decide (0≤n)&&decide (n<(Ybg k:Int))
theorem Ygc {k n:Int}:Yoi k n=true↔0≤n∧n.toNat<Ybg k:=by
 unfold Yoi;simp;omega
def Yb1 (c m:Nat)(v:Int):Bool:=decide (-32≤v∧v≤31)&&decide (0≤32*(c:Int)+v∧32*(c:Int)+v+30≤32*(m:Int)-2)
def Yi3 (k n a b:Int):Bool:=Yoi k n&&(Yb1 (n.toNat%acr k) (acr k) a&&Yb1 (n.toNat / acr k) (dow k) b)
theorem Yeg {c m:Nat}{v:Int}:Yb1 c m v=true↔(-32≤v∧v≤31)∧0≤32*(c:Int)+v∧32*(c:Int)+v+30≤32*(m:Int)-2:=by simp[Yb1]
theorem Yi4 {k n a b:Int}:Yi3 k n a b=true↔(0≤n∧n.toNat<Ybg k)∧Yb1 (n.toNat%acr k) (acr k) a=true∧Yb1 (n.toNat / acr k) (dow k) b=true:=by
 unfold Yi3;rw[Bool.and_eq_true,Bool.and_eq_true,Ygc]
end Go.Proofs.YtnamlooifcpoaaaGreatDoor