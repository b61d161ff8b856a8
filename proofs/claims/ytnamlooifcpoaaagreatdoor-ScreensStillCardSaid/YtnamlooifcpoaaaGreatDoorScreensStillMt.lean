/- No condition. -/
import Derived.Test.YtnamlooifcpoaaaGreatDoorScreensStillMb
import Derived.Test.YtnamlooifcpoaaaGreatDoorRows
import Derived.WalkKit
import Derived.WalkMore
import Derived.ProofKit
namespace Go.Proofs.YtnamlooifcpoaaaGreatDoor
open Go.RowKit
set_option maxHeartbeats 1000000 in
theorem Yeq (k:Int)(w:World):Calls Tryz.prog 48 #[.int .i64 k] w fun e w'=>e=.returned (.tuple #[.int .i64 (Yia k),.int .i64 (Yh9 k),.bool (Ybr k)])∧w=w':=by
 rcases Ybq k with rfl|rfl|rfl|rfl|rfl|rfl|⟨h,hv⟩
 case _|_|_|_|_|_=>
  go_enter Tryz.func48,Tryz.ntmps48
  go_wp2
  go_ret3
  exact⟨rfl,rfl⟩
 obtain⟨t1,t2,t3,t4,t5,t6⟩:=You h;unfold Yia Yh9;rw[h,hv];clear h hv
 go_enter Tryz.func48,Tryz.ntmps48
 go_wp2
 go_ret3
 exact⟨rfl,rfl⟩
set_option maxHeartbeats 1000000 in
theorem Yi3 (k:Int)(w:World):Calls Tryz.prog 90 #[.int .i64 k] w fun e w'=>e=.returned (.tuple #[.int .i64 (Ym6 k),.int .i64 (Yxy k)])∧w=w':=by
 rcases Ybq k with rfl|rfl|rfl|rfl|rfl|rfl|⟨h,hv⟩
 case _|_|_|_|_|_=>
  go_enter Tryz.func90,Tryz.ntmps90
  go_wp2
  go_ret2
  exact⟨rfl,rfl⟩
 obtain⟨t1,t2,t3,t4,t5,t6⟩:=You h;unfold Ym6 Yxy;rw[hv];clear h hv
 go_enter Tryz.func90,Tryz.ntmps90
 go_wp2
 go_ret2
 exact⟨rfl,rfl⟩
def Yot (k:Int):Int:=Yia k / 16
def Yrk (k:Int):Int:=Yh9 k / 16
set_option maxHeartbeats 1000000 in
theorem Ycn (k:Int)(w:World):Calls Tryz.prog 81 #[.int .i64 k] w fun e w'=>e=.returned (.tuple #[.int .i64 (Yot k),.int .i64 (Yrk k)])∧w=w':=by
 have c:=Yeq k w;have hv:(Yia k).tdiv 16=Yot k∧(Yh9 k).tdiv 16=Yrk k:=by
  rcases Ybq k with rfl|rfl|rfl|rfl|rfl|rfl|⟨_,hv⟩
  case _|_|_|_|_|_=>exact⟨rfl,rfl⟩
  unfold Yot Yrk Yia Yh9;rw[hv];exact⟨rfl,rfl⟩
 have hw:IntKind.i64.wrap (Yot k)=Yot k∧IntKind.i64.wrap (Yrk k)=Yrk k:=by
  rcases Ybq k with rfl|rfl|rfl|rfl|rfl|rfl|⟨_,hv⟩
  case _|_|_|_|_|_=>exact⟨rfl,rfl⟩
  unfold Yot Yrk Yia Yh9;rw[hv];exact⟨rfl,rfl⟩
 obtain⟨v1,v2⟩:=hv;obtain⟨v3,v4⟩:=hw;generalize Yia k=a at c v1;generalize Yh9 k=b at c v2;generalize Yot k=a2 at v1 v3 ⊢;generalize Yrk k=b2 at v2 v4 ⊢
 go_enter Tryz.func81,Tryz.ntmps81
 go_wp2_with (first|(with_reducible refine c.mono ?_;rintro e w1 ⟨rfl,rfl⟩))
 go_ret2
 exact⟨rfl,rfl⟩
def Yz8 (k p:Int):Int×Int:=if p=0 then (Yia k,Yh9 k) else if p=1∨p=2 then (Yia k / 2,Yh9 k / 2) else (0,0)
theorem Ye7 (k p:Int)(w:World):Calls Tryz.prog 47 #[.int .i64 k,.int .i64 p] w fun e w'=>e=.returned (.tuple #[.int .i64 (Yz8 k p).1,.int .i64 (Yz8 k p).2])∧w=w':=by
 have c:=Yeq k w;have hv:(Yia k).tdiv 2=Yia k / 2∧(Yh9 k).tdiv 2=Yh9 k / 2:=by
  rcases Ybq k with rfl|rfl|rfl|rfl|rfl|rfl|⟨_,hv⟩
  case _|_|_|_|_|_=>exact⟨rfl,rfl⟩
  unfold Yia Yh9;rw[hv];exact⟨rfl,rfl⟩
 have hw:IntKind.i64.wrap (Yia k / 2)=Yia k / 2∧IntKind.i64.wrap (Yh9 k / 2)=Yh9 k / 2:=by
  rcases Ybq k with rfl|rfl|rfl|rfl|rfl|rfl|⟨_,hv⟩
  case _|_|_|_|_|_=>exact⟨rfl,rfl⟩
  unfold Yia Yh9;rw[hv];exact⟨rfl,rfl⟩
 obtain⟨v1,v2⟩:=hv;obtain⟨v3,v4⟩:=hw;unfold Yz8;generalize Yia k / 2=a2 at v1 v3 ⊢;generalize Yh9 k / 2=b2 at v2 v4 ⊢;generalize Yia k=a at c v1 ⊢;generalize Yh9 k=b at c v2 ⊢;by_cases h0:p=0
 ·subst h0
  go_enter Tryz.func47,Tryz.ntmps47
  go_wp2_with (first|(with_reducible refine c.mono ?_;rintro e w1 ⟨rfl,rfl⟩))
  go_ret2
  exact⟨rfl,rfl⟩
 by_cases h1:p=1
 ·subst h1
  go_enter Tryz.func47,Tryz.ntmps47
  go_wp2_with (first|(with_reducible refine c.mono ?_;rintro e w1 ⟨rfl,rfl⟩))
  go_ret2
  exact⟨rfl,rfl⟩
 by_cases h2:p=2
 ·subst h2
  go_enter Tryz.func47,Tryz.ntmps47
  go_wp2_with (first|(with_reducible refine c.mono ?_;rintro e w1 ⟨rfl,rfl⟩))
  go_ret2
  exact⟨rfl,rfl⟩
 rw[if_neg h0,if_neg (by omega)];have t0:(p==0)=false:=by simpa using h0
 have t1:(p==1)=false:=by simpa using h1
 have t2:(p==2)=false:=by simpa using h2
 clear h0 h1 h2
 go_enter Tryz.func47,Tryz.ntmps47
 go_wp2_with (first|(with_reducible refine c.mono ?_;rintro e w1 ⟨rfl,rfl⟩))
 go_ret2
 exact⟨rfl,rfl⟩
end Go.Proofs.YtnamlooifcpoaaaGreatDoor
namespace Go.Proofs.YtnamlooifcpoaaaGreatDoor
def acr (k:Int):Nat:=(Yot k).toNat
def dow (k:Int):Nat:=(Yrk k).toNat
def wid (k:Int)(p:Nat):Nat:=if p=0 then 16*acr k else 8*acr k
def hei (k:Int)(p:Nat):Nat:=if p=0 then 16*dow k else 8*dow k
def siz (k:Int)(p:Nat):Nat:=wid k p*hei k p
def Ybc (k:Int):Nat:=acr k*dow k
theorem Yc8 (k:Int):(acr k:Int)=Yot k∧(dow k:Int)=Yrk k∧Yia k=16*(acr k:Int)∧Yh9 k=16*(dow k:Int)∧acr k≤88∧dow k≤72:=by
 rcases Ybq k with rfl|rfl|rfl|rfl|rfl|rfl|⟨h,hv⟩
 case _|_|_|_|_|_=>decide +kernel
 unfold acr dow Yot Yrk Yia Yh9;rw[hv]
 decide +kernel
theorem Yvb {k:Int}(h:Ybr k=false):acr k=0∧dow k=0:=by
 rcases Ybq k with rfl|rfl|rfl|rfl|rfl|rfl|⟨_,hv⟩
 case _|_|_|_|_|_=>cases h
 unfold acr dow Yot Yrk Yia Yh9;rw[hv];exact⟨rfl,rfl⟩
theorem Yvc {k:Int}(h:Ybr k=true):0<acr k∧0<dow k:=by
 rcases Ybq k with rfl|rfl|rfl|rfl|rfl|rfl|⟨h2,_⟩
 case _|_|_|_|_|_=>decide +kernel
 rw[h] at h2;cases h2
theorem Yiy {k:Int}(h:Ybr k=false):Ybc k=0:=by
 unfold Ybc;rw[(Yvb h).1,Nat.zero_mul]
theorem Yds (k:Int):Ybc k≤6336:=Nat.mul_le_mul (Yc8 k).2.2.2.2.1 (Yc8 k).2.2.2.2.2
theorem Yr9 {k:Int}{n:Nat}(h:n<Ybc k):Ybr k=true:=by
 cases hq:Ybr k with
 |true=>rfl
 |false=>rw[Yiy hq] at h;cases h
theorem Ynj (k:Int)(p:Nat)(hp:p<3):Yz8 k (p:Int)=((wid k p:Int),(hei k p:Int)):=by
 obtain⟨_,_,h3,h4,_⟩:=Yc8 k;unfold Yz8 wid hei
 match p,hp with
 |0,_=>simp[h3,h4]
 |1,_=>simp[h3,h4];omega
 |2,_=>simp[h3,h4];omega
theorem Yfz (k:Int)(p:Nat):wid k p≤1408∧hei k p≤1152:=by
 have:=Yc8 k;unfold wid hei
 split <;> omega
theorem Yeu (k:Int)(p:Nat):siz k p≤1622016:=Nat.mul_le_mul (Yfz k p).1 (Yfz k p).2
theorem Yby {k:Int}(h:Ybr k=true)(p:Nat):0<siz k p:=by
 have:=Yvc h;refine Nat.mul_pos ?_ ?_
 ·unfold wid;split <;> omega
 ·unfold hei;split <;> omega
def plc (b:Nat):Nat:=if b<4 then 0 else b-3
def col (k:Int)(n b:Nat):Nat:=if b<4 then 2*(n%acr k)+b%2 else n%acr k
def lin (k:Int)(n b:Nat):Nat:=if b<4 then 2*(n / acr k)+b / 2 else n / acr k
def Yk0 (k:Int)(n b:Nat):Nat:=8*(lin k n b*wid k (plc b)+col k n b)
def pos (k:Int)(n b i:Nat):Nat:=Yk0 k n b+i / 8*wid k (plc b)+i%8
theorem Yfv {b:Nat}(h:b<6):plc b<3:=by unfold plc;split <;> omega
theorem Ycm {k:Int}{n:Nat}(h:n<Ybc k):0<acr k∧n%acr k<acr k∧n / acr k<dow k:=by
 have h0:0<acr k:=by
  rcases Nat.eq_zero_or_pos (acr k) with h1|h1
  ·unfold Ybc at h;rw[h1,Nat.zero_mul] at h;cases h
  ·exact h1
 exact⟨h0,Nat.mod_lt _ h0,Nat.div_lt_of_lt_mul h⟩
theorem Yj9 {k:Int}{n b:Nat}(h:n<Ybc k)(hb:b<6):8*col k n b+8≤wid k (plc b):=by
 obtain⟨_,h2,_⟩:=Ycm h;unfold col wid plc;by_cases h4:b<4
 ·simp only[if_pos h4,if_true];omega
 ·simp only[if_neg h4,if_neg (show ¬ b-3=0 by omega)];omega
theorem Ykd {k:Int}{n b:Nat}(h:n<Ybc k)(hb:b<6):8*lin k n b+8≤hei k (plc b):=by
 obtain⟨_,_,h2⟩:=Ycm h;unfold lin hei plc;by_cases h4:b<4
 ·simp only[if_pos h4,if_true];omega
 ·simp only[if_neg h4,if_neg (show ¬ b-3=0 by omega)];omega
theorem Ylt (k:Int)(n b y:Nat):Yk0 k n b+y*wid k (plc b)=(8*lin k n b+y)*wid k (plc b)+8*col k n b:=by
 unfold Yk0;rw[Nat.add_mul,Nat.mul_add,Nat.mul_assoc];omega
theorem Ys7 {k:Int}{n b y:Nat}(h:n<Ybc k)(hb:b<6)(hy:y<8):Yk0 k n b+y*wid k (plc b)+8≤siz k (plc b):=by
 have h1:=Yj9 h hb;have h2:=Ykd h hb;rw[Ylt];have h3:(8*lin k n b+y+1)*wid k (plc b)≤hei k (plc b)*wid k (plc b):=Nat.mul_le_mul_right _ (by omega);rw[Nat.succ_mul] at h3;unfold siz;rw[Nat.mul_comm (wid k (plc b))];omega
theorem Ykl (k:Int)(n b i:Nat):(8*lin k n b+i / 8)*wid k (plc b)+(8*col k n b+i%8)=pos k n b i:=by
 unfold pos;rw[Ylt];omega
def Yu7 (k:Int)(n:Nat)(f:Nat→Nat→Int):Nat→Int:=fun s=>f (plc (s / 64)) (pos k n (s / 64) (s%64))
def Yid (k:Int)(n:Nat)(pt:Nat→Int)(f:Nat→Nat→Int):Nat→Nat→Nat→Int
 |0=>f
 |s+1=>fun p j=>if p=plc (s / 64)∧j=pos k n (s / 64) (s%64) then Yay (pt s) 0 255 else Yid k n pt f s p j
theorem Ys4 (k:Int)(n:Nat)(pt:Nat→Int)(f:Nat→Nat→Int)(b y:Nat)(hy:y<8)(p j:Nat):∀m,m≤8→
  Yid k n pt f (64*b+8*y+m) p j=if p=plc b∧Yk0 k n b+y*wid k (plc b)≤j∧j<Yk0 k n b+y*wid k (plc b)+m then Yay (pt (64*b+8*y+(j-(Yk0 k n b+y*wid k (plc b))))) 0 255 else Yid k n pt f (64*b+8*y) p j
 |0,_=>by
  rw[if_neg (by omega)]
  rfl
 |m+1,hm=>by
  have ih:=Ys4 k n pt f b y hy p j m (by omega);show (if p=plc ((64*b+8*y+m) / 64)∧j=pos k n ((64*b+8*y+m) / 64) ((64*b+8*y+m)%64) then Yay (pt (64*b+8*y+m)) 0 255 else Yid k n pt f (64*b+8*y+m) p j)=_;have e1:(64*b+8*y+m) / 64=b:=by omega
  have e2:(64*b+8*y+m)%64=8*y+m:=by omega
  have e3:pos k n b (8*y+m)=Yk0 k n b+y*wid k (plc b)+m:=by
   unfold pos;rw[show (8*y+m) / 8=y by omega,show (8*y+m)%8=m by omega]
  rw[e1,e2,e3,ih];generalize Yk0 k n b+y*wid k (plc b)=q;by_cases h1:p=plc b∧j=q+m
  ·rw[if_pos h1,if_pos (by omega),show j-q=m by omega]
  ·rw[if_neg h1];by_cases h2:p=plc b∧q≤j∧j<q+m
   ·rw[if_pos h2,if_pos (by omega)]
   ·rw[if_neg h2,if_neg (by omega)]
theorem Ylf (k:Int)(n:Nat)(f g:Nat→Nat→Int)(hf:∀p j,0≤f p j∧f p j≤255){p j:Nat}(h:g p j=f p j):∀s,Yid k n (Yu7 k n f) g s p j=f p j
 |0=>h
 |s+1=>by
  unfold Yid
  split
  ·next h1=>
   unfold Yu7;rw[Yf8 _ _ _ (hf _ _).1 (hf _ _).2,h1.1,h1.2]
  ·exact Ylf k n f g hf h s
theorem Yle (k:Int)(n:Nat)(f g:Nat→Nat→Int)(hf:∀p j,0≤f p j∧f p j≤255)(b i:Nat)(hi:i<64):∀s,64*b+i<s→Yid k n (Yu7 k n f) g s (plc b) (pos k n b i)=f (plc b) (pos k n b i)
 |s+1,hs=>by
  unfold Yid
  split
  ·next h1=>
   unfold Yu7;rw[Yf8 _ _ _ (hf _ _).1 (hf _ _).2,←h1.1,←h1.2]
  ·next h1=>
   by_cases e:64*b+i=s
   ·subst e;exact absurd ⟨by rw[show (64*b+i) / 64=b by omega],by rw[show (64*b+i) / 64=b by omega,show (64*b+i)%64=i by omega]⟩ h1
   ·exact Yle k n f g hf b i hi s (by omega)
theorem Yuy {k:Int}{p j:Nat}(hp:p<3)(hj:j<siz k p):∃n b i,n<Ybc k∧b<6∧i<64∧plc b=p∧pos k n b i=j:=by
 have hW:0<wid k p:=by
  rcases Nat.eq_zero_or_pos (wid k p) with h|h
  ·unfold siz at hj;rw[h,Nat.zero_mul] at hj;cases hj
  ·exact h
 have hc:j%wid k p<wid k p:=Nat.mod_lt _ hW;have hr:j / wid k p<hei k p:=Nat.div_lt_of_lt_mul hj;have hjj:j / wid k p*wid k p+j%wid k p=j:=by rw[Nat.mul_comm];exact Nat.div_add_mod j _
 generalize j / wid k p=r at hr hjj;generalize j%wid k p=c at hc hjj;have ha:0<acr k:=by unfold wid at hW;split at hW <;> omega
 have at_cell:∀x y,x<acr k→y<dow k→y*acr k+x<Ybc k∧(y*acr k+x)%acr k=x∧(y*acr k+x) / acr k=y:=by
  intro x y hx hy;refine⟨?_,?_,?_⟩
  ·have:(y+1)*acr k≤dow k*acr k:=Nat.mul_le_mul_right _ hy;rw[Nat.add_mul] at this;unfold Ybc;rw[Nat.mul_comm (acr k)];omega
  ·rw[Nat.add_comm,Nat.add_mul_mod_self_right];exact Nat.mod_eq_of_lt hx
  ·rw[Nat.add_comm,Nat.add_mul_div_right _ _ ha,Nat.div_eq_of_lt hx];omega
 by_cases h0:p=0
 ·subst h0;have hc':c<16*acr k:=hc;have hr':r<16*dow k:=hr;obtain⟨h1,h2,h3⟩:=at_cell (c / 16) (r / 16) (by omega) (by omega);refine⟨r / 16*acr k+c / 16,r / 8%2*2+c / 8%2,r%8*8+c%8,h1,by omega,by omega,by unfold plc;rw[if_pos (by omega)],?_⟩;rw[←Ykl];have e1:plc (r / 8%2*2+c / 8%2)=0:=by unfold plc;rw[if_pos (by omega)]
  have e2:8*lin k (r / 16*acr k+c / 16) (r / 8%2*2+c / 8%2)+(r%8*8+c%8) / 8=r:=by
   unfold lin;rw[if_pos (by omega),h3];omega
  have e3:8*col k (r / 16*acr k+c / 16) (r / 8%2*2+c / 8%2)+(r%8*8+c%8)%8=c:=by
   unfold col;rw[if_pos (by omega),h2];omega
  rw[e1,e2,e3];exact hjj
 ·have hW8:wid k p=8*acr k:=if_neg h0;have hH8:hei k p=8*dow k:=if_neg h0;obtain⟨h1,h2,h3⟩:=at_cell (c / 8) (r / 8) (by omega) (by omega);have e1:plc (p+3)=p:=by unfold plc;rw[if_neg (by omega)];omega
  refine⟨r / 8*acr k+c / 8,p+3,r%8*8+c%8,h1,by omega,by omega,e1,?_⟩;rw[←Ykl];have e2:8*lin k (r / 8*acr k+c / 8) (p+3)+(r%8*8+c%8) / 8=r:=by
   unfold lin;rw[if_neg (by omega),h3];omega
  have e3:8*col k (r / 8*acr k+c / 8) (p+3)+(r%8*8+c%8)%8=c:=by
   unfold col;rw[if_neg (by omega),h2];omega
  rw[e1,e2,e3];exact hjj
end Go.Proofs.YtnamlooifcpoaaaGreatDoor
namespace Go.Proofs.YtnamlooifcpoaaaGreatDoor
open Go.RowKit
def Yk1 (k n:Int):Bool:=decide (0≤n)&&decide (n<(Ybc k:Int))
theorem Yd3 {k n:Int}:Yk1 k n=true↔0≤n∧n.toNat<Ybc k:=by
 unfold Yk1;simp;omega
def Ycl (c m:Nat)(v:Int):Bool:=decide (-32≤v∧v≤31)&&decide (0≤32*(c:Int)+v∧32*(c:Int)+v+30≤32*(m:Int)-2)
def Yi6 (k n a b:Int):Bool:=Yk1 k n&&(Ycl (n.toNat%acr k) (acr k) a&&Ycl (n.toNat / acr k) (dow k) b)
theorem Yc6 {c m:Nat}{v:Int}:Ycl c m v=true↔(-32≤v∧v≤31)∧0≤32*(c:Int)+v∧32*(c:Int)+v+30≤32*(m:Int)-2:=by simp[Ycl]
theorem Yg1 {k n a b:Int}:Yi6 k n a b=true↔(0≤n∧n.toNat<Ybc k)∧Ycl (n.toNat%acr k) (acr k) a=true∧Ycl (n.toNat / acr k) (dow k) b=true:=by
 unfold Yi6;rw[Bool.and_eq_true,Bool.and_eq_true,Yd3]
end Go.Proofs.YtnamlooifcpoaaaGreatDoor