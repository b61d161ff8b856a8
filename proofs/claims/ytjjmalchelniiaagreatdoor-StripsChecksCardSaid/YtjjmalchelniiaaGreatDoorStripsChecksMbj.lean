/- StripsChecks, 36. No condition. -/
import Derived.Test.YtjjmalchelniiaaGreatDoorStripsChecksMw
import Derived.Deep.RegionWith
open Go.Proofs.Tryz
open Go renaming World->A5
set_option maxHeartbeats 4000000
namespace Go.Proofs.YtjjmalchelniiaaGreatDoor
open Go.RowKit Go.Lib
def LQ (v n i:Nat):Bool:=decide (n<=CL i)&&(HS i / 2^(CL i-n)==v)
theorem jI {q:List UInt8}(a:AK q=true){i:Nat}(hi:i<33):LQ (num q) q.length i=q.isPrefixOf (CO i):=(U4 a (LK i hi).2.2.1).symm
def QH:Value:=.agg (OH.map fun z=>Value.int .i64 (z:Nat)).toArray
theorem vE (w:A5)(i:Nat)(h:i<33):(Instr.index 248 QH (.int .i64 (i:Int))).run prog w=.ok (.int .i64 (CL i:Nat)) w:=by
 rcases (by omega:i=0\/i=1\/i=2\/i=3\/i=4\/i=5\/i=6\/i=7\/i=8\/i=9\/i=10\/i=11\/i=12\/i=13\/i=14\/i=15\/i=16\/i=17\/i=18\/i=19\/i=20\/i=21\/i=22\/i=23\/i=24\/i=25\/i=26\/i=27\/i=28\/i=29\/i=30\/i=31\/i=32) with rfl|rfl|rfl|rfl|rfl|rfl|rfl|rfl|rfl|rfl|rfl|rfl|rfl|rfl|rfl|rfl|rfl|rfl|rfl|rfl|rfl|rfl|rfl|rfl|rfl|rfl|rfl|rfl|rfl|rfl|rfl|rfl|rfl
 all_goals kernel_rfl
def iR (v n:Nat)(w:A5)(e:Ending)(a:A5):Prop:=
 ((∃i:Nat,i<33/\LQ v n i=true/\e=.returned (.tuple #[.int .i64 (i:Int),.bool true]))\/((∀i,i<33->LQ v n i=false)/\e=.returned (.tuple #[.int .i64 0,.bool false])))/\w=a
theorem aR:∀w,(isAgg 248).run prog w=.ok true w:=fun _=>by kernel_rfl
theorem iA:∀w,(Go.sizeOf 248).run prog w=.ok 33 w:=fun _=>by kernel_rfl
theorem UX:(OH.map fun z=>Value.int .i64 (z:Nat)).length=33:=rfl
theorem vD (w:A5)(b:FR w):(loadVar 248 ⟨3,0,none⟩).run prog w=.ok QH w:=by
 have hl:=run_loadCells_list (P:=prog) w ⟨3,0,none⟩ (OH.map fun z=>Value.int .i64 (z:Nat)) (fun j v hj=>by
  have a:j<33:=by
   have:=(Ga.1 hj).1;rwa [UX] at this
  have h2:=(b j a).2;rw[Addr.add_lit,Br,h2];rw[Io] at hj;obtain⟨z,c,rfl⟩:=Im.1 hj;unfold CL;rw[c]
  rfl)
 rw[UX] at hl;unfold loadVar;simp only[Eg,aR,Ee,Kl,iA,hl,El]
 rfl
theorem aW {ops:Array Oper}{rest:List Oper}{a:Act}{w:A5}{Q:Exit->Act->A5->Prop}{pos:String}{ty:TypeId}{after:Array Edge}{d:Option Tmp}(b:FR w)(h:wpList prog ops Q rest (a.put d QH) w):
  wpList prog ops Q ({dst:=d,op:=Op.load 248 (Operand.global 3),type:=ty,pos:=pos,after:=after,guard:=none}::rest) a w:=
 Es rfl fun _ c=>by
  unfold Oper.wp;rw[FU (ev:=a.eval) (ty:=248) (x:=.global 3) (ad:=⟨3,0,none⟩) rfl rfl (vD w b)];exact c _ _ h
set_option maxRecDepth 100000 in
theorem lE (d n:Nat)(hn:n<=32)(w:A5)(p:FR w):Calls prog 228 #[.int .i64 (d:Int),.int .i64 (n:Int)] w (iR d n w):=by
 have t:=Dl p
 go_enter func228,ntmps228
 go_wp2_with (with_reducible refine aW p ?_)
 have m:=Dl (fun(w:A5) (i:Nat) (h:i<33)=>vE w i h);generalize QH=C at m ⊢;clear p
 go_loop [9] (fun v=>∃i:Nat,i<=33/\v=.int .i64 i/\Hid (∀j,j<i->LQ d n j=false)) (fun v=>33-(intOf v).toNat)
 case atStart=>exact⟨0,by omega,rfl,Dl (fun j h=>absurd h (Fc j))⟩
 case round=>
  obtain⟨i,s,rfl,l⟩:=hrel;by_cases f:i<33
  ·have o:=fun w=>m.out w i f;obtain⟨u,_⟩:=t.out i f;obtain⟨z,A,b2,b3⟩:=LK i f;clear b2;have a:LQ d n i=(decide (n<=CL i)&&(HS i / 2^(CL i-n)==d)):=rfl;have c:∀r,LQ d n i=r->r=false->∀j,j<i+1->LQ d n j=false:=by
    intro r h1 h2 j hj;by_cases e:j=i
    ·subst e;rw[h1,h2]
    ·exact l.out j (by omega)
   have g:=Dl c;generalize HS i=x at u b3 a;generalize CL i=y at o z A a;clear l c;by_cases q:n<=y
   ·obtain⟨k,rfl⟩:∃k,y=n+k:=⟨y-n,by omega⟩;rw[Bv,Kp q,Jw] at a;have t0:decide (n<=n+k)=true:=by simp
    have b:((x:Int) / 2^k==(d:Int))=(x / 2^k==d):=by
     rw[Ju,Bm,Bm,<-Int.natCast_inj];simp
    rw[<-b] at a;cases hg:((x:Int) / 2^k==(d:Int)) with
    |true=>
     have B:=Dl (a.trans hg);clear a b
     go_wp2
     go_ret2
     exact⟨.inl ⟨i,f,B.out,rfl⟩,rfl⟩
    |false=>
     have B:=Dl (a.trans hg);clear a b
     go_wp2
     go_round
     case rel=>exact⟨i+1,by omega,by go_num,Dl (g.out _ B.out rfl)⟩
     case measure=>simp[intOf];omega
   ·have t0:decide (n<=y)=false:=by simp;omega
    rw[t0,Ku] at a;have B:=Dl a;clear a
    go_wp2
    go_round
    case rel=>exact⟨i+1,by omega,by go_num,Dl (g.out _ B.out rfl)⟩
    case measure=>simp[intOf];omega
  ·obtain rfl:i=33:=by omega
   go_wp2
   go_ret2
   exact⟨.inr ⟨l.out,rfl⟩,rfl⟩
def QJ (s:ByteArray)(rb p:Nat)(w:A5)(e:Ending)(a:A5):Prop:=
 e=.returned (.tuple #[.int .i64 (dtk ((AA s.data.toList).drop p)).1,.int .i64 (dtk ((AA s.data.toList).drop p)).2.1])/\
  AG a rb s (p+(dtk ((AA s.data.toList).drop p)).2.2)/\w.grownBy a (some rb)
theorem MY {s:ByteArray}{rb p n:Nat}{w b:A5}{a f:Int}(h:dtk ((AA s.data.toList).drop p)=(a,f,n))(hr:AG b rb s (p+n))(c:w.grownBy b (some rb)):
  QJ s rb p w (.returned (.tuple #[.int .i64 a,.int .i64 f])) b:=by
 unfold QJ;rw[h];exact⟨rfl,hr,c⟩
theorem ML {w a:A5}(c:Below w.heap.size w a)(b:Nat):w.grownBy a (some b):=BR c _
theorem Vr {t r:Nat}(h:t%2=r):(bits .and .i64 (t:Int) 1==1)=(r==1):=by
 rw[QI,Ju,Bm,Bm];omega
set_option maxRecDepth 100000 in
theorem nU (i n:Nat)(w:A5)(rb:Nat)(s:ByteArray)(p:Nat)(y:FR w)(hr:AG w rb s p)(hi:i<33)(g:CL i=n)(hn:p+n<=8*s.size)(k:((AA s.data.toList).drop p).take n=CO i)
  (ht:tk rowsD ((AA s.data.toList).drop p) 25 1=tk rowsD ((AA s.data.toList).drop p) (26-n) n):
  Calls prog 229 #[.pointer (some ⟨rb,0,none⟩),.int .i64 (i:Int)] w (QJ s rb p w):=by
 obtain⟨K,d⟩:=Ai ((AA s.data.toList).drop p);have l:K.length=8*s.size-p:=by rw[<-d,Bj,BB];rfl
 have u:s.data.toList.length=s.size:=rfl;have P:=hr.2.2;have S:n<=12:=by rw[<-g];exact(LK i hi).2.1
 have m:=Dl d;rw[d] at k ht;by_cases Q:i=0
 ·subst Q;have h1:n=1:=by rw[<-g];decide +kernel
  subst h1;have F:=Dl (gJ (b:=K) (by rw[g];exact k));have c1:w.cell? ⟨3,0,none⟩=some (.int .i64 1):=(y 0 (by decide)).2;have a:ask s.data.toList p 1=(((AD s.data.toList p 1:Nat):Int),0):=E7 (n:=1) (by omega) (by rw[u];omega);have E:C1 s.data.toList p 1=p+1:=by unfold C1;rw[a];rfl
  have A:=Dl a;have T:=Dl E;clear a E k ht g d l y
  go_enter func229,ntmps229
  go_wp2_with fail
  refine(IL _ _ _ _ 1 hr).mono ?_;rintro e j ⟨rfl,f,U⟩;rw[A.out];rw[T.out] at f
  go_wp2
  go_ret2
  exact MY (by rw[m.out];exact F.out) f U
 ·have Y:((i:Int)==0)=false:=by rw[Ez];omega
  have c1:w.cell? ⟨3,i,none⟩=some (.int .i64 (n:Int)):=by rw[(y i hi).2,g]
  by_cases V:8*s.size<p+n+1
  ·have F:=Dl (yU hi Q g (by omega) k ht (by omega));have a:ask s.data.toList p ((n:Int)+1)=(0,2):=FG (by omega) (by rw[u];omega);have A:=Dl a;clear a k ht g d l y
   go_enter func229,ntmps229
   go_wp2_with fail
   refine(FD _ _ _ _ ((n:Int)+1) hr).mono ?_;rintro e j ⟨rfl,c⟩;rw[A.out]
   go_wp2
   go_ret2
   exact MY (n:=0) (by rw[m.out];exact F.out) (hr.below c) (ML c rb)
  ·have z:n<K.length:=by omega
   obtain⟨t,o⟩:=Ai (AD s.data.toList p (n+1));have a:ask s.data.toList p ((n:Int)+1)=((t:Int),0):=by
    rw[E7 (n:=(n:Int)+1) (by omega) (by rw[u];omega),show ((n:Int)+1).toNat=n+1 by omega,o]
   have A:=Dl a;have q:=P6 s.data.toList p n (by rw[u];omega);rw[o] at q;simp only[d] at q;obtain⟨_,q⟩:=q;have G:=Dl (fun(x:A5) (W:Below w.heap.size w x)=>(y.below W:FR x));have Z:0<=(p:Int)+n+1:=by omega
   have k1:(p:Int)+n+1<=8*(s.size:Int):=by omega
   have R:((p:Int)+n+1).toNat=p+(n+1):=by omega
   have H:=Dl g;have I:=Dl hi;rcases q with ⟨hc,h⟩|⟨hc,h⟩
   ·have X:(bits .and .i64 (t:Int) 1==1)=false:=Vr h;by_cases v:i=32
    ·have F:=Dl (aV (by rw[<-v];exact g) z (by rw[<-v];exact k) hc ht);have t1:decide (31<(i:Int))=true:=by simp;omega
     clear a k ht g d l y hc h o v
     go_enter func229,ntmps229
     go_wp2_with fail
     refine(FD _ _ _ _ ((n:Int)+1) hr).mono ?_;rintro e j ⟨rfl,c⟩;rw[A.out]
     go_wp2
     go_ret2
     exact MY (n:=0) (by rw[m.out];exact F.out) (hr.below c) (ML c rb)
    ·have F:=Dl (fL (by omega) (by omega) g z k hc);have t1:decide (31<(i:Int))=false:=by simp;omega
     clear a k ht g d l y hc h o v
     go_enter func229,ntmps229
     go_wp2_with fail
     refine(FD _ _ _ _ ((n:Int)+1) hr).mono ?_;rintro e j ⟨rfl,c⟩;rw[A.out];have f:=hr.below c;have c2:j.cell? ⟨3,i,none⟩=some (.int .i64 (n:Int)):=by rw[(G.out _ c i I.out).2,H.out]
     have B:=ML c rb;clear hr c1 c;have J:AG j.drew rb s p:=f;have c3:j.drew.cell? ⟨3,i,none⟩=some (.int .i64 (n:Int)):=c2;have L:p<=1125899906842624:=by have:=f.2;omega
     go_wp2_with fail
     have M:IntKind.i64.wrap ((p:Int)+n)=(p:Int)+n:=Kx _ (by omega);have N:IntKind.i64.wrap ((p:Int)+n+1)=(p:Int)+n+1:=Kx _ (by omega)
     go_region_with (first|(go_at_call 28;refine(E1 _ _ _ _ (by assumption)).mono ?_;rintro e O ⟨rfl,rfl⟩)|(go_at_call 91;refine(GA _ _ _ _ _ (by assumption) (by omega) (by omega)).mono ?_;rintro e O ⟨rfl,r,C⟩))
     all_goals
      rw[R] at r;have D:=AO B (AO (JX j _) C)
      go_wp2
      go_ret2
      exact MY (by rw[m.out];exact F.out) r D
   ·have X:(bits .and .i64 (t:Int) 1==1)=true:=Vr h;have F:=Dl (mU hi (by omega) g z k hc);have t1:decide (31 < -(i:Int))=false:=by rw[G3];omega
    clear a k ht g d l y hc h o
    go_enter func229,ntmps229
    go_wp2_with fail
    refine(FD _ _ _ _ ((n:Int)+1) hr).mono ?_;rintro e j ⟨rfl,c⟩;rw[A.out];have f:=hr.below c;have c2:j.cell? ⟨3,i,none⟩=some (.int .i64 (n:Int)):=by rw[(G.out _ c i I.out).2,H.out]
    have B:=ML c rb;clear hr c1 c;have J:AG j.drew rb s p:=f;have c3:j.drew.cell? ⟨3,i,none⟩=some (.int .i64 (n:Int)):=c2;have L:p<=1125899906842624:=by have:=f.2;omega
    go_wp2_with fail
    have M:IntKind.i64.wrap ((p:Int)+n)=(p:Int)+n:=Kx _ (by omega);have N:IntKind.i64.wrap ((p:Int)+n+1)=(p:Int)+n+1:=Kx _ (by omega)
    go_region_with (first|(go_at_call 28;refine(E1 _ _ _ _ (by assumption)).mono ?_;rintro e O ⟨rfl,rfl⟩)|(go_at_call 91;refine(GA _ _ _ _ _ (by assumption) (by omega) (by omega)).mono ?_;rintro e O ⟨rfl,r,C⟩))
    all_goals
     rw[R] at r;have D:=AO B (AO (JX j _) C)
     go_wp2
     go_ret2
     exact MY (by rw[m.out];exact F.out) r D
def Ru (a:List UInt8)(m:Nat):Prop:=tk rowsD a 25 1=tk rowsD a (25-m) (m+1)/\MF (a.take m)
set_option maxRecDepth 100000 in
theorem iZ (w:A5)(rb:Nat)(s:ByteArray)(p:Nat)(hp:FR w)(hr:AG w rb s p):
  Calls prog 213 #[.pointer (some ⟨rb,0,none⟩)] w (QJ s rb p w):=by
 obtain⟨h,j⟩:=Ai ((AA s.data.toList).drop p);have I:h.length=8*s.size-p:=by rw[<-j,Bj,BB];rfl
 have u:AK h=true:=by rw[<-j];exact FO _ _ (K0 _)
 have J:s.data.toList.length=s.size:=rfl;have af:=hr.2.1;have l:∀n,AD s.data.toList p n=num (h.take n):=fun n=>by unfold AD;rw[j]
 have q:=Dl j;have ad:=Dl I;have T:=Dl u;have ag:=Dl l;have U:=Dl (fun(x:A5) (K:Below w.heap.size w x)=>(hp.below K:FR x));have D:=Dl (fun(x:A5) (K:Below w.heap.size w x)=>(hr.below K:AG x rb s p));have L:Below w.heap.size w w:=Dm _ _;have c:Ru h 0:=⟨rfl,by rw[Bk];exact dO⟩;have ae:=Dl c
 clear j I u l hp hr c
 go_enter func213,ntmps213
 go_wp2
 go_loopw [4] (fun v wr=>∃m:Nat,m<12/\v=.int .i64 ((m:Int)+1)/\Below w.heap.size w wr/\Hid (Ru h m)) (fun v _=>13-(intOf v).toNat)
 case atStart=>exact⟨0,by omega,rfl,L,ae⟩
 case round=>
  clear L ae;obtain⟨m,hm,rfl,M,c⟩:=hrel;have E:=D.out _ M;have V:=M.size;by_cases W:8*s.size<p+m+1
  ·have g:ask s.data.toList p ((m:Int)+1)=(0,2):=FG (by omega) (by rw[J];omega);have F:=Dl (MW (all:=allD) (b:=h) (n:=0) (f:=2) (c.out.1.trans (by rw[show 25-m=(24-m)+1 by omega];exact TN (by rw[ad.out];omega))) (by decide));have A:=Dl g;clear g W
   go_wp2_with fail
   refine(FD _ _ _ _ ((m:Int)+1) E).mono ?_;rintro e w1 ⟨rfl,r⟩;rw[A.out];have d:=M.trans (r.mono V)
   go_wp2
   go_ret2
   exact MY (n:=0) (by rw[q.out];exact F.out) (D.out _ d) (ML d rb)
  ·obtain⟨t,G⟩:=Ai (AD s.data.toList p (m+1));have g:ask s.data.toList p ((m:Int)+1)=((t:Int),0):=by
    rw[E7 (n:=(m:Int)+1) (by omega) (by rw[J];omega),show ((m:Int)+1).toNat=m+1 by omega,G]
   have hq:num (h.take (m+1))=t:=by rw[<-ag.out,G]
   have N:m+1<=h.length:=by rw[ad.out];omega
   have O:(h.take (m+1)).length=m+1:=by rw[Be];omega
   have z:∀i,i<33->LQ t (m+1) i=(h.take (m+1)).isPrefixOf (CO i):=fun i hi=>by
    have:=jI (HZ _ (m+1) T.out) hi;rwa [hq,O] at this
   have A:=Dl g;have S:=Dl N;have P:=Dl z;have B:=fun(x:A5) (K:FR x)=>lE t (m+1) (by omega) x K;rw[show ((m+1:Nat):Int)=(m:Int)+1 by omega] at B;clear g hq O N z G
   go_wp2_with fail
   refine(FD _ _ _ _ ((m:Int)+1) E).mono ?_;rintro e w1 ⟨rfl,r⟩;rw[A.out];have d:=M.trans (r.mono V);have ah:=d.size;have H:=U.out _ d;have Q:=D.out _ d;clear M r E V
   go_wp2_with fail
   refine(B _ H).mono ?_;rintro e w2 ⟨⟨i,hi,a,rfl⟩|⟨X,rfl⟩,rfl⟩
   ·rw[P.out i hi] at a;have c2:=(H i hi).2;have C:=(LK i hi).2.1;have o:=H3 a;rw[NX,Be,Bw S.out] at o;by_cases R:CL i=m+1
    ·have hd:=nU i (m+1) w1 rb s p H Q hi R (by omega) (by rw[q.out];exact wJ S.out a R) (by rw[q.out,show 26-(m+1)=25-m by omega];exact c.out.1);have Y:((CL i:Int)==(m:Int)+1)=true:=by rw[Bm];omega
     have Z:=ML d rb;have ai:=Dl hd;clear a C o R hd;generalize CL i=y at c2 Y
     go_wp2_with fail
     refine ai.out.mono ?_;rintro e w3 ⟨rfl,aa,ab⟩
     go_wp2
     go_ret2
     exact⟨rfl,aa,AO Z ab⟩
    ·obtain⟨h1,h2⟩:=mJ (k:=24-m) S.out c.out.2 hi a R;have aj:Hid (Ru h (m+1)):=Dl ⟨c.out.1.trans (by rw[show 25-m=(24-m)+1 by omega,h1,show 25-(m+1)=24-m by omega]),h2⟩;have Y:((CL i:Int)==(m:Int)+1)=false:=by rw[Ez];omega
     have ac:m+1<12:=by omega
     clear a C o R h1 h2;generalize CL i=y at c2 Y
     go_wp2
     go_roundw
     case rel=>exact⟨m+1,ac,by go_num,d,aj⟩
     case measure=>simp[intOf];omega
   ·have F:=Dl (MW (all:=allD) (b:=h) (n:=0) (f:=3) (c.out.1.trans (by rw[show 25-m=(24-m)+1 by omega];exact kT S.out c.out.2 (fun i hi=>by rw[<-P.out i hi];exact X i hi))) (by decide))
    go_wp2
    go_ret2
    exact MY (n:=0) (by rw[q.out];exact F.out) Q (ML d rb)
end Go.Proofs.YtjjmalchelniiaaGreatDoor