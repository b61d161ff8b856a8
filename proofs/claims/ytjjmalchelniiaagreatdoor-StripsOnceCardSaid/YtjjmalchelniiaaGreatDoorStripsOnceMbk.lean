/- Part 37 of StripsOnce. No condition. -/
import Derived.Test.YtjjmalchelniiaaGreatDoorStripsOnceMv
import Derived.RegionTactic
import Derived.Deep.RegionWith
namespace Go.Proofs.YtjjmalchelniiaaGreatDoor
open Go.RowKit Go.Lib
def Qgf (v n i:Nat):Bool:=decide (n≤Ydo i)&&(Yf9 i / 2^(Ydo i-n)==v)
theorem Qcs {q:List UInt8}(hq:Yax q=true){i:Nat}(hi:i<33):Qgf (num q) q.length i=q.isPrefixOf (Yi4 i):=(Y1q hq (Yc7 i hi).2.2.1).symm
def Qjy:Value:=.agg (Qi4.map fun z=>Value.int .i64 (z:Nat)).toArray
theorem Qh0 (w:World)(i:Nat)(h:i<33):(Instr.index 248 Qjy (.int .i64 (i:Int))).run Tryz.prog w=.ok (.int .i64 (Ydo i:Nat)) w:=by
 rcases (by omega:i=0∨i=1∨i=2∨i=3∨i=4∨i=5∨i=6∨i=7∨i=8∨i=9∨i=10∨i=11∨i=12∨i=13∨i=14∨i=15∨i=16∨i=17∨i=18∨i=19∨i=20∨i=21∨i=22∨i=23∨i=24∨i=25∨i=26∨i=27∨i=28∨i=29∨i=30∨i=31∨i=32) with rfl|rfl|rfl|rfl|rfl|rfl|rfl|rfl|rfl|rfl|rfl|rfl|rfl|rfl|rfl|rfl|rfl|rfl|rfl|rfl|rfl|rfl|rfl|rfl|rfl|rfl|rfl|rfl|rfl|rfl|rfl|rfl|rfl
 all_goals kernel_rfl
def Qb7 (v n:Nat)(w:World)(e:Ending)(w':World):Prop:=
 ((∃i:Nat,i<33∧Qgf v n i=true∧e=.returned (.tuple #[.int .i64 (i:Int),.bool true]))∨((∀i,i<33→Qgf v n i=false)∧e=.returned (.tuple #[.int .i64 0,.bool false])))∧w=w'
theorem Qd8:∀w,(isAgg 248).run Tryz.prog w=.ok true w:=fun _=>by kernel_rfl
theorem Y86:∀w,(Go.sizeOf 248).run Tryz.prog w=.ok 33 w:=fun _=>by kernel_rfl
theorem Y1v:(Qi4.map fun z=>Value.int .i64 (z:Nat)).length=33:=rfl
theorem Y87 (w:World)(hp:Yeg w):(loadVar 248 ⟨3,0,none⟩).run Tryz.prog w=.ok Qjy w:=by
 have hl:=run_loadCells_list (P:=Tryz.prog) w ⟨3,0,none⟩ (Qi4.map fun z=>Value.int .i64 (z:Nat)) (fun j v hj=>by
  have hj33:j<33:=by
   have:=(List.getElem?_eq_some_iff.1 hj).1;rwa [Y1v] at this
  have h2:=(hp j hj33).2;rw[Addr.add_lit,Nat.zero_add,h2];rw[List.getElem?_map] at hj;obtain⟨z,hz,rfl⟩:=Option.map_eq_some_iff.1 hj;unfold Ydo;rw[hz]
  rfl)
 rw[Y1v] at hl;unfold loadVar;simp only[Sem.run_bind,Qd8,Result.andThen_ok,if_true,Y86,hl,Sem.run_pure]
 rfl
theorem Y0w {ops:Array Oper}{rest:List Oper}{a:Act}{w:World}{Q:Exit→Act→World→Prop}{pos:String}{ty:TypeId}{after:Array Edge}{d:Option Tmp}(hp:Yeg w)(h:wpList Tryz.prog ops Q rest (a.put d Qjy) w):
  wpList Tryz.prog ops Q ({dst:=d,op:=Op.load 248 (Operand.global 3),type:=ty,pos:=pos,after:=after,guard:=none}::rest) a w:=
 wpList_plain rfl fun _ hK=>by
  unfold Oper.wp;rw[Ybw (ev:=a.eval) (ty:=248) (x:=.global 3) (ad:=⟨3,0,none⟩) rfl rfl (Y87 w hp)];exact hK _ _ h
set_option maxRecDepth 100000 in
set_option maxHeartbeats 4000000 in
theorem Qct (v0 n:Nat)(hn:n≤32)(w:World)(hp:Yeg w):Calls Tryz.prog 228 #[.int .i64 (v0:Int),.int .i64 (n:Int)] w (Qb7 v0 n w):=by
 have HP:=Lib.hid hp
 go_enter Tryz.func228,Tryz.ntmps228
 go_wp2_with (with_reducible refine Y0w hp ?_)
 have HPV:=Lib.hid (fun(w:World) (i:Nat) (h:i<33)=>Qh0 w i h);generalize Qjy=pv at HPV ⊢;clear hp
 go_loop [9] (fun v=>∃i:Nat,i≤33∧v=.int .i64 i∧Hid (∀j,j<i→Qgf v0 n j=false)) (fun v=>33-(intOf v).toNat)
 case atStart=>exact⟨0,by omega,rfl,Lib.hid (fun j h=>absurd h (Nat.not_lt_zero j))⟩
 case round=>
  obtain⟨i,hi33,rfl,hno⟩:=hrel;by_cases hlt:i<33
  ·have hidx:=fun w=>HPV.out w i hlt;obtain⟨c0,_⟩:=HP.out i hlt;obtain⟨b0,b1,b2,b3⟩:=Yc7 i hlt;clear b2;have hbeg:Qgf v0 n i=(decide (n≤Ydo i)&&(Yf9 i / 2^(Ydo i-n)==v0)):=rfl;have hmore:∀r,Qgf v0 n i=r→r=false→∀j,j<i+1→Qgf v0 n j=false:=by
    intro r h1 h2 j hj;by_cases e:j=i
    ·subst e;rw[h1,h2]
    ·exact hno.out j (by omega)
   have MORE:=Lib.hid hmore;generalize Yf9 i=x at c0 b3 hbeg;generalize Ydo i=y at hidx b0 b1 hbeg;clear hno hmore;by_cases hyn:n≤y
   ·obtain⟨k,rfl⟩:∃k,y=n+k:=⟨y-n,by omega⟩;rw[Nat.add_sub_cancel_left,decide_eq_true hyn,Bool.true_and] at hbeg;have t0:decide (n≤n+k)=true:=by simp
    have hcast:((x:Int) / 2^k==(v0:Int))=(x / 2^k==v0):=by
     rw[Bool.eq_iff_iff,beq_iff_eq,beq_iff_eq,←Int.natCast_inj];simp
    rw[←hcast] at hbeg;cases hg:((x:Int) / 2^k==(v0:Int)) with
    |true=>
     have B:=Lib.hid (hbeg.trans hg);clear hbeg hcast
     go_wp2
     go_ret2
     exact⟨.inl ⟨i,hlt,B.out,rfl⟩,rfl⟩
    |false=>
     have B:=Lib.hid (hbeg.trans hg);clear hbeg hcast
     go_wp2
     go_round
     case rel=>exact⟨i+1,by omega,by go_num,Lib.hid (MORE.out _ B.out rfl)⟩
     case measure=>simp[intOf];omega
   ·have t0:decide (n≤y)=false:=by simp;omega
    rw[t0,Bool.false_and] at hbeg;have B:=Lib.hid hbeg;clear hbeg
    go_wp2
    go_round
    case rel=>exact⟨i+1,by omega,by go_num,Lib.hid (MORE.out _ B.out rfl)⟩
    case measure=>simp[intOf];omega
  ·obtain rfl:i=33:=by omega
   go_wp2
   go_ret2
   exact⟨.inr ⟨hno.out,rfl⟩,rfl⟩
def Qb8 (s:ByteArray)(rb p:Nat)(w:World)(e:Ending)(w':World):Prop:=
 e=.returned (.tuple #[.int .i64 (dtk ((Yad s.data.toList).drop p)).1,.int .i64 (dtk ((Yad s.data.toList).drop p)).2.1])∧
  Yba w' rb s (p+(dtk ((Yad s.data.toList).drop p)).2.2)∧w.grownBy w' (some rb)
theorem Ygw {s:ByteArray}{rb p n:Nat}{w w':World}{a f:Int}(h:dtk ((Yad s.data.toList).drop p)=(a,f,n))(hr:Yba w' rb s (p+n))(hg:w.grownBy w' (some rb)):
  Qb8 s rb p w (.returned (.tuple #[.int .i64 a,.int .i64 f])) w':=by
 unfold Qb8;rw[h];exact⟨rfl,hr,hg⟩
theorem Yfk {w w':World}(hb:Below w.heap.size w w')(b:Nat):w.grownBy w' (some b):=Yak hb _
theorem Y02 {t r:Nat}(h:t%2=r):(bits .and .i64 (t:Int) 1==1)=(r==1):=by
 rw[Yuc,Bool.eq_iff_iff,beq_iff_eq,beq_iff_eq];omega
set_option maxRecDepth 100000 in
set_option maxHeartbeats 2000000 in
theorem Y8c (i n:Nat)(w:World)(rb:Nat)(s:ByteArray)(p:Nat)(hp:Yeg w)(hr:Yba w rb s p)(hi:i<33)(he:Ydo i=n)(hn:p+n≤8*s.size)(hb:((Yad s.data.toList).drop p).take n=Yi4 i)
  (ht:tk rowsD ((Yad s.data.toList).drop p) 25 1=tk rowsD ((Yad s.data.toList).drop p) (26-n) n):
  Calls Tryz.prog 229 #[.pointer (some ⟨rb,0,none⟩),.int .i64 (i:Int)] w (Qb8 s rb p w):=by
 obtain⟨bs,hbs⟩:∃bs,(Yad s.data.toList).drop p=bs:=⟨_,rfl⟩;have hbl:bs.length=8*s.size-p:=by rw[←hbs,List.length_drop,Yag];rfl
 have hsl:s.data.toList.length=s.size:=rfl;have hs47:=hr.2.2;have h12:n≤12:=by rw[←he];exact(Yc7 i hi).2.1
 have HBS:=Lib.hid hbs;rw[hbs] at hb ht;by_cases h0:i=0
 ·subst h0;have h1:n=1:=by rw[←he];decide +kernel
  subst h1;have F:=Lib.hid (Qdp (b:=bs) (by rw[he];exact hb));have c1:w.cell? ⟨3,0,none⟩=some (.int .i64 1):=(hp 0 (by decide)).2;have hask:ask s.data.toList p 1=(((Ya3 s.data.toList p 1:Nat):Int),0):=Yc8 (n:=1) (by omega) (by rw[hsl];omega);have hto:Yc1 s.data.toList p 1=p+1:=by unfold Yc1;rw[hask];rfl
  have A:=Lib.hid hask;have T:=Lib.hid hto;clear hask hto hb ht he hbs hbl hp
  go_enter Tryz.func229,Tryz.ntmps229
  go_wp2_with fail
  refine(Ycz _ _ _ _ 1 hr).mono ?_;rintro e w1 ⟨rfl,hr1,hg⟩;rw[A.out];rw[T.out] at hr1
  go_wp2
  go_ret2
  exact Ygw (by rw[HBS.out];exact F.out) hr1 hg
 ·have g0:((i:Int)==0)=false:=by rw[beq_eq_false_iff_ne];omega
  have c1:w.cell? ⟨3,i,none⟩=some (.int .i64 (n:Int)):=by rw[(hp i hi).2,he]
  by_cases hsh:8*s.size<p+n+1
  ·have F:=Lib.hid (Ytd hi h0 he (by omega) hb ht (by omega));have hask:ask s.data.toList p ((n:Int)+1)=(0,2):=Ybo (by omega) (by rw[hsl];omega);have A:=Lib.hid hask;clear hask hb ht he hbs hbl hp
   go_enter Tryz.func229,Tryz.ntmps229
   go_wp2_with fail
   refine(Ybr _ _ _ _ ((n:Int)+1) hr).mono ?_;rintro e w1 ⟨rfl,hb1⟩;rw[A.out]
   go_wp2
   go_ret2
   exact Ygw (n:=0) (by rw[HBS.out];exact F.out) (hr.below hb1) (Yfk hb1 rb)
  ·have hnl:n<bs.length:=by omega
   obtain⟨t,ht0⟩:∃t,Ya3 s.data.toList p (n+1)=t:=⟨_,rfl⟩;have hask:ask s.data.toList p ((n:Int)+1)=((t:Int),0):=by
    rw[Yc8 (n:=(n:Int)+1) (by omega) (by rw[hsl];omega),show ((n:Int)+1).toNat=n+1 by omega,ht0]
   have A:=Lib.hid hask;have htl:=Yib s.data.toList p n (by rw[hsl];omega);rw[ht0] at htl;simp only[hbs] at htl;obtain⟨_,htl⟩:=htl;have HPP:=Lib.hid (fun(x:World) (hx:Below w.heap.size w x)=>(hp.below hx:Yeg x));have k0:0≤(p:Int)+n+1:=by omega
   have k1:(p:Int)+n+1≤8*(s.size:Int):=by omega
   have kn:((p:Int)+n+1).toNat=p+(n+1):=by omega
   have HEC:=Lib.hid he;have HIC:=Lib.hid hi;rcases htl with ⟨hc,htm⟩|⟨hc,htm⟩
   ·have g1:(bits .and .i64 (t:Int) 1==1)=false:=Y02 htm;by_cases h32:i=32
    ·have F:=Lib.hid (Yvy (by rw[←h32];exact he) hnl (by rw[←h32];exact hb) hc ht);have t1:decide (31<(i:Int))=true:=by simp;omega
     clear hask hb ht he hbs hbl hp hc htm ht0 h32
     go_enter Tryz.func229,Tryz.ntmps229
     go_wp2_with fail
     refine(Ybr _ _ _ _ ((n:Int)+1) hr).mono ?_;rintro e w1 ⟨rfl,hb1⟩;rw[A.out]
     go_wp2
     go_ret2
     exact Ygw (n:=0) (by rw[HBS.out];exact F.out) (hr.below hb1) (Yfk hb1 rb)
    ·have F:=Lib.hid (Y35 (by omega) (by omega) he hnl hb hc);have t1:decide (31<(i:Int))=false:=by simp;omega
     clear hask hb ht he hbs hbl hp hc htm ht0 h32
     go_enter Tryz.func229,Tryz.ntmps229
     go_wp2_with fail
     refine(Ybr _ _ _ _ ((n:Int)+1) hr).mono ?_;rintro e w1 ⟨rfl,hb1⟩;rw[A.out];have hr1:=hr.below hb1;have c2:w1.cell? ⟨3,i,none⟩=some (.int .i64 (n:Int)):=by rw[(HPP.out _ hb1 i HIC.out).2,HEC.out]
     have hg1:=Yfk hb1 rb;clear hr c1 hb1;have hr1d:Yba w1.drew rb s p:=hr1;have c3:w1.drew.cell? ⟨3,i,none⟩=some (.int .i64 (n:Int)):=c2;have hps:p≤1125899906842624:=by have:=hr1.2;omega
     go_wp2_with fail
     have sw1:IntKind.i64.wrap ((p:Int)+n)=(p:Int)+n:=IntWalk.i64_in _ (by omega);have sw2:IntKind.i64.wrap ((p:Int)+n+1)=(p:Int)+n+1:=IntWalk.i64_in _ (by omega)
     go_region_with (first|(go_at_call 28;refine(Yb7 _ _ _ _ (by assumption)).mono ?_;rintro e w3 ⟨rfl,rfl⟩)|(go_at_call 91;refine(Yb2 _ _ _ _ _ (by assumption) (by omega) (by omega)).mono ?_;rintro e w3 ⟨rfl,hr3,hg3⟩))
     all_goals
      rw[kn] at hr3;have hg4:=Yac hg1 (Yac (Yb9 w1 _) hg3)
      go_wp2
      go_ret2
      exact Ygw (by rw[HBS.out];exact F.out) hr3 hg4
   ·have g1:(bits .and .i64 (t:Int) 1==1)=true:=Y02 htm;have F:=Lib.hid (Yvx hi (by omega) he hnl hb hc);have t1:decide (31 < -(i:Int))=false:=by rw[decide_eq_false_iff_not];omega
    clear hask hb ht he hbs hbl hp hc htm ht0
    go_enter Tryz.func229,Tryz.ntmps229
    go_wp2_with fail
    refine(Ybr _ _ _ _ ((n:Int)+1) hr).mono ?_;rintro e w1 ⟨rfl,hb1⟩;rw[A.out];have hr1:=hr.below hb1;have c2:w1.cell? ⟨3,i,none⟩=some (.int .i64 (n:Int)):=by rw[(HPP.out _ hb1 i HIC.out).2,HEC.out]
    have hg1:=Yfk hb1 rb;clear hr c1 hb1;have hr1d:Yba w1.drew rb s p:=hr1;have c3:w1.drew.cell? ⟨3,i,none⟩=some (.int .i64 (n:Int)):=c2;have hps:p≤1125899906842624:=by have:=hr1.2;omega
    go_wp2_with fail
    have sw1:IntKind.i64.wrap ((p:Int)+n)=(p:Int)+n:=IntWalk.i64_in _ (by omega);have sw2:IntKind.i64.wrap ((p:Int)+n+1)=(p:Int)+n+1:=IntWalk.i64_in _ (by omega)
    go_region_with (first|(go_at_call 28;refine(Yb7 _ _ _ _ (by assumption)).mono ?_;rintro e w3 ⟨rfl,rfl⟩)|(go_at_call 91;refine(Yb2 _ _ _ _ _ (by assumption) (by omega) (by omega)).mono ?_;rintro e w3 ⟨rfl,hr3,hg3⟩))
    all_goals
     rw[kn] at hr3;have hg4:=Yac hg1 (Yac (Yb9 w1 _) hg3)
     go_wp2
     go_ret2
     exact Ygw (by rw[HBS.out];exact F.out) hr3 hg4
def Qgu (bs:List UInt8)(m:Nat):Prop:=tk rowsD bs 25 1=tk rowsD bs (25-m) (m+1)∧Yww (bs.take m)
set_option maxRecDepth 100000 in
set_option maxHeartbeats 2000000 in
theorem Y8b (w:World)(rb:Nat)(s:ByteArray)(p:Nat)(hp:Yeg w)(hr:Yba w rb s p):
  Calls Tryz.prog 213 #[.pointer (some ⟨rb,0,none⟩)] w (Qb8 s rb p w):=by
 obtain⟨bs,hbs⟩:∃bs,(Yad s.data.toList).drop p=bs:=⟨_,rfl⟩;have hbl:bs.length=8*s.size-p:=by rw[←hbs,List.length_drop,Yag];rfl
 have hrow:Yax bs=true:=by rw[←hbs];exact Ybf _ _ (Yds _)
 have hsl:s.data.toList.length=s.size:=rfl;have hpl:=hr.2.1;have htell:∀n,Ya3 s.data.toList p n=num (bs.take n):=fun n=>by unfold Ya3;rw[hbs]
 have HBS:=Lib.hid hbs;have BL:=Lib.hid hbl;have ROW:=Lib.hid hrow;have TE:=Lib.hid htell;have HPP:=Lib.hid (fun(x:World) (hx:Below w.heap.size w x)=>(hp.below hx:Yeg x));have HRR:=Lib.hid (fun(x:World) (hx:Below w.heap.size w x)=>(hr.below hx:Yba x rb s p));have hb0:Below w.heap.size w w:=Below.refl _ _;have hse:Qgu bs 0:=⟨rfl,by rw[List.take_zero];exact Qeh⟩;have SE:=Lib.hid hse
 clear hbs hbl hrow htell hp hr hse
 go_enter Tryz.func213,Tryz.ntmps213
 go_wp2
 go_loopw [4] (fun v wr=>∃m:Nat,m<12∧v=.int .i64 ((m:Int)+1)∧Below w.heap.size w wr∧Hid (Qgu bs m)) (fun v _=>13-(intOf v).toNat)
 case atStart=>exact⟨0,by omega,rfl,hb0,SE⟩
 case round=>
  clear hb0 SE;obtain⟨m,hm,rfl,hb,hse⟩:=hrel;have hrr:=HRR.out _ hb;have hz:=hb.size;by_cases hsh:8*s.size<p+m+1
  ·have hask:ask s.data.toList p ((m:Int)+1)=(0,2):=Ybo (by omega) (by rw[hsl];omega);have F:=Lib.hid (Yjp (all:=allD) (b:=bs) (n:=0) (f:=2) (hse.out.1.trans (by rw[show 25-m=(24-m)+1 by omega];exact Yut (by rw[BL.out];omega))) (by decide));have A:=Lib.hid hask;clear hask hsh
   go_wp2_with fail
   refine(Ybr _ _ _ _ ((m:Int)+1) hrr).mono ?_;rintro e w1 ⟨rfl,hb1⟩;rw[A.out];have hb2:=hb.trans (hb1.mono hz)
   go_wp2
   go_ret2
   exact Ygw (n:=0) (by rw[HBS.out];exact F.out) (HRR.out _ hb2) (Yfk hb2 rb)
  ·obtain⟨t,ht0⟩:∃t,Ya3 s.data.toList p (m+1)=t:=⟨_,rfl⟩;have hask:ask s.data.toList p ((m:Int)+1)=((t:Int),0):=by
    rw[Yc8 (n:=(m:Int)+1) (by omega) (by rw[hsl];omega),show ((m:Int)+1).toNat=m+1 by omega,ht0]
   have hq:num (bs.take (m+1))=t:=by rw[←TE.out,ht0]
   have hln:m+1≤bs.length:=by rw[BL.out];omega
   have hql:(bs.take (m+1)).length=m+1:=by rw[List.length_take];omega
   have hpre:∀i,i<33→Qgf t (m+1) i=(bs.take (m+1)).isPrefixOf (Yi4 i):=fun i hi=>by
    have:=Qcs (Ycb _ (m+1) ROW.out) hi;rwa [hq,hql] at this
   have A:=Lib.hid hask;have LN:=Lib.hid hln;have PRE:=Lib.hid hpre;have hcon:=fun(x:World) (hx:Yeg x)=>Qct t (m+1) (by omega) x hx;rw[show ((m+1:Nat):Int)=(m:Int)+1 by omega] at hcon;clear hask hq hql hln hpre ht0
   go_wp2_with fail
   refine(Ybr _ _ _ _ ((m:Int)+1) hrr).mono ?_;rintro e w1 ⟨rfl,hb1⟩;rw[A.out];have hb2:=hb.trans (hb1.mono hz);have hz2:=hb2.size;have hp2:=HPP.out _ hb2;have hr2:=HRR.out _ hb2;clear hb hb1 hrr hz
   go_wp2_with fail
   refine(hcon _ hp2).mono ?_;rintro e w2 ⟨⟨i,hi,hbeg,rfl⟩|⟨hno,rfl⟩,rfl⟩
   ·rw[PRE.out i hi] at hbeg;have c2:=(hp2 i hi).2;have hl12:=(Yc7 i hi).2.1;have hlen:=Yb4 hbeg;rw[Yel,List.length_take,Nat.min_eq_left LN.out] at hlen;by_cases hy:Ydo i=m+1
    ·have hd:=Y8c i (m+1) w1 rb s p hp2 hr2 hi hy (by omega) (by rw[HBS.out];exact Qcj LN.out hbeg hy) (by rw[HBS.out,show 26-(m+1)=25-m by omega];exact hse.out.1);have g0:((Ydo i:Int)==(m:Int)+1)=true:=by rw[beq_iff_eq];omega
     have hg2:=Yfk hb2 rb;have DD:=Lib.hid hd;clear hbeg hl12 hlen hy hd;generalize Ydo i=y at c2 g0
     go_wp2_with fail
     refine DD.out.mono ?_;rintro e w3 ⟨rfl,hr3,hg3⟩
     go_wp2
     go_ret2
     exact⟨rfl,hr3,Yac hg2 hg3⟩
    ·obtain⟨h1,h2⟩:=Qdm (k:=24-m) LN.out hse.out.2 hi hbeg hy;have S2:Hid (Qgu bs (m+1)):=Lib.hid ⟨hse.out.1.trans (by rw[show 25-m=(24-m)+1 by omega,h1,show 25-(m+1)=24-m by omega]),h2⟩;have g0:((Ydo i:Int)==(m:Int)+1)=false:=by rw[beq_eq_false_iff_ne];omega
     have hm2:m+1<12:=by omega
     clear hbeg hl12 hlen hy h1 h2;generalize Ydo i=y at c2 g0
     go_wp2
     go_roundw
     case rel=>exact⟨m+1,hm2,by go_num,hb2,S2⟩
     case measure=>simp[intOf];omega
   ·have F:=Lib.hid (Yjp (all:=allD) (b:=bs) (n:=0) (f:=3) (hse.out.1.trans (by rw[show 25-m=(24-m)+1 by omega];exact Qdn LN.out hse.out.2 (fun i hi=>by rw[←PRE.out i hi];exact hno i hi))) (by decide))
    go_wp2
    go_ret2
    exact Ygw (n:=0) (by rw[HBS.out];exact F.out) hr2 (Yfk hb2 rb)
end Go.Proofs.YtjjmalchelniiaaGreatDoor