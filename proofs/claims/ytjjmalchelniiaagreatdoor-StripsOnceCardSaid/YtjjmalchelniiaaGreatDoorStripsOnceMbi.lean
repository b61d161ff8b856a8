/- Part 35 of StripsOnce. No condition. -/
import Derived.Test.YtjjmalchelniiaaGreatDoorStripsOnceMs
import Derived.Test.YtjjmalchelniiaaGreatDoorStripsOnceMbd
import Derived.OwnWalk
namespace Go.Proofs.YtjjmalchelniiaaGreatDoor
open Go.RowKit Go.Lib
def Ymw (intra:Bool)(i:Nat):ByteArray×Int:=(Yqp[i]?.getD ⟨#[]⟩,((Yf4 intra i:Nat):Int))
def Yg7 (intra:Bool)(q:List UInt8)(i:Nat):List (ByteArray×Int):=((List.range i).map (Ymw intra)).filter fun x=>q.isPrefixOf (Ya1 x)
theorem Qbs {intra:Bool}{q:List UInt8}{i:Nat}(h:q.isPrefixOf (Ya1 (Ymw intra i))=true):Yg7 intra q (i+1)=Yg7 intra q i++[Ymw intra i]:=by
 unfold Yg7;rw[List.range_succ,List.map_append,List.filter_append];simp[h]
theorem Qfx {intra:Bool}{q:List UInt8}{i:Nat}(h:q.isPrefixOf (Ya1 (Ymw intra i))=false):Yg7 intra q (i+1)=Yg7 intra q i:=by
 unfold Yg7;rw[List.range_succ,List.map_append,List.filter_append];simp[h]
theorem Yp3 (intra:Bool)(q:List UInt8)(i:Nat):(Yg7 intra q i).length≤i:=by
 unfold Yg7;refine Nat.le_trans (List.length_filter_le _ _) ?_;simp
theorem Yvk (intra:Bool)(i:Nat)(h:i<16):Ymw intra i=(Yqp[i]'(by rw[Yc5];exact h),((Yf4 intra i:Nat):Int)):=by
 unfold Ymw;rw[List.getElem?_eq_getElem (by rw[Yc5];exact h)]
 rfl
theorem Y43:∀i,(h:i<16)→1<(Yqp[i]'(by rw[Yc5];exact h)).size∧((Yqp[i]'(by rw[Yc5];exact h)).data.toList.head? =some 48∨(Yqp[i]'(by rw[Yc5];exact h)).data.toList.head? =some 49):=by decide +kernel
def Yfu:Obj:=.cells (madeCells (Value.agg #[.string ⟨#[]⟩,.int .i64 0]).cells (16*2)) 286 (0,0)
theorem Qan (w:World):(Instr.makeSlice 264 (.int .i64 0) (.int .i64 16)).run Tryz.prog w=.ok (.slice (some ⟨w.heap.size,0,none⟩) 0 16) (w.alloc Yfu):=by
 obtain⟨i0,hi,hz0,hz1,hz2⟩:=info_parts Yom;have:=run_make (P:=Tryz.prog) w 264 286 i0 _ Tryz.underlying264 hi hz0 .i64 .i64 0 16 (by omega) (by omega) (by rw[hz2];omega) (by omega);rw[hz1] at this;exact this
theorem Qae (w:World){base:Nat}(h:base≤w.heap.size):(w.alloc Yfu).ownsRow base 286 2 (.slice (some ⟨w.heap.size,0,none⟩) 0 16) 0 []:=
 World.ownsRow_made w _ 16 h (by decide) (size_madeCells _ _)
def patV:Value:=.agg (Yqp.map Value.string).toArray
theorem Qh8 (w:World)(i:Nat)(h:i<16):(Instr.index 226 patV (.int .i64 (i:Int))).run Tryz.prog w=.ok (.string (Yqp[i]'(by rw[Yc5];exact h))) w:=by
 rcases (by omega:i=0∨i=1∨i=2∨i=3∨i=4∨i=5∨i=6∨i=7∨i=8∨i=9∨i=10∨i=11∨i=12∨i=13∨i=14∨i=15) with rfl|rfl|rfl|rfl|rfl|rfl|rfl|rfl|rfl|rfl|rfl|rfl|rfl|rfl|rfl|rfl
 all_goals kernel_rfl
theorem Qdv (s:ByteArray)(h:0<s.size)(a:UInt8):[a].isPrefixOf s.data.toList=(a==s[0]):=by
 obtain⟨⟨l⟩⟩:=s;cases l with
 |nil=>cases h
 |cons x l=>exact Bool.and_true _
theorem Qdu (s:ByteArray)(h:0<s.size):s.data.toList.head? =some s[0]:=by
 obtain⟨⟨l⟩⟩:=s;cases l with
 |nil=>cases h
 |cons x l=>rfl
theorem Qdk {x:UInt8}{c:Nat}(hc:c=0∨c=1)(hx:x=48∨x=49):(((x.toNat:Nat):Int)-48)%256=(c:Int)↔UInt8.ofNat (48+c)=x:=by
 rcases hc with rfl|rfl <;> rcases hx with rfl|rfl <;> decide
set_option maxRecDepth 100000 in
set_option maxHeartbeats 4000000 in
theorem Yy5 (intra:Bool)(c:Nat)(hc:c=0∨c=1)(w:World)(hp:Ye3 w):
  Calls Tryz.prog 239 #[.bool intra,.int .i64 (c:Int)] w fun e w'=>∃v,e=.returned v∧w'.ownsRow w.heap.size 286 2 v (Yg7 intra [UInt8.ofNat (48+c)] 16).length (Ya4 (Yg7 intra [UInt8.ofNat (48+c)] 16))∧Below w.heap.size w w':=by
 have hroom:=fun w=>Qan w;obtain⟨i0,hi,iz0,iz1,iz2⟩:=info_parts Yom;have hb0:Below w.heap.size w (w.alloc Yfu):=(Below.refl _ w).alloc (Nat.le_refl _) _;have hp1:Ye3 (w.alloc Yfu):=hp.below hb0;have hown:=Qae w (Nat.le_refl w.heap.size);obtain⟨q,hq⟩:∃q,[UInt8.ofNat (48+c)]=q:=⟨_,rfl⟩;have HQ:=Lib.hid hq;rw[hq];clear hq hp
 have c0:(w.alloc Yfu).cell? ⟨1,0,none⟩=some (.string ⟨#[48,48,49,49]⟩):=hp1 0 (by decide);have c1:(w.alloc Yfu).cell? ⟨1,1,none⟩=some (.string ⟨#[48,48,49,48,49]⟩):=hp1 1 (by decide);have c2:(w.alloc Yfu).cell? ⟨1,2,none⟩=some (.string ⟨#[48,48,49,48,48]⟩):=hp1 2 (by decide);have c3:(w.alloc Yfu).cell? ⟨1,3,none⟩=some (.string ⟨#[49,48,48,49]⟩):=hp1 3 (by decide)
 have c4:(w.alloc Yfu).cell? ⟨1,4,none⟩=some (.string ⟨#[48,48,48,49,49]⟩):=hp1 4 (by decide);have c5:(w.alloc Yfu).cell? ⟨1,5,none⟩=some (.string ⟨#[48,49,49,49]⟩):=hp1 5 (by decide);have c6:(w.alloc Yfu).cell? ⟨1,6,none⟩=some (.string ⟨#[48,48,48,48,49,48]⟩):=hp1 6 (by decide);have c7:(w.alloc Yfu).cell? ⟨1,7,none⟩=some (.string ⟨#[49,48,49,49]⟩):=hp1 7 (by decide)
 have c8:(w.alloc Yfu).cell? ⟨1,8,none⟩=some (.string ⟨#[48,48,48,49,48]⟩):=hp1 8 (by decide);have c9:(w.alloc Yfu).cell? ⟨1,9,none⟩=some (.string ⟨#[48,48,48,48,49,49]⟩):=hp1 9 (by decide);have c10:(w.alloc Yfu).cell? ⟨1,10,none⟩=some (.string ⟨#[48,49,48,49]⟩):=hp1 10 (by decide);have c11:(w.alloc Yfu).cell? ⟨1,11,none⟩=some (.string ⟨#[49,48,49,48]⟩):=hp1 11 (by decide)
 have c12:(w.alloc Yfu).cell? ⟨1,12,none⟩=some (.string ⟨#[48,49,48,48]⟩):=hp1 12 (by decide);have c13:(w.alloc Yfu).cell? ⟨1,13,none⟩=some (.string ⟨#[49,48,48,48]⟩):=hp1 13 (by decide);have c14:(w.alloc Yfu).cell? ⟨1,14,none⟩=some (.string ⟨#[48,49,49,48]⟩):=hp1 14 (by decide);have c15:(w.alloc Yfu).cell? ⟨1,15,none⟩=some (.string ⟨#[49,49]⟩):=hp1 15 (by decide)
 have hv:Value.agg #[.string ⟨#[48,48,49,49]⟩,.string ⟨#[48,48,49,48,49]⟩,.string ⟨#[48,48,49,48,48]⟩,.string ⟨#[49,48,48,49]⟩,.string ⟨#[48,48,48,49,49]⟩,.string ⟨#[48,49,49,49]⟩,.string ⟨#[48,48,48,48,49,48]⟩,.string ⟨#[49,48,49,49]⟩,.string ⟨#[48,48,48,49,48]⟩,.string ⟨#[48,48,48,48,49,49]⟩,.string ⟨#[48,49,48,49]⟩,.string ⟨#[49,48,49,48]⟩,.string ⟨#[48,49,48,48]⟩,.string ⟨#[49,48,48,48]⟩,.string ⟨#[48,49,49,48]⟩,.string ⟨#[49,49]⟩]=patV:=rfl
 have HV:=Lib.hid hv;clear hp1 hv
 go_enter Tryz.func239,Tryz.ntmps239
 go_wp2
 rw[HV.out];clear HV c0 c1 c2 c3 c4 c5 c6 c7 c8 c9 c10 c11 c12 c13 c14 c15 hroom;obtain⟨B,hB⟩:∃B,w.heap.size=B:=⟨_,rfl⟩;rw[hB] at hown hb0 ⊢;have hz0:B≤(w.alloc Yfu).heap.size:=by simp;omega
 generalize w.alloc Yfu=w0 at hown hb0 hz0 ⊢;have HPV:=Lib.hid (fun(w:World) (i:Nat) (h:i<16)=>Qh8 w i h);generalize patV=pv at HPV ⊢
 go_loopw [5,10] (fun u v wr=>∃i:Nat,i≤16∧v=.int .i64 i∧wr.ownsRow B 286 2 u (Yg7 intra q i).length (Ya4 (Yg7 intra q i))∧Below B w wr∧B≤wr.heap.size) (fun _ v _=>16-(intOf v).toNat)
 case atStart=>exact⟨0,by omega,rfl,hown,hb0,hz0⟩
 case round=>
  clear hown hb0 hz0;obtain⟨i,hi16,rfl,hu,hb,hz⟩:=hrel;by_cases hlt:i<16
  ·have hidx:=fun w=>HPV.out w i hlt;have hfst:=Y43 i hlt;have hcell:=Yvk intra i hlt;obtain⟨s,hs⟩:∃s,Yqp[i]'(by rw[Yc5];exact hlt)=s:=⟨_,rfl⟩;rw[hs] at hfst hcell;have hidx2:∀w,(Instr.index 226 pv (.int .i64 (i:Int))).run Tryz.prog w=.ok (.string s) w:=fun w=>(hidx w).trans (by rw[←hs]);have hcon:=fun x=>Y2e intra i hlt x;have hlen:=Yp3 intra q i;obtain⟨m,hm⟩:∃m,Yf4 intra i=m:=⟨_,rfl⟩
   rw[hm] at hcell hcon;clear hidx hs hm;obtain⟨hs1,hs2⟩:=hfst;have hs0:0<s.size:=by omega
   have hx:s[0]=48∨s[0]=49:=by
    rw[Qdu s hs0] at hs2;rcases hs2 with h|h
    ·exact .inl (Option.some.inj h)
    ·exact .inr (Option.some.inj h)
   have hd:=Qdk hc hx;have hpre:q.isPrefixOf (Ya1 (Ymw intra i))=(UInt8.ofNat (48+c)==s[0]):=by
    rw[←HQ.out,hcell];exact Qdv s hs0 _
   by_cases he:UInt8.ofNat (48+c)=s[0]
   ·have g0:((((s[0].toNat:Nat):Int)-48)%256==(c:Int))=true:=by rw[beq_iff_eq];exact hd.2 he
    have SY:=Lib.hid (Qbs (hpre.trans (by rw[beq_iff_eq];exact he)));have HC:=Lib.hid hcell;clear hd hpre he hx hs2 hs1 hcell
    go_wp2_with (first
     |(go_at_call 202;refine(hcon _).mono ?_;rintro e w' ⟨rfl,rfl⟩)
     |(at_builtin;refine Yqx (y0:=s) (y1:=(m:Int)) rfl rfl Tryz.underlying264 hi iz0 rfl iz1 iz2 rfl (hu.alloc _) rfl ?d1 ?d2 ?d3 ?d4 ?_;(case d1=>go_cell);(case d2=>go_cell);(case d3=>omega);(case d4=>(simp;omega));intro v2 w2 hu4 hgrow;have hg4:World.grownBy _ w2 (Value.ownBlock u5):=hgrow;have hb4:=(hb.alloc hz _).grown hg4 (by simp;omega) (Yfh hu);have hz4:B≤w2.heap.size:=Nat.le_trans (by simp;omega) hg4.size;clear hgrow))
    go_roundw
    case rel=>exact⟨i+1,by omega,by go_num,by rw[SY.out,HC.out,List.length_append,Yqh];exact hu4,hb4,hz4⟩
    case measure=>simp[intOf];omega
   ·have g0:((((s[0].toNat:Nat):Int)-48)%256==(c:Int))=false:=by rw[beq_eq_false_iff_ne];exact fun h=>he (hd.1 h)
    have SN:=Lib.hid (Qfx (hpre.trans (by rw[beq_eq_false_iff_ne];exact he)));clear hd hpre he hx hs2 hs1 hcell
    go_wp2
    go_roundw
    case rel=>exact⟨i+1,by omega,by go_num,by rw[SN.out];exact hu,hb,hz⟩
    case measure=>simp[intOf];omega
  ·obtain rfl:i=16:=by omega
   go_wp2
   go_ret
   exact⟨_,rfl,by rw[hB];exact hu,by rw[hB];exact hb⟩
end Go.Proofs.YtjjmalchelniiaaGreatDoor