/- StripsWrites, 33. No condition. -/
import Derived.Test.YtjjmalchelniiaaGreatDoorStripsWritesMr
import Derived.Test.YtjjmalchelniiaaGreatDoorStripsWritesMbb
open Go.Proofs.Tryz
set_option maxHeartbeats 4000000
namespace Go.Proofs.YtjjmalchelniiaaGreatDoor
open Go.RowKit Go.Lib
def JN (intra:Bool)(i:Nat):ByteArray×Int:=(EH[i]?.getD ⟨#[]⟩,((EM intra i:Nat):Int))
def FO (intra:Bool)(q:List UInt8)(i:Nat):List (ByteArray×Int):=((List.range i).map (JN intra)).filter fun x=>q.isPrefixOf (AC x)
theorem uF {intra:Bool}{q:List UInt8}{i:Nat}(h:q.isPrefixOf (AC (JN intra i))=true):FO intra q (i+1)=FO intra q i++[JN intra i]:=by
 unfold FO;rw[Cv,Cl,List.filter_append];simp[h]
theorem oH {intra:Bool}{q:List UInt8}{i:Nat}(h:q.isPrefixOf (AC (JN intra i))=false):FO intra q (i+1)=FO intra q i:=by
 unfold FO;rw[Cv,Cl,List.filter_append];simp[h]
theorem Sb (intra:Bool)(q:List UInt8)(i:Nat):(FO intra q i).length<=i:=by
 unfold FO;refine Eg (List.length_filter_le _ _) ?_;simp
theorem aC (intra:Bool)(i:Nat)(h:i<16):JN intra i=(EH[i]'(by rw[HI];exact h),((EM intra i:Nat):Int)):=by
 unfold JN;rw[Fj (by rw[HI];exact h)]
 rfl
theorem Y9j:∀i,(h:i<16)->1<(EH[i]'(by rw[HI];exact h)).size/\((EH[i]'(by rw[HI];exact h)).data.toList.head? =some 48\/(EH[i]'(by rw[HI];exact h)).data.toList.head? =some 49):=by decide +kernel
def F0:Obj:=.cells (madeCells (Value.agg #[.string ⟨#[]⟩,.int .i64 0]).cells (16*2)) 286 (0,0)
theorem cN (w:World):(Instr.makeSlice 264 (.int .i64 0) (.int .i64 16)).run prog w=.ok (.slice (some ⟨w.heap.size,0,none⟩) 0 16) (w.alloc F0):=by
 obtain⟨d,hi,a,b,c⟩:=Dv T7;have:=run_make (P:=prog) w 264 286 d _ underlying264 hi a .i64 .i64 0 16 (by omega) (by omega) (by rw[c];omega) (by omega);rw[b] at this;exact this
theorem wH (w:World){base:Nat}(h:base<=w.heap.size):(w.alloc F0).ownsRow base 286 2 (.slice (some ⟨w.heap.size,0,none⟩) 0 16) 0 []:=
 World.ownsRow_made w _ 16 h (by decide) (size_madeCells _ _)
def patV:Value:=.agg (EH.map Value.string).toArray
theorem cR (w:World)(i:Nat)(h:i<16):(Instr.index 226 patV (.int .i64 (i:Int))).run prog w=.ok (.string (EH[i]'(by rw[HI];exact h))) w:=by
 rcases (by omega:i=0\/i=1\/i=2\/i=3\/i=4\/i=5\/i=6\/i=7\/i=8\/i=9\/i=10\/i=11\/i=12\/i=13\/i=14\/i=15) with rfl|rfl|rfl|rfl|rfl|rfl|rfl|rfl|rfl|rfl|rfl|rfl|rfl|rfl|rfl|rfl
 all_goals kernel_rfl
theorem rE (s:ByteArray)(h:0<s.size)(a:UInt8):[a].isPrefixOf s.data.toList=(a==s[0]):=by
 obtain⟨⟨l⟩⟩:=s;cases l with
 |nil=>cases h
 |cons x l=>exact Bool.and_true _
theorem nD (s:ByteArray)(h:0<s.size):s.data.toList.head? =some s[0]:=by
 obtain⟨⟨l⟩⟩:=s;cases l with
 |nil=>cases h
 |cons x l=>rfl
theorem dM {x:UInt8}{c:Nat}(hc:c=0\/c=1)(a:x=48\/x=49):(((x.toNat:Nat):Int)-48)%256=(c:Int)↔UInt8.ofNat (48+c)=x:=by
 rcases hc with rfl|rfl <;> rcases a with rfl|rfl <;> decide
set_option maxRecDepth 100000 in
theorem Y2x (intra:Bool)(c:Nat)(hc:c=0\/c=1)(w:World)(X:JA w):
  Calls prog 239 #[.bool intra,.int .i64 (c:Int)] w fun e F=>∃v,e=.returned v/\F.ownsRow w.heap.size 286 2 v (FO intra [UInt8.ofNat (48+c)] 16).length (DN (FO intra [UInt8.ofNat (48+c)] 16))/\Below w.heap.size w F:=by
 have r:=fun w=>cN w;obtain⟨i0,hi,G,H,I⟩:=Dv T7;have g:Below w.heap.size w (w.alloc F0):=(Dq _ w).alloc (Ba _) _;have a:JA (w.alloc F0):=X.below g;have d:=wH w (Ba w.heap.size);obtain⟨q,J⟩:=Ah ([UInt8.ofNat (48+c)]);have ab:=Dp J;rw[J];clear J X
 have c0:(w.alloc F0).cell? ⟨1,0,none⟩=some (.string ⟨#[48,48,49,49]⟩):=a 0 (by decide);have c1:(w.alloc F0).cell? ⟨1,1,none⟩=some (.string ⟨#[48,48,49,48,49]⟩):=a 1 (by decide);have c2:(w.alloc F0).cell? ⟨1,2,none⟩=some (.string ⟨#[48,48,49,48,48]⟩):=a 2 (by decide);have c3:(w.alloc F0).cell? ⟨1,3,none⟩=some (.string ⟨#[49,48,48,49]⟩):=a 3 (by decide)
 have c4:(w.alloc F0).cell? ⟨1,4,none⟩=some (.string ⟨#[48,48,48,49,49]⟩):=a 4 (by decide);have c5:(w.alloc F0).cell? ⟨1,5,none⟩=some (.string ⟨#[48,49,49,49]⟩):=a 5 (by decide);have c6:(w.alloc F0).cell? ⟨1,6,none⟩=some (.string ⟨#[48,48,48,48,49,48]⟩):=a 6 (by decide);have c7:(w.alloc F0).cell? ⟨1,7,none⟩=some (.string ⟨#[49,48,49,49]⟩):=a 7 (by decide)
 have c8:(w.alloc F0).cell? ⟨1,8,none⟩=some (.string ⟨#[48,48,48,49,48]⟩):=a 8 (by decide);have c9:(w.alloc F0).cell? ⟨1,9,none⟩=some (.string ⟨#[48,48,48,48,49,49]⟩):=a 9 (by decide);have K:(w.alloc F0).cell? ⟨1,10,none⟩=some (.string ⟨#[48,49,48,49]⟩):=a 10 (by decide);have L:(w.alloc F0).cell? ⟨1,11,none⟩=some (.string ⟨#[49,48,49,48]⟩):=a 11 (by decide)
 have M:(w.alloc F0).cell? ⟨1,12,none⟩=some (.string ⟨#[48,49,48,48]⟩):=a 12 (by decide);have N:(w.alloc F0).cell? ⟨1,13,none⟩=some (.string ⟨#[49,48,48,48]⟩):=a 13 (by decide);have O:(w.alloc F0).cell? ⟨1,14,none⟩=some (.string ⟨#[48,49,49,48]⟩):=a 14 (by decide);have P:(w.alloc F0).cell? ⟨1,15,none⟩=some (.string ⟨#[49,49]⟩):=a 15 (by decide)
 have hv:Value.agg #[.string ⟨#[48,48,49,49]⟩,.string ⟨#[48,48,49,48,49]⟩,.string ⟨#[48,48,49,48,48]⟩,.string ⟨#[49,48,48,49]⟩,.string ⟨#[48,48,48,49,49]⟩,.string ⟨#[48,49,49,49]⟩,.string ⟨#[48,48,48,48,49,48]⟩,.string ⟨#[49,48,49,49]⟩,.string ⟨#[48,48,48,49,48]⟩,.string ⟨#[48,48,48,48,49,49]⟩,.string ⟨#[48,49,48,49]⟩,.string ⟨#[49,48,49,48]⟩,.string ⟨#[48,49,48,48]⟩,.string ⟨#[49,48,48,48]⟩,.string ⟨#[48,49,49,48]⟩,.string ⟨#[49,49]⟩]=patV:=rfl
 have Y:=Dp hv;clear a hv
 go_enter func239,ntmps239
 go_wp2
 rw[Y.out];clear Y c0 c1 c2 c3 c4 c5 c6 c7 c8 c9 K L M N O P r;obtain⟨B,Q⟩:=Ah w.heap.size;rw[Q] at d g ⊢;have t:B<=(w.alloc F0).heap.size:=by simp;omega
 generalize w.alloc F0=w0 at d g t ⊢;have z:=Dp (fun(w:World) (i:Nat) (h:i<16)=>cR w i h);generalize patV=pv at z ⊢
 go_loopw [5,10] (fun u v wr=>∃i:Nat,i<=16/\v=.int .i64 i/\wr.ownsRow B 286 2 u (FO intra q i).length (DN (FO intra q i))/\Below B w wr/\B<=wr.heap.size) (fun _ v _=>16-(intOf v).toNat)
 case atStart=>exact⟨0,by omega,rfl,d,g,t⟩
 case round=>
  clear d g t;obtain⟨i,Z,rfl,E,R,hz⟩:=hrel;by_cases j:i<16
  ·have n:=fun w=>z.out w i j;have o:=Y9j i j;have b:=aC intra i j;obtain⟨s,hs⟩:∃s,EH[i]'(by rw[HI];exact j)=s:=⟨_,rfl⟩;rw[hs] at o b;have S:∀w,(Instr.index 226 pv (.int .i64 (i:Int))).run prog w=.ok (.string s) w:=fun w=>(n w).trans (by rw[<-hs]);have p:=fun x=>Zj intra i j x;have aa:=Sb intra q i;obtain⟨m,hm⟩:=Ah (EM intra i)
   rw[hm] at b p;clear n hs hm;obtain⟨A,l⟩:=o;have C:0<s.size:=by omega
   have T:s[0]=48\/s[0]=49:=by
    rw[nD s C] at l;rcases l with h|h
    ·exact .inl (Fm h)
    ·exact .inr (Fm h)
   have hd:=dM hc T;have f:q.isPrefixOf (AC (JN intra i))=(UInt8.ofNat (48+c)==s[0]):=by
    rw[<-ab.out,b];exact rE s C _
   by_cases y:UInt8.ofNat (48+c)=s[0]
   ·have g0:((((s[0].toNat:Nat):Int)-48)%256==(c:Int))=true:=by rw[Bm];exact hd.2 y
    have ac:=Dp (uF (f.trans (by rw[Bm];exact y)));have ad:=Dp b;clear hd f y T l A b
    go_wp2_with (first
     |(go_at_call 202;refine(p _).mono ?_;rintro e F ⟨rfl,rfl⟩)
     |(at_builtin;refine gK (y0:=s) (y1:=(m:Int)) rfl rfl underlying264 hi G rfl H I rfl (E.alloc _) rfl ?d1 ?d2 ?d3 ?d4 ?_;(case d1=>go_cell);(case d2=>go_cell);(case d3=>omega);(case d4=>(simp;omega));intro v2 w2 U k;have D:World.grownBy _ w2 (Value.ownBlock u5):=k;have V:=(R.alloc hz _).grown D (by simp;omega) (NS E);have W:B<=w2.heap.size:=Eg (by simp;omega) D.size;clear k))
    go_roundw
    case rel=>exact⟨i+1,by omega,by go_num,by rw[ac.out,ad.out,B9,yE];exact U,V,W⟩
    case measure=>simp[intOf];omega
   ·have g0:((((s[0].toNat:Nat):Int)-48)%256==(c:Int))=false:=by rw[Fg];exact fun h=>y (hd.1 h)
    have ae:=Dp (oH (f.trans (by rw[Fg];exact y)));clear hd f y T l A b
    go_wp2
    go_roundw
    case rel=>exact⟨i+1,by omega,by go_num,by rw[ae.out];exact E,R,hz⟩
    case measure=>simp[intOf];omega
  ·obtain rfl:i=16:=by omega
   go_wp2
   go_ret
   exact⟨_,rfl,by rw[Q];exact E,by rw[Q];exact R⟩
end Go.Proofs.YtjjmalchelniiaaGreatDoor