/- No condition. -/
import Derived.Test.YtjjmalchelniiaaGreatDoorZpq
import Derived.Test.YtjjmalchelniiaaGreatDoorZpbc
open Go.Proofs.Tryz
set_option maxHeartbeats 4000000
namespace Go.Proofs.YtjjmalchelniiaaGreatDoor
open Go.RowKit Go.Lib
def IM (intra:Bool)(i:Nat):ByteArray×Int:=(EM[i]?.getD ⟨#[]⟩,((EX intra i:Nat):Int))
def FO (intra:Bool)(q:List UInt8)(i:Nat):List (ByteArray×Int):=((List.range i).map (IM intra)).filter fun x=>q.isPrefixOf (rowC x)
theorem Qiu {intra:Bool}{q:List UInt8}{i:Nat}(h:q.isPrefixOf (rowC (IM intra i))=true):FO intra q (i+1)=FO intra q i++[IM intra i]:=by
 unfold FO;rw[Ck,Cc,List.filter_append];simp[h]
theorem Qm5 {intra:Bool}{q:List UInt8}{i:Nat}(h:q.isPrefixOf (rowC (IM intra i))=false):FO intra q (i+1)=FO intra q i:=by
 unfold FO;rw[Ck,Cc,List.filter_append];simp[h]
theorem Vl (intra:Bool)(q:List UInt8)(i:Nat):(FO intra q i).length<=i:=by
 unfold FO;refine Ef (List.length_filter_le _ _) ?_;simp
theorem Sj (intra:Bool)(i:Nat)(h:i<16):IM intra i=(EM[i]' vK,((EX intra i:Nat):Int)):=by
 unfold IM;rw[Fh vK]
 rfl
theorem Qbs:∀i,(h:i<16)->1<(EM[i]' vK).size/\((EM[i]' vK).data.toList.head? =some 48\/(EM[i]' vK).data.toList.head? =some 49):=uB
def EZ:Obj:=.cells (madeCells (Value.agg #[.string ⟨#[]⟩,.int .i64 0]).cells (16*2)) 286 (0,0)
theorem kB (w:World):(Instr.makeSlice 264 (.int .i64 0) (.int .i64 16)).run prog w=.ok (.slice (some ⟨w.heap.size,0,none⟩) 0 16) (w.alloc EZ):=by
 obtain⟨d,hi,a,b,c⟩:=Ds UB;have:=run_make (P:=prog) w 264 286 d _ underlying264 hi a .i64 .i64 0 16 sX sX tZ sX;rw[b] at this;exact this
theorem jJ (w:World){base:Nat}(h:base<=w.heap.size):(w.alloc EZ).ownsRow base 286 2 (.slice (some ⟨w.heap.size,0,none⟩) 0 16) 0 []:=
 World.ownsRow_made w _ 16 h sY (size_madeCells _ _)
def patV:Value:=.agg (EM.map Value.string).toArray
theorem Qpb (w:World)(i:Nat)(h:i<16):(Instr.index 226 patV (.int .i64 (i:Int))).run prog w=.ok (.string (EM[i]' vK)) w:=by
 rcases (by omega:i=0\/i=1\/i=2\/i=3\/i=4\/i=5\/i=6\/i=7\/i=8\/i=9\/i=10\/i=11\/i=12\/i=13\/i=14\/i=15) with rfl|rfl|rfl|rfl|rfl|rfl|rfl|rfl|rfl|rfl|rfl|rfl|rfl|rfl|rfl|rfl
 all_goals kernel_rfl
theorem oR (s:ByteArray)(h:0<s.size)(a:UInt8):[a].isPrefixOf s.data.toList=(a==s[0]):=by
 obtain⟨⟨l⟩⟩:=s;cases l with
 |nil=>cases h
 |cons x l=>exact Bool.and_true _
theorem Qk2 (s:ByteArray)(h:0<s.size):s.data.toList.head? =some s[0]:=by
 obtain⟨⟨l⟩⟩:=s;cases l with
 |nil=>cases h
 |cons x l=>rfl
theorem jX {x:UInt8}{c:Nat}(hc:c=0\/c=1)(a:x=48\/x=49):(((x.toNat:Nat):Int)-48)%256=(c:Int)↔UInt8.ofNat (48+c)=x:=by
 rcases hc with rfl|rfl <;> rcases a with rfl|rfl <;> decide
set_option maxRecDepth 100000 in
theorem rE (intra:Bool)(c:Nat)(hc:c=0\/c=1)(w:World)(W:JN w):
  Calls prog 239 #[.bool intra,.int .i64 (c:Int)] w fun e E=>∃v,e=.returned v/\E.ownsRow w.heap.size 286 2 v (FO intra [UInt8.ofNat (48+c)] 16).length (DQ (FO intra [UInt8.ofNat (48+c)] 16))/\Below w.heap.size w E:=by
 have r:=fun w=>kB w;obtain⟨i0,hi,F,G,H⟩:=Ds UB;have g:Below w.heap.size w (w.alloc EZ):=(Dn _ w).alloc (B9 _) _;have a:JN (w.alloc EZ):=W.below g;have d:=jJ w (B9 w.heap.size);obtain⟨q,I⟩:=Ah ([UInt8.ofNat (48+c)]);have ab:=Dm I;rw[I];clear I W;have c0:(w.alloc EZ).cell? ⟨1,0,none⟩=some (.string ⟨#[48,48,49,49]⟩):=a 0 sY;have c1:(w.alloc EZ).cell? ⟨1,1,none⟩=some (.string ⟨#[48,48,49,48,49]⟩):=a 1 sY;have c2:(w.alloc EZ).cell? ⟨1,2,none⟩=some (.string ⟨#[48,48,49,48,48]⟩):=a 2 sY;have c3:(w.alloc EZ).cell? ⟨1,3,none⟩=some (.string ⟨#[49,48,48,49]⟩):=a 3 sY;have c4:(w.alloc EZ).cell? ⟨1,4,none⟩=some (.string ⟨#[48,48,48,49,49]⟩):=a 4 sY;have c5:(w.alloc EZ).cell? ⟨1,5,none⟩=some (.string ⟨#[48,49,49,49]⟩):=a 5 sY;have c6:(w.alloc EZ).cell? ⟨1,6,none⟩=some (.string ⟨#[48,48,48,48,49,48]⟩):=a 6 sY;have c7:(w.alloc EZ).cell? ⟨1,7,none⟩=some (.string ⟨#[49,48,49,49]⟩):=a 7 sY;have c8:(w.alloc EZ).cell? ⟨1,8,none⟩=some (.string ⟨#[48,48,48,49,48]⟩):=a 8 sY;have c9:(w.alloc EZ).cell? ⟨1,9,none⟩=some (.string ⟨#[48,48,48,48,49,49]⟩):=a 9 sY;have J:(w.alloc EZ).cell? ⟨1,10,none⟩=some (.string ⟨#[48,49,48,49]⟩):=a 10 sY;have K:(w.alloc EZ).cell? ⟨1,11,none⟩=some (.string ⟨#[49,48,49,48]⟩):=a 11 sY;have L:(w.alloc EZ).cell? ⟨1,12,none⟩=some (.string ⟨#[48,49,48,48]⟩):=a 12 sY;have M:(w.alloc EZ).cell? ⟨1,13,none⟩=some (.string ⟨#[49,48,48,48]⟩):=a 13 sY;have N:(w.alloc EZ).cell? ⟨1,14,none⟩=some (.string ⟨#[48,49,49,48]⟩):=a 14 sY;have O:(w.alloc EZ).cell? ⟨1,15,none⟩=some (.string ⟨#[49,49]⟩):=a 15 sY;have hv:Value.agg #[.string ⟨#[48,48,49,49]⟩,.string ⟨#[48,48,49,48,49]⟩,.string ⟨#[48,48,49,48,48]⟩,.string ⟨#[49,48,48,49]⟩,.string ⟨#[48,48,48,49,49]⟩,.string ⟨#[48,49,49,49]⟩,.string ⟨#[48,48,48,48,49,48]⟩,.string ⟨#[49,48,49,49]⟩,.string ⟨#[48,48,48,49,48]⟩,.string ⟨#[48,48,48,48,49,49]⟩,.string ⟨#[48,49,48,49]⟩,.string ⟨#[49,48,49,48]⟩,.string ⟨#[48,49,48,48]⟩,.string ⟨#[49,48,48,48]⟩,.string ⟨#[48,49,49,48]⟩,.string ⟨#[49,49]⟩]=patV:=rfl;have X:=Dm hv;clear a hv
 go_enter func239,ntmps239
 go_wp2
 rw[X.out];clear X c0 c1 c2 c3 c4 c5 c6 c7 c8 c9 J K L M N O r;obtain⟨B,P⟩:=Ah w.heap.size;rw[P] at d g ⊢;have t:B<=(w.alloc EZ).heap.size:=tO;generalize w.alloc EZ=w0 at d g t ⊢;have z:=Dm (fun(w:World) (i:Nat) (h:i<16)=>Qpb w i h);generalize patV=pv at z ⊢
 go_loopw [5,10] (fun u v wr=>∃i:Nat,i<=16/\v=.int .i64 i/\wr.ownsRow B 286 2 u (FO intra q i).length (DQ (FO intra q i))/\Below B w wr/\B<=wr.heap.size) (fun _ v _=>16-(intOf v).toNat)
 case atStart=>exact⟨0,sX,rfl,d,g,t⟩
 case round=>
  clear d g t;obtain⟨i,Y,rfl,D,Q,Z⟩:=hrel;by_cases j:i<16
  ·have n:=fun w=>z.out w i j;have o:=Qbs i j;have b:=Sj intra i j;obtain⟨s,hs⟩:∃s,EM[i]'(by rw[HK];exact j)=s:=⟨_,rfl⟩;rw[hs] at o b;have R:∀w,(Instr.index 226 pv (.int .i64 (i:Int))).run prog w=.ok (.string s) w:=fun w=>(n w).trans (by rw[<-hs]);have p:=fun x=>Yd intra i j x;have aa:=Vl intra q i;obtain⟨m,hm⟩:=Ah (EX intra i);rw[hm] at b p;clear n hs hm;obtain⟨A,l⟩:=o;have C:0<s.size:=sX;have S:s[0]=48\/s[0]=49:=by
    rw[Qk2 s C] at l;rcases l with h|h
    ·exact .inl (Fk h)
    ·exact .inr (Fk h)
   have hd:=jX hc S;have f:q.isPrefixOf (rowC (IM intra i))=(UInt8.ofNat (48+c)==s[0]):=by
    rw[<-ab.out,b];exact oR s C _
   by_cases y:UInt8.ofNat (48+c)=s[0]
   ·have g0:((((s[0].toNat:Nat):Int)-48)%256==(c:Int))=true:=by rw[Bj];exact hd.2 y
    have ac:=Dm (Qiu (f.trans (by rw[Bj];exact y)));have ad:=Dm b;clear hd f y S l A b
    go_wp2_with (first
     |(go_at_call 202;refine(p _).mono ?_;rintro e E ⟨rfl,rfl⟩)
     |(at_builtin;refine iG (y0:=s) (y1:=(m:Int)) rfl rfl underlying264 hi F rfl G H rfl (D.alloc _) rfl ?d1 ?d2 ?d3 ?d4 ?_;(case d1=>go_cell);(case d2=>go_cell);(case d3=>omega);(case d4=>(simp;omega));intro v2 w2 T k;have hg4:World.grownBy _ w2 (Value.ownBlock u5):=k;have U:=(Q.alloc Z _).grown hg4 tO (FT D);have V:B<=w2.heap.size:=Ef tO hg4.size;clear k))
    go_roundw
    case rel=>exact⟨i+1,sX,tP,by rw[ac.out,ad.out,B8,iX];exact T,U,V⟩
    case measure=>simp[intOf];omega
   ·have g0:((((s[0].toNat:Nat):Int)-48)%256==(c:Int))=false:=by rw[Fe];exact fun h=>y (hd.1 h)
    have ae:=Dm (Qm5 (f.trans (by rw[Fe];exact y)));clear hd f y S l A b
    go_wp2
    go_roundw
    case rel=>exact⟨i+1,sX,tP,by rw[ae.out];exact D,Q,Z⟩
    case measure=>simp[intOf];omega
  ·obtain rfl:i=16:=sX
   go_wp2
   go_ret
   exact⟨_,rfl,by rw[P];exact D,by rw[P];exact Q⟩
end Go.Proofs.YtjjmalchelniiaaGreatDoor