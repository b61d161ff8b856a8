/- No condition. -/
import Derived.Test.YtnamlooifcpoaaaGreatDoorScreensStillMa
import Derived.Test.YtnamlooifcpoaaaGreatDoorScreensStillMf
import Derived.Test.YtnamlooifcpoaaaGreatDoorScreensStillMg
import Derived.Test.YtnamlooifcpoaaaGreatDoorScreensStillMh
import Derived.Test.YtnamlooifcpoaaaGreatDoorScreensStillMo
import Derived.Test.YtnamlooifcpoaaaGreatDoorScreensStillMt
import Derived.WalkMore
import Derived.Laws.IdiomCopy
import Derived.Laws.BytesArg
import Derived.Laws.World
import Derived.Laws.Slices
namespace Go.Proofs.YtnamlooifcpoaaaGreatDoor
open Go.RowKit Go.Lib
def Yx5 (f:Nat→Int)(q:Int)(intra:Bool)(dc:Int)(i:Nat):Int:=if i=0∧intra=true then dcV dc else Yu4 (f i) q
def Ypf (f:Nat→Int)(q:Int):Nat→(Nat→Int)
 |0=>fun _=>0
 |k+1=>Ycw (Ypf f q k) k (Yu4 (f k) q)
theorem Yn9 (f:Nat→Int)(q:Int):∀k p,Ypf f q k p=if p<k then Yu4 (f p) q else 0
 |0,p=>rfl
 |k+1,p=>by
  unfold Ypf Ycw;by_cases e:p=k
  ·subst e;rw[if_pos rfl,if_pos (by omega)]
  ·rw[if_neg e,Yn9 f q k p];by_cases hlt:p<k
   ·rw[if_pos hlt,if_pos (by omega)]
   ·rw[if_neg hlt,if_neg (by omega)]
theorem Yre (f:Nat→Int)(q dc:Int):∀p,p<64→Ypf f q 64 p=Yx5 f q false dc p:=by
 intro p hp;rw[Yn9,if_pos hp];unfold Yx5;rw[if_neg (by simp)]
theorem Yrd (f:Nat→Int)(q dc:Int):∀p,p<64→Ycw (Ypf f q 64) 0 (dcV dc) p=Yx5 f q true dc p:=by
 intro p hp;unfold Ycw Yx5;by_cases e:p=0
 ·rw[if_pos e,if_pos ⟨e,rfl⟩]
 ·rw[if_neg e,if_neg (by simp[e]),Yn9,if_pos hp]
set_option maxRecDepth 100000 in
set_option maxHeartbeats 2000000 in
theorem Yvn (f:Nat→Int)(q:Int)(intra:Bool)(dc:Int)(w:World):Calls Tryz.prog 126 #[.agg (Ya7 f),.int .i64 q,.bool intra,.int .i64 dc] w (Ybg (Yx5 f q intra dc) w):=by
 obtain⟨B,hB⟩:∃B,w.heap.size=B:=⟨_,rfl⟩;obtain⟨X,hX⟩:∃X,Ya7 f=X:=⟨_,rfl⟩;obtain⟨Y,hY⟩:∃Y,Ya7 (fun _=>0)=Y:=⟨_,rfl⟩;have hidx:=fun(w:World) (i:Nat) (h:i<64)=>Yha f h w;have hz0:∀w,(zeroValue 60).run Tryz.prog w=.ok (.agg Y) w:=by rw[←hY];exact Yb5
 have HSY:Y.size=64:=by rw[←hY];exact Yam _
 have HSX:(Tryz.prog.info? 60).map (·.size)=some X.size:=by rw[←hX];exact Yau _
 obtain⟨wA,hwA⟩:∃wA,w.alloc (.cells X 60 (0,0))=wA:=⟨_,rfl⟩;obtain⟨wB,hwB⟩:∃wB,wA.alloc (.cells Y 60 (0,0))=wB:=⟨_,rfl⟩;obtain⟨wC,hwC⟩:∃wC,wB.alloc (.cells Y 60 (0,0))=wC:=⟨_,rfl⟩;have hzA:wA.heap.size=B+1:=by rw[←hwA,←hB];simp
 have hzB:wB.heap.size=B+2:=by rw[←hwB];simp;omega
 have hzC:wC.heap.size=B+3:=by rw[←hwC];simp;omega
 have hA0:wA.heap[B]? =some (.cells X 60 (0,0)):=by rw[←hwA,←hB];exact heap_alloc_new w _
 have hB0:wB.heap[B]? =some (.cells X 60 (0,0)):=by rw[←hwB];exact Yaq hA0
 have hB1:wB.heap[B+1]? =some (.cells Y 60 (0,0)):=by rw[←hwB,←hzA];exact heap_alloc_new wA _
 have hC0:wC.heap[B]? =some (.cells X 60 (0,0)):=by rw[←hwC];exact Yaq hB0
 have hC1:wC.heap[B+1]? =some (.cells Y 60 (0,0)):=by rw[←hwC];exact Yaq hB1
 have hC2:wC.heap[B+2]? =some (Yf5 (Ypf f q 0)):=by
  rw[←hwC,←hzB];refine(heap_alloc_new wB _).trans ?_;rw[←hY]
  rfl
 have hbC:Below B w wC:=by
  rw[←hwC,←hwB,←hwA,←hB];exact(((Below.refl _ w).alloc (Nat.le_refl _) _).alloc (by simp) _).alloc (by simp;omega) _
 rw[hX];rw[hX] at hidx;have HIX:=Lib.hid hidx;have HY:=Lib.hid hY;have HWA:=Lib.hid hwA;have HWB:=Lib.hid hwB;have HWC:=Lib.hid hwC;have HB:=Lib.hid hB;clear hX hY hidx hA0 hB0 hB1 hwA hwB hwC hB
 go_enter Tryz.func126,Tryz.ntmps126
 go_wp2_with (rw[HWA.out,HB.out,HWB.out,HWC.out];with_reducible refine wpList_load_row rfl 60 _ rfl B rfl 60 X (0,0) _ hC0 Tryz.underlying60 rfl HSX ?_)
 go_loopw [13] (fun z wr=>∃i:Nat,i≤64∧z=.int .i64 i∧wr.heap[B+1]? =some (.cells Y 60 (0,0))∧wr.heap[B+2]? =some (Yf5 (Ypf f q i))∧Below B w wr∧B+3≤wr.heap.size) (fun z _=>64-(intOf z).toNat)
 case atStart=>exact⟨0,by omega,rfl,hC1,hC2,hbC,by omega⟩
 case round=>
  clear hC0 hC1 hC2 hbC hzA hzB hzC;obtain⟨i,hi64,rfl,h1,h2,hb,hz⟩:=hrel;by_cases hlt:i<64
  ·have hix:=fun w=>HIX.out w i hlt;have t0:decide ((i:Int)<64)=true:=by simp;omega
   have S:=Lib.hid (show Ypf f q (i+1)=Ycw (Ypf f q i) i (Yu4 (f i) q) from rfl);have cv:=fun w=>Yxr (f i) q w;generalize Yu4 (f i) q=y at cv S;generalize f i=x at cv hix;have c2:=Yd2 h2 hlt;have ff:=Yfp (i:=i) h2;generalize Ypf f q i i=y2 at c2
   have PUT:=Lib.hid (⟨Yba h1 (by simp),by rw[S.out];exact Yhb y h2,hb.setCell (by simp) _,by simp[World.setCell];omega⟩:(wr.setCell ⟨B+2,i,none⟩ (.int .i64 y)).heap[B+1]? =some (.cells Y 60 (0,0))∧(wr.setCell ⟨B+2,i,none⟩ (.int .i64 y)).heap[B+2]? =some (Yf5 (Ypf f q (i+1)))∧Below B w (wr.setCell ⟨B+2,i,none⟩ (.int .i64 y))∧B+3≤(wr.setCell ⟨B+2,i,none⟩ (.int .i64 y)).heap.size);clear h1 h2 hb
   go_wp2_with (with_reducible refine(cv _).mono ?_;rintro e w1 ⟨rfl,rfl⟩)
   go_roundw
   case rel=>exact⟨i+1,by omega,by go_num,PUT.out⟩
   case measure=>simp[intOf] <;> omega
  ·obtain rfl:i=64:=by omega
   have t0:decide ((64:Int)<64)=false:=by simp
   cases intra with
   |false=>
    obtain⟨V,hV⟩:∃V,Ya7 (Ypf f q 64)=V:=⟨_,rfl⟩;have HV:=Lib.hid hV;have h2':wr.heap[B+2]? =some (.cells V 60 (0,0)):=by rw[←hV];exact h2
    have HSV:(Tryz.prog.info? 60).map (·.size)=some V.size:=by rw[←hV];exact Yau _
    have HOV:V.all (·.oneCell')=true:=by rw[←hV];exact Ybd _
    have HYV:Y.size=V.size:=by rw[←hV,HSY,Yam]
    clear hV h2
    go_wp2_with (first|(with_reducible refine wpList_load_row rfl 60 _ rfl (B+2) rfl 60 V (0,0) _ h2' Tryz.underlying60 rfl HSV ?_)|(with_reducible refine Yad rfl 60 _ _ rfl (B+1) V Y rfl rfl 60 h1 HSV HYV HOV ?_;intro w2 hh2 hg2))
    refine bodyPost_ret (results_cell_row rfl _ _ (B+1) 60 _ (0,0) _ rfl hh2 Tryz.underlying60 rfl HSV) rfl ?_;exact Yiu (Yre f q dc) HV.out (by rw[HB.out];exact hb.grown hg2 (by omega) (fun k hk=>by injection hk with hk;omega))
   |true=>
    have cd:=fun w=>Yyo dc w;obtain⟨V,hV⟩:∃V,Ya7 (Ycw (Ypf f q 64) 0 (dcV dc))=V:=⟨_,rfl⟩;have HV:=Lib.hid hV;have HSV:(Tryz.prog.info? 60).map (·.size)=some V.size:=by rw[←hV];exact Yau _
    have HOV:V.all (·.oneCell')=true:=by rw[←hV];exact Ybd _
    have HYV:Y.size=V.size:=by rw[←hV,HSY,Yam]
    have c2:=Yd2 h2 (show 0<64 by omega);have ff:=Yfp (i:=0) h2;generalize dcV dc=y at cd hV;have PUT:=Lib.hid (⟨Yba h1 (by simp),by rw[←hV];exact Yhb y h2,hb.setCell (by simp) _⟩:(wr.setCell ⟨B+2,0,none⟩ (.int .i64 y)).heap[B+1]? =some (.cells Y 60 (0,0))∧(wr.setCell ⟨B+2,0,none⟩ (.int .i64 y)).heap[B+2]? =some (.cells V 60 (0,0))∧Below B w (wr.setCell ⟨B+2,0,none⟩ (.int .i64 y)))
    generalize Ypf f q 64 0=y2 at c2;obtain⟨wD,hwD⟩:∃wD,wr.setCell ⟨B+2,0,none⟩ (.int .i64 y)=wD:=⟨_,rfl⟩;have hzD:wD.heap.size=wr.heap.size:=by rw[←hwD];simp[World.setCell]
    rw[hwD] at PUT;obtain⟨k1,k2,k3⟩:=PUT.out;have HWD:=Lib.hid hwD;clear hV h2 h1 hwD PUT
    go_wp2_with (first|(with_reducible refine(cd _).mono ?_;rintro e w1 ⟨rfl,rfl⟩)|(rw[HWD.out];with_reducible refine wpList_load_row rfl 60 _ rfl (B+2) rfl 60 V (0,0) _ k2 Tryz.underlying60 rfl HSV ?_)|(with_reducible refine Yad rfl 60 _ _ rfl (B+1) V Y rfl rfl 60 k1 HSV HYV HOV ?_;intro w2 hh2 hg2))
    refine bodyPost_ret (results_cell_row rfl _ _ (B+1) 60 _ (0,0) _ rfl hh2 Tryz.underlying60 rfl HSV) rfl ?_;exact Yiu (Yrd f q dc) HV.out (by rw[HB.out];exact k3.grown hg2 (by omega) (fun k hk=>by injection hk with hk;omega))
end Go.Proofs.YtnamlooifcpoaaaGreatDoor
namespace Go.Proofs.YtnamlooifcpoaaaGreatDoor
open Go.RowKit Go.Lib Go.ChangeShapes Go.WideShapes Go.ChangeAt
def frL (k:Int)(v:Nat→Value):List Value:=[.int .i64 k,v 0,v 1,v 2]
def frA (k:Int)(v:Nat→Value):Array Value:=(frL k v).toArray
def frO (T:TypeId)(k:Int)(v:Nat→Value):Obj:=.cells (frA k v) T (0,0)
def Ycc:Nat→Value:=fun _=>.slice none 0 0
def Yx3 (v:Nat→Value)(p:Nat)(x:Value):Nat→Value:=fun q=>if q=p then x else v q
section
variable {w:World}{B:Nat}{T:TypeId}{k:Int}{v:Nat→Value}
theorem Ybj (h:w.heap[B]? =some (frO T k v)):w.cell? ⟨B,0,none⟩=some (.int .i64 k):=Yac (cs:=frL k v) h rfl
theorem Yco (h:w.heap[B]? =some (frO T k v)){p:Nat}(hp:p<3):w.cell? ⟨B,1+p,none⟩=some (v p):=by
 refine Yac (cs:=frL k v) h ?_
 match p,hp with
 |0,_=>rfl
 |1,_=>rfl
 |2,_=>rfl
theorem Ysr (h:w.heap[B]? =some (frO T k v))(o:Nat):w.frozen? ⟨B,o,none⟩=false:=Ya9 (cs:=frL k v) h
theorem Yxz (h:w.heap[B]? =some (frO T k v)){p:Nat}(hp:p<3)(x:Value):(w.setCell ⟨B,1+p,none⟩ x).heap[B]? =some (frO T k (Yx3 v p x)):=by
 have e:=Ycq (cs:=frL k v) (o:=1+p) x h;rw[e]
 match p,hp with
 |0,_=>rfl
 |1,_=>rfl
 |2,_=>rfl
end
theorem Yzh (v:Nat→Value)(p:Nat)(x:Value):Yx3 v p x p=x:=by unfold Yx3;rw[if_pos rfl]
theorem Yjn (v:Nat→Value){p q:Nat}(x:Value)(h:q≠p):Yx3 v p x q=v q:=by unfold Yx3;rw[if_neg h]
theorem Ya0 {T:TypeId}(h:(Tryz.prog.info? T).map (·.size)=some 4)(k:Int)(v:Nat→Value):(Tryz.prog.info? T).map (·.size)=some (frA k v).size:=h
theorem Ycv (k:Int)(v:Nat→Value)(h:∀p,p<3→(v p).oneCell'=true):(frA k v).all (·.oneCell')=true:=by
 rw[Array.all_eq_true_iff_forall_mem];intro x hx;simp only[frA,frL,List.mem_toArray,List.mem_cons,List.not_mem_nil,or_false] at hx;rcases hx with rfl|rfl|rfl|rfl
 ·rfl
 ·exact h 0 (by omega)
 ·exact h 1 (by omega)
 ·exact h 2 (by omega)
theorem Yr7:∃i,Tryz.prog.info? 22=some i:=by
 cases h:Tryz.prog.info? 22 with
 |some i=>exact⟨i,rfl⟩
 |none=>
  have h2:(Tryz.prog.info? 22).isSome=true:=by kernel_rfl
  rw[h] at h2;cases h2
theorem Ypq:Tryz.prog.cellsOf 22=1:=by kernel_rfl
theorem Ygz (v:Nat→Value){p:Nat}(hp:p<3)(w:World):(Instr.index 23 (.agg #[v 0,v 1,v 2]) (.int .i64 (p:Int))).run Tryz.prog w=.ok (v p) w:=by
 obtain⟨j,hj⟩:=Yr7;have h1:(0:Int)≤(p:Int)∧(p:Int)<((3:Nat):Int):=by omega
 have hx:#[v 0,v 1,v 2][p]? =some (v p):=by
  match p,hp with
  |0,_=>rfl
  |1,_=>rfl
  |2,_=>rfl
 simp only[Instr.index,asIntOf,Sem.run_bind,Sem.run_pure,Result.andThen_ok,run_underlying Tryz.underlying23,if_pos h1,run_sizeOf w hj,Ypq,Nat.mul_one,Int.toNat_natCast];simp[part,isAgg,run_underlying Tryz.underlying22,hx]
def Yiq (w:World)(v:Value)(n:Nat)(f:Nat→Int):Prop:=∃p c,v=.slice p n c∧n≤c∧(n=0∨∃b o,p=some ⟨b,o,none⟩∧∀i,i<n→w.cell? ⟨b,o+i,none⟩=some (.int .u8 (f i))∧0≤f i∧f i≤255)
theorem Yiq.one {w:World}{v:Value}{n:Nat}{f:Nat→Int}(h:Yiq w v n f):v.oneCell'=true:=by
 obtain⟨p,c,rfl,_⟩:=h
 rfl
theorem Yiq.below {w w':World}{v:Value}{n:Nat}{f:Nat→Int}(h:Yiq w v n f)(hb:Below w.heap.size w w'):Yiq w' v n f:=by
 obtain⟨p,c,rfl,hc,h⟩:=h;refine⟨p,c,rfl,hc,?_⟩;rcases h with h|⟨b,o,rfl,h⟩
 ·exact .inl h
 ·refine .inr ⟨b,o,rfl,fun i hi=>?_⟩;obtain⟨h1,h2⟩:=h i hi;exact⟨(hb.cell (p:=⟨b,o+i,none⟩) (World.block_lt_of_cell? w ⟨b,o+i,none⟩ h1)).trans h1,h2⟩
theorem Yiq.nil (w:World)(f:Nat→Int):Yiq w (.slice none 0 0) 0 f:=⟨none,0,rfl,Nat.le_refl _,.inl rfl⟩
theorem Yiq.range {w:World}{v:Value}{n:Nat}{f:Nat→Int}(h:Yiq w v n f):∀i,i<n→0≤f i∧f i≤255:=by
 obtain⟨p,c,rfl,hc,h⟩:=h;rcases h with h|⟨b,o,rfl,h⟩
 ·intro i hi;omega
 ·intro i hi;exact(h i hi).2
def Ygh (w:World)(v:Nat→Value)(n:Nat→Nat)(f:Nat→Nat→Int):Prop:=∀p,p<3→Yiq w (v p) (n p) (f p)
theorem Ygh.below {w w':World}{v:Nat→Value}{n:Nat→Nat}{f:Nat→Nat→Int}(h:Ygh w v n f)(hb:Below w.heap.size w w'):Ygh w' v n f:=fun p hp=>(h p hp).below hb
theorem Ygh.nil (w:World):Ygh w Ycc (fun _=>0) (fun _ _=>0):=fun _ _=>Yiq.nil w _
def byL (n:Nat)(f:Nat→Int):List Int:=(List.range n).map f
theorem Yj7 (n:Nat)(f:Nat→Int):(byL n f).length=n:=by simp[byL]
theorem Yz3 {n:Nat}(f:Nat→Int){i:Nat}(h:i<n):(byL n f).getD i 0=f i:=by simp[byL,h]
def Yvr (n:Nat)(f:Nat→Int):ByteArray:=strOfNums (byL n f)
theorem Yiq.text {w:World}{v:Value}{n:Nat}{f:Nat→Int}(h:Yiq w v n f):(convert 22 9 v).run Tryz.prog w=.ok (.string (Yvr n f)) w:=by
 obtain⟨p,c,rfl,hc,h⟩:=h;by_cases h0:n=0
 ·subst h0;rw[run_convert_bytes_string w 22 9 5 p 0 c Tryz.underlying22 Tryz.underlying5 Tryz.underlying9];cases p <;> simp[Conv.bytesToString,loadCells]
  all_goals rfl
 ·rcases h with h|⟨b,o,rfl,h⟩
  ·exact absurd h h0
  ·exact run_convert_bytes_arg w 22 5 Tryz.underlying22 Tryz.underlying5 b o n c (byL n f) (Yj7 n f) (fun i hi=>by rw[Yz3 f hi];exact(h i hi).1) 9 Tryz.underlying9
def Yea (n:Nat)(f:Nat→Int)(m:Nat)(g:Nat→Int):Bool:=decide (n=m)&&(List.range n).all fun i=>f i==g i
theorem Yfx {n m:Nat}{f g:Nat→Int}:Yea n f m g=true↔n=m∧∀i,i<n→f i=g i:=by simp[Yea]
theorem Yr4 {n m:Nat}{f g:Nat→Int}(hf:∀i,i<n→0≤f i∧f i≤255)(hg:∀i,i<m→0≤g i∧g i≤255):Yvr n f=Yvr m g↔Yea n f m g=true:=by
 rw[Yfx];constructor
 ·intro h;have e:(Yvr n f).data.toList=(Yvr m g).data.toList:=by rw[h]
  unfold Yvr at e;rw[strOfNums_data,strOfNums_data] at e;have hl:n=m:=by simpa [byL] using congrArg List.length e
  subst hl;refine⟨rfl,fun i hi=>?_⟩;have e2:=congrArg (fun l=>l[i]?) e;simp only[byL,List.map_map,List.getElem?_map,List.getElem?_range hi,Option.map_some,Option.some.injEq,Function.comp] at e2;have e3:=congrArg UInt8.toNat e2;have h1:=hf i hi;have h2:=hg i hi;rw[UInt8.toNat_ofNat',UInt8.toNat_ofNat',Nat.mod_eq_of_lt (by omega),Nat.mod_eq_of_lt (by omega)] at e3;omega
 ·rintro⟨rfl,h⟩;unfold Yvr byL;rw[List.map_congr_left fun i hi=>h i (List.mem_range.1 hi)]
def Ygd (k:Int)(n:Nat→Nat)(f:Nat→Nat→Int)(k':Int)(n':Nat→Nat)(f':Nat→Nat→Int):Bool:=
 decide (k=k')&&(Yea (n 0) (f 0) (n' 0) (f' 0)&&(Yea (n 1) (f 1) (n' 1) (f' 1)&&Yea (n 2) (f 2) (n' 2) (f' 2)))
theorem Ydx {k k':Int}{n n':Nat→Nat}{f f':Nat→Nat→Int}:Ygd k n f k' n' f'=true↔k=k'∧∀p,p<3→Yea (n p) (f p) (n' p) (f' p)=true:=by
 unfold Ygd;simp only[Bool.and_eq_true,decide_eq_true_iff];constructor
 ·rintro⟨rfl,h0,h1,h2⟩;refine⟨rfl,fun p hp=>?_⟩
  match p,hp with
  |0,_=>exact h0
  |1,_=>exact h1
  |2,_=>exact h2
 ·rintro⟨rfl,h⟩;exact⟨rfl,h 0 (by omega),h 1 (by omega),h 2 (by omega)⟩
theorem Yn3 {k:Int}{n n':Nat→Nat}{f f':Nat→Nat→Int}(hn:∀p,p<3→n p=n' p)(h:∀p,p<3→∀j,j<n p→f p j=f' p j):Ygd k n f k n' f'=true:=
 Ydx.2 ⟨rfl,fun p hp=>Yfx.2 ⟨hn p hp,h p hp⟩⟩
def Yc7 (w:World)(v:Value)(g n:Nat)(f:Nat→Int):Prop:=∃c,v=.slice (some ⟨g,0,none⟩) n c∧n≤c∧∀i,i<n→w.cell? ⟨g,i,none⟩=some (.int .u8 (f i))∧w.frozen? ⟨g,i,none⟩=false∧0≤f i∧f i≤255
section
variable {w w':World}{v:Value}{g n:Nat}{f:Nat→Int}
theorem Yc7.at (h:Yc7 w v g n f):Yiq w v n f:=by
 obtain⟨c,rfl,hc,h⟩:=h;exact⟨_,c,rfl,hc,.inr ⟨g,0,rfl,fun i hi=>⟨by rw[Nat.zero_add];exact(h i hi).1,(h i hi).2.2⟩⟩⟩
theorem Yc7.one (h:Yc7 w v g n f):v.oneCell'=true:=h.at.one
theorem Yc7.lt (h:Yc7 w v g n f)(hn:0<n):g<w.heap.size:=by
 obtain⟨c,rfl,hc,h⟩:=h;exact World.block_lt_of_cell? w ⟨g,0,none⟩ (h 0 hn).1
theorem Yc7.keep (h:Yc7 w v g n f)(hk:w'.heap[g]? =w.heap[g]?):Yc7 w' v g n f:=by
 obtain⟨c,rfl,hc,h⟩:=h;refine⟨c,rfl,hc,fun i hi=>?_⟩;obtain⟨h1,h2,h3⟩:=h i hi;exact⟨(World.cell?_of_block (a:=⟨g,i,none⟩) hk).trans h1,(World.frozen?_of_block (a:=⟨g,i,none⟩) hk).trans h2,h3⟩
theorem Yc7.congr (h:Yc7 w v g n f){f':Nat→Int}(hf:∀i,i<n→f i=f' i):Yc7 w v g n f':=by
 obtain⟨c,rfl,hc,h⟩:=h;refine⟨c,rfl,hc,fun i hi=>?_⟩;rw[←hf i hi];exact h i hi
theorem Yc7.sets (h:Yc7 w v g n f)(o m:Nat)(r:Nat→Int)(hr:∀i,i<m→0≤r i∧r i≤255)(hi:o+m≤n):Yc7 (w.setCells g o ((byL m r).map (Value.int .u8))) v g n (fun j=>if o≤j∧j<o+m then r (j-o) else f j):=by
 obtain⟨c,rfl,hc,h⟩:=h;have hl:((byL m r).map (Value.int .u8)).length=m:=by rw[List.length_map,Yj7]
 refine⟨c,rfl,hc,fun j hj=>?_⟩;obtain⟨h1,h2,h3⟩:=h j hj;rw[World.frozen?_setCells];show _=some (Value.int .u8 (if o≤j∧j<o+m then r (j-o) else f j))∧_∧0≤(if o≤j∧j<o+m then r (j-o) else f j)∧(if o≤j∧j<o+m then r (j-o) else f j)≤255;by_cases e:o≤j∧j<o+m
 ·rw[if_pos e];obtain⟨d,rfl⟩:∃d,j=o+d:=⟨j-o,by omega⟩;rw[World.cell?_setCells_in g _ o w (fun i hi2=>by rw[hl] at hi2;rw[(h (o+i) (by omega)).1];rfl) d (by rw[hl];omega)];rw[Nat.add_sub_cancel_left];exact⟨by simp[byL],h2,hr d (by omega)⟩
 ·rw[if_neg e,World.cell?_setCells_out g _ o w _ (fun _ _=>by rw[hl];show j<o∨o+m≤j;omega)];exact⟨h1,h2,h3⟩
end
theorem Yfy (b:Nat):∀(vs:List Value) (o:Nat) (w:World),(w.setCells b o vs).heap.size=w.heap.size
 |[],_,_=>rfl
 |v::r,o,w=>by rw[World.setCells,Yfy b r];simp[World.setCell]
theorem Yb2 (b:Nat):∀(vs:List Value) (o:Nat) (w:World) (k:Nat),k≠b→(w.setCells b o vs).heap[k]? =w.heap[k]?
 |[],_,_,_,_=>rfl
 |v::r,o,w,k,h=>by rw[World.setCells,Yb2 b r _ _ _ h];exact heap_setCell_other w ⟨b,o,none⟩ k v h
theorem Yb3 (b:Nat):∀(vs:List Value) (o:Nat) (w:World),w.grownBy (w.setCells b o vs) (some b)
 |[],_,_=>⟨rfl,rfl,rfl,Nat.le_refl _,fun _ _ _=>rfl⟩
 |v::r,o,w=>Yag (Ya2 w ⟨b,o,none⟩ v) (Yb3 b r (o+1) _)
structure Yb0 (w:World) (lo:Nat) (v:Nat→Value) (g n:Nat→Nat) (f:Nat→Nat→Int):Prop where
 pl:∀p,p<3→Yc7 w (v p) (g p) (n p) (f p)
 from_:∀p,p<3→lo≤g p
 apart:∀p q,p<3→q<3→p≠q→g p≠g q
section
variable {w w':World}{lo:Nat}{v:Nat→Value}{g n:Nat→Nat}{f f':Nat→Nat→Int}
theorem Yb0.at (h:Yb0 w lo v g n f):Ygh w v n f:=fun p hp=>(h.pl p hp).at
theorem Yb0.keep (h:Yb0 w lo v g n f)(hk:∀p,p<3→w'.heap[g p]? =w.heap[g p]?):Yb0 w' lo v g n f:=⟨fun p hp=>(h.pl p hp).keep (hk p hp),h.from_,h.apart⟩
theorem Yb0.congr (h:Yb0 w lo v g n f)(hf:∀p,p<3→∀i,i<n p→f p i=f' p i):Yb0 w lo v g n f':=⟨fun p hp=>(h.pl p hp).congr (hf p hp),h.from_,h.apart⟩
theorem Yb0.mono (h:Yb0 w lo v g n f){lo':Nat}(hl:lo'≤lo):Yb0 w lo' v g n f:=⟨h.pl,fun p hp=>Nat.le_trans hl (h.from_ p hp),h.apart⟩
theorem Yb0.ones (h:Yb0 w lo v g n f):∀p,p<3→(v p).oneCell'=true:=fun p hp=>(h.pl p hp).one
theorem Yb0.below (h:Yb0 w lo v g n f)(hn:∀p,p<3→0<n p)(hb:Below w.heap.size w w'):Yb0 w' lo v g n f:=h.keep fun p hp=>hb.block _ ((h.pl p hp).lt (hn p hp))
theorem Yb0.sets (h:Yb0 w lo v g n f){p:Nat}(hp:p<3)(o m:Nat)(r:Nat→Int)(hr:∀i,i<m→0≤r i∧r i≤255)(hi:o+m≤n p):Yb0 (w.setCells (g p) o ((byL m r).map (Value.int .u8))) lo v g n (fun q j=>if q=p∧o≤j∧j<o+m then r (j-o) else f q j):=by
 refine⟨fun q hq=>?_,h.from_,h.apart⟩;by_cases e:q=p
 ·subst e;refine((h.pl q hq).sets o m r hr hi).congr fun j _=>?_;show (if o≤j∧j<o+m then r (j-o) else f q j)=(if q=q∧o≤j∧j<o+m then r (j-o) else f q j);by_cases e2:o≤j∧j<o+m
  ·rw[if_pos e2,if_pos ⟨rfl,e2⟩]
  ·rw[if_neg e2,if_neg (fun e3=>e2 e3.2)]
 ·refine((h.pl q hq).keep (Yb2 (g p) _ o w (g q) (h.apart q p hq hp e))).congr fun j _=>?_;show f q j=(if q=p∧o≤j∧j<o+m then r (j-o) else f q j);rw[if_neg (by intro e2;exact e e2.1)]
end
structure Yc0 (g:Nat→Nat) (w w':World):Prop where
 os:w'.os=w.os
 tape:w'.tape=w.tape
 output:w'.output=w.output
 size:w.heap.size≤w'.heap.size
 block:∀k,k<w.heap.size→(∀p,p<3→k≠g p)→w'.heap[k]? =w.heap[k]?
theorem Yc0.trans {g:Nat→Nat}{a b c:World}(h:Yc0 g a b)(k:Yc0 g b c):Yc0 g a c:=
 ⟨k.os.trans h.os,k.tape.trans h.tape,k.output.trans h.output,Nat.le_trans h.size k.size,fun i hi hn=>(k.block i (Nat.lt_of_lt_of_le hi h.size) hn).trans (h.block i hi hn)⟩
theorem Yc0.of_below {g:Nat→Nat}{a b:World}(h:Below a.heap.size a b):Yc0 g a b:=⟨h.os,h.tape,h.output,h.size,fun i hi _=>h.block i hi⟩
theorem Yc0.of_grown {g:Nat→Nat}{a b:World}{r p:Nat}(hp:p<3)(hr:r=g p)(h:a.grownBy b (some r)):Yc0 g a b:=
 ⟨h.os,h.tape,h.output,h.size,fun i hi hn=>h.block i hi (by intro e;injection e with e;exact hn p hp (e.trans hr))⟩
theorem Yc0.to_below {g:Nat→Nat}{B:Nat}{a b:World}(h:Yc0 g a b)(hB:B≤a.heap.size)(hg:∀p,p<3→B≤g p):Below B a b:=
 ⟨h.os,h.tape,h.output,h.size,fun i hi=>h.block i (by omega) (fun p hp=>by have:=hg p hp;omega)⟩
end Go.Proofs.YtnamlooifcpoaaaGreatDoor
namespace Go.Proofs.YtnamlooifcpoaaaGreatDoor
open Go.RowKit Go.Lib
theorem Ygk (s:Int)(w:World):Calls Tryz.prog 76 #[.int .i64 s] w fun e w'=>e=.returned (.int .u8 (Yay s 0 255))∧w=w':=by
 have c:=fun w=>Ya1 s 0 255 w;have h1:=Ybw s 0 255;have h2:=Ybv s 0 255 (by omega);generalize Yay s 0 255=y at c h1 h2 ⊢;have hw:IntKind.u8.wrap y=y:=by rw[IntKind.wrap_u8];omega
 go_enter Tryz.func76,Tryz.ntmps76
 go_wp2_with (with_reducible refine(c _).mono ?_;rintro e w1 ⟨rfl,rfl⟩)
 go_ret
 exact⟨rfl,rfl⟩
theorem Ydl (k:Int)(p:Nat)(hp:p<3)(w:World):Calls Tryz.prog 26 #[.int .i64 k,.int .i64 (p:Int)] w fun e w'=>e=.returned (.int .i64 (siz k p:Int))∧w=w':=by
 have c:=fun w=>Ye7 k p w;rw[Ynj k p hp] at c;have hs:(wid k p:Int)*(hei k p:Int)=(siz k p:Int):=(Int.natCast_mul _ _).symm;have hw:IntKind.i64.wrap (siz k p:Int)=(siz k p:Int):=Ygx (by have:=Yeu k p;omega);generalize wid k p=a at *;generalize hei k p=b at *;generalize siz k p=m at *
 go_enter Tryz.func26,Tryz.ntmps26
 go_wp2_with (with_reducible refine(c _).mono ?_;rintro e w1 ⟨rfl,rfl⟩)
 go_ret
 exact⟨rfl,rfl⟩
theorem Yft (k:Int)(w:World):Calls Tryz.prog 27 #[.int .i64 k] w fun e w'=>e=.returned (.bool (Ybr k))∧w=w':=by
 have c:=fun w=>Yeq k w;generalize Ybr k=y at *;generalize Yia k=a at *;generalize Yh9 k=b at *
 go_enter Tryz.func27,Tryz.ntmps27
 go_wp2_with (with_reducible refine(c _).mono ?_;rintro e w1 ⟨rfl,rfl⟩)
 go_ret
 exact⟨rfl,rfl⟩
theorem Ylw (k n:Int)(w:World):Calls Tryz.prog 55 #[.int .i64 k,.int .i64 n] w fun e w'=>e=.returned (.bool (Yk1 k n))∧w=w':=by
 have c:=fun w=>Ycn k w;obtain⟨h1,h2,_⟩:=Yc8 k;rw[←h1,←h2] at c;have hs:(acr k:Int)*(dow k:Int)=(Ybc k:Int):=(Int.natCast_mul _ _).symm;have hw:IntKind.i64.wrap (Ybc k:Int)=(Ybc k:Int):=Ygx (by have:=Yds k;omega);have hq:=Lib.hid (show Yk1 k n=(decide (0≤n)&&decide (n<(Ybc k:Int))) from rfl);generalize Yk1 k n=y at *;clear h1 h2;generalize acr k=a at *;generalize dow k=b at *
 generalize Ybc k=m at *;cases t0:decide (0≤n)
 ·rw[t0] at hq
  go_enter Tryz.func55,Tryz.ntmps55
  go_wp2_with (with_reducible refine(c _).mono ?_;rintro e w1 ⟨rfl,rfl⟩)
  go_ret
  exact⟨Yae (by rw[hq.out];rfl),rfl⟩
 ·rw[t0] at hq
  go_enter Tryz.func55,Tryz.ntmps55
  go_wp2_with (with_reducible refine(c _).mono ?_;rintro e w1 ⟨rfl,rfl⟩)
  go_ret
  exact⟨Yae (by rw[hq.out];rfl),rfl⟩
def Yj0 (p first width:Nat):Array Value:=#[.int .i64 (p:Int),.int .i64 (first:Int),.int .i64 (width:Int)]
set_option maxHeartbeats 2000000 in
theorem Yrg (k:Int)(n b:Nat)(w:World)(hn:n<Ybc k)(hb:b<6):Calls Tryz.prog 56 #[.int .i64 k,.int .i64 (n:Int),.int .i64 (b:Int)] w fun e w'=>e=.returned (.agg (Yj0 (plc b) (Yk0 k n b) (wid k (plc b))))∧Below w.heap.size w w':=by
 have c1:=fun w=>Ycn k w;have c2:=fun w=>Ye7 k (plc b) w;rw[Ynj k _ (Yfv hb)] at c2;obtain⟨h1,h2,_⟩:=Yc8 k;rw[←h1,←h2] at c1;obtain⟨ha,hx,hy⟩:=Ycm hn;have hl:=Ys7 (y:=0) hn hb (by omega);have hlm:=Ykd hn hb;have hcm:=Yj9 hn hb;have hwm:=Yfz k (plc b);have hsm:=Yeu k (plc b);have hnm:=Yds k;have L:lin k n b=if b<4 then 2*(n / acr k)+b / 2 else n / acr k:=rfl
 have C:col k n b=if b<4 then 2*(n%acr k)+b%2 else n%acr k:=rfl
 have hF:Yk0 k n b=8*(lin k n b*wid k (plc b)+col k n b):=rfl;have r1:(n:Int).tmod (acr k:Int)=((n%acr k:Nat):Int):=by rw[Int.tmod_eq_emod_of_nonneg (by omega)];rfl
 have r2:(n:Int).tdiv (acr k:Int)=((n / acr k:Nat):Int):=by rw[Int.tdiv_eq_ediv_of_nonneg (by omega)];rfl
 have r3:IntKind.i64.wrap ((n / acr k:Nat):Int)=((n / acr k:Nat):Int):=Ybl (by have:=Nat.div_le_self n (acr k);omega);have hd:n / acr k≤n:=Nat.div_le_self n (acr k);have z0:((acr k:Int)==0)=false:=by simp;omega
 generalize hfb:Yk0 k n b=F at *;obtain⟨m,hm⟩:∃m,lin k n b*wid k (plc b)=m:=⟨_,rfl⟩;rw[hm] at hF;have M:((lin k n b:Nat):Int)*((wid k (plc b):Nat):Int)=(m:Int):=by rw[←hm];exact(Int.natCast_mul _ _).symm
 generalize lin k n b=l at *;generalize col k n b=c at *;generalize n / acr k=y at *;generalize n%acr k=x at *;generalize hei k (plc b)=H at *;generalize siz k (plc b)=S at *;generalize hWW:wid k (plc b)=W at *;have hb6:b=0∨b=1∨b=2∨b=3∨b=4∨b=5:=by omega
 clear hfb hm h1 h2 hn hWW;rcases hb6 with rfl|rfl|rfl|rfl|rfl|rfl
 case _=>
  replace c2:∀w,Calls Tryz.prog 47 #[.int .i64 k,.int .i64 0] w fun e w'=>e=.returned (.tuple #[.int .i64 (W:Int),.int .i64 (H:Int)])∧w=w':=c2
  replace L:l=2*y:=by rw[L,if_pos (by omega)];all_goals omega
  replace C:c=2*x:=by rw[C,if_pos (by omega)];all_goals omega
  subst L C
  replace M:(2*(y:Int))*(W:Int)=(m:Int):=M
  have HF:=Lib.hid hF;have hF8:F≤1622016:=by omega
  go_enter Tryz.func56,Tryz.ntmps56
  go_wp2_with (first|(with_reducible refine(c1 _).mono ?_;rintro e w1 ⟨rfl,rfl⟩)|(with_reducible refine(c2 _).mono ?_;rintro e w1 ⟨rfl,rfl⟩))
  go_region
  go_wp2_with (first|(with_reducible refine(c1 _).mono ?_;rintro e w1 ⟨rfl,rfl⟩)|(with_reducible refine(c2 _).mono ?_;rintro e w1 ⟨rfl,rfl⟩))
  refine bodyPost_ret (results_cell_row rfl _ _ w.heap.size 103 _ (0,0) _ rfl (heap_alloc_new w _) Tryz.underlying103 rfl (by kernel_rfl)) rfl ⟨by rw[HF.out];rfl,((Below.refl _ w).alloc (Nat.le_refl _) _).drew⟩
 case _=>
  replace c2:∀w,Calls Tryz.prog 47 #[.int .i64 k,.int .i64 0] w fun e w'=>e=.returned (.tuple #[.int .i64 (W:Int),.int .i64 (H:Int)])∧w=w':=c2
  replace L:l=2*y:=by rw[L,if_pos (by omega)];all_goals omega
  replace C:c=2*x+1:=by rw[C,if_pos (by omega)];all_goals omega
  subst L C
  replace M:(2*(y:Int))*(W:Int)=(m:Int):=M
  have HF:=Lib.hid hF;have hF8:F≤1622016:=by omega
  go_enter Tryz.func56,Tryz.ntmps56
  go_wp2_with (first|(with_reducible refine(c1 _).mono ?_;rintro e w1 ⟨rfl,rfl⟩)|(with_reducible refine(c2 _).mono ?_;rintro e w1 ⟨rfl,rfl⟩))
  go_region
  go_wp2_with (first|(with_reducible refine(c1 _).mono ?_;rintro e w1 ⟨rfl,rfl⟩)|(with_reducible refine(c2 _).mono ?_;rintro e w1 ⟨rfl,rfl⟩))
  refine bodyPost_ret (results_cell_row rfl _ _ w.heap.size 103 _ (0,0) _ rfl (heap_alloc_new w _) Tryz.underlying103 rfl (by kernel_rfl)) rfl ⟨by rw[HF.out];rfl,((Below.refl _ w).alloc (Nat.le_refl _) _).drew⟩
 case _=>
  replace c2:∀w,Calls Tryz.prog 47 #[.int .i64 k,.int .i64 0] w fun e w'=>e=.returned (.tuple #[.int .i64 (W:Int),.int .i64 (H:Int)])∧w=w':=c2
  replace L:l=2*y+1:=by rw[L,if_pos (by omega)];all_goals omega
  replace C:c=2*x:=by rw[C,if_pos (by omega)];all_goals omega
  subst L C
  replace M:(2*(y:Int)+1)*(W:Int)=(m:Int):=M
  have HF:=Lib.hid hF;have hF8:F≤1622016:=by omega
  go_enter Tryz.func56,Tryz.ntmps56
  go_wp2_with (first|(with_reducible refine(c1 _).mono ?_;rintro e w1 ⟨rfl,rfl⟩)|(with_reducible refine(c2 _).mono ?_;rintro e w1 ⟨rfl,rfl⟩))
  go_region
  go_wp2_with (first|(with_reducible refine(c1 _).mono ?_;rintro e w1 ⟨rfl,rfl⟩)|(with_reducible refine(c2 _).mono ?_;rintro e w1 ⟨rfl,rfl⟩))
  refine bodyPost_ret (results_cell_row rfl _ _ w.heap.size 103 _ (0,0) _ rfl (heap_alloc_new w _) Tryz.underlying103 rfl (by kernel_rfl)) rfl ⟨by rw[HF.out];rfl,((Below.refl _ w).alloc (Nat.le_refl _) _).drew⟩
 case _=>
  replace c2:∀w,Calls Tryz.prog 47 #[.int .i64 k,.int .i64 0] w fun e w'=>e=.returned (.tuple #[.int .i64 (W:Int),.int .i64 (H:Int)])∧w=w':=c2
  replace L:l=2*y+1:=by rw[L,if_pos (by omega)];all_goals omega
  replace C:c=2*x+1:=by rw[C,if_pos (by omega)];all_goals omega
  subst L C
  replace M:(2*(y:Int)+1)*(W:Int)=(m:Int):=M
  have HF:=Lib.hid hF;have hF8:F≤1622016:=by omega
  go_enter Tryz.func56,Tryz.ntmps56
  go_wp2_with (first|(with_reducible refine(c1 _).mono ?_;rintro e w1 ⟨rfl,rfl⟩)|(with_reducible refine(c2 _).mono ?_;rintro e w1 ⟨rfl,rfl⟩))
  go_region
  go_wp2_with (first|(with_reducible refine(c1 _).mono ?_;rintro e w1 ⟨rfl,rfl⟩)|(with_reducible refine(c2 _).mono ?_;rintro e w1 ⟨rfl,rfl⟩))
  refine bodyPost_ret (results_cell_row rfl _ _ w.heap.size 103 _ (0,0) _ rfl (heap_alloc_new w _) Tryz.underlying103 rfl (by kernel_rfl)) rfl ⟨by rw[HF.out];rfl,((Below.refl _ w).alloc (Nat.le_refl _) _).drew⟩
 case _=>
  replace c2:∀w,Calls Tryz.prog 47 #[.int .i64 k,.int .i64 1] w fun e w'=>e=.returned (.tuple #[.int .i64 (W:Int),.int .i64 (H:Int)])∧w=w':=c2
  replace L:l=y:=by rw[L,if_neg (by omega)]
  replace C:c=x:=by rw[C,if_neg (by omega)]
  subst L C;have HF:=Lib.hid hF;have hF8:F≤1622016:=by omega
  go_enter Tryz.func56,Tryz.ntmps56
  go_wp2_with (first|(with_reducible refine(c1 _).mono ?_;rintro e w1 ⟨rfl,rfl⟩)|(with_reducible refine(c2 _).mono ?_;rintro e w1 ⟨rfl,rfl⟩))
  go_region
  go_wp2_with (first|(with_reducible refine(c1 _).mono ?_;rintro e w1 ⟨rfl,rfl⟩)|(with_reducible refine(c2 _).mono ?_;rintro e w1 ⟨rfl,rfl⟩))
  refine bodyPost_ret (results_cell_row rfl _ _ w.heap.size 103 _ (0,0) _ rfl (heap_alloc_new w _) Tryz.underlying103 rfl (by kernel_rfl)) rfl ⟨by rw[HF.out];rfl,((Below.refl _ w).alloc (Nat.le_refl _) _).drew⟩
 case _=>
  replace c2:∀w,Calls Tryz.prog 47 #[.int .i64 k,.int .i64 2] w fun e w'=>e=.returned (.tuple #[.int .i64 (W:Int),.int .i64 (H:Int)])∧w=w':=c2
  replace L:l=y:=by rw[L,if_neg (by omega)]
  replace C:c=x:=by rw[C,if_neg (by omega)]
  subst L C;have HF:=Lib.hid hF;have hF8:F≤1622016:=by omega
  go_enter Tryz.func56,Tryz.ntmps56
  go_wp2_with (first|(with_reducible refine(c1 _).mono ?_;rintro e w1 ⟨rfl,rfl⟩)|(with_reducible refine(c2 _).mono ?_;rintro e w1 ⟨rfl,rfl⟩))
  go_region
  go_wp2_with (first|(with_reducible refine(c1 _).mono ?_;rintro e w1 ⟨rfl,rfl⟩)|(with_reducible refine(c2 _).mono ?_;rintro e w1 ⟨rfl,rfl⟩))
  refine bodyPost_ret (results_cell_row rfl _ _ w.heap.size 103 _ (0,0) _ rfl (heap_alloc_new w _) Tryz.underlying103 rfl (by kernel_rfl)) rfl ⟨by rw[HF.out];rfl,((Below.refl _ w).alloc (Nat.le_refl _) _).drew⟩
theorem Ypi (p f W:Nat):(Tryz.prog.info? 103).map (·.size)=some (Yj0 p f W).size:=by
 have h:(Tryz.prog.info? 103).map (·.size)=some 3:=by kernel_rfl
 exact h
set_option maxRecDepth 100000 in
set_option maxHeartbeats 2000000 in
theorem Ys6 (p F W y n o c b:Nat)(v:Nat→Value)(w:World)(hp:p<3)(hv:v p=.slice (some ⟨b,o,none⟩) n c)(hc:n≤c)(hF:F+y*W+8≤n)(hn:n≤1073741824):
  Calls Tryz.prog 58 #[.agg (Yj0 p F W),.agg #[v 0,v 1,v 2],.int .i64 (y:Int)] w fun e w'=>e=.returned (.slice (some ⟨b,o+(F+y*W),none⟩) 8 (c-(F+y*W)))∧Below w.heap.size w w':=by
 have hb2:∀o1 o2,Below w.heap.size w ((w.alloc o1).alloc o2):=fun o1 o2=>((Below.refl _ w).alloc (Nat.le_refl _) _).alloc (by simp) _;obtain⟨m,hm⟩:∃m,y*W=m:=⟨_,rfl⟩;rw[hm] at hF ⊢;have M:(y:Int)*(W:Int)=(m:Int):=by rw[←hm];exact(Int.natCast_mul _ _).symm
 unfold Yj0;clear hm;have hp3:p=0∨p=1∨p=2:=by omega
 obtain⟨s,hs⟩:∃s,F+m=s:=⟨_,rfl⟩;have S:(F:Int)+(m:Int)=(s:Int):=by omega
 rw[hs];have t1:(c==s)=false:=by simp;omega
 rcases hp3 with rfl|rfl|rfl
 all_goals
  rw[hv];clear hv
  try generalize v 0=v0
  try generalize v 1=v1
  try generalize v 2=v2
  go_enter Tryz.func58,Tryz.ntmps58
  go_wp2
  rw[show s+8-s=8 by omega]
  go_ret
  exact⟨rfl,hb2 _ _⟩
def Ybk (k:Int)(n:Nat→Nat):Bool:=Ybr k&&(decide (n 0=siz k 0)&&(decide (n 1=siz k 1)&&decide (n 2=siz k 2)))
theorem Ydv {k:Int}{n:Nat→Nat}:Ybk k n=true↔Ybr k=true∧∀p,p<3→n p=siz k p:=by
 unfold Ybk;simp only[Bool.and_eq_true,decide_eq_true_iff];constructor
 ·rintro⟨h,h0,h1,h2⟩;refine⟨h,fun p hp=>?_⟩
  match p,hp with
  |0,_=>exact h0
  |1,_=>exact h1
  |2,_=>exact h2
 ·rintro⟨h,hp⟩;exact⟨h,hp 0 (by omega),hp 1 (by omega),hp 2 (by omega)⟩
theorem Ynn {a b:Nat}(h:a=b):((a:Int) != (b:Int))=false:=by simp[h]
theorem Yno {a b:Nat}(h:a≠b):((a:Int) != (b:Int))=true:=by simp[bne];omega
set_option maxRecDepth 100000 in
set_option maxHeartbeats 2000000 in
theorem Yct (k:Int)(v:Nat→Value)(n:Nat→Nat)(w:World)(hv:∀p,p<3→∃a c,v p=.slice a (n p) c):
  Calls Tryz.prog 14 #[.agg (frA k v)] w fun e w'=>e=.returned (.bool (Ybk k n))∧Below w.heap.size w w':=by
 have hb1:∀o,Below w.heap.size w (w.alloc o):=fun o=>(Below.refl _ w).alloc (Nat.le_refl _) _;have c0:∀w,Calls Tryz.prog 26 #[.int .i64 k,.int .i64 0] w fun e w'=>e=.returned (.int .i64 (siz k 0:Int))∧w=w':=fun w=>Ydl k 0 (by omega) w;have c1:∀w,Calls Tryz.prog 26 #[.int .i64 k,.int .i64 1] w fun e w'=>e=.returned (.int .i64 (siz k 1:Int))∧w=w':=fun w=>Ydl k 1 (by omega) w
 have c2:∀w,Calls Tryz.prog 26 #[.int .i64 k,.int .i64 2] w fun e w'=>e=.returned (.int .i64 (siz k 2:Int))∧w=w':=fun w=>Ydl k 2 (by omega) w;have c3:=fun w=>Yft k w;have hR:=Lib.hid (show Ybk k n=(Ybr k&&(decide (n 0=siz k 0)&&(decide (n 1=siz k 1)&&decide (n 2=siz k 2)))) from rfl);obtain⟨a0,b0,hv0⟩:=hv 0 (by omega);obtain⟨a1,b1,hv1⟩:=hv 1 (by omega);obtain⟨a2,b2,hv2⟩:=hv 2 (by omega)
 have x0:∀w,(Instr.index 23 (.agg #[v 0,v 1,v 2]) (.int .i64 0)).run Tryz.prog w=.ok (v 0) w:=fun w=>Ygz v (p:=0) (by omega) w;have x1:∀w,(Instr.index 23 (.agg #[v 0,v 1,v 2]) (.int .i64 1)).run Tryz.prog w=.ok (v 1) w:=fun w=>Ygz v (p:=1) (by omega) w;have x2:∀w,(Instr.index 23 (.agg #[v 0,v 1,v 2]) (.int .i64 2)).run Tryz.prog w=.ok (v 2) w:=fun w=>Ygz v (p:=2) (by omega) w;unfold frA frL
 rw[hv0,hv1,hv2] at x0 x1 x2 ⊢;clear hv hv0 hv1 hv2;generalize Ybr k=y at *;generalize Ybk k n=z at *;generalize siz k 0=s0 at *;generalize siz k 1=s1 at *;generalize siz k 2=s2 at *;generalize n 0=n0 at *;generalize n 1=n1 at *;generalize n 2=n2 at *
 go_enter Tryz.func14,Tryz.ntmps14
 go_wp2
 go_loopw [7] (fun z wr=>∃i:Nat,i≤3∧z=.int .i64 i∧wr=w.alloc (.cells #[.int .i64 k,.slice a0 n0 b0,.slice a1 n1 b1,.slice a2 n2 b2] 25 (0,0))∧Hid ((1≤i→n0=s0)∧(2≤i→n1=s1)∧(3≤i→n2=s2))) (fun z _=>3-(intOf z).toNat)
 case atStart=>exact⟨0,by omega,rfl,rfl,by show _∧_;omega⟩
 case round=>
  obtain⟨i,hi,rfl,rfl,HH⟩:=hrel;obtain⟨k0,k1,k2⟩:=HH.out;clear HH;have hi4:i=0∨i=1∨i=2∨i=3:=by omega
  rcases hi4 with rfl|rfl|rfl|rfl
  case _=>
   by_cases e:n0=s0
   ·have t:=Ynn e;have HE:=Lib.hid e;clear e k0 k1 k2
    go_wp2_with (with_reducible refine(c0 _).mono ?_;rintro e w1 ⟨rfl,rfl⟩)
    go_roundw
    case rel=>exact⟨1,by omega,rfl,(by trivial),⟨fun _=>HE.out,by omega,by omega⟩⟩
    case measure=>simp[intOf]
   ·have t:=Yno e
    go_wp2_with (with_reducible refine(c0 _).mono ?_;rintro e w1 ⟨rfl,rfl⟩)
    go_ret
    exact⟨Yae (by rw[hR.out,decide_eq_false e];simp),hb1 _⟩
  case _=>
   have e0:=k0 (by omega);by_cases e:n1=s1
   ·have t:=Ynn e;have HE:=Lib.hid e;have HE0:=Lib.hid e0;clear e e0 k0 k1 k2
    go_wp2_with (with_reducible refine(c1 _).mono ?_;rintro e w1 ⟨rfl,rfl⟩)
    go_roundw
    case rel=>exact⟨2,by omega,rfl,(by trivial),⟨fun _=>HE0.out,fun _=>HE.out,by omega⟩⟩
    case measure=>simp[intOf]
   ·have t:=Yno e;clear e0 k0 k1 k2
    go_wp2_with (with_reducible refine(c1 _).mono ?_;rintro e w1 ⟨rfl,rfl⟩)
    go_ret
    exact⟨Yae (by rw[hR.out,decide_eq_false e];simp),hb1 _⟩
  case _=>
   have e0:=k0 (by omega);have e1:=k1 (by omega);by_cases e:n2=s2
   ·have t:=Ynn e;have HE:=Lib.hid e;have HE0:=Lib.hid e0;have HE1:=Lib.hid e1;clear e e0 e1 k0 k1 k2
    go_wp2_with (with_reducible refine(c2 _).mono ?_;rintro e w1 ⟨rfl,rfl⟩)
    go_roundw
    case rel=>exact⟨3,by omega,rfl,(by trivial),⟨fun _=>HE0.out,fun _=>HE1.out,fun _=>HE.out⟩⟩
    case measure=>simp[intOf]
   ·have t:=Yno e;clear e0 e1 k0 k1 k2
    go_wp2_with (with_reducible refine(c2 _).mono ?_;rintro e w1 ⟨rfl,rfl⟩)
    go_ret
    exact⟨Yae (by rw[hR.out,decide_eq_false e];simp),hb1 _⟩
  case _=>
   have e0:=k0 (by omega);have e1:=k1 (by omega);have e2:=k2 (by omega);subst e0 e1 e2;clear k0 k1 k2
   go_wp2_with (with_reducible refine(c3 _).mono ?_;rintro e w1 ⟨rfl,rfl⟩)
   go_ret
   exact⟨Yae (by rw[hR.out];simp),hb1 _⟩
def Yne (a:Int):Int:=2*(a / 4)+if a%4=0 then 0 else 1
def Ykz (v:Int):Int:=if Yay v (-64) 64<0 then -Yne (-Yay v (-64) 64) else Yne (Yay v (-64) 64)
theorem Ynf {a:Int}(h0:0≤a)(h1:a≤64):0≤Yne a∧Yne a≤32:=by unfold Yne;split <;> omega
theorem Ysc (v:Int):-32≤Ykz v∧Ykz v≤32:=by
 have h1:=Ybw v (-64) 64;have h2:=Ybv v (-64) 64 (by omega);unfold Ykz
 split
 ·have:=Ynf (a:=-Yay v (-64) 64) (by omega) (by omega);omega
 ·have:=Ynf (a:=Yay v (-64) 64) (by omega) (by omega);omega
theorem Ysd:Ykz 0=0:=by decide +kernel
theorem Yyj {v:Int}(h1:-64≤v)(h2:v≤64):Ykz v=if v<0 then -Yne (-v) else Yne v:=by unfold Ykz;rw[Yf8 v _ _ h1 h2]
set_option maxHeartbeats 1000000 in
theorem Ylk (a:Int)(w:World)(h0:0≤a)(h1:a≤64):Calls Tryz.prog 107 #[.int .i64 a] w fun e w'=>e=.returned (.int .i64 (Yne a))∧w=w':=by
 have c:=fun w=>Ya1 a (-64) 64 w;rw[Yf8 a (-64) 64 (by omega) h1] at c;have t0:decide (a<0)=false:=by simp;omega
 have q1:a.tdiv 4=a / 4:=Int.tdiv_eq_ediv_of_nonneg h0;have q2:a.tmod 4=a%4:=Int.tmod_eq_emod_of_nonneg h0;have u1:0≤a / 4:=by omega
 have u2:a / 4≤16:=by omega
 have wu:IntKind.i64.wrap (a / 4)=a / 4:=Ygx (by omega);have hz:=Lib.hid (show Yne a=2*(a / 4)+if a%4=0 then 0 else 1 from rfl);generalize Yne a=z at *;generalize a / 4=u at *;by_cases hr:a%4=0
 ·rw[if_pos hr] at hz;rw[hr] at q2;clear hr
  go_enter Tryz.func107,Tryz.ntmps107
  go_wp2_with (with_reducible refine(c _).mono ?_;rintro e w1 ⟨rfl,rfl⟩)
  go_ret
  exact⟨Yca (by have:=hz.out;omega),rfl⟩
 ·rw[if_neg hr] at hz;have t1:(a%4 != 0)=true:=by simpa [bne] using hr
  generalize a%4=r at *;clear hr
  go_enter Tryz.func107,Tryz.ntmps107
  go_wp2_with (with_reducible refine(c _).mono ?_;rintro e w1 ⟨rfl,rfl⟩)
  go_ret
  exact⟨Yca (by have:=hz.out;omega),rfl⟩
theorem Yhd (v:Int)(w:World):Calls Tryz.prog 107 #[.int .i64 v] w fun e w'=>e=.returned (.int .i64 (Ykz v))∧w=w':=by
 have c:=fun w=>Ya1 v (-64) 64 w;have h1:=Ybw v (-64) 64;have h2:=Ybv v (-64) 64 (by omega);have hz:=Lib.hid (show Ykz v=if Yay v (-64) 64<0 then -Yne (-Yay v (-64) 64) else Yne (Yay v (-64) 64) from rfl);generalize Ykz v=z at *;generalize Yay v (-64) 64=a at *;by_cases h0:a<0
 ·rw[if_pos h0] at hz;have c2:=fun w=>Ylk (-a) w (by omega) (by omega);have t0:decide (a<0)=true:=by simpa using h0
  have q:=Ynf (a:=-a) (by omega) (by omega);generalize Yne (-a)=y at *;clear h0
  go_enter Tryz.func107,Tryz.ntmps107
  go_wp2_with (first|(with_reducible refine(c _).mono ?_;rintro e w1 ⟨rfl,rfl⟩)|(with_reducible refine(c2 _).mono ?_;rintro e w1 ⟨rfl,rfl⟩))
  go_ret
  exact⟨Yca hz.out.symm,rfl⟩
 ·rw[if_neg h0] at hz;have t0:decide (a<0)=false:=by simpa using h0
  have q1:a.tdiv 4=a / 4:=Int.tdiv_eq_ediv_of_nonneg (by omega);have q2:a.tmod 4=a%4:=Int.tmod_eq_emod_of_nonneg (by omega);have u1:0≤a / 4:=by omega
  have u2:a / 4≤16:=by omega
  have wu:IntKind.i64.wrap (a / 4)=a / 4:=Ygx (by omega);have hy:=Lib.hid (show Yne a=2*(a / 4)+if a%4=0 then 0 else 1 from rfl);rw[hy.out] at hz;clear hy;generalize a / 4=u at *;by_cases hr:a%4=0
  ·rw[if_pos hr] at hz;rw[hr] at q2;clear hr h0
   go_enter Tryz.func107,Tryz.ntmps107
   go_wp2_with (with_reducible refine(c _).mono ?_;rintro e w1 ⟨rfl,rfl⟩)
   go_ret
   exact⟨Yca (by have:=hz.out;omega),rfl⟩
  ·rw[if_neg hr] at hz;have t1:(a%4 != 0)=true:=by simpa [bne] using hr
   generalize a%4=r at *;clear hr h0
   go_enter Tryz.func107,Tryz.ntmps107
   go_wp2_with (with_reducible refine(c _).mono ?_;rintro e w1 ⟨rfl,rfl⟩)
   go_ret
   exact⟨Yca (by have:=hz.out;omega),rfl⟩
theorem Yhi (k n:Int)(w:World):Calls Tryz.prog 104 #[.int .i64 k,.int .i64 n] w fun e w'=>e=.returned (.bool (Yk1 k n))∧w=w':=by
 have c:=fun w=>Ycn k w;obtain⟨h1,h2,_⟩:=Yc8 k;rw[←h1,←h2] at c;have hs:(acr k:Int)*(dow k:Int)=(Ybc k:Int):=(Int.natCast_mul _ _).symm;have hw:IntKind.i64.wrap (Ybc k:Int)=(Ybc k:Int):=Ygx (by have:=Yds k;omega);have hq:=Lib.hid (show Yk1 k n=(decide (0≤n)&&decide (n<(Ybc k:Int))) from rfl);generalize Yk1 k n=y at *;clear h1 h2;generalize acr k=a at *;generalize dow k=b at *
 generalize Ybc k=m at *;cases t0:decide (0≤n)
 ·rw[t0] at hq
  go_enter Tryz.func104,Tryz.ntmps104
  go_wp2_with (with_reducible refine(c _).mono ?_;rintro e w1 ⟨rfl,rfl⟩)
  go_ret
  exact⟨Yae (by rw[hq.out];rfl),rfl⟩
 ·rw[t0] at hq
  go_enter Tryz.func104,Tryz.ntmps104
  go_wp2_with (with_reducible refine(c _).mono ?_;rintro e w1 ⟨rfl,rfl⟩)
  go_ret
  exact⟨Yae (by rw[hq.out];rfl),rfl⟩
theorem Yjd (c m:Nat)(v:Int)(w:World)(hc:c≤1000)(hm:m≤1000):Calls Tryz.prog 123 #[.int .i64 (c:Int),.int .i64 (m:Int),.int .i64 v] w fun e w'=>e=.returned (.bool (Ycl c m v))∧w=w':=by
 have hq:=Lib.hid (show Ycl c m v=(decide (-32≤v∧v≤31)&&decide (0≤32*(c:Int)+v∧32*(c:Int)+v+30≤32*(m:Int)-2)) from rfl);generalize Ycl c m v=y at *;by_cases h1:v < -32
 ·have t1:decide (v < -32)=true:=decide_eq_true h1;rw[decide_eq_false (show ¬ (-32≤v∧v≤31) by omega)] at hq
  go_enter Tryz.func123,Tryz.ntmps123
  go_wp2
  go_ret
  exact⟨Yae (by rw[hq.out];rfl),rfl⟩
 have t1:decide (v < -32)=false:=decide_eq_false h1;by_cases h2:31<v
 ·have t2:decide (31<v)=true:=decide_eq_true h2;rw[decide_eq_false (show ¬ (-32≤v∧v≤31) by omega)] at hq
  go_enter Tryz.func123,Tryz.ntmps123
  go_wp2
  go_ret
  exact⟨Yae (by rw[hq.out];rfl),rfl⟩
 have t2:decide (31<v)=false:=decide_eq_false h2;rw[decide_eq_true (show -32≤v∧v≤31 by omega)] at hq;by_cases h3:0≤32*(c:Int)+v
 ·have t3:decide (0≤32*(c:Int)+v)=true:=decide_eq_true h3;have hr:decide (0≤32*(c:Int)+v∧32*(c:Int)+v+30≤32*(m:Int)-2)=decide (32*(c:Int)+v+30≤2*(16*(m:Int)-1)):=by
   by_cases h:32*(c:Int)+v+30≤2*(16*(m:Int)-1)
   ·rw[decide_eq_true h,decide_eq_true];omega
   ·rw[decide_eq_false h,decide_eq_false];omega
  rw[hr] at hq;clear hr
  go_enter Tryz.func123,Tryz.ntmps123
  go_wp2
  go_ret
  exact⟨Yae (by rw[hq.out];rfl),rfl⟩
 ·have t3:decide (0≤32*(c:Int)+v)=false:=decide_eq_false h3;rw[decide_eq_false (show ¬ (0≤32*(c:Int)+v∧32*(c:Int)+v+30≤32*(m:Int)-2) by omega)] at hq
  go_enter Tryz.func123,Tryz.ntmps123
  go_wp2
  go_ret
  exact⟨Yae (by rw[hq.out];rfl),rfl⟩
theorem Yon {k:Int}{n:Nat}(h:n<Ybc k):(n:Int).tmod (acr k:Int)=((n%acr k:Nat):Int)∧(n:Int).tdiv (acr k:Int)=((n / acr k:Nat):Int)∧IntKind.i64.wrap ((n / acr k:Nat):Int)=((n / acr k:Nat):Int)∧((acr k:Int)==0)=false∧n%acr k<acr k∧n / acr k<dow k∧acr k≤88∧dow k≤72:=by
 obtain⟨h0,h1,h2⟩:=Ycm h;obtain⟨-,-,-,-,h3,h4⟩:=Yc8 k;refine⟨by rw[Int.tmod_eq_emod_of_nonneg (by omega)];rfl,by rw[Int.tdiv_eq_ediv_of_nonneg (by omega)];rfl,Ybl (by omega),by simp;omega,h1,h2,h3,h4⟩
set_option maxRecDepth 100000 in
set_option maxHeartbeats 2000000 in
theorem Ykf (k n a b:Int)(w:World):Calls Tryz.prog 97 #[.int .i64 k,.int .i64 n,.agg (Yh4 a b)] w fun e w'=>e=.returned (.bool (Yi6 k n a b))∧Below w.heap.size w w':=by
 have c1:=fun w=>Yhi k n w;have c2:=fun w=>Ycn k w;obtain⟨e1,e2,-⟩:=Yc8 k;rw[←e1,←e2] at c2;clear e1 e2;have hq:=Lib.hid (show Yi6 k n a b=(Yk1 k n&&(Ycl (n.toNat%acr k) (acr k) a&&Ycl (n.toNat / acr k) (dow k) b)) from rfl);generalize Yi6 k n a b=y at *;obtain⟨B,hB⟩:∃B,w.heap.size=B:=⟨_,rfl⟩;obtain⟨wA,hwA⟩:∃wA,w.alloc (.cells (Yh4 a b) 43 (0,0))=wA:=⟨_,rfl⟩
 have hA:wA.heap[B]? =some (.cells (Yh4 a b) 43 (0,0)):=by rw[←hwA,←hB];exact heap_alloc_new w _
 have hz:wA.heap.size=B+1:=by rw[←hwA,←hB];simp
 have HC:=Lib.hid (fun(x:World) (hx:Below (B+1) wA x)=>Ype ((hx.block B (by omega)).trans hA));have hb:Below w.heap.size w wA:=by rw[←hwA];exact(Below.refl _ w).alloc (Nat.le_refl _) _
 have HE:=Lib.hid (fun(x:World) (hx:Below (B+1) wA x)=>(hb.trans (hx.mono (by omega)):Below w.heap.size w x));unfold Yh4 at *;have HWA:=Lib.hid hwA;have HB:=Lib.hid hB;clear hA hz hb hwA hB;cases hc:Yk1 k n with
 |false=>
  rw[hc] at c1 hq;clear hc
  go_enter Tryz.func97,Tryz.ntmps97
  go_wp2_with (first|(with_reducible refine(c1 _).mono ?_;rintro e w1 ⟨rfl,rfl⟩)|(with_reducible refine(c2 _).mono ?_;rintro e w1 ⟨rfl,rfl⟩))
  go_ret
  exact⟨Yae (by rw[hq.out];rfl),by rw[HWA.out];exact HE.out _ (Below.refl _ _)⟩
 |true=>
  rw[hc] at c1 hq;obtain⟨q0,q1⟩:=Yd3.1 hc;obtain⟨q,rfl⟩:∃q:Nat,n=(q:Int):=⟨n.toNat,by omega⟩;rw[Int.toNat_natCast] at hq q1;obtain⟨r1,r2,r3,z0,m1,m2,m3,m4⟩:=Yon q1;have C3:=Lib.hid (fun x (hx:Below (B+1) wA x)=>(Yjd (q%acr k) (acr k) a x (by omega) (by omega)).mono fun e y h=>(⟨h.1,h.2▸hx⟩:e=.returned (.bool (Ycl (q%acr k) (acr k) a))∧Below (B+1) wA y))
  have C4:=Lib.hid (fun x (hx:Below (B+1) wA x)=>(Yjd (q / acr k) (dow k) b x (by omega) (by omega)).mono fun e y h=>(⟨h.1,h.2▸hx⟩:e=.returned (.bool (Ycl (q / acr k) (dow k) b))∧Below (B+1) wA y));clear hc q1 q0;generalize q%acr k=u at *;generalize q / acr k=v at *;generalize acr k=A at *;generalize dow k=D at *;cases hx:Ycl u A a with
  |false=>
   rw[hx] at C3 hq
   go_enter Tryz.func97,Tryz.ntmps97
   go_wp2_with (first|(with_reducible refine(c1 _).mono ?_;rintro e w1 ⟨rfl,rfl⟩)|(with_reducible refine(c2 _).mono ?_;rintro e w1 ⟨rfl,rfl⟩))
   rw[HWA.out,HB.out];refine Yan (S:=fun x=>Below (B+1) wA x) 17 (by kernel_rfl) (by kernel_rfl) (Below.refl _ _).drew ?_;simp only[List.take_succ_cons,List.take_zero,List.drop_succ_cons,List.drop_zero];refine Yab (v:=?vp0) (by kernel_rfl) ?m ?_;(case m=>(intro x _;go_simp;try with_reducible rfl));simp only[Yaa]
   refine Yab (v:=?vp1) (by kernel_rfl) ?m ?_;(case m=>(intro x _;go_simp;try with_reducible rfl));simp only[Yaa];refine Yab (v:=?vp2) (by kernel_rfl) ?m ?_;(case m=>(intro x _;go_simp;rw[if_neg (by omega)]));simp only[Yaa];refine Yab (v:=?vp3) (by kernel_rfl) ?m ?_;(case m=>(intro x _;go_simp;try with_reducible rfl));simp only[Yaa]
   refine Yab (v:=?vp4) (by kernel_rfl) ?m ?_;(case m=>(intro x _;go_simp;try with_reducible rfl));simp only[Yaa];refine Yas 3 _ ⟨B,0,none⟩ (.int .i64 a) (by kernel_rfl) rfl rfl (fun x hx=>by have c0:=(HC.out x hx).1;go_simp) ?_;simp only[Yaa];refine Ya5 (by kernel_rfl) C3.out (fun _=>by kernel_rfl) ?_;simp only[Yaa]
   refine Yab (v:=?vp7) (by kernel_rfl) ?m ?_;(case m=>(intro x _;go_simp;try with_reducible rfl));simp only[Yaa];refine Ydk (by kernel_rfl) ?_;simp only[Yaa];refine Ydk (by kernel_rfl) ?_;simp only[Yaa];refine Ydk (by kernel_rfl) ?_;simp only[Yaa];refine Ydk (by kernel_rfl) ?_;simp only[Yaa];refine Ydk (by kernel_rfl) ?_;simp only[Yaa];refine Ydk (by kernel_rfl) ?_;simp only[Yaa]
   refine Ydk (by kernel_rfl) ?_;simp only[Yaa];refine Yab (v:=?vp15) (by kernel_rfl) ?m ?_;(case m=>(intro x _;go_simp;try with_reducible rfl));simp only[Yaa];refine Yab (v:=?vp16) (by kernel_rfl) ?m ?_;(case m=>(intro x _;go_simp;try with_reducible rfl));simp only[Yaa];refine Ybi fun x hx=>?_
   go_wp2
   go_ret
   exact⟨Yae (by rw[hq.out];rfl),HE.out _ hx⟩
  |true=>
   rw[hx] at C3 hq
   go_enter Tryz.func97,Tryz.ntmps97
   go_wp2_with (first|(with_reducible refine(c1 _).mono ?_;rintro e w1 ⟨rfl,rfl⟩)|(with_reducible refine(c2 _).mono ?_;rintro e w1 ⟨rfl,rfl⟩))
   rw[HWA.out,HB.out];refine Yan (S:=fun x=>Below (B+1) wA x) 17 (by kernel_rfl) (by kernel_rfl) (Below.refl _ _).drew ?_;simp only[List.take_succ_cons,List.take_zero,List.drop_succ_cons,List.drop_zero];refine Yab (v:=?vq0) (by kernel_rfl) ?m ?_;(case m=>(intro x _;go_simp;try with_reducible rfl));simp only[Yaa]
   refine Yab (v:=?vq1) (by kernel_rfl) ?m ?_;(case m=>(intro x _;go_simp;try with_reducible rfl));simp only[Yaa];refine Yab (v:=?vq2) (by kernel_rfl) ?m ?_;(case m=>(intro x _;go_simp;rw[if_neg (by omega)]));simp only[Yaa];refine Yab (v:=?vq3) (by kernel_rfl) ?m ?_;(case m=>(intro x _;go_simp;try with_reducible rfl));simp only[Yaa]
   refine Yab (v:=?vq4) (by kernel_rfl) ?m ?_;(case m=>(intro x _;go_simp;try with_reducible rfl));simp only[Yaa];refine Yas 3 _ ⟨B,0,none⟩ (.int .i64 a) (by kernel_rfl) rfl rfl (fun x hx=>by have c0:=(HC.out x hx).1;go_simp) ?_;simp only[Yaa];refine Ya5 (by kernel_rfl) C3.out (fun _=>by kernel_rfl) ?_;simp only[Yaa]
   refine Yab (v:=?vq7) (by kernel_rfl) ?m ?_;(case m=>(intro x _;go_simp;try with_reducible rfl));simp only[Yaa];refine Yab (v:=?vq8) (by kernel_rfl) ?m ?_;(case m=>(intro x _;go_simp;try with_reducible rfl));simp only[Yaa];refine Yab (v:=?vq9) (by kernel_rfl) ?m ?_;(case m=>(intro x _;go_simp;try with_reducible rfl));simp only[Yaa]
   refine Yab (v:=?vq10) (by kernel_rfl) ?m ?_;(case m=>(intro x _;go_simp;rw[if_neg (by omega)]));simp only[Yaa];refine Yab (v:=?vq11) (by kernel_rfl) ?m ?_;(case m=>(intro x _;go_simp;try with_reducible rfl));simp only[Yaa];refine Yab (v:=?vq12) (by kernel_rfl) ?m ?_;(case m=>(intro x _;go_simp;try with_reducible rfl));simp only[Yaa]
   refine Yas 3 _ ⟨B,1,none⟩ (.int .i64 b) (by kernel_rfl) rfl rfl (fun x hx=>by have c0:=(HC.out x hx).2;go_simp) ?_;simp only[Yaa];refine Ya5 (by kernel_rfl) C4.out (fun _=>by kernel_rfl) ?_;simp only[Yaa];refine Yab (v:=?vq15) (by kernel_rfl) ?m ?_;(case m=>(intro x _;go_simp;try with_reducible rfl));simp only[Yaa]
   refine Yab (v:=?vq16) (by kernel_rfl) ?m ?_;(case m=>(intro x _;go_simp;try with_reducible rfl));simp only[Yaa];refine Ybi fun x hx=>?_
   go_wp2
   go_ret
   exact⟨Yae (by rw[hq.out];rfl),HE.out _ hx⟩
def Ynk (f:Nat→Int)(W x y:Nat):Int:=(f (y / 2*W+x / 2)+f (y / 2*W+x / 2+x%2)+(f (y / 2*W+x / 2+y%2*W)+f (y / 2*W+x / 2+y%2*W+x%2))+2) / 4
theorem Yqm {s:Int}(h0:0≤s)(h1:s≤1020):round s 2=(s+2) / 4:=by
 unfold round;rw[Yf8 s _ _ (by omega) (by omega),if_neg (by decide +kernel)]
 rfl
def Ydi (w:World)(lo:Nat)(c v:Value)(W:Nat):Prop:=∃r1 r2,c=.func (.func 133) #[] #[.pointer (some ⟨r1,0,none⟩),.pointer (some ⟨r2,0,none⟩)]∧w.cell? ⟨r1,0,none⟩=some (.int .i64 (W:Int))∧w.cell? ⟨r2,0,none⟩=some v∧lo≤r1∧lo≤r2
theorem Ydi.below {w w':World}{lo:Nat}{c v:Value}{W:Nat}(h:Ydi w lo c v W)(hb:Below w.heap.size w w'):Ydi w' lo c v W:=by
 obtain⟨r1,r2,rfl,h1,h2,h3⟩:=h;exact⟨r1,r2,rfl,(hb.cell (p:=⟨r1,0,none⟩) (World.block_lt_of_cell? w ⟨r1,0,none⟩ h1)).trans h1,(hb.cell (p:=⟨r2,0,none⟩) (World.block_lt_of_cell? w ⟨r2,0,none⟩ h2)).trans h2,h3⟩
theorem Ydi.grown {w w':World}{lo b:Nat}{c v:Value}{W:Nat}(h:Ydi w lo c v W)(hg:w.grownBy w' (some b))(hb:b<lo):Ydi w' lo c v W:=by
 obtain⟨r1,r2,rfl,h1,h2,h3,h4⟩:=h;have k1:=hg.block r1 (World.block_lt_of_cell? w ⟨r1,0,none⟩ h1) (by intro e;injection e with e;omega);have k2:=hg.block r2 (World.block_lt_of_cell? w ⟨r2,0,none⟩ h2) (by intro e;injection e with e;omega);exact⟨r1,r2,rfl,(World.cell?_of_block (a:=⟨r1,0,none⟩) k1).trans h1,(World.cell?_of_block (a:=⟨r2,0,none⟩) k2).trans h2,h3,h4⟩
theorem Ydi.mono {w:World}{lo lo':Nat}{c v:Value}{W:Nat}(h:Ydi w lo c v W)(hl:lo'≤lo):Ydi w lo' c v W:=by
 obtain⟨r1,r2,rfl,h1,h2,h3,h4⟩:=h;exact⟨r1,r2,rfl,h1,h2,by omega,by omega⟩
set_option maxRecDepth 100000 in
set_option maxHeartbeats 4000000 in
theorem Ytl (k:Int)(v:Nat→Value)(p:Nat)(w:World)(hp:p<3)(hv:∀p,p<3→∃a n c,v p=.slice a n c):
  Calls Tryz.prog 105 #[.agg (frA k v),.int .i64 (p:Int)] w fun e w'=>∃c,e=.returned c∧Ydi w' w.heap.size c (v p) (wid k p)∧Below w.heap.size w w':=by
 have cP:=fun w=>Ye7 k p w;rw[Ynj k p hp] at cP;obtain⟨B,hB⟩:∃B,w.heap.size=B:=⟨_,rfl⟩;obtain⟨wA,hwA⟩:∃wA,w.alloc (.cells (frA k v) 25 (0,0))=wA:=⟨_,rfl⟩;have hA:wA.heap[B]? =some (frO 25 k v):=by rw[←hwA,←hB];exact heap_alloc_new w _
 have hz:wA.heap.size=B+1:=by rw[←hwA,←hB];simp
 have hb:Below B w wA:=by rw[←hwA,←hB];exact(Below.refl _ w).alloc (Nat.le_refl _) _
 have hmf:∀(fn:Fn) (first cap:Array Value) (w:World),(Instr.makeFunc fn first cap).run Tryz.prog w=.ok (.func fn first cap) w:=fun _ _ _ _=>rfl;have hc0:=Ybj hA;have hcp:=Yco hA hp;obtain⟨ad,nn,cc,hvp⟩:=hv p hp;rw[hvp] at hcp ⊢;generalize wid k p=W at *;generalize hei k p=H at *;have HWA:=Lib.hid hwA;have HB:=Lib.hid hB;clear hwA hB hA hvp
 go_enter Tryz.func105,Tryz.ntmps105
 go_wp2_with (first|(with_reducible refine(cP _).mono ?_;rintro e w1 ⟨rfl,rfl⟩)|rw[HWA.out,HB.out])
 go_ret
 have hq:=(Below.refl B wA).alloc (by omega) (.cells #[.slice ad nn cc] 22 (0,0));have hq2:=hq.alloc (by simp;omega) (.cells #[.int .i64 (W:Int)] 3 (0,0));rw[HB.out];refine⟨_,rfl,⟨B+1+1,B+1,rfl,?_,?_,by omega,by omega⟩,hb.trans hq2⟩
 ·exact Yac (cs:=[.int .i64 (W:Int)]) (by rw[←hz];have:=heap_alloc_new (wA.alloc (.cells #[.slice ad nn cc] 22 (0,0))) (.cells #[.int .i64 (W:Int)] 3 (0,0));simpa using this) rfl
 ·exact Yac (cs:=[.slice ad nn cc]) (by rw[←hz];exact Yaq (heap_alloc_new wA _)) rfl
set_option maxRecDepth 100000 in
set_option maxHeartbeats 4000000 in
theorem Yst (r1 r2 b o n c W x y:Nat)(f:Nat→Int)(w:World)(h1:w.cell? ⟨r1,0,none⟩=some (.int .i64 (W:Int)))(h2:w.cell? ⟨r2,0,none⟩=some (.slice (some ⟨b,o,none⟩) n c))(hn:n≤1073741824)(hy:y≤10000)
  (hf:∀i,i<n→w.cell? ⟨b,o+i,none⟩=some (.int .u8 (f i))∧0≤f i∧f i≤255)(hin:y / 2*W+x / 2+y%2*W+x%2<n):
  Calls Tryz.prog 133 #[.int .i64 (x:Int),.int .i64 (y:Int),.pointer (some ⟨r1,0,none⟩),.pointer (some ⟨r2,0,none⟩)] w fun e w'=>e=.returned (.int .i64 (Ynk f W x y))∧Below w.heap.size w w':=by
 have e1:(x:Int).tmod 2=((x%2:Nat):Int):=by rw[Int.tmod_eq_emod_of_nonneg (by omega)];rfl
 have e2:(y:Int).tmod 2=((y%2:Nat):Int):=by rw[Int.tmod_eq_emod_of_nonneg (by omega)];rfl
 have e3:(x:Int).tdiv 2=((x / 2:Nat):Int):=by rw[Int.tdiv_eq_ediv_of_nonneg (by omega)];rfl
 have e4:(y:Int).tdiv 2=((y / 2:Nat):Int):=by rw[Int.tdiv_eq_ediv_of_nonneg (by omega)];rfl
 have b1:x%2≤1:=by omega
 have b2:y%2≤1:=by omega
 have hq:=Lib.hid (show Ynk f W x y=(f (y / 2*W+x / 2)+f (y / 2*W+x / 2+x%2)+(f (y / 2*W+x / 2+y%2*W)+f (y / 2*W+x / 2+y%2*W+x%2))+2) / 4 from rfl);generalize Ynk f W x y=res at *;generalize x%2=xr at *;generalize x / 2=xq at *;generalize hyr:y%2=yr at *;generalize hyq:y / 2=yq at *;have hyq2:yq≤10000:=by omega
 clear hyr hyq;obtain⟨mb,hmb⟩:∃mb,yr*W=mb:=⟨_,rfl⟩;obtain⟨m,hm⟩:∃m,yq*W=m:=⟨_,rfl⟩;have M1:(yr:Int)*(W:Int)=(mb:Int):=by rw[←hmb];exact(Int.natCast_mul _ _).symm
 have M2:(yq:Int)*(W:Int)=(m:Int):=by rw[←hm];exact(Int.natCast_mul _ _).symm
 rw[hm,hmb] at hin hq;clear hm hmb;obtain⟨A,hA⟩:∃A,m+xq=A:=⟨_,rfl⟩;rw[hA] at hin hq;have M3:(m:Int)+(xq:Int)=(A:Int):=by omega
 have u1:IntKind.i64.wrap (mb:Int)=(mb:Int):=Ybl (by omega);have u2:IntKind.i64.wrap (m:Int)=(m:Int):=Ybl (by omega);have u3:IntKind.i64.wrap (xq:Int)=(xq:Int):=Ybl (by omega);have u5:IntKind.i64.wrap (A:Int)=(A:Int):=Ybl (by omega);have u4:IntKind.i64.wrap (yq:Int)=(yq:Int):=Ybl (by omega);obtain⟨p0,q0⟩:=hf A (by omega);obtain⟨p1,q1⟩:=hf (A+xr) (by omega);obtain⟨p2,q2⟩:=hf (A+mb) (by omega)
 obtain⟨p3,q3⟩:=hf (A+mb+xr) (by omega);obtain⟨s1,hs1⟩:∃s,A+xr=s:=⟨_,rfl⟩;obtain⟨s2,hs2⟩:∃s,A+mb=s:=⟨_,rfl⟩;obtain⟨s3,hs3⟩:∃s,A+mb+xr=s:=⟨_,rfl⟩;have v1:(A:Int)+(xr:Int)=(s1:Int):=by omega
 have v2:(A:Int)+(mb:Int)=(s2:Int):=by omega
 have v3:(s2:Int)+(xr:Int)=(s3:Int):=by omega
 have u6:IntKind.i64.wrap (s1:Int)=(s1:Int):=Ybl (by omega);have u7:IntKind.i64.wrap (s2:Int)=(s2:Int):=Ybl (by omega);have u8:IntKind.i64.wrap (s3:Int)=(s3:Int):=Ybl (by omega);have i0:A<n:=by omega
 have i1:s1<n:=by omega
 have i2:s2<n:=by omega
 have i3:s3<n:=by omega
 have hr:=Lib.hid (fun x=>Yjf (f A+f (A+xr)+(f (A+mb)+f (A+mb+xr))) 2 x);rw[Yqm (by omega) (by omega),←hq.out] at hr;rw[hs1] at p1 q1 hr;rw[hs3] at p3 q3 hr;rw[hs2] at p2 q2 hr;generalize f A=z0 at *;generalize f s1=z1 at *;generalize f s2=z2 at *;generalize f s3=z3 at *;clear hA hf hq hs1 hs2 hs3 hin
 have L:=fun{ad:Addr} {v:Value} (h:w.cell? ad=some v) (hs:ad=⟨ad.block,ad.off,none⟩) (x:World) (hx:Below w.heap.size w x)=>(hx.cell (p:=ad) (World.block_lt_of_cell? w ad h)).trans h;have HW:=Lib.hid (L h1 rfl);have HS:=Lib.hid (L h2 rfl);have P0:=Lib.hid (L p0 rfl);have P1:=Lib.hid (L p1 rfl);have P2:=Lib.hid (L p2 rfl);have P3:=Lib.hid (L p3 rfl);clear L h1 h2 p0 p1 p2 p3
 go_enter Tryz.func133,Tryz.ntmps133
 go_wp2
 refine Yan (S:=fun x=>Below w.heap.size w x) 8 (by kernel_rfl) (by kernel_rfl) (Below.refl _ _).drew ?_;simp only[List.take_succ_cons,List.take_zero,List.drop_succ_cons,List.drop_zero];refine Yab (v:=?va0) (by kernel_rfl) ?m ?_;(case m=>(intro x _;go_simp;try with_reducible rfl));simp only[Yaa];refine Yab (v:=?va1) (by kernel_rfl) ?m ?_;(case m=>(intro x _;go_simp;try with_reducible rfl))
 simp only[Yaa];refine Yab (v:=?va2) (by kernel_rfl) ?m ?_;(case m=>(intro x _;go_simp;try with_reducible rfl));simp only[Yaa];refine Yab (v:=?va3) (by kernel_rfl) ?m ?_;(case m=>(intro x _;go_simp;try with_reducible rfl));simp only[Yaa];refine Yas 3 _ ⟨r1,0,none⟩ (.int .i64 (W:Int)) (by kernel_rfl) rfl rfl (fun x hx=>by have c0:=HW.out x hx;go_simp) ?_;simp only[Yaa]
 refine Yab (v:=?va5) (by kernel_rfl) ?m ?_;(case m=>(intro x _;go_simp;try with_reducible rfl));simp only[Yaa];refine Yab (v:=?va6) (by kernel_rfl) ?m ?_;(case m=>(intro x _;go_simp;try with_reducible rfl));simp only[Yaa];refine Yab (v:=?va7) (by kernel_rfl) ?m ?_;(case m=>(intro x _;go_simp;try with_reducible rfl));simp only[Yaa];refine Ybi fun x hx=>?_;have l1:=HW.out x hx;have l2:=HS.out x hx
 have l3:=P0.out x hx;have l4:=P1.out x hx;have l5:=P2.out x hx;have l6:=P3.out x hx
 go_wp2
 refine Yan (S:=fun x=>Below w.heap.size w x) 14 (by kernel_rfl) (by kernel_rfl) hx.drew ?_;simp only[List.take_succ_cons,List.take_zero,List.drop_succ_cons,List.drop_zero];clear l1 l2 l3 l4 l5 l6;refine Yas 22 _ ⟨r2,0,none⟩ (.slice (some ⟨b,o,none⟩) n c) (by kernel_rfl) rfl rfl (fun x hx=>by have c0:=HS.out x hx;go_simp) ?_;simp only[Yaa]
 refine Yab (v:=?vb1) (by kernel_rfl) ?m ?_;(case m=>(intro x _;go_simp;try with_reducible rfl));simp only[Yaa];refine Yab (v:=?vb2) (by kernel_rfl) ?m ?_;(case m=>(intro x _;go_simp;try with_reducible rfl));simp only[Yaa];refine Yas 5 _ ⟨b,o+A,none⟩ (.int .u8 z0) (by kernel_rfl) rfl rfl (fun x hx=>by have c0:=P0.out x hx;go_simp) ?_;simp only[Yaa]
 refine Yab (v:=?vb4) (by kernel_rfl) ?m ?_;(case m=>(intro x _;go_simp;try with_reducible rfl));simp only[Yaa];refine Yas 22 _ ⟨r2,0,none⟩ (.slice (some ⟨b,o,none⟩) n c) (by kernel_rfl) rfl rfl (fun x hx=>by have c0:=HS.out x hx;go_simp) ?_;simp only[Yaa];refine Yab (v:=?vb6) (by kernel_rfl) ?m ?_;(case m=>(intro x _;go_simp;try with_reducible rfl));simp only[Yaa]
 refine Yab (v:=?vb7) (by kernel_rfl) ?m ?_;(case m=>(intro x _;go_simp;try with_reducible rfl));simp only[Yaa];refine Yab (v:=?vb8) (by kernel_rfl) ?m ?_;(case m=>(intro x _;go_simp;try with_reducible rfl));simp only[Yaa];refine Yab (v:=?vb9) (by kernel_rfl) ?m ?_;(case m=>(intro x _;go_simp;try with_reducible rfl));simp only[Yaa]
 refine Yas 5 _ ⟨b,o+s1,none⟩ (.int .u8 z1) (by kernel_rfl) rfl rfl (fun x hx=>by have c0:=P1.out x hx;go_simp) ?_;simp only[Yaa];refine Yab (v:=?vb11) (by kernel_rfl) ?m ?_;(case m=>(intro x _;go_simp;try with_reducible rfl));simp only[Yaa];refine Yab (v:=?vb12) (by kernel_rfl) ?m ?_;(case m=>(intro x _;go_simp;try with_reducible rfl));simp only[Yaa]
 refine Yab (v:=?vb13) (by kernel_rfl) ?m ?_;(case m=>(intro x _;go_simp;try with_reducible rfl));simp only[Yaa];refine Ybi fun x hx=>?_
 go_wp2
 refine Yan (S:=fun x=>Below w.heap.size w x) 18 (by kernel_rfl) (by kernel_rfl) hx.drew ?_;simp only[List.take_succ_cons,List.take_zero,List.drop_succ_cons,List.drop_zero];refine Yas 22 _ ⟨r2,0,none⟩ (.slice (some ⟨b,o,none⟩) n c) (by kernel_rfl) rfl rfl (fun x hx=>by have c0:=HS.out x hx;go_simp) ?_;simp only[Yaa]
 refine Yab (v:=?vc1) (by kernel_rfl) ?m ?_;(case m=>(intro x _;go_simp;try with_reducible rfl));simp only[Yaa];refine Yab (v:=?vc2) (by kernel_rfl) ?m ?_;(case m=>(intro x _;go_simp;try with_reducible rfl));simp only[Yaa];refine Yab (v:=?vc3) (by kernel_rfl) ?m ?_;(case m=>(intro x _;go_simp;try with_reducible rfl));simp only[Yaa]
 refine Yab (v:=?vc4) (by kernel_rfl) ?m ?_;(case m=>(intro x _;go_simp;try with_reducible rfl));simp only[Yaa];refine Yas 5 _ ⟨b,o+s2,none⟩ (.int .u8 z2) (by kernel_rfl) rfl rfl (fun x hx=>by have c0:=P2.out x hx;go_simp) ?_;simp only[Yaa];refine Yab (v:=?vc6) (by kernel_rfl) ?m ?_;(case m=>(intro x _;go_simp;try with_reducible rfl));simp only[Yaa]
 refine Yas 22 _ ⟨r2,0,none⟩ (.slice (some ⟨b,o,none⟩) n c) (by kernel_rfl) rfl rfl (fun x hx=>by have c0:=HS.out x hx;go_simp) ?_;simp only[Yaa];refine Yab (v:=?vc8) (by kernel_rfl) ?m ?_;(case m=>(intro x _;go_simp;try with_reducible rfl));simp only[Yaa];refine Yab (v:=?vc9) (by kernel_rfl) ?m ?_;(case m=>(intro x _;go_simp;try with_reducible rfl));simp only[Yaa]
 refine Yab (v:=?vc10) (by kernel_rfl) ?m ?_;(case m=>(intro x _;go_simp;try with_reducible rfl));simp only[Yaa];refine Yab (v:=?vc11) (by kernel_rfl) ?m ?_;(case m=>(intro x _;go_simp;try with_reducible rfl));simp only[Yaa];refine Yab (v:=?vc12) (by kernel_rfl) ?m ?_;(case m=>(intro x _;go_simp;try with_reducible rfl));simp only[Yaa]
 refine Yab (v:=?vc13) (by kernel_rfl) ?m ?_;(case m=>(intro x _;go_simp;try with_reducible rfl));simp only[Yaa];refine Yas 5 _ ⟨b,o+s3,none⟩ (.int .u8 z3) (by kernel_rfl) rfl rfl (fun x hx=>by have c0:=P3.out x hx;go_simp) ?_;simp only[Yaa];refine Yab (v:=?vc15) (by kernel_rfl) ?m ?_;(case m=>(intro x _;go_simp;try with_reducible rfl));simp only[Yaa]
 refine Yab (v:=?vc16) (by kernel_rfl) ?m ?_;(case m=>(intro x _;go_simp;try with_reducible rfl));simp only[Yaa];refine Yab (v:=?vc17) (by kernel_rfl) ?m ?_;(case m=>(intro x _;go_simp;try with_reducible rfl));simp only[Yaa];refine Ybi fun x hx=>?_
 go_wp2_with (with_reducible refine(hr.out _).mono ?_;rintro e w1 ⟨rfl,rfl⟩)
 go_ret
 exact⟨rfl,hx⟩
theorem Yun {w:World}{lo:Nat}{s v:Value}{W n:Nat}{f:Nat→Int}(hs:Ydi w lo s v W)(hv:Yiq w v n f)(hn:n≤1073741824)(x y:Nat)(hy:y≤10000)(hin:y / 2*W+x / 2+y%2*W+x%2<n):
  ∃r1 r2,s=.func (.func 133) #[] #[.pointer (some ⟨r1,0,none⟩),.pointer (some ⟨r2,0,none⟩)]∧Calls Tryz.prog 133 #[.int .i64 (x:Int),.int .i64 (y:Int),.pointer (some ⟨r1,0,none⟩),.pointer (some ⟨r2,0,none⟩)] w fun e w'=>e=.returned (.int .i64 (Ynk f W x y))∧Below w.heap.size w w':=by
 obtain⟨r1,r2,rfl,h1,h2,-⟩:=hs;obtain⟨p,c,rfl,-,h⟩:=hv;rcases h with h|⟨b,o,rfl,h⟩
 ·omega
 ·exact⟨r1,r2,rfl,Yst r1 r2 b o n c W x y f w h1 h2 hn hy h hin⟩
def Ynd (f:Nat→Int)(W L T:Nat):Nat→Int:=fun i=>Ynk f W (L+2*(i%8)) (T+2*(i / 8))
def InT (n W L T:Nat):Prop:=∀i,i<64→(T+2*(i / 8)) / 2*W+(L+2*(i%8)) / 2+(T+2*(i / 8))%2*W+(L+2*(i%8))%2<n
set_option maxRecDepth 100000 in
set_option maxHeartbeats 8000000 in
theorem Yq8 (s v:Value)(W n cl ln L T:Nat)(f:Nat→Int)(a b:Int)(w:World)(lo:Nat)(hs:Ydi w lo s v W)(hv:Yiq w v n f)(hn:n≤1073741824)(hcl:cl≤1000)(hln:ln≤1000)(hL:16*(cl:Int)+a=(L:Int))(hT:16*(ln:Int)+b=(T:Int))(hL2:L≤9000)(hT2:T≤9000)(hin:InT n W L T):
  Calls Tryz.prog 106 #[s,.int .i64 (cl:Int),.int .i64 (ln:Int),.agg (Yh4 a b)] w fun e w'=>e=.returned (.agg (Ya7 (Ynd f W L T)))∧Below w.heap.size w w':=by
 obtain⟨B,wA,wB,wC,hB,hwA,hwB,hwC,hzA,hzB,hzC,hC0,hC1,hC2,hbC⟩:=Yic w (.cells (Yh4 a b) 43 (0,0)) (.cells (Ya7 fun _=>0) 60 (0,0)) (.cells (Ya7 fun _=>0) 60 (0,0))
 replace hC2:wC.heap[B+2]? =some (Yf5 (Ybn (Ynd f W L T) 0)):=hC2
 have HT:=Lib.hid (fun(x:World) (hx:Below B w x) (i:Nat) (hi:i<64)=>Yun (hs.below (by rw[hB];exact hx)) (hv.below (by rw[hB];exact hx)) hn (L+2*(i%8)) (T+2*(i / 8)) (by omega) (hin i hi));obtain⟨r1,r2,rfl,-⟩:=hs;have HP:=Lib.hid (fun(x:World) (hx:Below B w x) (i:Nat) (hi:i<64)=>(by
  obtain⟨q1,q2,e,c⟩:=HT.out x hx i hi;simp at e;obtain⟨rfl,rfl⟩:=e;exact c:Calls Tryz.prog 133 #[.int .i64 ((L+2*(i%8):Nat):Int),.int .i64 ((T+2*(i / 8):Nat):Int),.pointer (some ⟨r1,0,none⟩),.pointer (some ⟨r2,0,none⟩)] x fun e w'=>e=.returned (.int .i64 (Ynd f W L T i))∧Below x.heap.size x w'))
 clear HT;obtain⟨l0,l1⟩:=Ype hC0;have hC0':=hC0;have hz0:=Yb5;have HSY:(Ya7 fun _=>0).size=64:=Yam _;obtain⟨Y,hY⟩:∃Y,(Ya7 fun _=>0)=Y:=⟨_,rfl⟩;rw[hY] at hwB hwC hz0 HSY hC1;obtain⟨X,hX⟩:∃X,Yh4 a b=X:=⟨_,rfl⟩;have HS2:=Yem a b;rw[hX] at hwA HS2 hC0 ⊢;have u1:IntKind.i64.wrap (16*(cl:Int))=16*(cl:Int):=Ygx (by omega);have u2:IntKind.i64.wrap (16*(ln:Int))=16*(ln:Int):=Ygx (by omega)
 have u3:IntKind.i64.wrap (L:Int)=(L:Int):=Ybl (by omega);have u4:IntKind.i64.wrap (T:Int)=(T:Int):=Ybl (by omega);have HY:=Lib.hid hY;have HWA:=Lib.hid hwA;have HWB:=Lib.hid hwB;have HWC:=Lib.hid hwC;have HB:=Lib.hid hB;have HLL:=Lib.hid hL;have HTT:=Lib.hid hT;have HC:=Lib.hid (fun(x:World) (hx:Below (B+3) wC x)=>Ype ((hx.block B (by omega)).trans hC0'))
 clear hX hY hwA hwB hwC hB hin hv hC0' l0 l1
 go_enter Tryz.func106,Tryz.ntmps106
 go_wp2
 rw[HWA.out,HB.out,HWB.out,HWC.out];refine Yan (S:=fun x=>Below (B+3) wC x) 12 (by kernel_rfl) (by kernel_rfl) (Below.refl _ _).drew ?_;simp only[List.take_succ_cons,List.take_zero,List.drop_succ_cons,List.drop_zero];refine Yab (v:=?v0) (by kernel_rfl) ?m ?_;(case m=>(intro x _;go_simp;try with_reducible rfl));simp only[Yaa]
 refine Yab (v:=?v1) (by kernel_rfl) ?m ?_;(case m=>(intro x _;go_simp;try with_reducible rfl));simp only[Yaa];refine Yab (v:=?v2) (by kernel_rfl) ?m ?_;(case m=>(intro x _;go_simp;try with_reducible rfl));simp only[Yaa];refine Yas 3 _ ⟨B,0,none⟩ (.int .i64 a) (by kernel_rfl) rfl rfl (fun x hx=>by have c0:=(HC.out x hx).1;go_simp) ?_;simp only[Yaa]
 refine Yab (v:=?v4) (by kernel_rfl) ?m ?_;(case m=>(intro x _;go_simp;try with_reducible rfl));simp only[Yaa];refine Yab (v:=?v5) (by kernel_rfl) ?m ?_;(case m=>(intro x _;go_simp;try with_reducible rfl));simp only[Yaa];refine Yab (v:=?v6) (by kernel_rfl) ?m ?_;(case m=>(intro x _;go_simp;try with_reducible rfl));simp only[Yaa]
 refine Yab (v:=?v7) (by kernel_rfl) ?m ?_;(case m=>(intro x _;go_simp;try with_reducible rfl));simp only[Yaa];refine Yas 3 _ ⟨B,1,none⟩ (.int .i64 b) (by kernel_rfl) rfl rfl (fun x hx=>by have c0:=(HC.out x hx).2;go_simp) ?_;simp only[Yaa];refine Yab (v:=?v9) (by kernel_rfl) ?m ?_;(case m=>(intro x _;go_simp;try with_reducible rfl));simp only[Yaa]
 refine Yab (v:=?v10) (by kernel_rfl) ?m ?_;(case m=>(intro x _;go_simp;try with_reducible rfl));simp only[Yaa];refine Yab (v:=?v11) (by kernel_rfl) ?m ?_;(case m=>(intro x _;go_simp;try with_reducible rfl));simp only[Yaa];refine Ybi fun x hx=>?_;have h1:=(hx.block (B+1) (by omega)).trans hC1;have h2:=(hx.block (B+2) (by omega)).trans hC2;have hbx:=hbC.trans (hx.mono (by omega))
 have hzx:B+3≤x.heap.size:=by have:=hx.size;omega
 clear hC0 hC1 hC2 hbC hzA hzB hzC hL hT hx;have HQ:=Lib.hid (fun i=>show Ybn (Ynd f W L T) (i+1)=Ycw (Ybn (Ynd f W L T) i) i (Ynd f W L T i) from rfl);have HV64:=Lib.hid (Ywr (Ynd f W L T));obtain⟨g,hg⟩:∃g,Ynd f W L T=g:=⟨_,rfl⟩;rw[hg] at HP HQ HV64;have HG:=Lib.hid hg;clear hg
 go_wp2
 go_loopw [23] (fun z wr=>∃i:Nat,i≤64∧z=.int .i64 i∧wr.heap[B+1]? =some (.cells Y 60 (0,0))∧wr.heap[B+2]? =some (Yf5 (Ybn g i))∧Below B w wr∧B+3≤wr.heap.size) (fun z _=>64-(intOf z).toNat)
 case atStart=>exact⟨0,by omega,rfl,h1,h2,hbx,hzx⟩
 case round=>
  clear h1 h2 hbx hzx;obtain⟨i,hi64,rfl,h1,h2,hb,hz⟩:=hrel;by_cases hlt:i<64
  ·have t0:decide ((i:Int)<64)=true:=by simp;omega
   have cs:=HP.out wr hb i hlt;have e1:(i:Int).tmod 8=((i%8:Nat):Int):=by rw[Int.tmod_eq_emod_of_nonneg (by omega)];rfl
   have e2:(i:Int).tdiv 8=((i / 8:Nat):Int):=by rw[Int.tdiv_eq_ediv_of_nonneg (by omega)];rfl
   have e3:IntKind.i64.wrap ((i / 8:Nat):Int)=((i / 8:Nat):Int):=Ybl (by omega);have b1:i%8<8:=by omega
   have b2:i / 8<8:=by omega
   have S1:(L:Int)+((i%8:Nat):Int)*2=((L+2*(i%8):Nat):Int):=by omega
   have S2:(T:Int)+((i / 8:Nat):Int)*2=((T+2*(i / 8):Nat):Int):=by omega
   have S3:IntKind.i64.wrap ((L+2*(i%8):Nat):Int)=((L+2*(i%8):Nat):Int):=Ybl (by omega);have S4:IntKind.i64.wrap ((T+2*(i / 8):Nat):Int)=((T+2*(i / 8):Nat):Int):=Ybl (by omega);generalize L+2*(i%8)=xx at *;generalize T+2*(i / 8)=yy at *;generalize i%8=u at *;generalize i / 8=q at *;have S:=HQ.out i;generalize hy:g i=y at cs S
   go_wp2_with fail
   refine cs.mono ?_;rintro e x1 ⟨rfl,hb1⟩;have k1:=(hb1.block (B+1) (by omega)).trans h1;have k2:=(hb1.block (B+2) (by omega)).trans h2;have kb:=hb.trans (hb1.mono (by omega));have kz:B+3≤x1.heap.size:=by have:=hb1.size;omega
   have c2:=Yd2 k2 hlt;have ff:=Yfp (i:=i) k2;generalize Ybn g i i=y2 at c2
   have PUT:=Lib.hid (⟨Yba k1 (by simp),by rw[S];exact Yhb y k2,kb.setCell (by simp;omega) _,by simp[World.setCell];omega⟩:(x1.setCell ⟨B+1+1,i,none⟩ (.int .i64 y)).heap[B+1]? =some (.cells Y 60 (0,0))∧(x1.setCell ⟨B+1+1,i,none⟩ (.int .i64 y)).heap[B+2]? =some (Yf5 (Ybn g (i+1)))∧Below B w (x1.setCell ⟨B+1+1,i,none⟩ (.int .i64 y))∧B+3≤(x1.setCell ⟨B+1+1,i,none⟩ (.int .i64 y)).heap.size)
   clear h1 h2 hb hz k1 k2 kb kz S cs hb1 S1 S2 S3 S4
   go_wp2
   go_roundw
   case rel=>exact⟨i+1,by omega,by go_num,PUT.out⟩
   case measure=>simp[intOf] <;> omega
  ·obtain rfl:i=64:=by omega
   have t0:decide ((64:Int)<64)=false:=by simp
   obtain⟨V,hV⟩:∃V,Ya7 g=V:=⟨_,rfl⟩;have hV2:Ya7 (Ybn g 64)=V:=by rw[←hV];exact Yf4 HV64.out
   have HV:=Lib.hid hV;have h2':wr.heap[B+2]? =some (.cells V 60 (0,0)):=by rw[←hV2];exact h2
   have HSV:(Tryz.prog.info? 60).map (·.size)=some V.size:=by rw[←hV];exact Yau _
   have HOV:V.all (·.oneCell')=true:=by rw[←hV];exact Ybd _
   have HYV:Y.size=V.size:=by rw[←hV,HSY,Yam]
   clear hV hV2 h2
   go_wp2_with (first|(with_reducible refine wpList_load_row rfl 60 _ rfl (B+2) rfl 60 V (0,0) _ h2' Tryz.underlying60 rfl HSV ?_)|(with_reducible refine Yad rfl 60 _ _ rfl (B+1) V Y rfl rfl 60 h1 HSV HYV HOV ?_;intro w2 hh2 hg2))
   refine bodyPost_ret (results_cell_row rfl _ _ (B+1) 60 _ (0,0) _ rfl hh2 Tryz.underlying60 rfl HSV) rfl ?_;exact⟨by rw[HG.out,HV.out],by rw[HB.out];exact hb.grown hg2 (by omega) (fun k hk=>by injection hk with hk;omega)⟩
theorem Y0l {s1 s2:ByteArray}{b:Bool}(h:s1=s2↔b=true):(s1.toList==s2.toList)=b:=by
 rw[ByteArray.toList_eq,ByteArray.toList_eq];cases b with
 |true=>
  rw[h.2 rfl];simp
 |false=>
  refine beq_eq_false_iff_ne.2 fun e=>?_;have:=h.1 (Go.WideShapes.bytes_inj e);cases this
theorem Yum {k k':Int}{n n':Nat→Nat}{f f':Nat→Nat→Int}{p:Nat}(hp:p<3)(e:Yea (n p) (f p) (n' p) (f' p)=false):Ygd k n f k' n' f'=false:=by
 cases hq:Ygd k n f k' n' f' with
 |false=>rfl
 |true=>
  have h:=(Ydx.1 hq).2 p hp;rw[e] at h;cases h
theorem Yul {k k':Int}{n n':Nat→Nat}{f f':Nat→Nat→Int}(h:∀p,p<3→Yea (n p) (f p) (n' p) (f' p)=true):Ygd k n f k' n' f'=decide (k=k'):=by
 by_cases e:k=k'
 ·rw[decide_eq_true e];exact Ydx.2 ⟨e,h⟩
 ·rw[decide_eq_false e];cases hq:Ygd k n f k' n' f' with
  |false=>rfl
  |true=>exact absurd (Ydx.1 hq).1 e
theorem Yqt {n n':Nat→Nat}{f f':Nat→Nat→Int}{i:Nat}(h:∀p,p<i→Yea (n p) (f p) (n' p) (f' p)=true)(e:Yea (n i) (f i) (n' i) (f' i)=true):∀p,p<i+1→Yea (n p) (f p) (n' p) (f' p)=true:=by
 intro p hp;by_cases h1:p=i
 ·subst h1;exact e
 ·exact h p (by omega)
set_option maxRecDepth 100000 in
theorem Ypy (v1 v2:Value)(n1 n2:Nat)(f1 f2:Nat→Int)(w:World)(h1:Yiq w v1 n1 f1)(h2:Yiq w v2 n2 f2):Calls Tryz.prog 20 #[v1,v2] w fun e w'=>e=.returned (.bool (Yea n1 f1 n2 f2))∧w=w':=by
 have t1:=h1.text;have t2:=h2.text;have hs:=Lib.hid (Y0l (Yr4 h1.range h2.range));generalize Yvr n1 f1=s1 at *;generalize Yvr n2 f2=s2 at *;clear h1 h2
 go_enter Tryz.func20,Tryz.ntmps20
 go_wp2
 go_ret
 exact⟨Yae hs.out,rfl⟩
set_option maxRecDepth 100000 in
set_option maxHeartbeats 4000000 in
theorem Yhh (k k':Int)(v v':Nat→Value)(n n':Nat→Nat)(f f':Nat→Nat→Int)(w:World)(h:Ygh w v n f)(h':Ygh w v' n' f'):
  Calls Tryz.prog 10 #[.agg (frA k v),.agg (frA k' v')] w fun e w'=>e=.returned (.bool (Ygd k n f k' n' f'))∧Below w.heap.size w w':=by
 obtain⟨B,wA,wB,hB,hwA,hwB,hzA,hzB,hC0,hC1,hbC⟩:=Ygs w (.cells (frA k v) 25 (0,0)) (.cells (frA k' v') 25 (0,0));have HF0:=Lib.hid (fun(x:World) (hx:Below (B+2) wB x)=>(⟨Ybj (T:=25) (v:=v) ((hx.block B (by omega)).trans hC0),Ybj (T:=25) (v:=v') ((hx.block (B+1) (by omega)).trans hC1)⟩:x.cell? ⟨B,0,none⟩=some (.int .i64 k)∧x.cell? ⟨B+1,0,none⟩=some (.int .i64 k')))
 have HF:=Lib.hid (fun(p:Nat) (hp:p<3) (x:World) (hx:Below (B+2) wB x)=>(⟨Yco (T:=25) (k:=k) ((hx.block B (by omega)).trans hC0) hp,Yco (T:=25) (k:=k') ((hx.block (B+1) (by omega)).trans hC1) hp⟩:x.cell? ⟨B,1+p,none⟩=some (v p)∧x.cell? ⟨B+1,1+p,none⟩=some (v' p)));have hbw:∀x,Below (B+2) wB x→Below w.heap.size w x:=fun x hx=>by rw[hB];exact hbC.trans (hx.mono (by omega))
 have HC:=Lib.hid (fun(p:Nat) (hp:p<3) (x:World) (hx:Below (B+2) wB x)=>((Ypy (v p) (v' p) _ _ _ _ x ((h p hp).below (hbw x hx)) ((h' p hp).below (hbw x hx))).mono fun e y h=>⟨h.1,h.2▸hx⟩:Calls Tryz.prog 20 #[v p,v' p] x fun e y=>e=.returned (.bool (Yea (n p) (f p) (n' p) (f' p)))∧Below (B+2) wB y));have HW:=Lib.hid hbw;have hS0:Below (B+2) wB wB:=Below.refl _ _;generalize frA k v=X at *
 generalize frA k' v'=X' at *;have HWA:=Lib.hid hwA;have HWB:=Lib.hid hwB;have HB:=Lib.hid hB;clear hwA hwB hB h h' hbC hbw hC0 hC1 hzA hzB
 go_enter Tryz.func10,Tryz.ntmps10
 go_wp2
 rw[HWA.out,HB.out,HWB.out]
 go_loopw [6] (fun z wr=>∃i:Nat,i≤3∧z=.int .i64 i∧Below (B+2) wB wr∧Hid (∀p,p<i→Yea (n p) (f p) (n' p) (f' p)=true)) (fun z _=>3-(intOf z).toNat)
 case atStart=>exact⟨0,by omega,rfl,hS0,fun p hp=>by omega⟩
 case round=>
  clear hS0;obtain⟨i,hi,rfl,hx,HH⟩:=hrel;have c00:=HF0.out wr hx;by_cases hlt:i<3
  ·have t0:decide ((i:Int)<3)=true:=by simp;omega
   have H1:=Lib.hid (HF.out i hlt);have C1:=Lib.hid (HC.out i hlt);have HH2:=Lib.hid (fun e=>Yqt (n:=n) (n':=n') (f:=f) (f':=f') HH.out e);have HH3:=Lib.hid (fun e=>Yum (k:=k) (k':=k') (n:=n) (n':=n') (f:=f) (f':=f') hlt e);generalize Yea (n i) (f i) (n' i) (f' i)=y at C1 HH2 HH3;clear c00;generalize v i=a at *;generalize v' i=b at *
   go_wp2
   refine Yan (S:=fun x=>Below (B+2) wB x) 10 (by kernel_rfl) (by kernel_rfl) hx.drew ?_;simp only[List.take_succ_cons,List.take_zero,List.drop_succ_cons,List.drop_zero];refine Yab (v:=?v0) (by kernel_rfl) ?m ?_;(case m=>(intro x _;go_simp;try with_reducible rfl));simp only[Yaa];refine Yab (v:=?v1) (by kernel_rfl) ?m ?_;(case m=>(intro x _;go_simp;try with_reducible rfl));simp only[Yaa]
   refine Yab (v:=?v2) (by kernel_rfl) ?m ?_;(case m=>(intro x _;go_simp;rw[if_pos (by omega)]));simp only[Yaa];refine Yas 22 _ ⟨B,1+i,none⟩ (a) (by kernel_rfl) rfl rfl (fun x hx=>by have c0:=(H1.out x hx).1;go_simp) ?_;simp only[Yaa];refine Yab (v:=?v4) (by kernel_rfl) ?m ?_;(case m=>(intro x _;go_simp;try with_reducible rfl));simp only[Yaa]
   refine Yab (v:=?v5) (by kernel_rfl) ?m ?_;(case m=>(intro x _;go_simp;try with_reducible rfl));simp only[Yaa];refine Yab (v:=?v6) (by kernel_rfl) ?m ?_;(case m=>(intro x _;go_simp;rw[if_pos (by omega)]));simp only[Yaa];refine Yas 22 _ ⟨B+1,1+i,none⟩ (b) (by kernel_rfl) rfl rfl (fun x hx=>by have c0:=(H1.out x hx).2;go_simp) ?_;simp only[Yaa]
   refine Ya5 (by kernel_rfl) C1.out (fun _=>by kernel_rfl) ?_;simp only[Yaa];refine Yab (v:=?v9) (by kernel_rfl) ?m ?_;(case m=>(intro x _;go_simp;try with_reducible rfl));simp only[Yaa];refine Ybi fun x hx=>?_;cases y with
   |true=>
    go_wp2
    go_roundw
    case rel=>exact⟨i+1,by omega,by go_num,hx,HH2.out rfl⟩
    case measure=>simp[intOf];omega
   |false=>
    go_wp2
    go_ret
    exact⟨Yae (HH3.out (by trivial)).symm,HW.out _ hx⟩
  ·obtain rfl:i=3:=by omega
   have t0:decide ((3:Int)<3)=false:=by simp
   have HE:=Lib.hid (Yul (k:=k) (k':=k') HH.out);obtain⟨c0,c1⟩:=c00
   go_wp2
   go_ret
   exact⟨Yae (by rw[HE.out];rfl),HW.out _ hx⟩
end Go.Proofs.YtnamlooifcpoaaaGreatDoor