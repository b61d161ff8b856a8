/- No condition. -/
import Derived.Test.YtndbeacoaimdgaaDoorQuantsOfMf
import Derived.Test.YtndbeacoaimdgaaDoorQuantsOfMbi
import Derived.Test.YtndbeacoaimdgaaDoorQuantsOfMbm
import Derived.Test.YtndbeacoaimdgaaDoorQuantsOfMbr
import Derived.WalkMore
namespace Go.Proofs.YtndbeacoaimdgaaDoor
open Go.RowKit Go.Lib
def exQA:Cel:={Yrg with kind:=3,dc:=fun _=>9}
def Ypz:Cel:={Yrg with kind:=4,step:=2,dc:=fun _=>9}
def exQ:ShP:=⟨⟨0,0,6,false,5,[]⟩,[⟨false,0,0,[Ypz,exQA]⟩,⟨true,0,9,[exQA,exQA]⟩],0⟩
theorem Yna:Ya5 exQ=0∧Yiy exQ=[7,7,9,9]∧Yi1 exQ=[5,9]:=by decide +kernel
theorem Yog {w:World}{b b1 b2:Nat}{r s:RowP}(h:w.heap[b]? =some (.cells [.bool r.head,.int .i64 r.id,.int .i64 r.quant,.slice (some ⟨b1,0,none⟩) 2 2,.bool s.head,.int .i64 s.id,.int .i64 s.quant,.slice (some ⟨b2,0,none⟩) 2 2].toArray 36 (0,0)))
  (hl:r.cels.length=2)(hm:s.cels.length=2)(h1:Yex w (some ⟨b1,0,none⟩) r.cels)(h2:Yex w (some ⟨b2,0,none⟩) s.cels):Ybo w (some ⟨b,0,none⟩) [r,s]:=by
 refine .inr ⟨b,0,rfl,(Array.getElem?_eq_some_iff.1 h).1,fun i hi=>?_⟩
 match i,hi with
 |0,_=>
  refine⟨[.bool r.head,.int .i64 r.id,.int .i64 r.quant,.slice (some ⟨b1,0,none⟩) 2 2],⟨some ⟨b1,0,none⟩,2,(by show _=[Value.bool r.head,.int .i64 r.id,.int .i64 r.quant,.slice _ r.cels.length 2];rw[hl]),(fun h=>by cases h),(by show r.cels.length≤_;rw[hl];decide),h1⟩,fun j v hj=>?_⟩
  match j,hj with
  |0,hj|1,hj|2,hj|3,hj=>injection hj with hj;subst hj;exact Yac h rfl
 |1,_=>
  refine⟨[.bool s.head,.int .i64 s.id,.int .i64 s.quant,.slice (some ⟨b2,0,none⟩) 2 2],⟨some ⟨b2,0,none⟩,2,(by show _=[Value.bool s.head,.int .i64 s.id,.int .i64 s.quant,.slice _ s.cels.length 2];rw[hm]),(fun h=>by cases h),(by show s.cels.length≤_;rw[hm];decide),h2⟩,fun j v hj=>?_⟩
  match j,hj with
  |0,hj|1,hj|2,hj|3,hj=>injection hj with hj;subst hj;exact Yac h rfl
theorem Yfz {w:World}{b:Nat}(l:List Int)(h:w.heap[b]? =some (.cells (Yfe l).toArray 3 (0,0))):Ybg w (some ⟨b,0,none⟩) l:=
 .inr ⟨b,0,rfl,(Array.getElem?_eq_some_iff.1 h).1,fun i hi=>by
  rw[Nat.zero_add];exact Yac h (by simp[Yfe,List.getD,hi])⟩
theorem Ypn:∃Y:Array Value,Y.size=6∧∀w,(zeroValue 39).run Tryd.prog w=.ok (.agg Y) w:=⟨#[.int .i64 0,.int .i64 0,.int .i64 0,.int .i64 0,.int .i64 0,.int .i64 0],rfl,Yeb (by kernel_rfl)⟩
set_option maxRecDepth 100000 in
set_option maxHeartbeats 2000000 in
theorem Yql (w:World)(ht:Yeq w)(hs:Ybe w):Calls Tryd.prog 6 #[] w fun e w'=>e=.returned (.bool true)∧Below w.heap.size w w':=by
 obtain⟨N,hN⟩:∃N,w.heap.size=N:=⟨_,rfl⟩;obtain⟨Y,HYS,hzv⟩:=Yeg;obtain⟨Ys,HYSS,hzs⟩:=Ykb;obtain⟨Y6,HY6S,hz6⟩:=Ypn;obtain⟨A6,hA6⟩:∃A:Array Value,#[.int .i64 9,.int .i64 9,.int .i64 9,.int .i64 9,.int .i64 9,.int .i64 9]=A:=⟨_,rfl⟩;obtain⟨A,hA⟩:∃A,(Ybw exQA Yh8).toArray=A:=⟨_,rfl⟩;obtain⟨w0,hw0,hs0,hh0,hb0⟩:=Yb5 w (.cells A6 39 (0,0));obtain⟨w1,hw1,hs1,hh1,hb1⟩:=Yb5 w0 (.cells A 42 (0,0))
 obtain⟨w2,hw2,hs2,hh2,hb2⟩:=Yb5 w1 (.cells (Ybw Ypz Yh8++Ybw exQA Yh8).toArray 42 (0,0));obtain⟨w3,hw3,hs3,hh3,hb3⟩:=Yb5 w2 (.cells (Ybw exQA Yh8++Ybw exQA Yh8).toArray 42 (0,0));obtain⟨w4,hw4,hs4,hh4,hb4⟩:=Yb5 w3 (.cells #[.bool false,.int .i64 0,.int .i64 0,.slice (some ⟨N+2,0,none⟩) 2 2,.bool true,.int .i64 0,.int .i64 9,.slice (some ⟨N+3,0,none⟩) 2 2] 36 (0,0))
 obtain⟨Z1,hZ1⟩:∃Z:Array Value,#[.int .i64 0,.int .i64 0,.int .i64 6,.bool false,.int .i64 5,.slice none 0 0,.slice (some ⟨N+4,0,none⟩) 2 2,.int .i64 0]=Z:=⟨_,rfl⟩;obtain⟨w5,hw5,hs5,hh5,hb5⟩:=Yb5 w4 (.cells Z1 25 (0,0));rw[hN] at hs0 hh0 hb0;rw[hs0] at hs1 hh1 hb1;rw[hs1] at hs2 hh2 hb2;rw[hs2] at hs3 hh3 hb3;rw[hs3] at hs4 hh4 hb4;rw[hs4] at hs5 hh5 hb5;have hs1:w1.heap.size=N+2:=hs1
 have hs2:w2.heap.size=N+3:=hs2;have hs3:w3.heap.size=N+4:=hs3;have hs4:w4.heap.size=N+5:=hs4;have hs5:w5.heap.size=N+6:=hs5;have h60:=hh0;have h61:=(hb1.block N (by omega)).trans hh0;have hA1:=hh1;have hA2:=(hb2.block (N+1) (by omega)).trans hh1;have hA3:=(hb3.block (N+1) (by omega)).trans hA2;have b45:Below (N+4) w4 w5:=hb5.mono (by omega);have b35:Below (N+4) w3 w5:=hb4.trans b45
 have b25:Below (N+3) w2 w5:=(hb3.trans (b35.mono (by omega))).mono (by omega);have b15:Below (N+2) w1 w5:=(hb2.trans (b25.mono (by omega))).mono (by omega);have b05:Below (N+1) w0 w5:=(hb1.trans (b15.mono (by omega))).mono (by omega);have bw5:Below N w w5:=hb0.trans (b05.mono (by omega));have hmA:(Lit.int .i64 exQA.mx).wf=true∧(Lit.int .i64 exQA.my).wf=true:=by decide
 have hmI:(Lit.int .i64 Ypz.mx).wf=true∧(Lit.int .i64 Ypz.my).wf=true:=by decide
 have hR1:∀x,Below (N+6) w5 x→Ybo x (some ⟨N+4,0,none⟩) exQ.rows:=fun x hx=>
  Yog (r:=⟨false,0,0,[Ypz,exQA]⟩) (s:=⟨true,0,9,[exQA,exQA]⟩) ((hx.block (N+4) (by omega)).trans ((hb5.block (N+4) (by omega)).trans hh4)) rfl rfl
   (Yk8 hmI hmA (fun _ _=>rfl) (fun _ _=>rfl) ((hx.block (N+2) (by omega)).trans ((b25.block (N+2) (by omega)).trans hh2)))
   (Yk8 hmA hmA (fun _ _=>rfl) (fun _ _=>rfl) ((hx.block (N+3) (by omega)).trans ((b35.block (N+3) (by omega)).trans hh3)))
 have hE1:∀c∈Ya3 exQ,∀k,k<6→(c.ev k).length≤1048576:=fun c hc k _=>by
  have:c=Ypz∨c=exQA:=by simpa [Ya3,exQ] using hc
  rcases this with rfl|rfl <;> exact Nat.zero_le _
 have hZ8:∀x,Below (N+6) w5 x→x.heap[N+5]? =some (.cells Z1 25 (0,0))∧Below N w x:=fun x hx=>⟨(hx.block (N+5) (by omega)).trans hh5,bw5.trans (hx.mono (by omega))⟩
 have ask:∀i x,Below (N+6) w5 x→Ycl x i:=fun i x hx c p n k y hy hc=>Yfw i c p n k y hc (ht.below (by rw[hN];exact(hZ8 x hx).2.trans (hy.mono (by have:=(hZ8 x hx).2.size;omega)))) (hs.below (by rw[hN];exact(hZ8 x hx).2.trans (hy.mono (by have:=(hZ8 x hx).2.size;omega))))
 have K:∀(x y:World),Below (N+6) w5 x→Below x.heap.size x y→Below (N+6) w5 y:=fun x y hx hy=>hx.trans (hy.mono (by have:=hx.size;omega));have CO:=fun x (hx:Below (N+6) w5 x)=>Yk2 exQ none (some ⟨N+4,0,none⟩) 0 2 x (Nat.zero_le _) (by decide) (Ybg.nil _ _) (hR1 x hx) (by decide) hE1 (ask _ x hx);unfold Yfm at CO;rw[Yna.1,Yna.2.1,Yna.2.2] at CO;have C1:=Lib.hid (fun x (hx:Below (N+6) w5 x)=>(by
  rw[←hZ1];refine(CO x hx).1.mono ?_;rintro e y ⟨v,rfl,ho,hb⟩;obtain⟨q,cap,rfl,hi⟩:=Yc2 (l:=[7,7,9,9]) (n:=4) rfl ho;exact⟨q,cap,rfl,hi,K x y hx hb⟩:Calls Tryd.prog 7 #[.agg Z1] x fun e y=>∃q cap,e=.returned (.tuple #[.slice q 4 cap,.int .i64 0])∧Ybg y q [7,7,9,9]∧Below (N+6) w5 y))
 have C2:=Lib.hid (fun x (hx:Below (N+6) w5 x)=>(by
  rw[←hZ1];refine(CO x hx).2.mono ?_;rintro e y ⟨v,rfl,ho,hb⟩;obtain⟨q,cap,rfl,hi⟩:=Yc2 (l:=[5,9]) (n:=2) rfl ho;exact⟨q,cap,rfl,hi,K x y hx hb,hb⟩:Calls Tryd.prog 8 #[.agg Z1] x fun e y=>∃q cap,e=.returned (.tuple #[.slice q 2 cap,.int .i64 0])∧Ybg y q [5,9]∧Below (N+6) w5 y∧Below x.heap.size x y))
 have HSA6:(Tryd.prog.info? 39).map (·.size)=some A6.size:=by rw[←hA6];kernel_rfl
 have HYA6:Y6.size=A6.size:=by rw[HY6S,←hA6];rfl
 have HOA6:A6.all (·.oneCell')=true:=by rw[←hA6];simp[Value.oneCell']
 have HSA:(Tryd.prog.info? 42).map (·.size)=some A.size:=by rw[←hA];exact Yii _ _
 have HYA:Y.size=A.size:=by rw[HYS,←hA];rfl
 have HOA:A.all (·.oneCell')=true:=by rw[←hA];exact Yel (Yjy w exQA hmA fun _ _=>rfl)
 have HSZ1:(Tryd.prog.info? 25).map (·.size)=some Z1.size:=by rw[←hZ1];kernel_rfl
 have HYZ1:Ys.size=Z1.size:=by rw[HYSS,←hZ1];rfl
 have HOZ1:Z1.all (·.oneCell')=true:=by rw[←hZ1];simp[Value.oneCell']
 have hh44:(w3.alloc (.cells #[.bool false,.int .i64 0,.int .i64 0,.slice (some ⟨N+2,0,none⟩) 2 2,.bool true,.int .i64 0,.int .i64 9,.slice (some ⟨N+3,0,none⟩) 2 2] 36 (0,0))).heap.size=N+4+1:=by rw[hw4,hs4]
 have hS8:Below (N+6) w5 w5:=Below.refl _ _;have HA:=Lib.hid hA;have HA6:=Lib.hid hA6;have HN:=Lib.hid hN;have HW0:=Lib.hid hw0;have HW1:=Lib.hid hw1;have HW2:=Lib.hid hw2;have HW3:=Lib.hid hw3;have HW4:=Lib.hid hw4;have HW5:=Lib.hid hw5;have HZ1:=Lib.hid hZ1;have S44:=Lib.hid hh44;have HZ8:=Lib.hid hZ8;have HS0:=Lib.hid hs0;have q5:=(hZ8 _ hS8).1
 clear hA hA6 hN hZ1 hw0 hw1 hw2 hw3 hw4 hw5 hh1 hh2 hh3 hh4 hh5 hb0 hb1 hb2 hb3 hb4 hb5 b45 b35 b25 b15 b05 bw5 hmA hmI hE1 ask K hR1 hs4 hs5 hh44 ht hs CO hZ8 hh0
 go_enter Tryd.func6,Tryd.ntmps6
 go_wp2_with (first
  |(with_reducible refine wpList_buildTo rfl 39 _ rfl (some 9) rfl #[.int .i64 9,.int .i64 9,.int .i64 9,.int .i64 9,.int .i64 9,.int .i64 9] (by kernel_rfl) ?_;rw[HA6.out])
  |(with_reducible refine Ya1 rfl 39 _ _ rfl A6 Y6 39 rfl rfl HSA6 HYA6 HOA6 ?_;rw[HW0.out,HN.out])
  |(with_reducible refine wpList_load_row rfl 39 _ rfl N rfl 39 A6 (0,0) _ h60 Tryd.underlying39 rfl HSA6 ?_)
  |(with_reducible refine wpList_load_row rfl 39 _ rfl N rfl 39 A6 (0,0) _ h61 Tryd.underlying39 rfl HSA6 ?_)
  |(with_reducible refine wpList_buildTo rfl 42 _ rfl (some 11) rfl (Ybw exQA Yh8).toArray (by rw[←HA6.out];kernel_rfl) ?_;rw[HA.out])
  |(with_reducible refine wpList_buildTo rfl 42 _ rfl (some 13) rfl (Ybw Ypz Yh8).toArray (by rw[←HA6.out];kernel_rfl) ?_)
  |(with_reducible refine Ydh rfl 42 _ _ rfl A Y 42 (N+1) HS0.out rfl rfl HSA HYA HOA ?_;rw[HW1.out])
  |(with_reducible refine wpList_load_row rfl 42 _ rfl (N+1) rfl 42 A (0,0) _ hA1 Tryd.underlying42 rfl HSA ?_)
  |(with_reducible refine wpList_load_row rfl 42 _ rfl (N+1) rfl 42 A (0,0) _ hA2 Tryd.underlying42 rfl HSA ?_)
  |(with_reducible refine Ydg rfl _ _ rfl Ypz exQA Yh8 Yh8 (N+2) hs1 15 rfl ?d1 ?d2 ?_;(case d1=>kernel_rfl);(case d2=>(rw[HA.out];kernel_rfl));rw[HW2.out])
  |(with_reducible refine Ydg rfl _ _ rfl exQA exQA Yh8 Yh8 (N+3) hs2 20 rfl ?d3 ?d4 ?_;(case d3=>(rw[HA.out];kernel_rfl));(case d4=>(rw[HA.out];kernel_rfl));rw[HW3.out])
  |(with_reducible refine wpList_buildTo rfl 25 _ rfl (some 23) rfl #[.int .i64 0,.int .i64 0,.int .i64 6,.bool false,.int .i64 5,.slice none 0 0,.slice (some ⟨N+4,0,none⟩) 2 2,.int .i64 0] (by kernel_rfl) ?_;rw[HZ1.out])
  |(with_reducible refine Ydh rfl 25 _ _ rfl Z1 Ys 25 (N+4+1) S44.out rfl rfl HSZ1 HYZ1 HOZ1 ?_;rw[HW4.out,HW5.out])
  |(with_reducible refine wpList_load_row rfl 25 _ rfl (N+5) rfl 25 Z1 (0,0) _ q5 Tryd.underlying25 rfl HSZ1 ?_))
 refine(C1.out _ hS8).mono ?_;rintro e x1 ⟨qa,capa,rfl,hia,hx1⟩;have q6:=(HZ8.out _ hx1).1;clear q5 hS8
 go_wp2_with (with_reducible refine wpList_load_row rfl 25 _ rfl (N+1+1+1+1+1) rfl 25 Z1 (0,0) _ q6 Tryd.underlying25 rfl HSZ1 ?_)
 refine(C2.out _ hx1).mono ?_;rintro e x2 ⟨qb,capb,rfl,hib,hx2,hb2⟩;obtain⟨x3,hx3,hsx3,hh3,hb3⟩:=Yb5 x2 (.cells #[.int .i64 7,.int .i64 7,.int .i64 9,.int .i64 9] 3 (0,0));have hia3:=(hia.below hb2).below hb3;have hib3:=hib.below hb3;have sm:=Ydl [7,7,9,9] qa (some ⟨x2.heap.size,0,none⟩) capa 4 x3 hia3 (Yfz [7,7,9,9] hh3) (by decide)
 have hbx3:Below (N+6) w5 x3:=hx2.trans (hb3.mono (by have:=hx2.size;omega));have HX3:=Lib.hid hx3;clear hx3 hia hib hb2 hx2 hx1 q6 hia3 hh3 hsx3 hb3
 go_wp2_with fail
 rw[HX3.out];refine sm.mono ?_;rintro e x4 ⟨rfl,hb4⟩;obtain⟨x5,hx5,hsx5,hh5,hb5⟩:=Yb5 x4 (.cells #[.int .i64 5,.int .i64 9] 3 (0,0));have sm2:=Ydl [5,9] qb (some ⟨x4.heap.size,0,none⟩) capb 2 x5 ((hib3.below hb4).below hb5) (Yfz [5,9] hh5) (by decide);have hbx5:Below (N+6) w5 x5:=(hbx3.trans (hb4.mono (by have:=hbx3.size;omega))).trans (hb5.mono (by have:=hbx3.size;have:=hb4.size;omega))
 have HX5:=Lib.hid hx5;clear hx5 hib3 hb4 hbx3 sm hh5 hsx5 hb5
 go_wp2_with fail
 rw[HX5.out];refine sm2.mono ?_;rintro e x6 ⟨rfl,hb6⟩;have hE:Below (N+6) w5 x6:=hbx5.trans (hb6.mono (by have:=hbx5.size;omega));have hF:=(HZ8.out _ hE).2
 go_wp2
 go_ret
 exact⟨rfl,by rw[HN.out];exact hF⟩
def Ypw (l:List Int)(E:Int)(B:Nat)(wA x:World)(e:Ending)(y:World):Prop:=
 ∃(q:Option Addr) (cap:Nat),e=.returned (.tuple #[.slice q l.length cap,.int .i64 E])∧Ybg y q l∧Below (B+1) wA y∧Below x.heap.size x y
def Ypv (l:List Int)(B:Nat)(wA x:World)(e:Ending)(y:World):Prop:=
 ∃(q:Option Addr) (cap:Nat),e=.returned (.slice q l.length cap)∧Ybg y q l∧Below (B+1) wA y∧Below x.heap.size x y
structure Yrh (S:ShP) (zs:List Value) (B:Nat) (w wA:World):Prop where
 sz:(Tryd.prog.info? 25).map (·.size)=some zs.toArray.size
 load:∀x,Below (B+1) wA x→x.heap[B]? =some (.cells zs.toArray 25 (0,0))
 up:∀x,Below (B+1) wA x→Below w.heap.size w x
 light:∀x,Below (B+1) wA x→Calls Tryd.prog 5 #[.agg zs.toArray] x fun e y=>(∃y,e=.returned (.bool y)∧(y=true→Yd9 S))∧Below (B+1) wA y
 live:∀x,Below (B+1) wA x→Calls Tryd.prog 6 #[] x fun e y=>e=.returned (.bool true)∧Below (B+1) wA y
 of:Yd9 S→∀x,Below (B+1) wA x→Calls Tryd.prog 7 #[.agg zs.toArray] x (Ypw (Yiy S) (Ya5 S) B wA x)
 first:Yd9 S→∀x,Below (B+1) wA x→Calls Tryd.prog 8 #[.agg zs.toArray] x (Ypw (Yi1 S) (Ya5 S) B wA x)
theorem Yra {S:ShP}{p b:Option Addr}{ca cb:Nat}{zs:List Value}{B:Nat}{w wA:World}(hZ:Yau S.hd (.slice p S.hd.supp.length ca) (.slice b S.rows.length cb) S.zeros=zs)(hl:S.hd.supp.length≤maxLen)(hn:S.rows.length≤maxLen)(hs:Ybg w p S.hd.supp)(hr:Ybo w b S.rows)(ht:Yeq w)(hst:Ybe w)
  (hB:w.heap.size=B)(hwA:w.alloc (.cells zs.toArray 25 (0,0))=wA):Yrh S zs B w wA:=by
 have hhA:wA.heap[B]? =some (.cells zs.toArray 25 (0,0)):=by rw[←hwA,←hB];exact heap_alloc_new w _
 have hbA:Below w.heap.size w wA:=by rw[←hwA];exact(Below.refl _ w).alloc (Nat.le_refl _) _
 have hsA:wA.heap.size=B+1:=by rw[←hwA,←hB];simp
 have W0:∀x,Below (B+1) wA x→Below w.heap.size w x:=fun x hx=>hbA.trans (hx.mono (by omega));have K:∀(x y:World),Below (B+1) wA x→Below x.heap.size x y→Below (B+1) wA y:=fun x y hx hy=>hx.trans (hy.mono (by have:=hx.size;omega))
 have QO:=fun(hP:Yd9 S) (x:World) (hx:Below (B+1) wA x)=>Yk2 S p b ca cb x hl (by have:=hP.rows;omega) (hs.below (W0 x hx)) (hr.below (W0 x hx)) (by have:=hP.all;omega) (fun c hc k hk=>by have:=hP.mem c hc k hk;omega) (fun c p n k y hy hc=>Yfw S.hd.inter c p n k y hc (ht.below ((W0 x hx).trans (hy.mono (W0 x hx).size))) (hst.below ((W0 x hx).trans (hy.mono (W0 x hx).size))));rw[hZ] at QO;exact{
  sz:=by rw[show zs.toArray.size=8 by rw[←hZ];rfl];kernel_rfl
  load:=fun x hx=>(hx.block B (by omega)).trans hhA
  up:=W0
  light:=fun x hx=>by
   rw[←hZ];exact(Yni S p b ca cb x hl hn (hr.below (W0 x hx))).mono fun e y h=>⟨h.1,K x y hx h.2⟩
  live:=fun x hx=>(Yql x (ht.below (W0 x hx)) (hst.below (W0 x hx))).mono fun e y h=>⟨h.1,K x y hx h.2⟩
  of:=fun hP x hx=>(QO hP x hx).1.mono fun e y ⟨v,he,ho,hb⟩=>by
   obtain⟨q,cap,rfl,hi⟩:=Yc2 rfl ho;exact⟨q,cap,he,hi,K x y hx hb,hb⟩
  first:=fun hP x hx=>(QO hP x hx).2.mono fun e y ⟨v,he,ho,hb⟩=>by
   obtain⟨q,cap,rfl,hi⟩:=Yc2 rfl ho;exact⟨q,cap,he,hi,K x y hx hb,hb⟩}
structure Yq3 (S:ShP) (zs:List Value) (B:Nat) (wA:World):Prop where
 check:∀x,Below (B+1) wA x→Calls Tryd.prog 9 #[.agg zs.toArray] x fun e y=>e=.returned (.int .i64 (Ya5 S))∧Below (B+1) wA y∧Below x.heap.size x y
 of:Ya5 S=0→∀x,Below (B+1) wA x→Calls Tryd.prog 11 #[.agg zs.toArray] x (Ypv (Ye9 S.hd.quant S.rows) B wA x)
 first:Ya5 S=0→∀x,Below (B+1) wA x→Calls Tryd.prog 12 #[.agg zs.toArray] x (Ypv (Ydp S.hd.quant S.rows) B wA x)
theorem Yqi {S:ShP}{p b:Option Addr}{ca cb:Nat}{zs:List Value}{B:Nat}{w wA:World}(hZ:Yau S.hd (.slice p S.hd.supp.length ca) (.slice b S.rows.length cb) S.zeros=zs)(hl:S.hd.supp.length≤maxLen)(hn:S.rows.length≤maxLen)(hs:Ybg w p S.hd.supp)(hr:Ybo w b S.rows)
  (hB:w.heap.size=B)(hwA:w.alloc (.cells zs.toArray 25 (0,0))=wA)(hP:Yd9 S):Yq3 S zs B wA:=by
 have hbA:Below w.heap.size w wA:=by rw[←hwA];exact(Below.refl _ w).alloc (Nat.le_refl _) _
 have hsA:wA.heap.size=B+1:=by rw[←hwA,←hB];simp
 have W0:∀x,Below (B+1) wA x→Below w.heap.size w x:=fun x hx=>hbA.trans (hx.mono (by omega));have K:∀(x y:World),Below (B+1) wA x→Below x.heap.size x y→Below (B+1) wA y:=fun x y hx hy=>hx.trans (hy.mono (by have:=hx.size;omega));have hn2:S.rows.length≤1048576:=by have:=hP.rows;omega
 have hm:(Ya3 S).length≤1048576:=by have:=hP.all;omega
 exact{
  check:=fun x hx=>by
   rw[←hZ];exact(Yj9 S p b ca cb x hl hn (hs.below (W0 x hx)) (hr.below (W0 x hx)) hm (fun c hc k hk=>by have:=hP.mem c hc k hk;omega)).mono fun e y h=>⟨h.1,K x y hx h.2,h.2⟩
  of:=fun h0 x hx=>by
   rw[←hZ];refine(Ynz S p b ca cb x hn2 (hr.below (W0 x hx)) hm (Yja (Yhc h0).1)).mono ?_;rintro e y ⟨v,he,ho,hb⟩;obtain⟨q,cap,rfl,hi⟩:=Yc2 rfl ho;exact⟨q,cap,he,hi,K x y hx hb,hb⟩
  first:=fun h0 x hx=>by
   rw[←hZ];refine(Ygc S p b ca cb x hn2 (hr.below (W0 x hx)) (Yja (Yhc h0).1)).mono ?_;rintro e y ⟨v,he,ho,hb⟩;obtain⟨q,cap,rfl,hi⟩:=Yc2 rfl ho;exact⟨q,cap,he,hi,K x y hx hb,hb⟩}
set_option maxRecDepth 100000 in
set_option maxHeartbeats 4000000 in
theorem Yh1 (S:ShP)(vs:List Value)(w:World)(hS:ShV w S vs)(hL:Yeq w∧Ybe w):Calls Tryd.prog 3 #[.agg vs.toArray] w fun e w'=>e=.returned (.bool true)∧Below w.heap.size w w':=by
 obtain⟨p,b,ca,cb,rfl,hl,hn,hs,hr⟩:=hS;obtain⟨ht,hst⟩:=hL;obtain⟨zs,hZ⟩:∃zs,Yau S.hd (.slice p S.hd.supp.length ca) (.slice b S.rows.length cb) S.zeros=zs:=⟨_,rfl⟩;obtain⟨B,hB⟩:∃B,w.heap.size=B:=⟨_,rfl⟩;obtain⟨wA,hwA⟩:∃wA,w.alloc (.cells zs.toArray 25 (0,0))=wA:=⟨_,rfl⟩;have LI:=Lib.hid (Yra hZ hl hn hs hr ht hst hB hwA);have LR:=Lib.hid (Yqi hZ hl hn hs hr hB hwA);have HSZ:=LI.out.sz
 have hS0:Below (B+1) wA wA:=Below.refl _ _;have hhA:=LI.out.load _ hS0;have HWA:=Lib.hid hwA;have HB:=Lib.hid hB;have QA:=Lib.hid (fun h=>Ykx (S:=S) h);have QF:=Lib.hid (fun h=>Yky (S:=S) h);have NA:=Lib.hid (fun h=>Yiz (S:=S) h);have NF:=Lib.hid (fun h=>Yi2 (S:=S) h)
 have LN:Yd9 S→Hid ((Ye9 S.hd.quant S.rows).length≤4611686018427387904∧(Ydp S.hd.quant S.rows).length≤4611686018427387904):=fun hP=>Lib.hid ⟨by
  have h:(Ye9 S.hd.quant S.rows).length=(Ya3 S).length:=Yd1 _ _;have:=hP.all;omega,by rw[Ybz];have:=hP.rows;omega⟩
 rw[hZ];clear hwA hB hZ hs hr hl hn ht hst
 go_enter Tryd.func3,Tryd.ntmps3
 go_wp2_with (rw[HWA.out,HB.out];with_reducible refine wpList_load_row rfl 25 _ rfl B rfl 25 zs.toArray (0,0) _ hhA Tryd.underlying25 rfl HSZ ?_)
 refine(LI.out.light _ hS0).mono ?_;rintro e w1 ⟨⟨y,rfl,hy⟩,hx1⟩;cases y with
 |false=>
  clear hy
  go_wp2_with fail
  refine(LI.out.live _ hx1).mono ?_;rintro e w2 ⟨rfl,hx2⟩;have hE:=LI.out.up _ hx2
  go_wp2
  go_ret
  exact⟨rfl,hE⟩
 |true=>
  have hP:=hy rfl;have C1:=Lib.hid (LI.out.of hP);have C2:=Lib.hid (LI.out.first hP);have R:=Lib.hid (LR.out hP);have LN2:=LN hP;clear hy hP LR LN hhA hS0;have h1:=LI.out.load _ hx1
  go_wp2_with (with_reducible refine wpList_load_row rfl 25 _ rfl B rfl 25 zs.toArray (0,0) _ h1 Tryd.underlying25 rfl HSZ ?_)
  refine(C1.out _ hx1).mono ?_;rintro e w2 ⟨qa,capa,rfl,hia,hx2,-⟩;have h2:=LI.out.load _ hx2;clear h1 hx1 C1
  go_wp2_with (with_reducible refine wpList_load_row rfl 25 _ rfl B rfl 25 zs.toArray (0,0) _ h2 Tryd.underlying25 rfl HSZ ?_)
  refine(C2.out _ hx2).mono ?_;rintro e w3 ⟨qb,capb,rfl,hib,hx3,hb3⟩;have hia3:=hia.below hb3;have h3:=LI.out.load _ hx3;clear h2 hx2 C2 hia hb3
  go_wp2_with (with_reducible refine wpList_load_row rfl 25 _ rfl B rfl 25 zs.toArray (0,0) _ h3 Tryd.underlying25 rfl HSZ ?_)
  refine(R.out.check _ hx3).mono ?_;rintro e w4 ⟨rfl,hx4,hb4⟩;have hia4:=hia3.below hb4;have hib4:=hib.below hb4;have h4:=LI.out.load _ hx4;clear h3 hx3 hia3 hib hb4;by_cases h0:Ya5 S=0
  ·rw[h0];have e1:=QA.out h0;have e2:=QF.out h0;have RO:=Lib.hid (R.out.of h0);have RF:=Lib.hid (R.out.first h0);rw[e1] at hia4 ⊢;rw[e2] at hib4 ⊢;clear h0 e1 e2 QA QF NA NF R;generalize Ye9 S.hd.quant S.rows=la at *;generalize Ydp S.hd.quant S.rows=lf at *
   go_wp2_with (with_reducible refine wpList_load_row rfl 25 _ rfl B rfl 25 zs.toArray (0,0) _ h4 Tryd.underlying25 rfl HSZ ?_)
   refine(RO.out _ hx4).mono ?_;rintro e w5 ⟨qo,capo,rfl,hio,hx5,hb5⟩;have sm:=Ydl la qa qo capa capo w5 (hia4.below hb5) hio LN2.out.1;have hib5:=hib4.below hb5;clear h4 hx4 hia4 hib4 hb5 hio RO
   go_wp2_with fail
   refine sm.mono ?_;rintro e w6 ⟨rfl,hb6⟩;have hx6:Below (B+1) wA w6:=hx5.trans (hb6.mono (by have:=hx5.size;have:=(LI.out.load _ (Below.refl _ _));have:=(Array.getElem?_eq_some_iff.1 this).1;omega));have hib6:=hib5.below hb6;have h6:=LI.out.load _ hx6;clear sm hx5 hib5 hb6
   go_wp2_with (with_reducible refine Yas (by kernel_rfl) 25 _ rfl B rfl 25 zs.toArray (0,0) _ h6 Tryd.underlying25 rfl HSZ ?_)
   refine(RF.out _ hx6).mono ?_;rintro e w7 ⟨qo2,capo2,rfl,hio2,hx7,hb7⟩;have sm:=Ydl lf qb qo2 capb capo2 w7 (hib6.below hb7) hio2 LN2.out.2;clear h6 hx6 hib6 hb7 hio2 RF
   go_wp2_with fail
   refine sm.mono ?_;rintro e w8 ⟨rfl,hb8⟩;have hx8:Below (B+1) wA w8:=hx7.trans (hb8.mono (by have:=hx7.size;have:=(LI.out.load _ (Below.refl _ _));have:=(Array.getElem?_eq_some_iff.1 this).1;omega));clear sm hx7 hb8
   go_wp2_with fail
   refine(LI.out.live _ hx8).mono ?_;rintro e w9 ⟨rfl,hx9⟩;have hE:=LI.out.up _ hx9
   go_wp2
   go_ret
   exact⟨rfl,hE⟩
  ·have e1:=NA.out h0;have e2:=NF.out h0;obtain⟨E,hE⟩:∃E,Ya5 S=E:=⟨_,rfl⟩;rw[hE] at h0 ⊢;have t1:(E != 0)=true:=by simpa [bne] using h0
   have t2:(E==E)=true:=by simp
   rw[e1,e2];clear e1 e2 hE h0 QA QF NA NF R hia4 hib4 h4
   go_wp2_with fail
   refine(LI.out.live _ hx4).mono ?_;rintro e w5 ⟨rfl,hx5⟩;have hE:=LI.out.up _ hx5
   go_wp2
   go_ret
   exact⟨rfl,hE⟩
end Go.Proofs.YtndbeacoaimdgaaDoor