/- No condition. -/
import Derived.Test.YtndbeacoaimdgaaDoorQuantsGoMa
import Derived.Test.YtndbeacoaimdgaaDoorQuantsGoMf
import Derived.Test.YtndbeacoaimdgaaDoorQuantsGoMbe
import Derived.Test.YtndbeacoaimdgaaDoorQuantsGoMbf
import Derived.Test.YtndbeacoaimdgaaDoorQuantsGoMbj
import Derived.Test.YtndbeacoaimdgaaDoorQuantsGoMbo
import Derived.WalkMore
namespace Go.Proofs.YtndbeacoaimdgaaDoor
open Go.RowKit Go.Lib
def exQA:Cel:={Yps with kind:=3,dc:=fun _=>9}
def Yn6:Cel:={Yps with kind:=4,step:=2,dc:=fun _=>9}
def exQ:ShP:=⟨⟨0,0,6,false,5,[]⟩,[⟨false,0,0,[Yn6,exQA]⟩,⟨true,0,9,[exQA,exQA]⟩],0⟩
theorem Ylb:Ya1 exQ=0∧Yhh exQ=[7,7,9,9]∧Yhj exQ=[5,9]:=by decide +kernel
theorem Ymk {w:World}{b b1 b2:Nat}{r s:RowP}(h:w.heap[b]? =some (.cells [.bool r.head,.int .i64 r.id,.int .i64 r.quant,.slice (some ⟨b1,0,none⟩) 2 2,.bool s.head,.int .i64 s.id,.int .i64 s.quant,.slice (some ⟨b2,0,none⟩) 2 2].toArray 36 (0,0)))
  (hl:r.cels.length=2)(hm:s.cels.length=2)(h1:Ydw w (some ⟨b1,0,none⟩) r.cels)(h2:Ydw w (some ⟨b2,0,none⟩) s.cels):Ybz w (some ⟨b,0,none⟩) [r,s]:=by
 refine .inr ⟨b,0,rfl,(Array.getElem?_eq_some_iff.1 h).1,fun i hi=>?_⟩
 match i,hi with
 |0,_=>
  refine⟨[.bool r.head,.int .i64 r.id,.int .i64 r.quant,.slice (some ⟨b1,0,none⟩) 2 2],⟨some ⟨b1,0,none⟩,2,(by show _=[Value.bool r.head,.int .i64 r.id,.int .i64 r.quant,.slice _ r.cels.length 2];rw[hl]),(fun h=>by cases h),(by show r.cels.length≤_;rw[hl];decide),h1⟩,fun j v hj=>?_⟩
  match j,hj with
  |0,hj|1,hj|2,hj|3,hj=>injection hj with hj;subst hj;exact Yab h rfl
 |1,_=>
  refine⟨[.bool s.head,.int .i64 s.id,.int .i64 s.quant,.slice (some ⟨b2,0,none⟩) 2 2],⟨some ⟨b2,0,none⟩,2,(by show _=[Value.bool s.head,.int .i64 s.id,.int .i64 s.quant,.slice _ s.cels.length 2];rw[hm]),(fun h=>by cases h),(by show s.cels.length≤_;rw[hm];decide),h2⟩,fun j v hj=>?_⟩
  match j,hj with
  |0,hj|1,hj|2,hj|3,hj=>injection hj with hj;subst hj;exact Yab h rfl
theorem Yeo {w:World}{b:Nat}(l:List Int)(h:w.heap[b]? =some (.cells (Yh5 l).toArray 3 (0,0))):Ya9 w (some ⟨b,0,none⟩) l:=
 .inr ⟨b,0,rfl,(Array.getElem?_eq_some_iff.1 h).1,fun i hi=>by
  rw[Nat.zero_add];exact Yab h (by simp[Yh5,List.getD,hi])⟩
theorem Ynx:∃Y:Array Value,Y.size=6∧∀w,(zeroValue 39).run Tryd.prog w=.ok (.agg Y) w:=⟨#[.int .i64 0,.int .i64 0,.int .i64 0,.int .i64 0,.int .i64 0,.int .i64 0],rfl,Yde (by kernel_rfl)⟩
set_option maxRecDepth 100000 in
set_option maxHeartbeats 2000000 in
theorem You (w:World)(ht:Ydq w)(hs:Yay w):Calls Tryd.prog 6 #[] w fun e w'=>e=.returned (.bool true)∧Below w.heap.size w w':=by
 obtain⟨N,hN⟩:∃N,w.heap.size=N:=⟨_,rfl⟩;obtain⟨Y,HYS,hzv⟩:=Ydk;obtain⟨Ys,HYSS,hzs⟩:=Yik;obtain⟨Y6,HY6S,hz6⟩:=Ynx;obtain⟨A6,hA6⟩:∃A:Array Value,#[.int .i64 9,.int .i64 9,.int .i64 9,.int .i64 9,.int .i64 9,.int .i64 9]=A:=⟨_,rfl⟩;obtain⟨A,hA⟩:∃A,(Ybe exQA Ygp).toArray=A:=⟨_,rfl⟩;obtain⟨w0,hw0,hs0,hh0,hb0⟩:=Ybg w (.cells A6 39 (0,0));obtain⟨w1,hw1,hs1,hh1,hb1⟩:=Ybg w0 (.cells A 42 (0,0))
 obtain⟨w2,hw2,hs2,hh2,hb2⟩:=Ybg w1 (.cells (Ybe Yn6 Ygp++Ybe exQA Ygp).toArray 42 (0,0));obtain⟨w3,hw3,hs3,hh3,hb3⟩:=Ybg w2 (.cells (Ybe exQA Ygp++Ybe exQA Ygp).toArray 42 (0,0));obtain⟨w4,hw4,hs4,hh4,hb4⟩:=Ybg w3 (.cells #[.bool false,.int .i64 0,.int .i64 0,.slice (some ⟨N+2,0,none⟩) 2 2,.bool true,.int .i64 0,.int .i64 9,.slice (some ⟨N+3,0,none⟩) 2 2] 36 (0,0))
 obtain⟨Z1,hZ1⟩:∃Z:Array Value,#[.int .i64 0,.int .i64 0,.int .i64 6,.bool false,.int .i64 5,.slice none 0 0,.slice (some ⟨N+4,0,none⟩) 2 2,.int .i64 0]=Z:=⟨_,rfl⟩;obtain⟨w5,hw5,hs5,hh5,hb5⟩:=Ybg w4 (.cells Z1 25 (0,0));rw[hN] at hs0 hh0 hb0;rw[hs0] at hs1 hh1 hb1;rw[hs1] at hs2 hh2 hb2;rw[hs2] at hs3 hh3 hb3;rw[hs3] at hs4 hh4 hb4;rw[hs4] at hs5 hh5 hb5;have hs1:w1.heap.size=N+2:=hs1
 have hs2:w2.heap.size=N+3:=hs2;have hs3:w3.heap.size=N+4:=hs3;have hs4:w4.heap.size=N+5:=hs4;have hs5:w5.heap.size=N+6:=hs5;have h60:=hh0;have h61:=(hb1.block N (by omega)).trans hh0;have hA1:=hh1;have hA2:=(hb2.block (N+1) (by omega)).trans hh1;have hA3:=(hb3.block (N+1) (by omega)).trans hA2;have b45:Below (N+4) w4 w5:=hb5.mono (by omega);have b35:Below (N+4) w3 w5:=hb4.trans b45
 have b25:Below (N+3) w2 w5:=(hb3.trans (b35.mono (by omega))).mono (by omega);have b15:Below (N+2) w1 w5:=(hb2.trans (b25.mono (by omega))).mono (by omega);have b05:Below (N+1) w0 w5:=(hb1.trans (b15.mono (by omega))).mono (by omega);have bw5:Below N w w5:=hb0.trans (b05.mono (by omega));have hmA:(Lit.int .i64 exQA.mx).wf=true∧(Lit.int .i64 exQA.my).wf=true:=by decide
 have hmI:(Lit.int .i64 Yn6.mx).wf=true∧(Lit.int .i64 Yn6.my).wf=true:=by decide
 have hR1:∀x,Below (N+6) w5 x→Ybz x (some ⟨N+4,0,none⟩) exQ.rows:=fun x hx=>
  Ymk (r:=⟨false,0,0,[Yn6,exQA]⟩) (s:=⟨true,0,9,[exQA,exQA]⟩) ((hx.block (N+4) (by omega)).trans ((hb5.block (N+4) (by omega)).trans hh4)) rfl rfl
   (Yi9 hmI hmA (fun _ _=>rfl) (fun _ _=>rfl) ((hx.block (N+2) (by omega)).trans ((b25.block (N+2) (by omega)).trans hh2)))
   (Yi9 hmA hmA (fun _ _=>rfl) (fun _ _=>rfl) ((hx.block (N+3) (by omega)).trans ((b35.block (N+3) (by omega)).trans hh3)))
 have hE1:∀c∈Yaz exQ,∀k,k<6→(c.ev k).length≤1048576:=fun c hc k _=>by
  have:c=Yn6∨c=exQA:=by simpa [Yaz,exQ] using hc
  rcases this with rfl|rfl <;> exact Nat.zero_le _
 have hZ8:∀x,Below (N+6) w5 x→x.heap[N+5]? =some (.cells Z1 25 (0,0))∧Below N w x:=fun x hx=>⟨(hx.block (N+5) (by omega)).trans hh5,bw5.trans (hx.mono (by omega))⟩
 have ask:∀i x,Below (N+6) w5 x→Ybx x i:=fun i x hx c p n k y hy hc=>Yem i c p n k y hc (ht.below (by rw[hN];exact(hZ8 x hx).2.trans (hy.mono (by have:=(hZ8 x hx).2.size;omega)))) (hs.below (by rw[hN];exact(hZ8 x hx).2.trans (hy.mono (by have:=(hZ8 x hx).2.size;omega))))
 have K:∀(x y:World),Below (N+6) w5 x→Below x.heap.size x y→Below (N+6) w5 y:=fun x y hx hy=>hx.trans (hy.mono (by have:=hx.size;omega));have CO:=fun x (hx:Below (N+6) w5 x)=>Yi5 exQ none (some ⟨N+4,0,none⟩) 0 2 x (Nat.zero_le _) (by decide) (Ya9.nil _ _) (hR1 x hx) (by decide) hE1 (ask _ x hx);unfold Yeg at CO;rw[Ylb.1,Ylb.2.1,Ylb.2.2] at CO;have C1:=Lib.hid (fun x (hx:Below (N+6) w5 x)=>(by
  rw[←hZ1];refine(CO x hx).1.mono ?_;rintro e y ⟨v,rfl,ho,hb⟩;obtain⟨q,cap,rfl,hi⟩:=Yd8 (l:=[7,7,9,9]) (n:=4) rfl ho;exact⟨q,cap,rfl,hi,K x y hx hb⟩:Calls Tryd.prog 7 #[.agg Z1] x fun e y=>∃q cap,e=.returned (.tuple #[.slice q 4 cap,.int .i64 0])∧Ya9 y q [7,7,9,9]∧Below (N+6) w5 y))
 have C2:=Lib.hid (fun x (hx:Below (N+6) w5 x)=>(by
  rw[←hZ1];refine(CO x hx).2.mono ?_;rintro e y ⟨v,rfl,ho,hb⟩;obtain⟨q,cap,rfl,hi⟩:=Yd8 (l:=[5,9]) (n:=2) rfl ho;exact⟨q,cap,rfl,hi,K x y hx hb,hb⟩:Calls Tryd.prog 8 #[.agg Z1] x fun e y=>∃q cap,e=.returned (.tuple #[.slice q 2 cap,.int .i64 0])∧Ya9 y q [5,9]∧Below (N+6) w5 y∧Below x.heap.size x y))
 have HSA6:(Tryd.prog.info? 39).map (·.size)=some A6.size:=by rw[←hA6];kernel_rfl
 have HYA6:Y6.size=A6.size:=by rw[HY6S,←hA6];rfl
 have HOA6:A6.all (·.oneCell')=true:=by rw[←hA6];simp[Value.oneCell']
 have HSA:(Tryd.prog.info? 42).map (·.size)=some A.size:=by rw[←hA];exact Ygy _ _
 have HYA:Y.size=A.size:=by rw[HYS,←hA];rfl
 have HOA:A.all (·.oneCell')=true:=by rw[←hA];exact Ydo (Yib w exQA hmA fun _ _=>rfl)
 have HSZ1:(Tryd.prog.info? 25).map (·.size)=some Z1.size:=by rw[←hZ1];kernel_rfl
 have HYZ1:Ys.size=Z1.size:=by rw[HYSS,←hZ1];rfl
 have HOZ1:Z1.all (·.oneCell')=true:=by rw[←hZ1];simp[Value.oneCell']
 have hh44:(w3.alloc (.cells #[.bool false,.int .i64 0,.int .i64 0,.slice (some ⟨N+2,0,none⟩) 2 2,.bool true,.int .i64 0,.int .i64 9,.slice (some ⟨N+3,0,none⟩) 2 2] 36 (0,0))).heap.size=N+4+1:=by rw[hw4,hs4]
 have hS8:Below (N+6) w5 w5:=Below.refl _ _;have HA:=Lib.hid hA;have HA6:=Lib.hid hA6;have HN:=Lib.hid hN;have HW0:=Lib.hid hw0;have HW1:=Lib.hid hw1;have HW2:=Lib.hid hw2;have HW3:=Lib.hid hw3;have HW4:=Lib.hid hw4;have HW5:=Lib.hid hw5;have HZ1:=Lib.hid hZ1;have S44:=Lib.hid hh44;have HZ8:=Lib.hid hZ8;have HS0:=Lib.hid hs0;have q5:=(hZ8 _ hS8).1
 clear hA hA6 hN hZ1 hw0 hw1 hw2 hw3 hw4 hw5 hh1 hh2 hh3 hh4 hh5 hb0 hb1 hb2 hb3 hb4 hb5 b45 b35 b25 b15 b05 bw5 hmA hmI hE1 ask K hR1 hs4 hs5 hh44 ht hs CO hZ8 hh0
 go_enter Tryd.func6,Tryd.ntmps6
 go_wp2_with (first
  |(with_reducible refine wpList_buildTo rfl 39 _ rfl (some 9) rfl #[.int .i64 9,.int .i64 9,.int .i64 9,.int .i64 9,.int .i64 9,.int .i64 9] (by kernel_rfl) ?_;rw[HA6.out])
  |(with_reducible refine Yaq rfl 39 _ _ rfl A6 Y6 39 rfl rfl HSA6 HYA6 HOA6 ?_;rw[HW0.out,HN.out])
  |(with_reducible refine wpList_load_row rfl 39 _ rfl N rfl 39 A6 (0,0) _ h60 Tryd.underlying39 rfl HSA6 ?_)
  |(with_reducible refine wpList_load_row rfl 39 _ rfl N rfl 39 A6 (0,0) _ h61 Tryd.underlying39 rfl HSA6 ?_)
  |(with_reducible refine wpList_buildTo rfl 42 _ rfl (some 11) rfl (Ybe exQA Ygp).toArray (by rw[←HA6.out];kernel_rfl) ?_;rw[HA.out])
  |(with_reducible refine wpList_buildTo rfl 42 _ rfl (some 13) rfl (Ybe Yn6 Ygp).toArray (by rw[←HA6.out];kernel_rfl) ?_)
  |(with_reducible refine Yco rfl 42 _ _ rfl A Y 42 (N+1) HS0.out rfl rfl HSA HYA HOA ?_;rw[HW1.out])
  |(with_reducible refine wpList_load_row rfl 42 _ rfl (N+1) rfl 42 A (0,0) _ hA1 Tryd.underlying42 rfl HSA ?_)
  |(with_reducible refine wpList_load_row rfl 42 _ rfl (N+1) rfl 42 A (0,0) _ hA2 Tryd.underlying42 rfl HSA ?_)
  |(with_reducible refine Ycn rfl _ _ rfl Yn6 exQA Ygp Ygp (N+2) hs1 15 rfl ?d1 ?d2 ?_;(case d1=>kernel_rfl);(case d2=>(rw[HA.out];kernel_rfl));rw[HW2.out])
  |(with_reducible refine Ycn rfl _ _ rfl exQA exQA Ygp Ygp (N+3) hs2 20 rfl ?d3 ?d4 ?_;(case d3=>(rw[HA.out];kernel_rfl));(case d4=>(rw[HA.out];kernel_rfl));rw[HW3.out])
  |(with_reducible refine wpList_buildTo rfl 25 _ rfl (some 23) rfl #[.int .i64 0,.int .i64 0,.int .i64 6,.bool false,.int .i64 5,.slice none 0 0,.slice (some ⟨N+4,0,none⟩) 2 2,.int .i64 0] (by kernel_rfl) ?_;rw[HZ1.out])
  |(with_reducible refine Yco rfl 25 _ _ rfl Z1 Ys 25 (N+4+1) S44.out rfl rfl HSZ1 HYZ1 HOZ1 ?_;rw[HW4.out,HW5.out])
  |(with_reducible refine wpList_load_row rfl 25 _ rfl (N+5) rfl 25 Z1 (0,0) _ q5 Tryd.underlying25 rfl HSZ1 ?_))
 refine(C1.out _ hS8).mono ?_;rintro e x1 ⟨qa,capa,rfl,hia,hx1⟩;have q6:=(HZ8.out _ hx1).1;clear q5 hS8
 go_wp2_with (with_reducible refine wpList_load_row rfl 25 _ rfl (N+1+1+1+1+1) rfl 25 Z1 (0,0) _ q6 Tryd.underlying25 rfl HSZ1 ?_)
 refine(C2.out _ hx1).mono ?_;rintro e x2 ⟨qb,capb,rfl,hib,hx2,hb2⟩;obtain⟨x3,hx3,hsx3,hh3,hb3⟩:=Ybg x2 (.cells #[.int .i64 7,.int .i64 7,.int .i64 9,.int .i64 9] 3 (0,0));have hia3:=(hia.below hb2).below hb3;have hib3:=hib.below hb3;have sm:=Yfs [7,7,9,9] qa (some ⟨x2.heap.size,0,none⟩) capa 4 x3 hia3 (Yeo [7,7,9,9] hh3) (by decide)
 have hbx3:Below (N+6) w5 x3:=hx2.trans (hb3.mono (by have:=hx2.size;omega));have HX3:=Lib.hid hx3;clear hx3 hia hib hb2 hx2 hx1 q6 hia3 hh3 hsx3 hb3
 go_wp2_with fail
 rw[HX3.out];refine sm.mono ?_;rintro e x4 ⟨rfl,hb4⟩;obtain⟨x5,hx5,hsx5,hh5,hb5⟩:=Ybg x4 (.cells #[.int .i64 5,.int .i64 9] 3 (0,0));have sm2:=Yfs [5,9] qb (some ⟨x4.heap.size,0,none⟩) capb 2 x5 ((hib3.below hb4).below hb5) (Yeo [5,9] hh5) (by decide);have hbx5:Below (N+6) w5 x5:=(hbx3.trans (hb4.mono (by have:=hbx3.size;omega))).trans (hb5.mono (by have:=hbx3.size;have:=hb4.size;omega))
 have HX5:=Lib.hid hx5;clear hx5 hib3 hb4 hbx3 sm hh5 hsx5 hb5
 go_wp2_with fail
 rw[HX5.out];refine sm2.mono ?_;rintro e x6 ⟨rfl,hb6⟩;have hE:Below (N+6) w5 x6:=hbx5.trans (hb6.mono (by have:=hbx5.size;omega));have hF:=(HZ8.out _ hE).2
 go_wp2
 go_ret
 exact⟨rfl,by rw[HN.out];exact hF⟩
def Yn3 (l:List Int)(E:Int)(B:Nat)(wA x:World)(e:Ending)(y:World):Prop:=
 ∃(q:Option Addr) (cap:Nat),e=.returned (.tuple #[.slice q l.length cap,.int .i64 E])∧Ya9 y q l∧Below (B+1) wA y∧Below x.heap.size x y
structure Ypu (S:ShP) (zs:List Value) (B:Nat) (w wA:World):Prop where
 sz:(Tryd.prog.info? 25).map (·.size)=some zs.toArray.size
 load:∀x,Below (B+1) wA x→x.heap[B]? =some (.cells zs.toArray 25 (0,0))
 up:∀x,Below (B+1) wA x→Below w.heap.size w x
 light:∀x,Below (B+1) wA x→Calls Tryd.prog 5 #[.agg zs.toArray] x fun e y=>(∃y,e=.returned (.bool y)∧(y=true→Yee S))∧Below (B+1) wA y
 live:∀x,Below (B+1) wA x→Calls Tryd.prog 6 #[] x fun e y=>e=.returned (.bool true)∧Below (B+1) wA y
 of:Yee S→∀x,Below (B+1) wA x→Calls Tryd.prog 7 #[.agg zs.toArray] x (Yn3 (Yhh S) (Ya1 S) B wA x)
 first:Yee S→∀x,Below (B+1) wA x→Calls Tryd.prog 8 #[.agg zs.toArray] x (Yn3 (Yhj S) (Ya1 S) B wA x)
theorem Ypk {S:ShP}{p b:Option Addr}{ca cb:Nat}{zs:List Value}{B:Nat}{w wA:World}(hZ:Yas S.hd (.slice p S.hd.supp.length ca) (.slice b S.rows.length cb) S.zeros=zs)(hl:S.hd.supp.length≤maxLen)(hn:S.rows.length≤maxLen)(hs:Ya9 w p S.hd.supp)(hr:Ybz w b S.rows)(ht:Ydq w)(hst:Yay w)
  (hB:w.heap.size=B)(hwA:w.alloc (.cells zs.toArray 25 (0,0))=wA):Ypu S zs B w wA:=by
 have hhA:wA.heap[B]? =some (.cells zs.toArray 25 (0,0)):=by rw[←hwA,←hB];exact heap_alloc_new w _
 have hbA:Below w.heap.size w wA:=by rw[←hwA];exact(Below.refl _ w).alloc (Nat.le_refl _) _
 have hsA:wA.heap.size=B+1:=by rw[←hwA,←hB];simp
 have W0:∀x,Below (B+1) wA x→Below w.heap.size w x:=fun x hx=>hbA.trans (hx.mono (by omega));have K:∀(x y:World),Below (B+1) wA x→Below x.heap.size x y→Below (B+1) wA y:=fun x y hx hy=>hx.trans (hy.mono (by have:=hx.size;omega))
 have QO:=fun(hP:Yee S) (x:World) (hx:Below (B+1) wA x)=>Yi5 S p b ca cb x hl (by have:=hP.rows;omega) (hs.below (W0 x hx)) (hr.below (W0 x hx)) (by have:=hP.all;omega) (fun c hc k hk=>by have:=hP.mem c hc k hk;omega) (fun c p n k y hy hc=>Yem S.hd.inter c p n k y hc (ht.below ((W0 x hx).trans (hy.mono (W0 x hx).size))) (hst.below ((W0 x hx).trans (hy.mono (W0 x hx).size))));rw[hZ] at QO;exact{
  sz:=by rw[show zs.toArray.size=8 by rw[←hZ];rfl];kernel_rfl
  load:=fun x hx=>(hx.block B (by omega)).trans hhA
  up:=W0
  light:=fun x hx=>by
   rw[←hZ];exact(Yli S p b ca cb x hl hn (hr.below (W0 x hx))).mono fun e y h=>⟨h.1,K x y hx h.2⟩
  live:=fun x hx=>(You x (ht.below (W0 x hx)) (hst.below (W0 x hx))).mono fun e y h=>⟨h.1,K x y hx h.2⟩
  of:=fun hP x hx=>(QO hP x hx).1.mono fun e y ⟨v,he,ho,hb⟩=>by
   obtain⟨q,cap,rfl,hi⟩:=Yd8 rfl ho;exact⟨q,cap,he,hi,K x y hx hb,hb⟩
  first:=fun hP x hx=>(QO hP x hx).2.mono fun e y ⟨v,he,ho,hb⟩=>by
   obtain⟨q,cap,rfl,hi⟩:=Yd8 rfl ho;exact⟨q,cap,he,hi,K x y hx hb,hb⟩}
structure Ypt (q:Int) (rows:List RowP) (i:Nat) (hi:i<rows.length) (I:Nat→Int) (L:Nat):Prop where
 fst:(Yea q rows).getD i 0=I 0
 all:∀k,k<rows[i].cels.length→(Yd3 q rows).getD (L+k) 0=I (k+1)
 low:∀k,k<rows[i].cels.length→L+k<(Yd3 q rows).length
 rng:∀k,k≤rows[i].cels.length→1≤I k∧I k≤31
 stp:∀k,k<rows[i].cels.length→I (k+1)-I k≤2∧I k-I (k+1)≤2
theorem Yon {S:ShP}(h:QOk S){i:Nat}(hi:i<S.rows.length):Ypt S.hd.quant S.rows i hi (qIn S.hd.quant S.rows i) (Yb4 S i).length:=by
 have hin:∀j,1≤qIn S.hd.quant S.rows i j∧qIn S.hd.quant S.rows i j≤31:=fun j=>by
  unfold qIn;rw[getElem!_pos S.rows i hi];exact Yif (h.head hi) _
 exact{
  fst:=by rw[Yo0 _ hi,(Yi4 hi).2]
  all:=fun k hk=>by
   rw[Yoy S.hd.quant hi hk (L:=(Yb4 S i).length) rfl,(Ygg hi hk).2];unfold qIn;rw[getElem!_pos S.rows i hi]
  low:=fun k hk=>by
   have h1:=Yfi S (i+1);rw[Ycr S hi,List.length_append] at h1;rw[Ybq];show _<(Yaz S).length;omega
  rng:=fun k _=>hin k
  stp:=fun k hk=>by
   rw[(Ygg hi hk).2];exact(Ylv (hin k) _).2}
set_option maxRecDepth 100000 in
set_option maxHeartbeats 4000000 in
theorem Ygh (S:ShP)(vs:List Value)(w:World)(hS:ShV w S vs)(hL:Ydq w∧Yay w):Calls Tryd.prog 4 #[.agg vs.toArray] w fun e w'=>e=.returned (.bool true)∧Below w.heap.size w w':=by
 obtain⟨p,b,ca,cb,rfl,hl,hn,hs,hr⟩:=hS;obtain⟨ht,hst⟩:=hL;obtain⟨zs,hZ⟩:∃zs,Yas S.hd (.slice p S.hd.supp.length ca) (.slice b S.rows.length cb) S.zeros=zs:=⟨_,rfl⟩;have z6:zs[6]? =some (.slice b S.rows.length cb):=by rw[←hZ];rfl
 obtain⟨B,hB⟩:∃B,w.heap.size=B:=⟨_,rfl⟩;obtain⟨wA,hwA⟩:∃wA,w.alloc (.cells zs.toArray 25 (0,0))=wA:=⟨_,rfl⟩;have LI:=Lib.hid (Ypk hZ hl hn hs hr ht hst hB hwA);have HSZ:=LI.out.sz;have hS0:Below (B+1) wA wA:=Below.refl _ _;have hhA:=LI.out.load _ hS0;have HWA:=Lib.hid hwA;have HB:=Lib.hid hB;have HR:=Lib.hid hr;have Z6:=Lib.hid z6;have QA:=Lib.hid (fun h=>Yi0 (S:=S) h)
 have QF:=Lib.hid (fun h=>Yi1 (S:=S) h);have NA:=Lib.hid (fun h=>Yhi (S:=S) h);rw[hZ];clear hwA hB hZ hs hr hl hn ht hst z6
 go_enter Tryd.func4,Tryd.ntmps4
 go_wp2_with (rw[HWA.out,HB.out];with_reducible refine wpList_load_row rfl 25 _ rfl B rfl 25 zs.toArray (0,0) _ hhA Tryd.underlying25 rfl HSZ ?_)
 refine(LI.out.light _ hS0).mono ?_;rintro e w1 ⟨⟨y,rfl,hy⟩,hx1⟩;cases y with
 |false=>
  clear hy
  go_wp2_with fail
  refine(LI.out.live _ hx1).mono ?_;rintro e w2 ⟨rfl,hx2⟩;have hE:=LI.out.up _ hx2
  go_wp2
  go_ret
  exact⟨rfl,hE⟩
 |true=>
  have hP:=hy rfl;have C1:=Lib.hid (LI.out.of hP);have C2:=Lib.hid (LI.out.first hP);have hP30:S.rows.length≤30:=hP.rows;have hP200:∀i (h:i<S.rows.length),S.rows[i].cels.length≤200:=hP.cels;have hPA:(Yaz S).length≤200:=hP.all;clear hy hP hhA hS0;have h1:=LI.out.load _ hx1
  go_wp2_with (with_reducible refine wpList_load_row rfl 25 _ rfl B rfl 25 zs.toArray (0,0) _ h1 Tryd.underlying25 rfl HSZ ?_)
  refine(C1.out _ hx1).mono ?_;rintro e w2 ⟨qa,capa,rfl,hia,hx2,-⟩;have h2:=LI.out.load _ hx2;clear h1 hx1 C1
  go_wp2_with (with_reducible refine wpList_load_row rfl 25 _ rfl B rfl 25 zs.toArray (0,0) _ h2 Tryd.underlying25 rfl HSZ ?_)
  refine(C2.out _ hx2).mono ?_;rintro e w3 ⟨qb,capb,rfl,hib,hx3,hb3⟩;have hia3:=hia.below hb3;have h3:=LI.out.load _ hx3;clear h2 hx2 C2 hia hb3;by_cases h0:Ya1 S=0
  case neg=>
   have e1:=NA.out h0;obtain⟨E,hE⟩:∃E,Ya1 S=E:=⟨_,rfl⟩;rw[hE] at h0 ⊢;have t1:(E != 0)=true:=by simpa [bne] using h0
   rw[e1];clear e1 hE h0 QA QF NA hia3 hib h3
   go_wp2_with fail
   refine(LI.out.live _ hx3).mono ?_;rintro e w5 ⟨rfl,hx5⟩;have hE:=LI.out.up _ hx5
   go_wp2
   go_ret
   exact⟨rfl,hE⟩
  rw[h0];have OK:=Lib.hid (Ymd (Yj8 h0).1);have e1:=QA.out h0;have e2:=QF.out h0;rw[e1] at hia3 ⊢;rw[e2] at hib ⊢;have tl:(Yd3 S.hd.quant S.rows).length=(Yaz S).length:=Ybq _ _;have fl:(Yea S.hd.quant S.rows).length=S.rows.length:=Ycc _ _;clear h0 e1 e2 QA QF NA;obtain⟨tot,htot⟩:∃t,(Yd3 S.hd.quant S.rows).length=t:=⟨_,rfl⟩;have GR:=Lib.hid (fun i (hi:i<S.rows.length)=>Yon OK.out hi)
  have IA:=Lib.hid hia3;have IB:=Lib.hid hib;rw[htot,fl];obtain⟨n,hln⟩:∃n,S.rows.length=n:=⟨_,rfl⟩;have k6:=Yab h3 Z6.out;have ALL:=Lib.hid (show (Yb4 S n).length=tot by rw[Ygz S hln,←tl,htot]);have NX:=Lib.hid (fun i (hi:i<S.rows.length)=>(by rw[Ycr S hi,List.length_append]:(Yb4 S (i+1)).length=(Yb4 S i).length+S.rows[i].cels.length));have C200:=Lib.hid hP200;have HTOT:=Lib.hid htot
  have FL:=Lib.hid fl;have htl:tot≤200:=by omega
  rw[hln] at k6 hP30 ⊢;have NR:=Lib.hid hln;have hbw:=LI.out.up _ hx3;clear hia3 hib h3 tl fl htot hln hP200 hPA OK Z6
  go_wp2
  go_loop [7,8] (fun u t=>∃i x:Nat,t=.int .i64 (i:Int)∧u=.int .i64 (x:Int)∧i≤n∧Hid (x=(Yb4 S i).length)) (fun _ t=>n-(RowKit.intOf t).toNat)
  case atStart=>exact⟨0,0,rfl,rfl,Nat.zero_le _,Lib.hid rfl⟩
  case round=>
   obtain⟨i,x,rfl,rfl,hi,hx⟩:=hrel;by_cases hlt:i<n
   ·have t1:decide ((i:Int)<(n:Int))=true:=by simp;omega
    have t2:decide ((n:Int)≤(i:Int))=false:=by simp;omega
    have hil:i<S.rows.length:=by rw[NR.out];exact hlt
    obtain⟨b1,o1,rfl,-,hc1⟩:=Ye2 HR.out (by omega);obtain⟨r,cap,-,-,-,hat⟩:=hc1 i hil;obtain⟨-,-,-,c3⟩:=hat _ hbw;obtain⟨g1,g2,g3,g4,g5⟩:=GR.out i hil;have h200:=C200.out i hil;have NXi:=NX.out i hil;obtain⟨bf,of,rfl,-,hcf⟩:=IB.out.hold (by rw[FL.out];omega);have f0:=hcf _ (Below.refl _ _) i (by rw[FL.out];omega);rw[g1] at f0;rw[←hx.out] at g2 g3 NXi;have G2:=Lib.hid g2;have G3:=Lib.hid g3
    have G4:=Lib.hid g4;have G5:=Lib.hid g5;have NXH:=Lib.hid NXi;clear hc1 hat g1 g2 g3 g4 g5 hcf hx NXi;generalize qIn S.hd.quant S.rows i=I at *;generalize S.rows[i].cels.length=m at *
    go_wp2
    clear f0
    go_loop [7,9,10] (fun u v t=>∃k x':Nat,t=.int .i64 (k:Int)∧u=.int .i64 (x':Int)∧v=.int .i64 (I k)∧k≤m∧Hid (x'=x+k)) (fun _ _ t=>m-(RowKit.intOf t).toNat)
    case atStart=>exact⟨0,x,rfl,rfl,rfl,Nat.zero_le _,Lib.hid rfl⟩
    case round=>
     obtain⟨k,x',rfl,rfl,rfl,hk,hx'⟩:=hrel;by_cases hkm:k<m
     ·have t3:decide ((k:Int)<(m:Int))=true:=by simp;omega
      have hlow:=G3.out k hkm;rw[HTOT.out,←hx'.out] at hlow;have t4:decide ((tot:Int)≤(x':Int))=false:=by simp;omega
      obtain⟨ba,oa,rfl,-,hca⟩:=IA.out.hold (by rw[HTOT.out];omega);have f1:=hca _ (Below.refl _ _) x' (by rw[HTOT.out];omega);have e3:=G2.out k hkm;rw[←hx'.out] at e3;rw[e3] at f1;obtain⟨r1,r2⟩:=G4.out k hk;obtain⟨r3,r4⟩:=G4.out (k+1) hkm;obtain⟨r5,r6⟩:=G5.out k hkm;have N1:=Lib.hid (show x'+1=x+(k+1) by have:=hx'.out;omega);clear hca e3 hx';have HI:=Lib.hid (rfl:I (k+1)=I (k+1))
      obtain⟨y,hy⟩:∃y,I (k+1)=y:=⟨_,rfl⟩;rw[hy] at f1 r3 r4 r5 r6;have HY:=Lib.hid hy;clear hy HI;obtain⟨v,hv⟩:∃v,I k=v:=⟨_,rfl⟩;rw[hv] at r1 r2 r5 r6 ⊢;clear hv;have t5:decide (y<1)=false:=by simp;omega
      have t6:decide (31<y)=false:=by simp;omega
      have t7:decide (2<y-v)=false:=by simp;omega
      have t8:decide (2<v-y)=false:=by simp;omega
      go_wp2
      go_round
      case rel=>exact⟨k+1,x'+1,by go_num,by go_num,by rw[HY.out],by omega,N1⟩
      case measure=>simp[RowKit.intOf];omega
     ·obtain rfl:m=k:=by omega
      have t3:decide ((m:Int)<(m:Int))=false:=by simp
      have N1:=Lib.hid (show x'=(Yb4 S (i+1)).length by rw[NXH.out];exact hx'.out);clear hx'
      go_wp2
      go_round
      case rel=>exact⟨i+1,x',by go_num,rfl,by omega,N1⟩
      case measure=>simp[RowKit.intOf];omega
   ·obtain rfl:n=i:=by omega
    have t1:decide ((n:Int)<(n:Int))=false:=by simp
    obtain rfl:tot=x:=by rw[hx.out,ALL.out]
    have t2:((tot:Int)==(tot:Int))=true:=by simp
    go_wp2_with fail
    refine(LI.out.live _ hx3).mono ?_;rintro e w5 ⟨rfl,hx5⟩;have hE:=LI.out.up _ hx5
    go_wp2
    go_ret
    exact⟨rfl,hE⟩
end Go.Proofs.YtndbeacoaimdgaaDoor