/- No condition. -/
import Derived.Test.YtnamlooifcpoaaaGreatDoorScreensStillMp
import Derived.Test.YtnamlooifcpoaaaGreatDoorScreensStillMv
import Derived.Test.YtnamlooifcpoaaaGreatDoorScreensStillMbk
import Derived.Test.YtnamlooifcpoaaaGreatDoorScreensStillMbl
import Derived.WalkMore
namespace Go.Proofs.YtnamlooifcpoaaaGreatDoor
open Go.RowKit Go.Lib
def Yt3 (S:ShP):List Int:=if Ybe S=0 then Yk2 S.hd.quant S.rows else []
def Ynv (S:ShP):List Int:=if Ybe S=0 then Yih S.hd.quant S.rows else []
theorem Ywu {S:ShP}(h:Ybe S=0):Yt3 S=Yk2 S.hd.quant S.rows:=if_pos h
theorem Yo5 {S:ShP}(h:Ybe S=0):Ynv S=Yih S.hd.quant S.rows:=if_pos h
theorem Yt4 {S:ShP}(h:¬ Ybe S=0):Yt3 S=[]:=if_neg h
theorem Ytz {S:ShP}(h:¬ Ybe S=0):Ynv S=[]:=if_neg h
def Ycd (S:ShP)(w:World)(e:Ending)(w':World):Prop:=
 ∃vr vc,e=.returned (.tuple #[vr,vc,.int .i64 (Ybe S)])∧w'.ownsRow w.heap.size 3 1 vr (Yt3 S).length (Yox (Yt3 S))∧w'.ownsRow w.heap.size 3 1 vc (Ynv S).length (Yox (Ynv S))∧Below w.heap.size w w'
theorem Ycd.not {S:ShP}{w w':World}(h:¬ Ybe S=0)(hb:Below w.heap.size w w'){E:Int}(hE:Ybe S=E):Ycd S w (.returned (.tuple #[.slice none 0 0,.slice none 0 0,.int .i64 E])) w':=by
 subst hE;refine⟨_,_,rfl,?_,?_,hb⟩
 ·rw[Yt4 h];exact World.ownsRow_nil ..
 ·rw[Ytz h];exact World.ownsRow_nil ..
theorem Ycd.ok {S:ShP}{w w':World}{vr vc:Value}(h:Ybe S=0)(hb:Below w.heap.size w w')(h1:w'.ownsRow w.heap.size 3 1 vr (Yk2 S.hd.quant S.rows).length (Yox (Yk2 S.hd.quant S.rows)))
  (h2:w'.ownsRow w.heap.size 3 1 vc (Yih S.hd.quant S.rows).length (Yox (Yih S.hd.quant S.rows))):Ycd S w (.returned (.tuple #[vr,vc,.int .i64 0])) w':=by
 refine⟨vr,vc,by rw[h],?_,?_,hb⟩
 ·rw[Ywu h];exact h1
 ·rw[Yo5 h];exact h2
theorem Ylx:∃i z,Tryz.prog.info? 3=some i∧i.zero=some z∧z.cells.size=1∧i.size=1∧i.bytes=8:=by
 have h:=Yv6;generalize Tryz.prog.info? 3=x at h
 match x,h with
 |some i,h=>
  rw[Option.map_some] at h;injection h with h;injection h with h1 h2;injection h2 with h2 h3;exact⟨i,_,rfl,h1,rfl,h2,h3⟩
def qUp (q:Int)(l:List RowP)(i j:Nat):List Int:=Yih q (l.take i)++Ygc (Yfa (Ynw q (l.take i)) (l[i]!)) ((l[i]!).cels.take j)
def qIn (q:Int)(l:List RowP)(i j:Nat):Int:=Yu8 (Yfa (Ynw q (l.take i)) (l[i]!)) ((l[i]!).cels.take j)
section
variable {q:Int}{l:List RowP}{i j:Nat}
theorem Ywy (hi:i<l.length):qUp q l i 0=Yih q (l.take i)∧qIn q l i 0=Yfa (Ynw q (l.take i)) l[i]:=by
 unfold qUp qIn;rw[List.take_zero,getElem!_pos l i hi];exact⟨List.append_nil _,rfl⟩
theorem Ywx (hi:i<l.length)(hj:j<l[i].cels.length):qUp q l i (j+1)=qUp q l i j++[Yqd (qIn q l i j) l[i].cels[j]]∧qIn q l i (j+1)=Yqd (qIn q l i j) l[i].cels[j]:=by
 unfold qUp qIn;rw[getElem!_pos l i hi,Yqe _ hj,Yt8 _ hj,List.append_assoc];exact⟨rfl,rfl⟩
theorem Yzb (hi:i<l.length):qUp q l i l[i].cels.length=Yih q (l.take (i+1))∧qIn q l i l[i].cels.length=Ynw q (l.take (i+1)):=by
 unfold qUp qIn;rw[getElem!_pos l i hi,List.take_length,Yt0 q hi,Yt2 q hi];exact⟨rfl,rfl⟩
end
theorem Yww (S:ShP){q:Int}{i:Nat}(hi:i<S.rows.length)(j:Nat):(qUp q S.rows i j).length≤(Yaw S).length:=by
 have h:=Yiz S (i+1);rw[Yep S hi,List.length_append] at h;unfold Yd9 at h;unfold qUp;rw[List.length_append,Ye9,Yel,List.length_take,getElem!_pos S.rows i hi];omega
set_option maxRecDepth 100000 in
set_option maxHeartbeats 4000000 in
theorem Yqh (S:ShP)(p b:Option Addr)(ca cb:Nat)(w:World)(hl:S.hd.supp.length≤maxLen)(hn:S.rows.length≤1048576)(hs:Yde w p S.hd.supp)(hr:Ydh w b S.rows)(hm:(Yaw S).length≤1048576)(hc:∀c∈Yaw S,∀k,k<6→(c.ev k).length≤1048576)(hR:Ycz w S.hd.inter):
  Calls Tryz.prog 28 #[.agg (Yaz S.hd (.slice p S.hd.supp.length ca) (.slice b S.rows.length cb) S.zeros).toArray] w (Ycd S w):=by
 have chk:=fun x=>Ymn S p b ca cb x hl (by omega);obtain⟨n,hln⟩:∃n,S.rows.length=n:=⟨_,rfl⟩;rw[hln] at hn chk ⊢;obtain⟨zs,hZ⟩:∃zs,Yaz S.hd (.slice p S.hd.supp.length ca) (.slice b n cb) S.zeros=zs:=⟨_,rfl⟩;have z4:zs[4]? =some (.int .i64 S.hd.quant):=by rw[←hZ];rfl
 have z6:zs[6]? =some (.slice b n cb):=by rw[←hZ];rfl
 have HSZ:(Tryz.prog.info? 29).map (·.size)=some zs.toArray.size:=by rw[show zs.toArray.size=8 by rw[←hZ];rfl];kernel_rfl
 rw[hZ] at chk ⊢;obtain⟨B,hB⟩:∃B,w.heap.size=B:=⟨_,rfl⟩;obtain⟨wA,hwA⟩:∃wA,w.alloc (.cells zs.toArray 29 (0,0))=wA:=⟨_,rfl⟩;have hhA:wA.heap[B]? =some (.cells zs.toArray 29 (0,0)):=by rw[←hwA,←hB];exact heap_alloc_new w _
 have hbA:Below w.heap.size w wA:=by rw[←hwA];exact(Below.refl _ w).alloc (Nat.le_refl _) _
 have hsA:wA.heap.size=B+1:=by rw[←hwA,←hB];simp
 have W0:∀x,Below (B+1) wA x→Below w.heap.size w x:=fun x hx=>hbA.trans (hx.mono (by omega));have CL:=Lib.hid (fun(x:World) (hx:Below (B+1) wA x)=>(⟨Yac ((hx.block B (by omega)).trans hhA) z4,Yac ((hx.block B (by omega)).trans hhA) z6,W0 x hx⟩:x.cell? ⟨B,4,none⟩=some (.int .i64 S.hd.quant)∧x.cell? ⟨B,6,none⟩=some (.slice b n cb)∧Below w.heap.size w x))
 have C1:=chk wA (hs.below hbA) (hr.below hbA) hc (hR.below hbA);rw[hsA] at C1;have DT:=Lib.hid (fun(x:World) (hx:Below (B+1) wA x)=>(fun{E:Int} (h:¬ E=0) (hE:Ybe S=E)=>Ycd.not (by rw[hE];exact h) (W0 x hx) hE:∀{E:Int},¬ E=0→Ybe S=E→Ycd S w (.returned (.tuple #[.slice none 0 0,.slice none 0 0,.int .i64 E])) x));have HWA:=Lib.hid hwA;have HB:=Lib.hid hB;have HSA:=Lib.hid hsA;have NR:=Lib.hid hln
 have HR:=Lib.hid hr;have MOST:=Lib.hid (fun q i j (hi:i<S.rows.length)=>Nat.le_trans (Yww S (q:=q) hi j) hm);obtain⟨E,hE⟩:∃E,Ybe S=E:=⟨_,rfl⟩;rw[hE] at C1;have EH:=Lib.hid hE;obtain⟨Yr,HYRS,hzr⟩:=Yfw;obtain⟨Y,HYS,hzv⟩:=Yef;clear hwA hbA hsA W0 hZ hln hr hm hc hs hR chk hB z4 z6 hE hl;by_cases h0:E=0
 case neg=>
  have t1:(E != 0)=true:=by simpa [bne] using h0
  have HN:=Lib.hid h0;clear h0
  go_enter Tryz.func28,Tryz.ntmps28
  go_wp2_with (rw[HWA.out,HB.out];with_reducible refine wpList_load_row rfl 29 _ rfl B rfl 29 zs.toArray (0,0) _ hhA Tryz.underlying29 rfl HSZ ?_)
  refine C1.mono ?_;rintro e w1 ⟨rfl,hb1⟩
  go_wp2
  go_ret3
  exact DT.out _ hb1 HN.out EH.out
 subst h0;have EH0:=Lib.hid (show Ybe S=0 from EH.out);clear EH DT;obtain⟨q,hq⟩:∃q,S.hd.quant=q:=⟨_,rfl⟩;rw[hq] at CL;have HQ:=Lib.hid hq;clear hq
 go_enter Tryz.func28,Tryz.ntmps28
 go_wp2_with (rw[HWA.out,HB.out];with_reducible refine wpList_load_row rfl 29 _ rfl B rfl 29 zs.toArray (0,0) _ hhA Tryz.underlying29 rfl HSZ ?_)
 refine C1.mono ?_;rintro e w1 ⟨rfl,hb1⟩;obtain⟨k4,-,-⟩:=CL.out _ hb1;clear C1 hhA;have cf:=Yny q w1
 go_wp2_with fail
 refine cf.mono ?_;rintro e w2 ⟨rfl,hQ2,hb2⟩;have hbA2:Below (B+1) wA w2:=hb1.trans (hb2.mono (by have:=hb1.size;have:=HSA.out;omega));obtain⟨-,k6,-⟩:=CL.out _ hbA2;obtain⟨Q,hQ⟩:∃Q,w1.heap.size=Q:=⟨_,rfl⟩;rw[hQ] at hQ2 ⊢;have hBQ:B+1≤Q:=by rw[←hQ];have:=hb1.size;have:=HSA.out;omega
 have at0:Yk4 w2 (B+1) Q q (.slice none 0 0) (.slice none 0 0) [] []:=⟨by omega,hQ2,World.ownsRow_nil ..,World.ownsRow_nil ..,(fun e=>by cases e),(fun e=>by cases e),fun k e=>by cases e⟩;clear k4 cf hb1 hb2 hQ hQ2
 go_wp2
 clear k6
 go_loopw [2,3,26] (fun vr vc t wr=>∃i:Nat,t=.int .i64 (i:Int)∧i≤n∧Yk4 wr (B+1) Q (Ynw q (S.rows.take i)) vr vc (Yk2 q (S.rows.take i)) (Yih q (S.rows.take i))∧Below (B+1) wA wr) (fun _ _ t _=>n-(intOf t).toNat)
 case atStart=>exact⟨0,rfl,Nat.zero_le _,at0,hbA2⟩
 case round=>
  clear at0 hbA2;obtain⟨i,rfl,hi,ha,hb⟩:=hrel;obtain⟨-,-,hbw⟩:=CL.out _ hb;by_cases hlt:i<n
  ·have t1:decide ((i:Int)<(n:Int))=true:=by simp;omega
   obtain⟨b1,o1,rfl,hb1,hc1⟩:=Ykq HR.out (by rw[NR.out];omega);have hil:i<S.rows.length:=by rw[NR.out];exact hlt
   obtain⟨r,cap,hq,hml,hcel,hat⟩:=hc1 i hil;obtain⟨rs,hrs⟩:∃rs,[Value.bool S.rows[i].head,.int .i64 S.rows[i].id,.int .i64 S.rows[i].quant,.slice r S.rows[i].cels.length cap]=rs:=⟨_,rfl⟩;have r3:rs[3]? =some (.slice r S.rows[i].cels.length cap):=by rw[←hrs];rfl
   have rl:rs.length=4:=by rw[←hrs];rfl
   have ro:rs.toArray.all (·.oneCell')=true:=by rw[←hrs];simp[Value.oneCell']
   have hrg:wr.rangeAt b1 (o1+i*4) rs:=fun k v hk=>by
    obtain⟨a0,a1,a2,a3⟩:=hat wr hbw;rw[←hrs] at hk
    match k,hk with
    |0,hk=>injection hk with hk;subst hk;exact a0
    |1,hk=>injection hk with hk;subst hk;exact a1
    |2,hk=>injection hk with hk;subst hk;exact a2
    |3,hk=>injection hk with hk;subst hk;exact a3
   have HSR:(Tryz.prog.info? 42).map (·.size)=some rs.toArray.size:=by rw[show rs.toArray.size=4 from rl];kernel_rfl
   have HYR:Yr.size=rs.toArray.size:=by rw[HYRS];exact rl.symm
   obtain⟨u1,u2⟩:=Ywy (q:=q) hil;have uN:=Lib.hid (fun j (hj:j<S.rows[i].cels.length)=>Ywx (q:=q) hil hj);have uR:=Lib.hid (Yzb (q:=q) hil);have uM:=Lib.hid (fun j=>MOST.out q i j hil);have fN:=Lib.hid (Yt5 q hil);have fM:(Yk2 q (S.rows.take i)).length≤1048576:=by rw[Yhu,List.length_take];omega
   have cb:=fun(x:World) (q0:Int) (hx:x.heap[Q]? =some (.cells [.int .i64 q0].toArray 3 (0,0)))=>Ynx S.rows[i] (.slice r S.rows[i].cels.length cap) hx;have CB:=Lib.hid (fun(x:World) (q0:Int) (hx:x.heap[Q]? =some (.cells [.int .i64 q0].toArray 3 (0,0)))=>(by
    have h:=cb x q0 hx;rw[show (#[.bool S.rows[i].head,.int .i64 S.rows[i].id,.int .i64 S.rows[i].quant,.slice r S.rows[i].cels.length cap]:Array Value)=rs.toArray by rw[←hrs]] at h;exact h:Calls Tryz.prog 72 #[.agg rs.toArray,.pointer (some ⟨Q,0,none⟩)] x fun e y=>
     e=.returned (.int .i64 (Yfa q0 S.rows[i]))∧y.heap[Q]? =some (.cells [.int .i64 (Yfa q0 S.rows[i])].toArray 3 (0,0))∧x.grownBy y (some Q)))
   clear cb hat hc1 hrs;rw[←u1] at ha;obtain⟨U,hU⟩:∃U,qUp q S.rows i=U:=⟨_,rfl⟩;obtain⟨I,hI⟩:∃I,qIn q S.rows i=I:=⟨_,rfl⟩;obtain⟨q0,hq0⟩:∃q0,Ynw q (S.rows.take i)=q0:=⟨_,rfl⟩;rw[hq0] at ha u2 fN;have CB0:=Lib.hid (fun(x:World) hx=>CB.out x q0 hx);rw[←u2] at fN CB0;obtain⟨fl,hfl⟩:∃fl,Yk2 q (S.rows.take i)=fl:=⟨_,rfl⟩;rw[hfl] at ha fN fM;simp only[hU,hI] at ha uN uR uM fN CB0 u1 u2
   clear hU hI hq0 hfl CB u1 u2;generalize S.rows[i].cels=m at *;obtain⟨R,hR⟩:∃R,wr.heap.size=R:=⟨_,rfl⟩;obtain⟨wB,hwB⟩:∃wB,wr.alloc (.cells rs.toArray 42 (0,0))=wB:=⟨_,rfl⟩;have hhB:wB.heap[R]? =some (.cells rs.toArray 42 (0,0)):=by rw[←hwB,←hR];exact heap_alloc_new wr _
   have hbB:Below wr.heap.size wr wB:=by rw[←hwB];exact(Below.refl _ wr).alloc (Nat.le_refl _) _
   have haB:=ha.below hbB;have hbwB:Below (B+1) wA wB:=hb.trans (hbB.mono (by have:=hb.size;have:=HSA.out;omega));have hQR:Q<R:=by rw[←hR];exact ha.lt
   have hvR:∀k,u2.ownBlock=some k→k<R:=fun k hk=>by rw[←hR];exact(ha.rows.lt k hk).2
   have cB:=CB0.out wB haB.box;have HWB:=Lib.hid hwB;have HRR:=Lib.hid hR;have HCEL:=Lib.hid hcel;have R3:=Lib.hid r3;clear hwB hbB ha hb hbw hcel r3 hR CB0
   go_wp2_with (first|(with_reducible refine Ydr rfl _ rfl b1 (o1+i*4) rfl rs hrg rl ?_)|(with_reducible refine Yaf rfl 42 _ _ rfl rs.toArray Yr 42 rfl rfl HSR HYR ro ?_;rw[HWB.out,HRR.out])|(with_reducible refine wpList_load_row rfl 42 _ rfl R rfl 42 rs.toArray (0,0) _ hhB Tryz.underlying42 rfl HSR ?_))
   refine cB.mono ?_;rintro e w3 ⟨rfl,hQ3,hg3⟩;have ha3:=haB.turned hg3 hQ3;have hh3:=(hg3.block R (Array.getElem?_eq_some_iff.1 hhB).1 (fun e=>by injection e with e;omega)).trans hhB;have hb3:Below (B+1) wA w3:=hbwB.grown hg3 (by have:=hbwB.size;have:=HSA.out;omega) (fun k hk=>by injection hk with hk;omega);obtain⟨wP,hwP⟩:∃wP,w3.alloc (.cells #[.int .i64 (I 0)] 3 (0,0))=wP:=⟨_,rfl⟩
   have hbP:Below w3.heap.size w3 wP:=by rw[←hwP];exact(Below.refl _ w3).alloc (Nat.le_refl _) _
   have haP:=ha3.below hbP;have hhP:=(hbP.block R (Array.getElem?_eq_some_iff.1 hh3).1).trans hh3;have c0:wP.cell? ⟨w3.heap.size,0,none⟩=some (.int .i64 (I 0)):=by rw[←hwP];exact Yac (cs:=[.int .i64 (I 0)]) (heap_alloc_new w3 _) rfl
   have hbPA:Below (B+1) wA wP:=hb3.trans (hbP.mono (by have:=hb3.size;have:=HSA.out;omega));have hwo:=haP.rows;have hzP:B+1≤wP.heap.size:=by have:=hbPA.size;have:=HSA.out;omega
   obtain⟨ti,tz,j0,j1,j2,j3,j4⟩:=Ylx;have HWP:=Lib.hid hwP;have HAP:=Lib.hid haP;have HHP:=Lib.hid hhP;have HBPA:=Lib.hid hbPA;clear hwP hbP ha3 hh3 hb3 haB hbwB hhB hrg HSR HYR ro rl cB hg3 hQ3 haP hhP hbPA
   go_wp2_with (at_builtin;rw[HWP.out];refine Ye1 (v:=u2) (y0:=I 0) rfl rfl Tryz.underlying26 j0 j1 j2 j3 j4 rfl hwo rfl ?c1 ?c2 ?c3 ?_;(case c1=>exact c0);(case c2=>exact fM);(case c3=>exact hzP);intro v8 w8 ho8 hg8 hw8;have k3:w8.cell? ⟨R,3,none⟩=some (.slice r m.length cap):=Yac ((hg8.block R (Array.getElem?_eq_some_iff.1 HHP.out).1 (fun e=>by have:=hvR R e.symm;omega)).trans HHP.out) R3.out)
   have ha8:=HAP.out.rowed hg8 ho8 hw8;have hb8:Below (B+1) wA w8:=HBPA.out.grown hg8 (by have:=HBPA.out.size;have:=HSA.out;omega) (fun k hk=>by have:=(hwo.lt k hk).1;omega);rw[←fN.out] at ha8;clear c0 hwo hg8 ho8 hw8 HAP HHP HBPA fM fN
   go_loopw [3,39] (fun v t wr=>∃j:Nat,t=.int .i64 (j:Int)∧j≤m.length∧Yk4 wr (B+1) Q (I j) v8 v (Yk2 q (S.rows.take (i+1))) (U j)∧Below (B+1) wA wr) (fun _ t _=>m.length-(intOf t).toNat)
   case atStart=>exact⟨0,rfl,Nat.zero_le _,ha8,hb8⟩
   case round=>
    clear k3 ha8 hb8;obtain⟨j,rfl,hj,ha,hb⟩:=hrel;by_cases hjm:j<m.length
    ·have t2:decide ((j:Int)<(m.length:Int))=true:=by simp;omega
     have hml2:m.length≤9223372036854775807:=by unfold maxLen at hml;omega
     obtain⟨-,-,hbw⟩:=CL.out _ hb;obtain⟨b2,o2,rfl,hb2,hcv⟩:=Ydf.each HCEL.out (by omega);obtain⟨vs,hV,hvc⟩:=hcv j hjm;have hl18:=hV.shape.1;have hone:=Yei hV;obtain⟨p3,cap3,hvs,-,-⟩:=hV;have hrg:wr.rangeAt b2 (o2+j*18) vs:=fun k v hk=>hvc wr hbw k v hk;obtain⟨N1,N2⟩:=uN.out j hjm;have GM:=uM.out (j+1);rw[N1,List.length_append] at GM
     have cnx:=fun(x:World) (q0:Int) (hx:x.heap[Q]? =some (.cells [.int .i64 q0].toArray 3 (0,0)))=>Yqg m[j] (fun i=>.slice (p3 i) (m[j].ev i).length (cap3 i)) hx;rw[←hvs] at cnx;have LU:(U j).length≤1048576:=by simp only[List.length_cons,List.length_nil] at GM;omega
     obtain⟨C,hC⟩:∃C,wr.heap.size=C:=⟨_,rfl⟩;obtain⟨wC,hwC⟩:∃wC,wr.alloc (.cells vs.toArray 48 (0,0))=wC:=⟨_,rfl⟩;have hhC:wC.heap[C]? =some (.cells vs.toArray 48 (0,0)):=by rw[←hwC,←hC];exact heap_alloc_new wr _
     have hbC:Below wr.heap.size wr wC:=by rw[←hwC];exact(Below.refl _ wr).alloc (Nat.le_refl _) _
     have haC:=ha.below hbC;have hbwC:Below (B+1) wA wC:=hb.trans (hbC.mono (by have:=hb.size;have:=HSA.out;omega));have HSV:(Tryz.prog.info? 48).map (·.size)=some vs.toArray.size:=by rw[show vs.toArray.size=18 from hl18];kernel_rfl
     have HYV:Y.size=vs.toArray.size:=by rw[HYS];exact hl18.symm
     have cC:=cnx wC (I j) haC.box;rw[←N2] at cC N1;have UN:=Lib.hid N1;have HWC:=Lib.hid hwC;have HCC:=Lib.hid hC;clear hwC hbC ha hb hC cnx hvs hcv hvc N1 N2 GM hbw
     go_wp2_with (first|(with_reducible refine Yci rfl _ rfl b2 (o2+j*18) rfl vs hrg hl18 ?_)|(with_reducible refine Yaf rfl 48 _ _ rfl vs.toArray Y 48 rfl rfl HSV HYV hone ?_;rw[HWC.out,HCC.out])|(with_reducible refine wpList_load_row rfl 48 _ rfl C rfl 48 vs.toArray (0,0) _ hhC Tryz.underlying48 rfl HSV ?_))
     refine cC.mono ?_;rintro e w3 ⟨rfl,hQ3,hg3⟩;have ha3:=haC.turned hg3 hQ3;have hb3:Below (B+1) wA w3:=hbwC.grown hg3 (by have:=hbwC.size;have:=HSA.out;omega) (fun k hk=>by injection hk with hk;omega);obtain⟨wP,hwP⟩:∃wP,w3.alloc (.cells #[.int .i64 (I (j+1))] 3 (0,0))=wP:=⟨_,rfl⟩;have hbP:Below w3.heap.size w3 wP:=by rw[←hwP];exact(Below.refl _ w3).alloc (Nat.le_refl _) _
     have haP:=ha3.below hbP;have c0:wP.cell? ⟨w3.heap.size,0,none⟩=some (.int .i64 (I (j+1))):=by rw[←hwP];exact Yac (cs:=[.int .i64 (I (j+1))]) (heap_alloc_new w3 _) rfl
     have hbPA:Below (B+1) wA wP:=hb3.trans (hbP.mono (by have:=hb3.size;have:=HSA.out;omega));have hwo:=haP.cels;have hzP:B+1≤wP.heap.size:=by have:=hbPA.size;have:=HSA.out;omega
     obtain⟨ti,tz,j0,j1,j2,j3,j4⟩:=Ylx;have HWP:=Lib.hid hwP;have HAP:=Lib.hid haP;have HBPA:=Lib.hid hbPA;clear hwP hbP ha3 hb3 haC hbwC hhC hrg HSV HYV hone hl18 cC hg3 hQ3 haP hbPA
     go_wp2_with (at_builtin;rw[HWP.out];refine Ye1 (v:=u3) (y0:=I (j+1)) rfl rfl Tryz.underlying26 j0 j1 j2 j3 j4 rfl hwo rfl ?c1 ?c2 ?c3 ?_;(case c1=>exact c0);(case c2=>exact LU);(case c3=>exact hzP);intro v9 w9 ho9 hg9 hw9)
     have ha9:=HAP.out.celled hg9 ho9 hw9;have hb9:Below (B+1) wA w9:=HBPA.out.grown hg9 (by have:=HBPA.out.size;have:=HSA.out;omega) (fun k hk=>by have:=(hwo.lt k hk).1;omega);rw[←UN.out] at ha9;clear c0 hwo hg9 ho9 hw9 HAP HBPA
     go_roundw
     case rel=>exact⟨j+1,by go_num,by omega,ha9,hb9⟩
     case measure=>simp[intOf];omega
    ·obtain rfl:m.length=j:=by omega
     have t2:decide ((m.length:Int)<(m.length:Int))=false:=by simp
     rw[uR.out.1,uR.out.2] at ha
     go_wp2
     go_roundw
     case rel=>exact⟨i+1,by go_num,by omega,ha,hb⟩
     case measure=>simp[intOf];omega
  ·obtain rfl:n=i:=by omega
   have t1:decide ((n:Int)<(n:Int))=false:=by simp
   have e1:S.rows.take n=S.rows:=List.take_of_length_le (by rw[NR.out];omega);rw[e1] at ha;have o1:=Ykk ha.rows (show B≤B+1 by omega);have o2:=Ykk ha.cels (show B≤B+1 by omega);rw[←HQ.out,←HB.out] at o1 o2;have H1:=Lib.hid o1;have H2:=Lib.hid o2;clear e1 ha o1 o2
   go_wp2
   go_ret3
   exact Ycd.ok EH0.out hbw H1.out H2.out
def Yg5 (l:List Int)(E:Int)(w:World)(e:Ending)(w':World):Prop:=
 ∃v,e=.returned (.tuple #[v,.int .i64 E])∧w'.ownsRow w.heap.size 3 1 v l.length (Yox l)∧Below w.heap.size w w'
set_option maxRecDepth 100000 in
set_option maxHeartbeats 1000000 in
theorem Yqf (S:ShP)(p b:Option Addr)(ca cb:Nat)(w:World)(hl:S.hd.supp.length≤maxLen)(hn:S.rows.length≤1048576)(hs:Yde w p S.hd.supp)(hr:Ydh w b S.rows)(hm:(Yaw S).length≤1048576)(hc:∀c∈Yaw S,∀k,k<6→(c.ev k).length≤1048576)(hR:Ycz w S.hd.inter):
  Calls Tryz.prog 15 #[.agg (Yaz S.hd (.slice p S.hd.supp.length ca) (.slice b S.rows.length cb) S.zeros).toArray] w (Yg5 (Ynv S) (Ybe S) w):=by
 have thr:=fun x h1 h2 h3=>Yqh S p b ca cb x hl hn h1 h2 hm hc h3;obtain⟨zs,hZ⟩:∃zs,Yaz S.hd (.slice p S.hd.supp.length ca) (.slice b S.rows.length cb) S.zeros=zs:=⟨_,rfl⟩;have HSZ:(Tryz.prog.info? 29).map (·.size)=some zs.toArray.size:=by rw[show zs.toArray.size=8 by rw[←hZ];rfl];kernel_rfl
 rw[hZ] at thr ⊢;obtain⟨B,hB⟩:∃B,w.heap.size=B:=⟨_,rfl⟩;obtain⟨wA,hwA⟩:∃wA,w.alloc (.cells zs.toArray 29 (0,0))=wA:=⟨_,rfl⟩;have hhA:wA.heap[B]? =some (.cells zs.toArray 29 (0,0)):=by rw[←hwA,←hB];exact heap_alloc_new w _
 have hbA:Below w.heap.size w wA:=by rw[←hwA];exact(Below.refl _ w).alloc (Nat.le_refl _) _
 have C1:=thr wA (hs.below hbA) (hr.below hbA) (hR.below hbA);unfold Ycd at C1;have HWA:=Lib.hid hwA;have HB:=Lib.hid hB;have HBA:=Lib.hid hbA;generalize Ynv S=la at *;generalize Yt3 S=lf at *;generalize Ybe S=E at *;clear thr hwA hB hbA hZ hs hr hR hc hm hn hl
 go_enter Tryz.func15,Tryz.ntmps15
 go_wp2_with (rw[HWA.out,HB.out];with_reducible refine wpList_load_row rfl 29 _ rfl B rfl 29 zs.toArray (0,0) _ hhA Tryz.underlying29 rfl HSZ ?_)
 refine C1.mono ?_;rintro e w1 ⟨vr,vc,rfl,h1,h2,hb1⟩;have H2:=Lib.hid h2;have H3:=Lib.hid hb1;clear h1 h2 hb1
 go_wp2
 go_ret2
 exact⟨_,rfl,Ykk H2.out HBA.out.size,HBA.out.trans (H3.out.mono HBA.out.size)⟩
theorem Ynp (w:World)(c:Cel)(hm:(Lit.int .i64 c.mx).wf=true∧(Lit.int .i64 c.my).wf=true)(h:∀i,i<6→c.ev i=[]):Yrh w c (Ybp c Yhl):=
 ⟨fun _=>none,fun _=>0,Yiw fun i hi=>by rw[h i hi];rfl,hm,fun i hi=>by rw[h i hi];exact⟨Nat.zero_le _,.inl rfl⟩⟩
theorem Yxn {w:World}{b:Nat}{c d:Cel}(hc:(Lit.int .i64 c.mx).wf=true∧(Lit.int .i64 c.my).wf=true)(hd:(Lit.int .i64 d.mx).wf=true∧(Lit.int .i64 d.my).wf=true)(ec:∀i,i<6→c.ev i=[])(ed:∀i,i<6→d.ev i=[])
  (h:w.heap[b]? =some (.cells (Ybp c Yhl++Ybp d Yhl).toArray 48 (0,0))):Ygg w (some ⟨b,0,none⟩) [c,d]:=by
 refine .inr ⟨b,0,rfl,(Array.getElem?_eq_some_iff.1 h).1,fun i hi=>?_⟩
 match i,hi with
 |0,_=>
  refine⟨Ybp c Yhl,Ynp w c hc ec,fun j v hj=>?_⟩;have hl:j<18:=(List.getElem?_eq_some_iff.1 hj).1;rw[Nat.zero_mul,Nat.zero_add];exact Yac h (by rw[List.getElem?_append_left hl];exact hj)
 |1,_=>
  refine⟨Ybp d Yhl,Ynp w d hd ed,fun j v hj=>?_⟩;exact Yac h (by rw[List.getElem?_append_right (by show 18≤0+1*18+j;omega),show 0+1*18+j-(Ybp c Yhl).length=j by show 0+1*18+j-18=j;omega];exact hj)
theorem Yxp {w:World}{b b1 b2:Nat}{l m:List Cel}(h:w.heap[b]? =some (.cells #[.bool false,.int .i64 0,.int .i64 0,.slice (some ⟨b1,0,none⟩) 2 2,.bool false,.int .i64 0,.int .i64 0,.slice (some ⟨b2,0,none⟩) 2 2] 42 (0,0)))
  (hl:l.length=2)(hm:m.length=2)(h1:Ygg w (some ⟨b1,0,none⟩) l)(h2:Ygg w (some ⟨b2,0,none⟩) m):Ydh w (some ⟨b,0,none⟩) [⟨false,0,0,l⟩,⟨false,0,0,m⟩]:=by
 have h':w.heap[b]? =some (.cells [.bool false,.int .i64 0,.int .i64 0,.slice (some ⟨b1,0,none⟩) 2 2,.bool false,.int .i64 0,.int .i64 0,.slice (some ⟨b2,0,none⟩) 2 2].toArray 42 (0,0)):=h;refine .inr ⟨b,0,rfl,(Array.getElem?_eq_some_iff.1 h).1,fun i hi=>?_⟩
 match i,hi with
 |0,_=>
  refine⟨[.bool false,.int .i64 0,.int .i64 0,.slice (some ⟨b1,0,none⟩) 2 2],⟨some ⟨b1,0,none⟩,2,(by show _=[Value.bool false,.int .i64 0,.int .i64 0,.slice _ l.length 2];rw[hl]),(fun h=>by cases h),(by show l.length≤_;rw[hl];decide),h1⟩,fun j v hj=>?_⟩
  match j,hj with
  |0,hj|1,hj|2,hj|3,hj=>injection hj with hj;subst hj;exact Yac h' rfl
 |1,_=>
  refine⟨[.bool false,.int .i64 0,.int .i64 0,.slice (some ⟨b2,0,none⟩) 2 2],⟨some ⟨b2,0,none⟩,2,(by show _=[Value.bool false,.int .i64 0,.int .i64 0,.slice _ m.length 2];rw[hm]),(fun h=>by cases h),(by show m.length≤_;rw[hm];decide),h2⟩,fun j v hj=>?_⟩
  match j,hj with
  |0,hj|1,hj|2,hj|3,hj=>injection hj with hj;subst hj;exact Yac h' rfl
theorem Yen {P:Program}{ops:Array Oper}{rest:List Oper}{op:Oper}{a:Act}{w:World}{Q:Exit→Act→World→Prop}(hgd:op.guard=none)(ty:TypeId)(x y:Operand)(ho:op.op=.store ty x y)
  (Z old:Array Value)(T:TypeId)(N:Nat)(hN:w.heap.size=N)(hx:a.eval x=.pointer (some ⟨N,0,none⟩))(hy:a.eval y=.agg Z)(hi:(P.info? ty).map (·.size)=some Z.size)(hs:old.size=Z.size)(h1:Z.all (·.oneCell')=true)
  (h:wpList P ops Q rest (a.put op.dst undef) (w.alloc (.cells Z T (0,0)))):wpList P ops Q (op::rest) a (w.alloc (.cells old T (0,0))):=by
 subst hN;exact Yaf hgd ty x y ho Z old T hx hy hi hs h1 h
theorem Yeg (w:World)(o:Obj):∃w',w.alloc o=w'∧w'.heap.size=w.heap.size+1∧w'.heap[w.heap.size]? =some o∧Below w.heap.size w w':=
 ⟨_,rfl,by simp,heap_alloc_new w _,(Below.refl _ w).alloc (Nat.le_refl _) _⟩
theorem Yh0:∃Y:Array Value,Y.size=8∧∀w,(zeroValue 29).run Tryz.prog w=.ok (.agg Y) w:=⟨#[.int .i64 0,.int .i64 0,.int .i64 0,.bool false,.int .i64 0,.slice none 0 0,.slice none 0 0,.int .i64 0],rfl,Yfi (by kernel_rfl)⟩
end Go.Proofs.YtnamlooifcpoaaaGreatDoor