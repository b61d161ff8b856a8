/- No condition. -/
import Derived.Test.YtndbeacoaimdgaaDoorQuantsGoMf
import Derived.Test.YtndbeacoaimdgaaDoorQuantsGoMg
import Derived.Test.YtndbeacoaimdgaaDoorQuantsGoMi
import Derived.Test.YtndbeacoaimdgaaDoorQuantsGoMx
import Derived.Test.YtndbeacoaimdgaaDoorQuantsGoMba
import Derived.Test.YtndbeacoaimdgaaDoorQuantsGoMbb
import Derived.Test.YtndbeacoaimdgaaDoorQuantsGoMbh
import Derived.Test.YtndbeacoaimdgaaDoorQuantsGoMbi
import Derived.WalkMore
import Derived.RegionTactic
namespace Go.Proofs.YtndbeacoaimdgaaDoor
open Go.RowKit Go.Lib
theorem Yib (w:World)(c:Cel)(hm:(Lit.int .i64 c.mx).wf=true∧(Lit.int .i64 c.my).wf=true)(h:∀i,i<6→c.ev i=[]):Ykl w c (Ybe c Ygp):=
 ⟨fun _=>none,fun _=>0,Yjh fun i hi=>by rw[h i hi];rfl,hm,fun i hi=>by rw[h i hi];exact⟨Nat.zero_le _,.inl rfl⟩⟩
theorem Yi9 {w:World}{b:Nat}{c d:Cel}(hc:(Lit.int .i64 c.mx).wf=true∧(Lit.int .i64 c.my).wf=true)(hd:(Lit.int .i64 d.mx).wf=true∧(Lit.int .i64 d.my).wf=true)(ec:∀i,i<6→c.ev i=[])(ed:∀i,i<6→d.ev i=[])
  (h:w.heap[b]? =some (.cells (Ybe c Ygp++Ybe d Ygp).toArray 42 (0,0))):Ydw w (some ⟨b,0,none⟩) [c,d]:=by
 refine .inr ⟨b,0,rfl,(Array.getElem?_eq_some_iff.1 h).1,fun i hi=>?_⟩
 match i,hi with
 |0,_=>
  refine⟨Ybe c Ygp,Yib w c hc ec,fun j v hj=>?_⟩;have hl:j<18:=(List.getElem?_eq_some_iff.1 hj).1;rw[Nat.zero_mul,Nat.zero_add];exact Yab h (by rw[List.getElem?_append_left hl];exact hj)
 |1,_=>
  refine⟨Ybe d Ygp,Yib w d hd ed,fun j v hj=>?_⟩;exact Yab h (by rw[List.getElem?_append_right (by show 18≤0+1*18+j;omega),show 0+1*18+j-(Ybe c Ygp).length=j by show 0+1*18+j-18=j;omega];exact hj)
theorem Yco {P:Program}{ops:Array Oper}{rest:List Oper}{op:Oper}{a:Act}{w:World}{Q:Exit→Act→World→Prop}(hgd:op.guard=none)(ty:TypeId)(x y:Operand)(ho:op.op=.store ty x y)
  (Z old:Array Value)(T:TypeId)(N:Nat)(hN:w.heap.size=N)(hx:a.eval x=.pointer (some ⟨N,0,none⟩))(hy:a.eval y=.agg Z)(hi:(P.info? ty).map (·.size)=some Z.size)(hs:old.size=Z.size)(h1:Z.all (·.oneCell')=true)
  (h:wpList P ops Q rest (a.put op.dst undef) (w.alloc (.cells Z T (0,0)))):wpList P ops Q (op::rest) a (w.alloc (.cells old T (0,0))):=by
 subst hN;exact Yaq hgd ty x y ho Z old T hx hy hi hs h1 h
theorem Ybg (w:World)(o:Obj):∃w',w.alloc o=w'∧w'.heap.size=w.heap.size+1∧w'.heap[w.heap.size]? =some o∧Below w.heap.size w w':=
 ⟨_,rfl,by simp,heap_alloc_new w _,(Below.refl _ w).alloc (Nat.le_refl _) _⟩
theorem Yik:∃Y:Array Value,Y.size=8∧∀w,(zeroValue 25).run Tryd.prog w=.ok (.agg Y) w:=⟨#[.int .i64 0,.int .i64 0,.int .i64 0,.bool false,.int .i64 0,.slice none 0 0,.slice none 0 0,.int .i64 0],rfl,Yde (by kernel_rfl)⟩
def Yhj (S:ShP):List Int:=if Ya1 S=0 then Yea S.hd.quant S.rows else []
def Yhh (S:ShP):List Int:=if Ya1 S=0 then Yd3 S.hd.quant S.rows else []
theorem Yi1 {S:ShP}(h:Ya1 S=0):Yhj S=Yea S.hd.quant S.rows:=if_pos h
theorem Yi0 {S:ShP}(h:Ya1 S=0):Yhh S=Yd3 S.hd.quant S.rows:=if_pos h
theorem Ylz {S:ShP}(h:¬ Ya1 S=0):Yhj S=[]:=if_neg h
theorem Yhi {S:ShP}(h:¬ Ya1 S=0):Yhh S=[]:=if_neg h
def Ya6 (S:ShP)(w:World)(e:Ending)(w':World):Prop:=
 ∃vr vc,e=.returned (.tuple #[vr,vc,.int .i64 (Ya1 S)])∧w'.ownsRow w.heap.size 3 1 vr (Yhj S).length (Yh5 (Yhj S))∧w'.ownsRow w.heap.size 3 1 vc (Yhh S).length (Yh5 (Yhh S))∧Below w.heap.size w w'
theorem Ya6.not {S:ShP}{w w':World}(h:¬ Ya1 S=0)(hb:Below w.heap.size w w'){E:Int}(hE:Ya1 S=E):Ya6 S w (.returned (.tuple #[.slice none 0 0,.slice none 0 0,.int .i64 E])) w':=by
 subst hE;refine⟨_,_,rfl,?_,?_,hb⟩
 ·rw[Ylz h];exact World.ownsRow_nil ..
 ·rw[Yhi h];exact World.ownsRow_nil ..
theorem Ya6.ok {S:ShP}{w w':World}{vr vc:Value}(h:Ya1 S=0)(hb:Below w.heap.size w w')(h1:w'.ownsRow w.heap.size 3 1 vr (Yea S.hd.quant S.rows).length (Yh5 (Yea S.hd.quant S.rows)))
  (h2:w'.ownsRow w.heap.size 3 1 vc (Yd3 S.hd.quant S.rows).length (Yh5 (Yd3 S.hd.quant S.rows))):Ya6 S w (.returned (.tuple #[vr,vc,.int .i64 0])) w':=by
 refine⟨vr,vc,by rw[h],?_,?_,hb⟩
 ·rw[Yi1 h];exact h1
 ·rw[Yi0 h];exact h2
theorem Yha:∃i z,Tryd.prog.info? 3=some i∧i.zero=some z∧z.cells.size=1∧i.size=1∧i.bytes=8:=by
 have h:=Ym9;generalize Tryd.prog.info? 3=x at h
 match x,h with
 |some i,h=>
  rw[Option.map_some] at h;injection h with h;injection h with h1 h2;injection h2 with h2 h3;exact⟨i,_,rfl,h1,rfl,h2,h3⟩
def qUp (q:Int)(l:List RowP)(i j:Nat):List Int:=Yd3 q (l.take i)++Ycv (Ybr (Yez q (l.take i)) (l[i]!)) ((l[i]!).cels.take j)
def qIn (q:Int)(l:List RowP)(i j:Nat):Int:=Yi3 (Ybr (Yez q (l.take i)) (l[i]!)) ((l[i]!).cels.take j)
section
variable {q:Int}{l:List RowP}{i j:Nat}
theorem Yi4 (hi:i<l.length):qUp q l i 0=Yd3 q (l.take i)∧qIn q l i 0=Ybr (Yez q (l.take i)) l[i]:=by
 unfold qUp qIn;rw[List.take_zero,getElem!_pos l i hi];exact⟨List.append_nil _,rfl⟩
theorem Ygg (hi:i<l.length)(hj:j<l[i].cels.length):qUp q l i (j+1)=qUp q l i j++[Yfr (qIn q l i j) l[i].cels[j]]∧qIn q l i (j+1)=Yfr (qIn q l i j) l[i].cels[j]:=by
 unfold qUp qIn;rw[getElem!_pos l i hi,Yjx _ hj,Yl3 _ hj,List.append_assoc];exact⟨rfl,rfl⟩
theorem Yo2 (hi:i<l.length):qUp q l i l[i].cels.length=Yd3 q (l.take (i+1))∧qIn q l i l[i].cels.length=Yez q (l.take (i+1)):=by
 unfold qUp qIn;rw[getElem!_pos l i hi,List.take_length,Ylu q hi,Yly q hi];exact⟨rfl,rfl⟩
end
theorem Yno (S:ShP){q:Int}{i:Nat}(hi:i<S.rows.length)(j:Nat):(qUp q S.rows i j).length≤(Yaz S).length:=by
 have h:=Yfi S (i+1);rw[Ycr S hi,List.length_append] at h;unfold Yb4 at h;unfold qUp;rw[List.length_append,Ybq,Yb2,List.length_take,getElem!_pos S.rows i hi];omega
set_option maxRecDepth 100000 in
set_option maxHeartbeats 4000000 in
theorem Yjz (S:ShP)(p b:Option Addr)(ca cb:Nat)(w:World)(hl:S.hd.supp.length≤maxLen)(hn:S.rows.length≤1048576)(hs:Ya9 w p S.hd.supp)(hr:Ybz w b S.rows)(hm:(Yaz S).length≤1048576)(hc:∀c∈Yaz S,∀k,k<6→(c.ev k).length≤1048576)(hR:Ybx w S.hd.inter):
  Calls Tryd.prog 13 #[.agg (Yas S.hd (.slice p S.hd.supp.length ca) (.slice b S.rows.length cb) S.zeros).toArray] w (Ya6 S w):=by
 have chk:=fun x=>Yhp S p b ca cb x hl (by omega);obtain⟨n,hln⟩:∃n,S.rows.length=n:=⟨_,rfl⟩;rw[hln] at hn chk ⊢;obtain⟨zs,hZ⟩:∃zs,Yas S.hd (.slice p S.hd.supp.length ca) (.slice b n cb) S.zeros=zs:=⟨_,rfl⟩;have z4:zs[4]? =some (.int .i64 S.hd.quant):=by rw[←hZ];rfl
 have z6:zs[6]? =some (.slice b n cb):=by rw[←hZ];rfl
 have HSZ:(Tryd.prog.info? 25).map (·.size)=some zs.toArray.size:=by rw[show zs.toArray.size=8 by rw[←hZ];rfl];kernel_rfl
 rw[hZ] at chk ⊢;obtain⟨B,hB⟩:∃B,w.heap.size=B:=⟨_,rfl⟩;obtain⟨wA,hwA⟩:∃wA,w.alloc (.cells zs.toArray 25 (0,0))=wA:=⟨_,rfl⟩;have hhA:wA.heap[B]? =some (.cells zs.toArray 25 (0,0)):=by rw[←hwA,←hB];exact heap_alloc_new w _
 have hbA:Below w.heap.size w wA:=by rw[←hwA];exact(Below.refl _ w).alloc (Nat.le_refl _) _
 have hsA:wA.heap.size=B+1:=by rw[←hwA,←hB];simp
 have W0:∀x,Below (B+1) wA x→Below w.heap.size w x:=fun x hx=>hbA.trans (hx.mono (by omega));have CL:=Lib.hid (fun(x:World) (hx:Below (B+1) wA x)=>(⟨Yab ((hx.block B (by omega)).trans hhA) z4,Yab ((hx.block B (by omega)).trans hhA) z6,W0 x hx⟩:x.cell? ⟨B,4,none⟩=some (.int .i64 S.hd.quant)∧x.cell? ⟨B,6,none⟩=some (.slice b n cb)∧Below w.heap.size w x))
 have C1:=chk wA (hs.below hbA) (hr.below hbA) hc (hR.below hbA);rw[hsA] at C1;have DT:=Lib.hid (fun(x:World) (hx:Below (B+1) wA x)=>(fun{E:Int} (h:¬ E=0) (hE:Ya1 S=E)=>Ya6.not (by rw[hE];exact h) (W0 x hx) hE:∀{E:Int},¬ E=0→Ya1 S=E→Ya6 S w (.returned (.tuple #[.slice none 0 0,.slice none 0 0,.int .i64 E])) x));have HWA:=Lib.hid hwA;have HB:=Lib.hid hB;have HSA:=Lib.hid hsA;have NR:=Lib.hid hln
 have HR:=Lib.hid hr;have MOST:=Lib.hid (fun q i j (hi:i<S.rows.length)=>Nat.le_trans (Yno S (q:=q) hi j) hm);obtain⟨E,hE⟩:∃E,Ya1 S=E:=⟨_,rfl⟩;rw[hE] at C1;have EH:=Lib.hid hE;obtain⟨Yr,HYRS,hzr⟩:=Yhm;obtain⟨Y,HYS,hzv⟩:=Ydk;clear hwA hbA hsA W0 hZ hln hr hm hc hs hR chk hB z4 z6 hE hl;by_cases h0:E=0
 case neg=>
  have t1:(E != 0)=true:=by simpa [bne] using h0
  have HN:=Lib.hid h0;clear h0
  go_enter Tryd.func13,Tryd.ntmps13
  go_wp2_with (rw[HWA.out,HB.out];with_reducible refine wpList_load_row rfl 25 _ rfl B rfl 25 zs.toArray (0,0) _ hhA Tryd.underlying25 rfl HSZ ?_)
  refine C1.mono ?_;rintro e w1 ⟨rfl,hb1⟩
  go_wp2
  go_ret3
  exact DT.out _ hb1 HN.out EH.out
 subst h0;have EH0:=Lib.hid (show Ya1 S=0 from EH.out);clear EH DT;obtain⟨q,hq⟩:∃q,S.hd.quant=q:=⟨_,rfl⟩;rw[hq] at CL;have HQ:=Lib.hid hq;clear hq
 go_enter Tryd.func13,Tryd.ntmps13
 go_wp2_with (rw[HWA.out,HB.out];with_reducible refine wpList_load_row rfl 25 _ rfl B rfl 25 zs.toArray (0,0) _ hhA Tryd.underlying25 rfl HSZ ?_)
 refine C1.mono ?_;rintro e w1 ⟨rfl,hb1⟩;obtain⟨k4,-,-⟩:=CL.out _ hb1;clear C1 hhA;have cf:=Yih q w1
 go_wp2_with fail
 refine cf.mono ?_;rintro e w2 ⟨rfl,hQ2,hb2⟩;have hbA2:Below (B+1) wA w2:=hb1.trans (hb2.mono (by have:=hb1.size;have:=HSA.out;omega));obtain⟨-,k6,-⟩:=CL.out _ hbA2;obtain⟨Q,hQ⟩:∃Q,w1.heap.size=Q:=⟨_,rfl⟩;rw[hQ] at hQ2 ⊢;have hBQ:B+1≤Q:=by rw[←hQ];have:=hb1.size;have:=HSA.out;omega
 have at0:Ygq w2 (B+1) Q q (.slice none 0 0) (.slice none 0 0) [] []:=⟨by omega,hQ2,World.ownsRow_nil ..,World.ownsRow_nil ..,(fun e=>by cases e),(fun e=>by cases e),fun k e=>by cases e⟩;clear k4 cf hb1 hb2 hQ hQ2
 go_wp2
 clear k6
 go_loopw [2,3,26] (fun vr vc t wr=>∃i:Nat,t=.int .i64 (i:Int)∧i≤n∧Ygq wr (B+1) Q (Yez q (S.rows.take i)) vr vc (Yea q (S.rows.take i)) (Yd3 q (S.rows.take i))∧Below (B+1) wA wr) (fun _ _ t _=>n-(intOf t).toNat)
 case atStart=>exact⟨0,rfl,Nat.zero_le _,at0,hbA2⟩
 case round=>
  clear at0 hbA2;obtain⟨i,rfl,hi,ha,hb⟩:=hrel;obtain⟨-,-,hbw⟩:=CL.out _ hb;by_cases hlt:i<n
  ·have t1:decide ((i:Int)<(n:Int))=true:=by simp;omega
   obtain⟨b1,o1,rfl,hb1,hc1⟩:=Ye2 HR.out (by rw[NR.out];omega);have hil:i<S.rows.length:=by rw[NR.out];exact hlt
   obtain⟨r,cap,hq,hml,hcel,hat⟩:=hc1 i hil;obtain⟨rs,hrs⟩:∃rs,[Value.bool S.rows[i].head,.int .i64 S.rows[i].id,.int .i64 S.rows[i].quant,.slice r S.rows[i].cels.length cap]=rs:=⟨_,rfl⟩;have r3:rs[3]? =some (.slice r S.rows[i].cels.length cap):=by rw[←hrs];rfl
   have rl:rs.length=4:=by rw[←hrs];rfl
   have ro:rs.toArray.all (·.oneCell')=true:=by rw[←hrs];simp[Value.oneCell']
   have hrg:wr.rangeAt b1 (o1+i*4) rs:=fun k v hk=>by
    obtain⟨a0,a1,a2,a3⟩:=hat wr hbw;rw[←hrs] at hk
    match k,hk with
    |0,hk=>injection hk with hk;subst hk;exact a0
    |1,hk=>injection hk with hk;subst hk;exact a1
    |2,hk=>injection hk with hk;subst hk;exact a2
    |3,hk=>injection hk with hk;subst hk;exact a3
   have HSR:(Tryd.prog.info? 36).map (·.size)=some rs.toArray.size:=by rw[show rs.toArray.size=4 from rl];kernel_rfl
   have HYR:Yr.size=rs.toArray.size:=by rw[HYRS];exact rl.symm
   obtain⟨u1,u2⟩:=Yi4 (q:=q) hil;have uN:=Lib.hid (fun j (hj:j<S.rows[i].cels.length)=>Ygg (q:=q) hil hj);have uR:=Lib.hid (Yo2 (q:=q) hil);have uM:=Lib.hid (fun j=>MOST.out q i j hil);have fN:=Lib.hid (Yl0 q hil);have fM:(Yea q (S.rows.take i)).length≤1048576:=by rw[Ycc,List.length_take];omega
   have cb:=fun(x:World) (q0:Int) (hx:x.heap[Q]? =some (.cells [.int .i64 q0].toArray 3 (0,0)))=>Yig S.rows[i] (.slice r S.rows[i].cels.length cap) hx;have CB:=Lib.hid (fun(x:World) (q0:Int) (hx:x.heap[Q]? =some (.cells [.int .i64 q0].toArray 3 (0,0)))=>(by
    have h:=cb x q0 hx;rw[show (#[.bool S.rows[i].head,.int .i64 S.rows[i].id,.int .i64 S.rows[i].quant,.slice r S.rows[i].cels.length cap]:Array Value)=rs.toArray by rw[←hrs]] at h;exact h:Calls Tryd.prog 32 #[.agg rs.toArray,.pointer (some ⟨Q,0,none⟩)] x fun e y=>
     e=.returned (.int .i64 (Ybr q0 S.rows[i]))∧y.heap[Q]? =some (.cells [.int .i64 (Ybr q0 S.rows[i])].toArray 3 (0,0))∧x.grownBy y (some Q)))
   clear cb hat hc1 hrs;rw[←u1] at ha;obtain⟨U,hU⟩:∃U,qUp q S.rows i=U:=⟨_,rfl⟩;obtain⟨I,hI⟩:∃I,qIn q S.rows i=I:=⟨_,rfl⟩;obtain⟨q0,hq0⟩:∃q0,Yez q (S.rows.take i)=q0:=⟨_,rfl⟩;rw[hq0] at ha u2 fN;have CB0:=Lib.hid (fun(x:World) hx=>CB.out x q0 hx);rw[←u2] at fN CB0;obtain⟨fl,hfl⟩:∃fl,Yea q (S.rows.take i)=fl:=⟨_,rfl⟩;rw[hfl] at ha fN fM;simp only[hU,hI] at ha uN uR uM fN CB0 u1 u2
   clear hU hI hq0 hfl CB u1 u2;generalize S.rows[i].cels=m at *;obtain⟨R,hR⟩:∃R,wr.heap.size=R:=⟨_,rfl⟩;obtain⟨wB,hwB⟩:∃wB,wr.alloc (.cells rs.toArray 36 (0,0))=wB:=⟨_,rfl⟩;have hhB:wB.heap[R]? =some (.cells rs.toArray 36 (0,0)):=by rw[←hwB,←hR];exact heap_alloc_new wr _
   have hbB:Below wr.heap.size wr wB:=by rw[←hwB];exact(Below.refl _ wr).alloc (Nat.le_refl _) _
   have haB:=ha.below hbB;have hbwB:Below (B+1) wA wB:=hb.trans (hbB.mono (by have:=hb.size;have:=HSA.out;omega));have hQR:Q<R:=by rw[←hR];exact ha.lt
   have hvR:∀k,u2.ownBlock=some k→k<R:=fun k hk=>by rw[←hR];exact(ha.rows.lt k hk).2
   have cB:=CB0.out wB haB.box;have HWB:=Lib.hid hwB;have HRR:=Lib.hid hR;have HCEL:=Lib.hid hcel;have R3:=Lib.hid r3;clear hwB hbB ha hb hbw hcel r3 hR CB0
   go_wp2_with (first|(with_reducible refine Yc2 rfl _ rfl b1 (o1+i*4) rfl rs hrg rl ?_)|(with_reducible refine Yaq rfl 36 _ _ rfl rs.toArray Yr 36 rfl rfl HSR HYR ro ?_;rw[HWB.out,HRR.out])|(with_reducible refine wpList_load_row rfl 36 _ rfl R rfl 36 rs.toArray (0,0) _ hhB Tryd.underlying36 rfl HSR ?_))
   refine cB.mono ?_;rintro e w3 ⟨rfl,hQ3,hg3⟩;have ha3:=haB.turned hg3 hQ3;have hh3:=(hg3.block R (Array.getElem?_eq_some_iff.1 hhB).1 (fun e=>by injection e with e;omega)).trans hhB;have hb3:Below (B+1) wA w3:=hbwB.grown hg3 (by have:=hbwB.size;have:=HSA.out;omega) (fun k hk=>by injection hk with hk;omega);obtain⟨wP,hwP⟩:∃wP,w3.alloc (.cells #[.int .i64 (I 0)] 3 (0,0))=wP:=⟨_,rfl⟩
   have hbP:Below w3.heap.size w3 wP:=by rw[←hwP];exact(Below.refl _ w3).alloc (Nat.le_refl _) _
   have haP:=ha3.below hbP;have hhP:=(hbP.block R (Array.getElem?_eq_some_iff.1 hh3).1).trans hh3;have c0:wP.cell? ⟨w3.heap.size,0,none⟩=some (.int .i64 (I 0)):=by rw[←hwP];exact Yab (cs:=[.int .i64 (I 0)]) (heap_alloc_new w3 _) rfl
   have hbPA:Below (B+1) wA wP:=hb3.trans (hbP.mono (by have:=hb3.size;have:=HSA.out;omega));have hwo:=haP.rows;have hzP:B+1≤wP.heap.size:=by have:=hbPA.size;have:=HSA.out;omega
   obtain⟨ti,tz,j0,j1,j2,j3,j4⟩:=Yha;have HWP:=Lib.hid hwP;have HAP:=Lib.hid haP;have HHP:=Lib.hid hhP;have HBPA:=Lib.hid hbPA;clear hwP hbP ha3 hh3 hb3 haB hbwB hhB hrg HSR HYR ro rl cB hg3 hQ3 haP hhP hbPA
   go_wp2_with (at_builtin;rw[HWP.out];refine Yc3 (v:=u2) (y0:=I 0) rfl rfl Tryd.underlying22 j0 j1 j2 j3 j4 rfl hwo rfl ?c1 ?c2 ?c3 ?_;(case c1=>exact c0);(case c2=>exact fM);(case c3=>exact hzP);intro v8 w8 ho8 hg8 hw8;have k3:w8.cell? ⟨R,3,none⟩=some (.slice r m.length cap):=Yab ((hg8.block R (Array.getElem?_eq_some_iff.1 HHP.out).1 (fun e=>by have:=hvR R e.symm;omega)).trans HHP.out) R3.out)
   have ha8:=HAP.out.rowed hg8 ho8 hw8;have hb8:Below (B+1) wA w8:=HBPA.out.grown hg8 (by have:=HBPA.out.size;have:=HSA.out;omega) (fun k hk=>by have:=(hwo.lt k hk).1;omega);rw[←fN.out] at ha8;clear c0 hwo hg8 ho8 hw8 HAP HHP HBPA fM fN
   go_loopw [3,39] (fun v t wr=>∃j:Nat,t=.int .i64 (j:Int)∧j≤m.length∧Ygq wr (B+1) Q (I j) v8 v (Yea q (S.rows.take (i+1))) (U j)∧Below (B+1) wA wr) (fun _ t _=>m.length-(intOf t).toNat)
   case atStart=>exact⟨0,rfl,Nat.zero_le _,ha8,hb8⟩
   case round=>
    clear k3 ha8 hb8;obtain⟨j,rfl,hj,ha,hb⟩:=hrel;by_cases hjm:j<m.length
    ·have t2:decide ((j:Int)<(m.length:Int))=true:=by simp;omega
     have hml2:m.length≤9223372036854775807:=by unfold maxLen at hml;omega
     obtain⟨-,-,hbw⟩:=CL.out _ hb;obtain⟨b2,o2,rfl,hb2,hcv⟩:=Yby.each HCEL.out (by omega);obtain⟨vs,hV,hvc⟩:=hcv j hjm;have hl18:=hV.shape.1;have hone:=Ydo hV;obtain⟨p3,cap3,hvs,-,-⟩:=hV;have hrg:wr.rangeAt b2 (o2+j*18) vs:=fun k v hk=>hvc wr hbw k v hk;obtain⟨N1,N2⟩:=uN.out j hjm;have GM:=uM.out (j+1);rw[N1,List.length_append] at GM
     have cnx:=fun(x:World) (q0:Int) (hx:x.heap[Q]? =some (.cells [.int .i64 q0].toArray 3 (0,0)))=>Yjy m[j] (fun i=>.slice (p3 i) (m[j].ev i).length (cap3 i)) hx;rw[←hvs] at cnx;have LU:(U j).length≤1048576:=by simp only[List.length_cons,List.length_nil] at GM;omega
     obtain⟨C,hC⟩:∃C,wr.heap.size=C:=⟨_,rfl⟩;obtain⟨wC,hwC⟩:∃wC,wr.alloc (.cells vs.toArray 42 (0,0))=wC:=⟨_,rfl⟩;have hhC:wC.heap[C]? =some (.cells vs.toArray 42 (0,0)):=by rw[←hwC,←hC];exact heap_alloc_new wr _
     have hbC:Below wr.heap.size wr wC:=by rw[←hwC];exact(Below.refl _ wr).alloc (Nat.le_refl _) _
     have haC:=ha.below hbC;have hbwC:Below (B+1) wA wC:=hb.trans (hbC.mono (by have:=hb.size;have:=HSA.out;omega));have HSV:(Tryd.prog.info? 42).map (·.size)=some vs.toArray.size:=by rw[show vs.toArray.size=18 from hl18];kernel_rfl
     have HYV:Y.size=vs.toArray.size:=by rw[HYS];exact hl18.symm
     have cC:=cnx wC (I j) haC.box;rw[←N2] at cC N1;have UN:=Lib.hid N1;have HWC:=Lib.hid hwC;have HCC:=Lib.hid hC;clear hwC hbC ha hb hC cnx hvs hcv hvc N1 N2 GM hbw
     go_wp2_with (first|(with_reducible refine Ybv rfl _ rfl b2 (o2+j*18) rfl vs hrg hl18 ?_)|(with_reducible refine Yaq rfl 42 _ _ rfl vs.toArray Y 42 rfl rfl HSV HYV hone ?_;rw[HWC.out,HCC.out])|(with_reducible refine wpList_load_row rfl 42 _ rfl C rfl 42 vs.toArray (0,0) _ hhC Tryd.underlying42 rfl HSV ?_))
     refine cC.mono ?_;rintro e w3 ⟨rfl,hQ3,hg3⟩;have ha3:=haC.turned hg3 hQ3;have hb3:Below (B+1) wA w3:=hbwC.grown hg3 (by have:=hbwC.size;have:=HSA.out;omega) (fun k hk=>by injection hk with hk;omega);obtain⟨wP,hwP⟩:∃wP,w3.alloc (.cells #[.int .i64 (I (j+1))] 3 (0,0))=wP:=⟨_,rfl⟩;have hbP:Below w3.heap.size w3 wP:=by rw[←hwP];exact(Below.refl _ w3).alloc (Nat.le_refl _) _
     have haP:=ha3.below hbP;have c0:wP.cell? ⟨w3.heap.size,0,none⟩=some (.int .i64 (I (j+1))):=by rw[←hwP];exact Yab (cs:=[.int .i64 (I (j+1))]) (heap_alloc_new w3 _) rfl
     have hbPA:Below (B+1) wA wP:=hb3.trans (hbP.mono (by have:=hb3.size;have:=HSA.out;omega));have hwo:=haP.cels;have hzP:B+1≤wP.heap.size:=by have:=hbPA.size;have:=HSA.out;omega
     obtain⟨ti,tz,j0,j1,j2,j3,j4⟩:=Yha;have HWP:=Lib.hid hwP;have HAP:=Lib.hid haP;have HBPA:=Lib.hid hbPA;clear hwP hbP ha3 hb3 haC hbwC hhC hrg HSV HYV hone hl18 cC hg3 hQ3 haP hbPA
     go_wp2_with (at_builtin;rw[HWP.out];refine Yc3 (v:=u3) (y0:=I (j+1)) rfl rfl Tryd.underlying22 j0 j1 j2 j3 j4 rfl hwo rfl ?c1 ?c2 ?c3 ?_;(case c1=>exact c0);(case c2=>exact LU);(case c3=>exact hzP);intro v9 w9 ho9 hg9 hw9)
     have ha9:=HAP.out.celled hg9 ho9 hw9;have hb9:Below (B+1) wA w9:=HBPA.out.grown hg9 (by have:=HBPA.out.size;have:=HSA.out;omega) (fun k hk=>by have:=(hwo.lt k hk).1;omega);rw[←UN.out] at ha9;clear c0 hwo hg9 ho9 hw9 HAP HBPA
     go_roundw
     case rel=>exact⟨j+1,by go_num,by omega,ha9,hb9⟩
     case measure=>simp[intOf];omega
    ·obtain rfl:m.length=j:=by omega
     have t2:decide ((m.length:Int)<(m.length:Int))=false:=by simp
     rw[uR.out.1,uR.out.2] at ha
     go_wp2
     go_roundw
     case rel=>exact⟨i+1,by go_num,by omega,ha,hb⟩
     case measure=>simp[intOf];omega
  ·obtain rfl:n=i:=by omega
   have t1:decide ((n:Int)<(n:Int))=false:=by simp
   have e1:S.rows.take n=S.rows:=List.take_of_length_le (by rw[NR.out];omega);rw[e1] at ha;have o1:=Yd9 ha.rows (show B≤B+1 by omega);have o2:=Yd9 ha.cels (show B≤B+1 by omega);rw[←HQ.out,←HB.out] at o1 o2;have H1:=Lib.hid o1;have H2:=Lib.hid o2;clear e1 ha o1 o2
   go_wp2
   go_ret3
   exact Ya6.ok EH0.out hbw H1.out H2.out
def Yeg (l:List Int)(E:Int)(w:World)(e:Ending)(w':World):Prop:=
 ∃v,e=.returned (.tuple #[v,.int .i64 E])∧w'.ownsRow w.heap.size 3 1 v l.length (Yh5 l)∧Below w.heap.size w w'
set_option maxRecDepth 100000 in
set_option maxHeartbeats 1000000 in
theorem Yi5 (S:ShP)(p b:Option Addr)(ca cb:Nat)(w:World)(hl:S.hd.supp.length≤maxLen)(hn:S.rows.length≤1048576)(hs:Ya9 w p S.hd.supp)(hr:Ybz w b S.rows)(hm:(Yaz S).length≤1048576)(hc:∀c∈Yaz S,∀k,k<6→(c.ev k).length≤1048576)(hR:Ybx w S.hd.inter):
  Calls Tryd.prog 7 #[.agg (Yas S.hd (.slice p S.hd.supp.length ca) (.slice b S.rows.length cb) S.zeros).toArray] w (Yeg (Yhh S) (Ya1 S) w)∧
  Calls Tryd.prog 8 #[.agg (Yas S.hd (.slice p S.hd.supp.length ca) (.slice b S.rows.length cb) S.zeros).toArray] w (Yeg (Yhj S) (Ya1 S) w):=by
 have thr:=fun x h1 h2 h3=>Yjz S p b ca cb x hl hn h1 h2 hm hc h3;obtain⟨zs,hZ⟩:∃zs,Yas S.hd (.slice p S.hd.supp.length ca) (.slice b S.rows.length cb) S.zeros=zs:=⟨_,rfl⟩;have HSZ:(Tryd.prog.info? 25).map (·.size)=some zs.toArray.size:=by rw[show zs.toArray.size=8 by rw[←hZ];rfl];kernel_rfl
 rw[hZ] at thr ⊢;obtain⟨B,hB⟩:∃B,w.heap.size=B:=⟨_,rfl⟩;obtain⟨wA,hwA⟩:∃wA,w.alloc (.cells zs.toArray 25 (0,0))=wA:=⟨_,rfl⟩;have hhA:wA.heap[B]? =some (.cells zs.toArray 25 (0,0)):=by rw[←hwA,←hB];exact heap_alloc_new w _
 have hbA:Below w.heap.size w wA:=by rw[←hwA];exact(Below.refl _ w).alloc (Nat.le_refl _) _
 have C1:=thr wA (hs.below hbA) (hr.below hbA) (hR.below hbA);unfold Ya6 at C1;have HWA:=Lib.hid hwA;have HB:=Lib.hid hB;have HBA:=Lib.hid hbA;generalize Yhh S=la at *;generalize Yhj S=lf at *;generalize Ya1 S=E at *;clear thr hwA hB hbA hZ hs hr hR hc hm hn hl;constructor
 ·go_enter Tryd.func7,Tryd.ntmps7
  go_wp2_with (rw[HWA.out,HB.out];with_reducible refine wpList_load_row rfl 25 _ rfl B rfl 25 zs.toArray (0,0) _ hhA Tryd.underlying25 rfl HSZ ?_)
  refine C1.mono ?_;rintro e w1 ⟨vr,vc,rfl,h1,h2,hb1⟩;have H2:=Lib.hid h2;have H3:=Lib.hid hb1;clear h1 h2 hb1
  go_wp2
  go_ret2
  exact⟨_,rfl,Yd9 H2.out HBA.out.size,HBA.out.trans (H3.out.mono HBA.out.size)⟩
 ·go_enter Tryd.func8,Tryd.ntmps8
  go_wp2_with (rw[HWA.out,HB.out];with_reducible refine wpList_load_row rfl 25 _ rfl B rfl 25 zs.toArray (0,0) _ hhA Tryd.underlying25 rfl HSZ ?_)
  refine C1.mono ?_;rintro e w1 ⟨vr,vc,rfl,h1,h2,hb1⟩;have H1:=Lib.hid h1;have H3:=Lib.hid hb1;clear h1 h2 hb1
  go_wp2
  go_ret2
  exact⟨_,rfl,Yd9 H1.out HBA.out.size,HBA.out.trans (H3.out.mono HBA.out.size)⟩
set_option maxRecDepth 100000 in
set_option maxHeartbeats 1000000 in
theorem Yfs (l:List Int)(p q:Option Addr)(ca cb:Nat)(w:World)(hp:Ya9 w p l)(hq:Ya9 w q l)(hl:l.length≤4611686018427387904):
  Calls Tryd.prog 10 #[.slice p l.length ca,.slice q l.length cb] w fun e w'=>e=.returned (.bool true)∧Below w.heap.size w w':=by
 obtain⟨n,hn⟩:∃n,l.length=n:=⟨_,rfl⟩;have HP:=Lib.hid hp;have HQ:=Lib.hid hq;have HN:=Lib.hid hn;rw[hn] at hl ⊢;clear hp hq hn;have t0:((n:Int) != (n:Int))=false:=by simp
 have hb0:Below w.heap.size w w:=Below.refl _ _
 go_enter Tryd.func10,Tryd.ntmps10
 go_wp2
 go_loopw [5] (fun t wr=>∃i:Nat,t=.int .i64 (i:Int)∧i≤n∧Below w.heap.size w wr) (fun t _=>n-(intOf t).toNat)
 case atStart=>exact⟨0,rfl,Nat.zero_le _,hb0⟩
 case round=>
  clear hb0;obtain⟨i,rfl,hi,hb⟩:=hrel;by_cases hlt:i<n
  ·have t1:decide ((i:Int)<(n:Int))=true:=by simp;omega
   obtain⟨b1,o1,rfl,-,h1⟩:=HP.out.hold (by rw[HN.out];omega);obtain⟨b2,o2,rfl,-,h2⟩:=HQ.out.hold (by rw[HN.out];omega);have c1:=h1 _ hb i (by rw[HN.out];exact hlt);have c2:=h2 _ hb i (by rw[HN.out];exact hlt);have hbd:=hb.drew;clear h1 h2;generalize l.getD i 0=y at *;have t2:(y != y)=false:=by simp
   go_wp2
   go_region
   go_wp2
   go_roundw
   case rel=>exact⟨i+1,by go_num,by omega,hbd⟩
   case measure=>simp[intOf];omega
  ·obtain rfl:n=i:=by omega
   have t1:decide ((n:Int)<(n:Int))=false:=by simp
   go_wp2
   go_ret
   exact⟨rfl,hb⟩
end Go.Proofs.YtndbeacoaimdgaaDoor