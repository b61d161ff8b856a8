/- Part 51 of StripsOnce. No condition. -/
import Derived.Test.YtjjmalchelniiaaGreatDoorStripsOnceMa
import Derived.Test.YtjjmalchelniiaaGreatDoorStripsOnceMg
import Derived.Test.YtjjmalchelniiaaGreatDoorStripsOnceMi
import Derived.Test.YtjjmalchelniiaaGreatDoorStripsOnceMj
import Derived.Test.YtjjmalchelniiaaGreatDoorStripsOnceMk
import Derived.Test.YtjjmalchelniiaaGreatDoorStripsOnceMn
import Derived.Test.YtjjmalchelniiaaGreatDoorStripsOnceMq
import Derived.Test.YtjjmalchelniiaaGreatDoorStripsOnceMu
import Derived.Test.YtjjmalchelniiaaGreatDoorStripsOnceMy
import Derived.Test.YtjjmalchelniiaaGreatDoorStripsOnceMz
import Derived.Test.YtjjmalchelniiaaGreatDoorStripsOnceMba
import Derived.Test.YtjjmalchelniiaaGreatDoorStripsOnceMbl
import Derived.Test.YtjjmalchelniiaaGreatDoorStripsOnceMbm
import Derived.Test.YtjjmalchelniiaaGreatDoorStripsOnceMbr
import Derived.Test.YtjjmalchelniiaaGreatDoorStripsOnceMbs
import Derived.Test.YtjjmalchelniiaaGreatDoorStripsOnceMbu
import Derived.Test.YtjjmalchelniiaaGreatDoorStripsOnceMbv
import Derived.Test.YtjjmalchelniiaaGreatDoorStripsOnceMbw
import Derived.Test.YtjjmalchelniiaaGreatDoorStripsOnceMbx
namespace Go.Proofs.YtjjmalchelniiaaGreatDoor
open Go.RowKit Go.Lib
theorem ShV.shape {w:World}{S:ShP}{vs:List Value}(h:ShV w S vs):vs.length=8∧∀u∈vs,u.oneCell'=true:=by
 obtain⟨a,b,ca,cb,rfl,-⟩:=h;refine⟨rfl,fun u hu=>?_⟩;simp only[Ya5,List.mem_cons,List.not_mem_nil,or_false] at hu;rcases hu with rfl|rfl|rfl|rfl|rfl|rfl|rfl|rfl <;> rfl
def Yk9:World→Option Addr→List ShP→Prop:=Ydz 8 ShV
theorem Yk9.below {w x:World}{q:Option Addr}{l:List ShP}(h:Yk9 w q l)(hb:Below w.heap.size w x):Yk9 x q l:=Ydz.below h (ShV.below hb) hb
theorem Yk9.at_ {w:World}{q:Option Addr}{l:List ShP}(h:Yk9 w q l)(h0:0<l.length):
  ∃b o,q=some ⟨b,o,none⟩∧b<w.heap.size∧∀x,Below w.heap.size w x→∀i,(h:i<l.length)→∃vs,ShV x l[i] vs∧(vs.length=8∧∀u∈vs,u.oneCell'=true)∧∀(j:Nat) v,vs[j]? =some v→x.cell? ⟨b,o+i*8+j,none⟩=some v:=by
 obtain⟨b,o,e,hl,hc⟩:=Ydz.hold h h0;refine⟨b,o,e,hl,fun x hx i hi=>?_⟩;obtain⟨vs,h1,h2⟩:=hc x hx i hi;exact⟨vs,ShV.below hx _ _ h1,h1.shape,h2⟩
def Qf9 (w:World)(T:StrP)(vs:List Value):Prop:=∃(q:Option Addr) (cap:Nat),vs=[.slice q T.sheets.length cap,.bool T.fin]∧T.sheets.length≤cap∧T.sheets.length≤maxLen∧Yk9 w q T.sheets
theorem Qf9.below {w x:World}(hb:Below w.heap.size w x){T:StrP}{vs:List Value}(h:Qf9 w T vs):Qf9 x T vs:=by
 obtain⟨q,cap,h1,h2,h3,h4⟩:=h;exact⟨q,cap,h1,h2,h3,h4.below hb⟩
instance:Inhabited ShP:=⟨Qa0⟩
section
variable {H:Type}{enc:TypeId×Value→H}{P:Program}
end
def ShK (L:List (Option Nat))(w:World)(S:ShP)(vs:List Value):Prop:=∀x,Yae L w x→ShV x S vs
section
variable {L M L':List (Option Nat)}{w x:World}{S:ShP}{vs:List Value}
theorem ShK.shV (h:ShK L w S vs):ShV w S vs:=h w (Yae.refl _ _)
theorem ShK.shape (h:ShK L w S vs):vs.length=8∧∀u∈vs,u.oneCell'=true:=h.shV.shape
theorem ShK.mono (h:ShK L w S vs)(hL:∀j,j<w.heap.size→some j∈L'→some j∈L):ShK L' w S vs:=fun x hx=>h x (hx.mono hL)
theorem ShK.keptL (h:ShK L w S vs)(hg:Yae M w x)(hM:∀j,j<w.heap.size→some j∈M→some j∈L):ShK L x S vs:=fun z hz=>h z ((hg.mono hM).trans hz fun _ _ hj=>hj)
theorem ShK.below (h:ShK L w S vs)(hb:Below w.heap.size w x):ShK L x S vs:=h.keptL (M:=[]) (Yae.below hb) (by simp)
theorem ShK.low {n:Nat}(h:∀(z:World) (K:List (Option Nat)),(∀j,some j∈K→j<n)→Yae K w z→ShV z S vs):ShK (Yu3 n) w S vs:=fun z hz=>h z _ (fun _ hj=>Yfe.1 hj) hz
def Y0z (n:Nat)(w:World)(v:Value)(l:List ShP):Prop:=Ydx 8 39 (ShK (v.ownBlock::Yu3 n) w) w n v l
theorem Y0z.nil (n:Nat)(w:World):Y0z n w (.slice none 0 0) []:=Ydx.nil ..
theorem Y0z.kept {n:Nat}{v:Value}{l:List ShP}(h:Y0z n w v l)(hg:Yae M w x)(hM:∀j,j<w.heap.size→some j∈M→j<n):Y0z n x v l:=
 Ydx.mono (Ydx.keptL h hg fun k hk hm=>by have h1:=hM k (Ydx.lt h k hk) hm;have h2:=Ydx.fresh h k hk;omega) fun _ _ hc=>
  hc.keptL hg fun j hj hm=>List.mem_cons_of_mem _ (Yfe.2 (hM j hj hm))
theorem Y0z.app {n:Nat}{v v':Value}{l:List ShP}(h:Ydx 8 39 (ShK (v.ownBlock::Yu3 n) w) x n v' l)(hg:w.grownBy x v.ownBlock)(hw:∀k,v'.ownBlock=some k→v.ownBlock=some k∨w.heap.size≤k):Y0z n x v' l:=by
 refine Ydx.mono h fun _ _ hc=>?_;have h1:ShK (v'.ownBlock::v.ownBlock::Yu3 n) w _ _:=hc.mono fun j hj hm=>by
  rcases List.mem_cons.1 hm with e|hm
  ·rcases hw j e.symm with h2|h2
   ·rw[h2];exact List.mem_cons_self ..
   ·omega
  ·exact hm
 have h2:=h1.keptL (M:=[v.ownBlock]) (Yae.one hg fun k _ e=>by rw[e];exact List.mem_singleton.2 rfl) fun j _ hm=>by rw[List.mem_singleton.1 hm];exact List.mem_cons_of_mem _ (List.mem_cons_self ..)
 refine fun z hz=>h2 z (hz.mono fun j _ hm=>?_);rcases List.mem_cons.1 hm with e|hm
 ·rw[e];exact List.mem_cons_self ..
 ·exact List.mem_cons_of_mem _ (List.mem_cons_of_mem _ hm)
theorem ShK.own {n N:Nat}{v:Value}{l:List ShP}(hl:Ydx 8 39 (ShK (v.ownBlock::Yu3 n) w) w n v l)(hN:w.heap.size≤N)(hn:n≤N)(h:ShK (Yu3 N) x S vs):ShK (v.ownBlock::Yu3 n) x S vs:=
 h.mono fun j _ hm=>by
  rcases List.mem_cons.1 hm with e|hm
  ·exact Yfe.2 (Nat.lt_of_lt_of_le (Ydx.lt hl j e.symm) hN)
  ·exact Yfe.2 (Nat.lt_of_lt_of_le (Yfe.1 hm) hn)
theorem Y0z.ins {n:Nat}{v:Value}{l:List ShP}(h:Y0z n w v l):v=.slice (slP v) l.length (slC v)∧(slP v=none→slC v=0)∧v.oneCell'=true∧Yk9 w (slP v) l:=by
 obtain⟨xs,hx,ho⟩:=h;obtain⟨e1,e2,e3⟩:=Yey ho;obtain⟨q,cap,e,hm⟩:=Ydx.many (V':=ShV) ⟨xs,hx,ho⟩ fun _ _ hc=>ShK.shV hc;exact⟨e1,e2,e3,by rw[e];exact hm⟩
theorem Qeo {base c n:Nat}{e:TypeId}{v:Value}{xs:List Value}(h:w.ownsRow base e c v n xs):n≤slC v:=by
 rcases h.2 with ⟨rfl,hn⟩|⟨g,cap,cur,rfl,_,hg,hnc,_⟩
 ·have:=h.1;simp[slC];omega
 ·exact hnc
theorem Y0z.strV {n:Nat}{v:Value}{l:List ShP}(h:Y0z n w v l)(hl:l.length≤maxLen)(f:Bool):Qf9 w ⟨l,f⟩ [v,.bool f]:=by
 obtain⟨e1,e2,-,e4⟩:=h.ins;obtain⟨xs,hx,ho⟩:=h;exact⟨slP v,slC v,by rw[←e1],Qeo ho,hl,e4⟩
end
theorem Y5q:∃i z,Tryz.prog.info? 39=some i∧i.zero=some z∧z.cells.size=8∧i.size=8∧i.bytes=96:=by
 have h:(Tryz.prog.info? 39).map (fun i=>(i.zero.map (·.cells.size),i.size,i.bytes))=some (some 8,8,96):=by kernel_rfl
 generalize Tryz.prog.info? 39=x at h
 match x,h with
 |some i,h=>
  rw[Option.map_some] at h;injection h with h;injection h with h1 h2;injection h2 with h2 h3;cases hz:i.zero with
  |none=>rw[hz] at h1;cases h1
  |some z=>
   rw[hz] at h1;injection h1 with h1;exact⟨i,z,rfl,hz,h1,h2,h3⟩
theorem Y8t (S:ShP):Ydk (Ydb []) S = !S.hd.inter:=by unfold Ydk Ydb;cases S.hd.inter <;> rfl
theorem Y8s {l:List ShP}(h:l.length-1<l.length)(S:ShP):Ydk (Ydb l) S=(!S.hd.inter || l[l.length-1].hd.fmt==S.hd.fmt):=by
 unfold Ydk Ydb;rw[List.getLast?_eq_getElem?,List.getElem?_eq_getElem h]
 rfl
theorem ShV.parts {w:World}{S:ShP}{vs:List Value}(h:ShV w S vs):vs[2]? =some (.int .i64 S.hd.fmt)∧vs[3]? =some (.bool S.hd.inter)∧vs[7]? =some (.int .i64 S.zeros):=by
 obtain⟨p,b,ca,cb,rfl,-⟩:=h;exact⟨rfl,rfl,rfl⟩
set_option maxRecDepth 100000 in
set_option maxHeartbeats 600000 in
theorem Yr3 {u w:World}{S:ShP}{vs:List Value}(q:Option Addr)(cap:Nat)(l:List ShP)(hS:ShV u S vs)(hl:Yk9 w q l)(hm:l.length≤maxLen):
  Calls Tryz.prog 21 #[.slice q l.length cap,.agg vs.toArray] w fun e w'=>e=.returned (.bool (Ydk (Ydb l) S))∧Below w.heap.size w w':=by
 unfold maxLen at hm;obtain⟨f2,f3,-⟩:=hS.parts;rw[←List.getElem?_toArray] at f2 f3;obtain⟨A,hA⟩:∃A,vs.toArray=A:=⟨_,rfl⟩;rw[hA] at f2 f3 ⊢;have hb1:Below w.heap.size w (w.alloc (.cells A 39 (0,0))):=(Below.refl _ w).alloc (Nat.le_refl _) _;have HB1:=Lib.hid hb1;obtain⟨R,hR⟩:∃R,Ydk (Ydb l) S=R:=⟨_,rfl⟩;clear hA hS;by_cases h0:0<l.length
 ·have hF:=Y8s (l:=l) (by omega) S;obtain⟨b,o,rfl,hbb,hc⟩:=hl.at_ h0;obtain⟨us,hU,-,hcell⟩:=hc _ hb1 (l.length-1) (by omega);have c2:=hcell 2 _ hU.parts.1;obtain⟨E,hE⟩:∃E,l[l.length-1]=E:=⟨_,rfl⟩;obtain⟨n,hn⟩:∃n,l.length=n:=⟨_,rfl⟩;obtain⟨m,hm1⟩:∃m,l.length-1=m:=⟨_,rfl⟩;rw[hE] at hF c2;rw[hm1] at c2;have ws:IntKind.i64.wrap ((n:Int)-1)=(m:Int):=by rw[Yif (by omega)];omega
  have t1:decide ((m:Int)<(n:Int))=true:=by simp;omega
  have t2:m<n:=by omega
  have t0:0<n:=by omega
  rw[hR] at hF ⊢;rw[hn];have hbd:=hb1.drew;clear hR hE hm1 hc hU hcell hl hb1 hm hbb h0;generalize E.hd.fmt=f1 at *;generalize S.hd.inter=it at *;generalize S.hd.fmt=k at *;clear hn;cases it with
  |false=>
   have F:=Lib.hid (show R=true by rw[hF];rfl);clear hF c2 ws t1 t2 t0
   go_enter Tryz.func21,Tryz.ntmps21
   go_wp2
   go_ret
   exact⟨Yan F.out.symm,HB1.out⟩
  |true=>
   have F:=Lib.hid (show R=(f1==k) by rw[hF];rfl);clear hF
   go_enter Tryz.func21,Tryz.ntmps21
   go_wp2
   go_region
   go_wp2
   go_ret
   exact⟨Yan F.out.symm,hbd⟩
 ·obtain rfl:l=[]:=List.eq_nil_of_length_eq_zero (by omega);have hF:=Y8t S;rw[hR] at hF ⊢;have hbd:=hb1.drew;clear hR hl hb1 hm h0;generalize S.hd.inter=it at *;generalize S.hd.fmt=k at *;cases it with
  |false=>
   have F:=Lib.hid (show R=true by rw[hF];rfl);clear hF
   go_enter Tryz.func21,Tryz.ntmps21
   go_wp2
   go_ret
   exact⟨Yan F.out.symm,HB1.out⟩
  |true=>
   have F:=Lib.hid (show R=false by rw[hF];rfl);clear hF
   go_enter Tryz.func21,Tryz.ntmps21
   go_wp2
   go_region
   go_wp2
   go_ret
   exact⟨Yan F.out.symm,hbd⟩
def Yv4 (l:List UInt8)(p:Nat):Bool:=(Yaz l p).2==0&&(Yaz l p).1==31
theorem Yv5 {l:List UInt8}{p:Nat}:Yv4 l p=true↔(Yaz l p).2=0∧(Yaz l p).1=31:=by unfold Yv4;simp
set_option maxRecDepth 100000 in
set_option maxHeartbeats 600000 in
theorem Yq4 {w:World}{rb p:Nat}{s:ByteArray}(hr:Yba w rb s p)(hs:s.size≤1099511627776):
  Calls Tryz.prog 30 #[.pointer (some ⟨rb,0,none⟩)] w fun e w'=>e=.returned (.bool (Yv4 s.data.toList p))∧Below w.heap.size w w':=by
 have cm:=Ytu w s (p:Int) hs;obtain⟨R,hR⟩:∃R,Yv4 s.data.toList p=R:=⟨_,rfl⟩;have hR':=hR;unfold Yv4 at hR';rw[hR];generalize (Yaz s.data.toList (p:Int)).1=a at *;generalize (Yaz s.data.toList (p:Int)).2=c at *;have F:=Lib.hid hR';obtain⟨d1,h1⟩:∃d,(c==0)=d:=⟨_,rfl⟩;have H1:=Lib.hid h1;clear hR hR'
 go_enter Tryz.func30,Tryz.ntmps30
 go_wp2_with fail
 refine(Ydg _ _ _ _ hr).mono ?_;rintro e u ⟨rfl,rfl⟩
 go_wp2_with fail
 refine(Yb7 _ _ _ _ hr).mono ?_;rintro e u ⟨rfl,rfl⟩
 go_wp2_with fail
 refine cm.mono ?_;rintro e w1 ⟨rfl,hb1⟩;clear cm hr;cases d1 with
 |false=>
  go_wp2
  go_ret
  exact⟨Yan (by rw[←F.out,H1.out];rfl),hb1⟩
 |true=>
  go_wp2
  go_ret
  exact⟨Yan (by rw[←F.out,H1.out];rfl),hb1⟩
theorem Qin {a b:ByteArray}(h:a≠b):(a.toList==b.toList)=false:=by
 rw[beq_eq_false_iff_ne];intro e;rw[ByteArray.toList_eq,ByteArray.toList_eq] at e;exact h (Qi9.2 e)
def Qej (r:List UInt8):List UInt8:=Yc3 r 31++List.replicate (gap (Yc3 r 31).length) 48
theorem Qek:Qej []=Ybq 31++[48,48]:=by decide +kernel
theorem Y9o (l:List ShP):Qej (Yd4 [] l)=Ybi l true:=Qem l
theorem Yz3 (r:List UInt8):(Qej r).length≤r.length+40:=by
 unfold Qej Yc3;simp only[List.length_append,List.length_replicate,Ybb];unfold gap;omega
set_option maxHeartbeats 600000 in
theorem Ypf {w:World}{B b:Nat}{r:List UInt8}(hw:Ycj w B b r)(hr:r.length≤549755813888)(hB:B≤w.heap.size):
  Calls Tryz.prog 39 #[.pointer (some ⟨b,0,none⟩)] w fun e w'=>e=.returned (.tuple #[])∧Ycj w' B b (Qej r)∧w.grownBy w' (some b):=by
 have c1:=Yov w B b r 31 (by decide) hw (by omega) hB;have hl:(Yc3 r 31).length≤r.length+30:=by
  unfold Yc3;simp only[List.length_append,List.length_replicate,Ybb];unfold gap;omega
 have c2:=fun(x:World) (hx:Ycj x B b (Yc3 r 31)) (hz:B≤x.heap.size)=>Yof x B b (Yc3 r 31) hx (by omega) hz;rw[show r++List.replicate (gap r.length) 48++Ybq 31=Yc3 r 31 from rfl] at c1;obtain⟨E,hE⟩:∃E,Qej r=E:=⟨_,rfl⟩;rw[hE];unfold Qej at hE;rw[hE] at c2;generalize Yc3 r 31=R at *;have HE:=Lib.hid hE;clear hE hw hl
 go_enter Tryz.func39,Tryz.ntmps39
 go_wp2_with fail
 refine c1.mono ?_;rintro e w1 ⟨rfl,hw1,hg1⟩;have c3:=c2 w1 hw1 (Nat.le_trans hB hg1.size);clear c1 c2 hw1
 go_wp2_with fail
 refine c3.mono ?_;rintro e w2 ⟨rfl,hw2,hg2⟩
 go_wp2
 go_end0
 exact⟨rfl,hw2,Yac hg1 hg2⟩
set_option maxHeartbeats 600000 in
theorem Yzi (w:World):Calls Tryz.prog 31 #[] w fun e w'=>e=.returned (.string ⟨Qi2.toArray⟩)∧Below w.heap.size w w':=by
 obtain⟨D,hD⟩:∃D,w.heap.size=D:=⟨_,rfl⟩;obtain⟨w1,hw1⟩:∃w1,w.alloc Yi0=w1:=⟨_,rfl⟩;have hwr1:Ycj w1 (D+1) D []:=by rw[←hw1];exact Ycj.fresh hD (Nat.lt_succ_self _)
 have hb1:Below D w w1:=by rw[←hw1,←hD];exact(Below.refl _ w).alloc (Nat.le_refl _) _
 have hs1:D+1≤w1.heap.size:=by rw[←hw1];simp;omega
 have c1:=Ypf hwr1 (by simp) hs1;rw[Qek] at c1;obtain⟨P,hP⟩:∃P:ByteArray,⟨Qi2.toArray⟩=P:=⟨_,rfl⟩;have HP:Hid ((⟨(Ygg (Ybq 31++[48,48])).toArray⟩:ByteArray)=P):=Lib.hid hP;rw[hP];have HW1:=Lib.hid hw1;have HD:=Lib.hid hD;clear hP hw1 hD hwr1
 go_enter Tryz.func31,Tryz.ntmps31
 go_wp2_with fail
 refine(Yne _).mono ?_;rintro e x ⟨rfl,rfl⟩;rw[HW1.out,HD.out]
 go_wp2_with fail
 refine c1.mono ?_;rintro e w2 ⟨rfl,hwr2,hg2⟩;have hb2:Below D w w2:=hb1.grown hg2 (by omega) (fun j hj=>by injection hj with hj;omega)
 go_wp2_with fail
 refine(Yxy _ _ _ _ hwr2 (by decide)).mono ?_;rintro e w3 ⟨rfl,hb3⟩;rw[HP.out];have hE:Below D w w3:=hb2.trans (hb3.mono (by have:=hb2.size;have:=hg2.size;omega))
 go_wp2
 go_ret
 exact⟨rfl,by rw[HD.out];exact hE⟩
def Qf8 (S:ShP):Prop:=S.rows.length≤4611686018427387904∧∀c∈Ygv S,∀k,k<6→(c.ev k).length≤1048576
def Ynp (u:World)(T:StrP)(vs:List Value):Prop:=Qf9 u T vs∧∀S∈T.sheets,Qf8 S
theorem Ynp.below {u x:World}{T:StrP}{vs:List Value}(h:Ynp u T vs)(hb:Below u.heap.size u x):Ynp x T vs:=⟨h.1.below hb,h.2⟩
theorem ShV.ones {w:World}{S:ShP}{vs:List Value}(h:ShV w S vs):vs.toArray.all (·.oneCell')=true:=by
 rw[Array.all_eq_true_iff_forall_mem];exact fun u hu=>h.shape.2 u (by simpa using hu)
theorem Yjc {ops:Array Oper}{rest:List Oper}{op:Oper}{a:Act}{w:World}{Q:Exit→Act→World→Prop}(hgd:op.guard=none)(x:Operand)(ho:op.op=.load 39 x)
  (b o:Nat)(hx:a.eval x=.pointer (some ⟨b,o,none⟩))(vs:List Value)(hc:w.rangeAt b o vs)(hl:vs.length=8)(h:wpList Tryz.prog ops Q rest (a.put op.dst (.agg vs.toArray)) w):wpList Tryz.prog ops Q (op::rest) a w:=
 wpList_load_mid hgd _ x ho b o hx vs _ hc Tryz.underlying39 rfl (by rw[hl];kernel_rfl) h
theorem Yud:∃Y:Array Value,Y.size=8∧∀w,(zeroValue 39).run Tryz.prog w=.ok (.agg Y) w:=⟨#[.int .i64 0,.int .i64 0,.int .i64 0,.bool false,.int .i64 0,.slice none 0 0,.slice none 0 0,.int .i64 0],rfl,Yfv (by kernel_rfl)⟩
theorem Yk9.take {w:World}{q:Option Addr}{l:List ShP}(h:Yk9 w q l)(i:Nat):Yk9 w q (l.take i):=by
 rcases h with rfl|⟨b,o,rfl,hl,hc⟩
 ·exact .inl (by simp)
 ·refine .inr ⟨b,o,rfl,hl,fun j hj=>?_⟩;rw[List.length_take] at hj;obtain⟨vs,h1,h2⟩:=hc j (by omega);exact⟨vs,by rw[List.getElem_take];exact h1,h2⟩
set_option maxRecDepth 100000 in
set_option maxHeartbeats 1000000 in
theorem Ymm {u w:World}{T:StrP}{vs:List Value}(hT:Ynp u T vs)(ht:Ybh u.heap.size u)(hu:Below u.heap.size u w):
  Calls Tryz.prog 10 #[.agg vs.toArray] w fun e w'=>e=.returned (.int .i64 (Yek T))∧Below w.heap.size w w':=by
 obtain⟨⟨q,cap,rfl,hcap,hlm,hin⟩,hsm⟩:=hT;obtain⟨l,F⟩:=T;dsimp only at *;unfold maxLen at hlm;obtain⟨R,hR⟩:∃r,Yek ⟨l,F⟩=r:=⟨_,rfl⟩;rw[hR];obtain⟨D,hD⟩:∃D,w.heap.size=D:=⟨_,rfl⟩;obtain⟨w1,hw1⟩:∃w1,w.alloc (.cells #[.slice q l.length cap,.bool F] 24 (0,0))=w1:=⟨_,rfl⟩;have hb1:Below w.heap.size w w1:=by rw[←hw1];exact(Below.refl _ w).alloc (Nat.le_refl _) _
 have hs1:w1.heap.size=D+1:=by rw[←hw1,←hD];simp
 have hhD:w1.heap[D]? =some (.cells [Value.slice q l.length cap,.bool F].toArray 24 (0,0)):=by rw[←hw1,←hD];exact heap_alloc_new w _
 have k0:=Yab (o:=0) hhD rfl;have CL:Hid (∀x,Below (D+1) w1 x→x.cell? ⟨D,0,none⟩=some (.slice q l.length cap)∧Below w.heap.size w x∧Below u.heap.size u x):=Lib.hid fun x hx=>
  ⟨Yab (o:=0) ((hx.block D (by omega)).trans hhD) rfl,hb1.trans (hx.mono (by omega)),hu.trans ((hb1.trans (hx.mono (by omega))).mono hu.size)⟩
 have hS0:Below (D+1) w1 w1:=Below.refl _ _;have HR:=Lib.hid hR;have HW1:=Lib.hid hw1;have HD:=Lib.hid hD;have HS1:=Lib.hid hs1;have HIN:=Lib.hid hin;have HT:=Lib.hid ht;have HSM:=Lib.hid hsm;clear hR hw1 hb1 hs1 hhD hD hin hsm ht;by_cases hbad:l.length=0∨64<l.length
 ·have E1:=Lib.hid (show R=12 by rw[←HR.out];unfold Yek;exact if_pos hbad);have hE:=(CL.out _ hS0).2.1;generalize l.length=n at *;by_cases h0:n=0
  ·subst h0;clear hbad HIN CL
   go_enter Tryz.func10,Tryz.ntmps10
   go_wp2_with (rw[HW1.out,HD.out])
   go_ret
   exact⟨by rw[E1.out];rfl,hE⟩
  ·have t0:((n:Int)==0)=false:=by rw[beq_eq_false_iff_ne];omega
   have t1:decide (64<(n:Int))=true:=by simp;omega
   have t2:decide (64<n)=true:=by simp;omega
   clear hbad HIN CL
   go_enter Tryz.func10,Tryz.ntmps10
   go_wp2_with (rw[HW1.out,HD.out])
   go_ret
   exact⟨by rw[E1.out];rfl,hE⟩
 have HRE:=Lib.hid (show R=Yjs none l by rw[←HR.out];unfold Yek;exact if_neg hbad);obtain⟨n,hn⟩:∃n,l.length=n:=⟨_,rfl⟩;have HN:=Lib.hid hn;rw[hn] at hbad hlm CL k0;have t0:((n:Int)==0)=false:=by rw[beq_eq_false_iff_ne];omega
 have t1:decide (64<(n:Int))=false:=by simp;omega
 have t2:decide (64<n)=false:=by simp;omega
 obtain⟨Y,HYS,hzv⟩:=Yud;rw[hn] at HW1;rw[hn];clear hn HR hu
 go_enter Tryz.func10,Tryz.ntmps10
 go_wp2_with (rw[HW1.out,HD.out])
 clear k0 t0 t1 t2
 go_loopw [19] (fun z wr=>∃i:Nat,i≤n∧z=.int .i64 (i:Int)∧Hid (Yjs none (l.take i)=0)∧Below (D+1) w1 wr) (fun z _=>n-(intOf z).toNat)
 case atStart=>exact⟨0,Nat.zero_le _,rfl,Lib.hid rfl,hS0⟩
 case round=>
  clear hS0;obtain⟨i,hi,rfl,ha,hb⟩:=hrel;by_cases hlt:i<n
  ·have t0:decide ((i:Int)<(n:Int))=true:=by simp;omega
   have t1:decide (i<n)=true:=by simpa using hlt
   have hil:i<l.length:=by rw[HN.out];exact hlt
   obtain⟨-,hwr,hur⟩:=CL.out _ hb;obtain⟨b1,o1,rfl,hb1,hcb1⟩:=Ydz.each HIN.out (by omega);obtain⟨xs,hVx,hxc⟩:=hcb1 i hil;have hxl:=hVx.shape.1;have hxo:=hVx.ones;have hxn:=HSM.out l[i] (List.getElem_mem hil);have hst:=Qba hil ha.out;obtain⟨C,hC⟩:∃C,wr.heap.size=C:=⟨_,rfl⟩;obtain⟨wC,hwC⟩:∃wC,wr.alloc (.cells xs.toArray 39 (0,0))=wC:=⟨_,rfl⟩;have hsC:wC.heap.size=C+1:=by rw[←hwC,←hC];simp
   have hbC:Below wr.heap.size wr wC:=by rw[←hwC];exact(Below.refl _ wr).alloc (Nat.le_refl _) _
   have hrgA:wr.rangeAt b1 (o1+i*8) xs:=fun k v hk=>hxc wr hur k v hk;have hhC:wC.heap[C]? =some (.cells xs.toArray 39 (0,0)):=by rw[←hwC,←hC];exact heap_alloc_new wr _
   have hbwC:=hb.trans (hbC.mono (by have:=hb.size;have:=HS1.out;omega));have hDC:D+1≤C:=by have h1:=hb.size;have h2:=HS1.out;omega
   have HSX:(Tryz.prog.info? 39).map (·.size)=some xs.toArray.size:=by rw[show xs.toArray.size=8 from hxl];kernel_rfl
   have HYX:Y.size=xs.toArray.size:=by rw[HYS];exact hxl.symm
   have c1:=Ymk (u:=u) (w:=wC) (S:=l[i]) (vs:=xs) ⟨hVx,hxn⟩ HT.out (CL.out _ hbwC).2.2;have hti:(l.take i).length=i:=by rw[List.length_take];omega
   have LX:Hid (∀x,Below wC.heap.size wC x→x.cell? ⟨D,0,none⟩=some (.slice (some ⟨b1,o1,none⟩) n cap)∧x.heap[C]? =some (.cells xs.toArray 39 (0,0))∧Below (D+1) w1 x):=Lib.hid fun x hx=>
    ⟨(CL.out x (hbwC.trans (hx.mono (by have:=hbwC.size;have:=HS1.out;omega)))).1,(hx.block C (by omega)).trans hhC,hbwC.trans (hx.mono (by have:=hbwC.size;have:=HS1.out;omega))⟩
   have CF:=Lib.hid (fun(y:World) (hy:Below wC.heap.size wC y)=>(by
    have h:=Yr3 (w:=y) (some ⟨b1,o1,none⟩) cap (l.take i) hVx ((Yk9.below HIN.out (CL.out y (LX.out y hy).2.2).2.2).take i) (by rw[hti];unfold maxLen;omega);rw[hti] at h;exact h.mono fun e z k=>⟨k.1,hy.trans (k.2.mono hy.size)⟩:Calls Tryz.prog 21 #[.slice (some ⟨b1,o1,none⟩) i cap,.agg xs.toArray] y fun e z=>e=.returned (.bool (Ydk (Ydb (l.take i)) l[i]))∧Below wC.heap.size wC z))
   have LCC:=Lib.hid (fun x (hx:Below wC.heap.size wC x)=>(LX.out x hx).2.1);have hic:i≤cap:=by omega
   have tc:decide (i≤cap)=true:=by simpa using hic
   have hpart:=Qa8 (l:=l) (i:=i+1);generalize Ydk (Ydb (l.take i)) l[i]=fo at *;generalize Yd5 l[i]=er at *;have HST:=Lib.hid hst;have HPA:=Lib.hid hpart;have HWC:=Lib.hid hwC;have HC:=Lib.hid hC;clear hwC hC hsC hbC hxc ha hst hpart hti hVx hxn hwr hur hb hb1 hcb1 hbwC
   go_wp2_with (first|(with_reducible refine Yjc rfl _ rfl b1 (o1+i*8) rfl xs hrgA hxl ?_)|(with_reducible refine Yao rfl 39 _ _ rfl xs.toArray Y 39 rfl rfl HSX HYX hxo ?_;rw[HWC.out,HC.out])|(with_reducible refine wpList_load_row rfl 39 _ rfl C rfl 39 xs.toArray (0,0) _ hhC Tryz.underlying39 rfl HSX ?_))
   refine c1.mono ?_;rintro e w2 ⟨rfl,hb2⟩;clear hrgA hhC c1;by_cases he:er=0
   case neg=>
    have tn:(er != 0)=true:=by rw[bne_iff_ne];exact he
    have N:=Lib.hid (show R=er by
     have h1:=HST.out;rw[if_pos he] at h1;have h2:=HPA.out (by rw[h1];exact he);rw[HRE.out,h2,h1])
    have hE:=(CL.out _ (LX.out _ hb2).2.2).2.1;clear he
    go_wp2
    go_ret
    exact⟨by rw[N.out];rfl,hE⟩
   subst he;have tn:((0:Int) != 0)=false:=rfl;have k0:=(LX.out _ hb2).1
   go_wp2
   refine Ya0 (S:=fun x=>Below wC.heap.size wC x) 7 (by kernel_rfl) (by kernel_rfl) hb2.drew ?_;simp only[List.take_succ_cons,List.take_zero,List.drop_succ_cons,List.drop_zero];refine Yaf (by kernel_rfl) (fun x _=>by go_simp;try with_reducible rfl) ?_;simp only[Yaa]
   refine Ya7 22 _ ⟨D,0,none⟩ (.slice (some ⟨b1,o1,none⟩) n cap) (by kernel_rfl) rfl rfl (fun x hx=>by have c0:=(LX.out x hx).1;go_simp) ?_;simp only[Yaa];refine Yaf (by kernel_rfl) (fun x _=>by go_simp;try with_reducible rfl) ?_;simp only[Yaa];refine Yaf (v:=.slice (some ⟨b1,o1,none⟩) i cap) (by kernel_rfl) (fun x _=>by go_simp) ?_;simp only[Yaa]
   refine Yev 39 _ C 39 xs.toArray (0,0) _ (by kernel_rfl) rfl rfl (fun x hx=>LCC.out x hx) Tryz.underlying39 rfl HSX ?_;simp only[Yaa];refine Ya9 (by kernel_rfl) CF.out (fun _=>by kernel_rfl) ?_;simp only[Yaa];refine Yaf (by kernel_rfl) (fun x _=>by go_simp;try with_reducible rfl) ?_;simp only[Yaa];refine Ych fun x hx=>?_;clear k0 hb2;have hbx:=(LX.out _ hx).2.2;cases fo with
   |false=>
    have N:=Lib.hid (show R=11 by
     have h1:=HST.out;rw[if_neg (by decide),if_pos rfl] at h1;have h2:=HPA.out (by rw[h1];decide);rw[HRE.out,h2,h1])
    have hE:=(CL.out _ hbx).2.1
    go_wp2
    go_ret
    exact⟨by rw[N.out];rfl,hE⟩
   |true=>
    have N:=Lib.hid (show Yjs none (l.take (i+1))=0 by
     have h1:=HST.out;rw[if_neg (by decide),if_neg (by decide)] at h1;exact h1)
    go_wp2
    go_roundw
    case rel=>exact⟨i+1,by omega,by go_num,N,hbx⟩
    case measure=>simp[intOf];omega
  ·obtain rfl:i=n:=by omega
   have t0:decide ((i:Int)<(i:Int))=false:=by simp
   have t1:decide (i<i)=false:=by simp
   have N:=Lib.hid (show R=0 by
    have h:=ha.out;rw[List.take_of_length_le (by have:=HN.out;omega)] at h;rw[HRE.out,h])
   have hE:=(CL.out _ hb).2.1
   go_wp2
   go_ret
   exact⟨by rw[N.out];rfl,hE⟩
theorem Y3y (n m:Nat)(w:World)(hn:n≤1099511627776):Calls Tryz.prog 160 #[.int .i64 (n:Int),.int .i64 (m:Int)] w fun e w'=>e=.returned (.int .i64 (Qgl n m:Int))∧w=w':=by
 by_cases h1:n=m
 ·have d1:((n:Int)==(m:Int))=true:=by simp[h1]
  have e1:Qgl n m=n / 8:=if_pos h1;have HE:=Lib.hid e1;have q8:(n:Int).tdiv 8=((n / 8:Nat):Int):=by rw[Int.tdiv_eq_ediv_of_nonneg (by omega)];omega
  have wq:IntKind.i64.wrap ((n / 8:Nat):Int)=((n / 8:Nat):Int):=Yif (by omega);generalize n / 8=u at *;clear h1 e1
  go_enter Tryz.func160,Tryz.ntmps160
  go_wp2
  go_ret
  exact⟨Ydy (by rw[HE.out]),rfl⟩
 ·have d1:((n:Int)==(m:Int))=false:=by simp;omega
  by_cases h2:n%8=0∧16≤n
  ·have e1:Qgl n m=(n-16) / 8:=by unfold Qgl;rw[if_neg h1,if_pos h2]
   have HE:=Lib.hid e1;have r8:(n:Int).tmod 8=0:=by rw[Int.tmod_eq_emod_of_nonneg (by omega)];omega
   have d2:decide ((n:Int)≥16)=true:=by simp;omega
   have wm:IntKind.i64.wrap ((n:Int)-16)=((n-16:Nat):Int):=by rw[Yif (by omega)];omega
   have q8:((n-16:Nat):Int).tdiv 8=(((n-16) / 8:Nat):Int):=by rw[Int.tdiv_eq_ediv_of_nonneg (by omega)];omega
   have wq:IntKind.i64.wrap (((n-16) / 8:Nat):Int)=(((n-16) / 8:Nat):Int):=Yif (by omega);generalize (n-16) / 8=u at *;generalize n-16=v at *;clear h1 h2 e1
   go_enter Tryz.func160,Tryz.ntmps160
   go_wp2
   go_ret
   exact⟨Ydy (by rw[HE.out]),rfl⟩
  ·have e1:Qgl n m=0:=by unfold Qgl;rw[if_neg h1,if_neg h2]
   have HE:=Lib.hid e1;by_cases h3:n%8=0
   ·have r8:(n:Int).tmod 8=0:=by rw[Int.tmod_eq_emod_of_nonneg (by omega)];omega
    have d2:decide ((n:Int)≥16)=false:=by simp;omega
    clear h1 h2 h3 e1
    go_enter Tryz.func160,Tryz.ntmps160
    go_wp2
    go_ret
    exact⟨Ydy (by rw[HE.out];rfl),rfl⟩
   ·obtain⟨r,hr⟩:∃r,(n:Int).tmod 8=r:=⟨_,rfl⟩;have hr0:r≠0:=by rw[←hr,Int.tmod_eq_emod_of_nonneg (by omega)];omega
    have d2:(r==0)=false:=by simpa using hr0
    clear h1 h2 h3 e1 hr0
    go_enter Tryz.func160,Tryz.ntmps160
    go_wp2
    go_ret
    exact⟨Ydy (by rw[HE.out];rfl),rfl⟩
theorem Yzt (c:Cel)(sl:Nat→Value)(w:World):Calls Tryz.prog 179 #[.agg (Ybd c sl).toArray] w fun e w'=>e=.returned (.bool (!Yas c.kind))∧Below w.heap.size w w':=by
 obtain⟨A,hA⟩:∃A,w.heap.size=A:=⟨_,rfl⟩;obtain⟨wA,hwA⟩:∃wA,w.alloc (.cells (Ybd c sl).toArray 77 (0,0))=wA:=⟨_,rfl⟩;have hbA:Below w.heap.size w wA:=by rw[←hwA];exact(Below.refl _ w).alloc (Nat.le_refl _) _
 have hk:wA.cell? ⟨A,2,none⟩=some (.int .i64 c.kind):=by rw[←hwA,←hA];exact Yab (heap_alloc_new w _) rfl
 have HWA:=Lib.hid hwA;have HA:=Lib.hid hA;obtain⟨Z,hZ⟩:∃Z,(Ybd c sl).toArray=Z:=⟨_,rfl⟩;rw[hZ] at HWA ⊢;generalize c.kind=k at *;clear hwA hA hZ;by_cases h3:k=3
 ·have e1:Yas k=true:=by rw[h3];rfl
  have HE:=Lib.hid e1;have d1:(k != 3)=false:=by simp[h3]
  clear h3 e1
  go_enter Tryz.func179,Tryz.ntmps179
  go_wp2_with (rw[HWA.out,HA.out])
  go_ret
  exact⟨by rw[HE.out];rfl,hbA⟩
 ·have d1:(k != 3)=true:=by simp[h3]
  have e1:(!Yas k)=(k != 4):=by unfold Yas;rw[beq_eq_false_iff_ne.2 h3];rfl
  have HE:=Lib.hid e1;clear h3 e1
  go_enter Tryz.func179,Tryz.ntmps179
  go_wp2_with (rw[HWA.out,HA.out])
  go_ret
  exact⟨by rw[HE.out];rfl,hbA⟩
section
variable {w:World}{G rb p:Nat}{s:ByteArray}{k:Int}{inter:Bool}{vv:Value}{vs:List (Int×Int)}{first:Int}
set_option maxHeartbeats 1000000 in
theorem Yyt (h:Ycq w G rb s p k inter vv vs first)(hs:s.size≤1073741824):Calls Tryz.prog 176 #[.pointer (some ⟨G,0,none⟩)] w fun e w'=>e=.returned (.bool ((Ya6 s.data.toList p).2&&((Ya6 s.data.toList p).1 != 0&&(Ya6 s.data.toList p).1 != 31)))∧Below w.heap.size w w':=by
 have KK:=fun(x y:World) (hx:Below w.heap.size w x) (hy:Below x.heap.size x y)=>(hx.trans (hy.mono hx.size):Below w.heap.size w y);have K0:=Lib.hid (fun(x:World) (hx:Below w.heap.size w x)=>(h.below hx).cell (o:=0) rfl)
 have CT:=Lib.hid (fun(x:World) (hx:Below w.heap.size w x)=>(Ydg x rb s p (h.below hx).rd).mono fun e y (q:e=.returned (.string s)∧x=y)=>(⟨q.1,q.2▸hx⟩:e=.returned (.string s)∧Below w.heap.size w y))
 have CA:=Lib.hid (fun(x:World) (hx:Below w.heap.size w x)=>(Yb7 x rb s p (h.below hx).rd).mono fun e y (q:e=.returned (.int .i64 (p:Int))∧x=y)=>(⟨q.1,q.2▸hx⟩:e=.returned (.int .i64 (p:Int))∧Below w.heap.size w y));have cn:=fun(x:World)=>Yrk x s (p:Int) (by omega);obtain⟨⟨m,g⟩,hm⟩:∃r,Ya6 s.data.toList (p:Int)=r:=⟨_,rfl⟩;rw[hm] at cn ⊢
 have CN:=Lib.hid (fun(x:World) (hx:Below w.heap.size w x)=>(cn x).mono fun e y q=>(⟨q.1,KK x y hx q.2⟩:e=.returned (.tuple #[.int .i64 m,.bool g])∧Below w.heap.size w y));clear KK cn hm h hs;dsimp only;have hb0:=Below.refl w.heap.size w
 go_enter Tryz.func176,Tryz.ntmps176
 go_wp2
 refine Ya0 (S:=fun x=>Below w.heap.size w x) 16 (by kernel_rfl) (by kernel_rfl) hb0.drew ?_;simp only[List.take_succ_cons,List.take_zero,List.drop_succ_cons,List.drop_zero]
 iterate 3 (refine Yaf (by kernel_rfl) (fun x _=>by go_simp;try with_reducible rfl) ?_;simp only[Yaa])
 refine Ya7 54 _ ⟨G,0,none⟩ (.pointer (some ⟨rb,0,none⟩)) (by kernel_rfl) rfl rfl (fun x hx=>by have c0:=K0.out x hx;go_simp) ?_;simp only[Yaa];refine Ya9 (by kernel_rfl) CT.out (fun _=>by kernel_rfl) ?_;simp only[Yaa]
 iterate 3 (refine Yaf (by kernel_rfl) (fun x _=>by go_simp;try with_reducible rfl) ?_;simp only[Yaa])
 refine Ya7 54 _ ⟨G,0,none⟩ (.pointer (some ⟨rb,0,none⟩)) (by kernel_rfl) rfl rfl (fun x hx=>by have c0:=K0.out x hx;go_simp) ?_;simp only[Yaa];refine Ya9 (by kernel_rfl) CA.out (fun _=>by kernel_rfl) ?_;simp only[Yaa];refine Ya9 (by kernel_rfl) CN.out (fun _=>by kernel_rfl) ?_;simp only[Yaa]
 iterate 5 (refine Yaf (by kernel_rfl) (fun x _=>by go_simp;try with_reducible rfl) ?_;simp only[Yaa])
 refine Ych fun x hx=>?_;clear K0 CT CA CN hb0;cases g with
 |false=>
  go_wp2
  go_ret
  exact⟨rfl,hx⟩
 |true=>
  by_cases h0:m=0
  ·have d1:(m != 0)=false:=by simp[h0]
   clear h0
   go_wp2
   go_ret
   exact⟨by rw[d1];rfl,hx⟩
  ·have d1:(m != 0)=true:=by simp[h0]
   clear h0
   go_wp2
   go_ret
   exact⟨by rw[d1];rfl,hx⟩
theorem Ycq.ptr (h:Ycq w G rb s p k inter vv vs first):w.cell? ⟨G,0,none⟩=some (.pointer (some ⟨rb,0,none⟩)):=h.cell rfl
def Qjv (l:List UInt8)(p:Nat):Int:=if Ya3 l p (gap p)=0 then 0 else 5
set_option maxHeartbeats 2000000 in
theorem Yyg (h:Ycq w G rb s p k inter vv vs first)(hs:s.size≤1073741824):Calls Tryz.prog 129 #[.pointer (some ⟨G,0,none⟩)] w fun e w'=>
  ∃n:Nat,e=.returned (.tuple #[.int .i64 (n:Int),.int .i64 (Qjv s.data.toList p)])∧w.grownBy w' (some rb)∧(∃q,Yba w' rb s q)∧(Qjv s.data.toList p=0→n=Y6h s.data.toList (p+gap p)∧Yba w' rb s (p+gap p+8*n)):=by
 have hsl:s.data.toList.length=s.size:=rfl;have hp:=h.rd.2.1;have k0:=h.cell (o:=0) rfl;have cf:=Ylt w rb s p h.rd;by_cases h0:Ya3 s.data.toList p (gap p)=0
 case neg=>
  have e1:Qjv s.data.toList p=5:=if_neg h0;have e2:Yhw s.data.toList p=(0,5):=if_neg h0;have e3:Yme s.data.toList p=p:=if_neg h0;rw[e2,e3] at cf;have HE:=Lib.hid e1;clear e1 e2 e3 hsl h
  go_enter Tryz.func129,Tryz.ntmps129
  go_wp2_with fail
  refine cf.mono ?_;rintro e w1 ⟨rfl,hr1,hg1⟩
  go_wp2
  go_ret2
  rw[HE.out];exact⟨0,rfl,hg1,⟨p,hr1⟩,fun h=>by cases h⟩
 case pos=>
  have e1:Qjv s.data.toList p=0:=if_pos h0;have e2:Yhw s.data.toList p=(((gap p:Nat):Int),0):=if_pos h0;have e3:Yme s.data.toList p=p+gap p:=if_pos h0;rw[e2,e3] at cf;have hgf:=Y1n hp;obtain⟨q,hq⟩:∃q,p+gap p=q:=⟨_,rfl⟩;have hq8:q%8=0:=by rw[←hq];unfold gap;omega
  have hzc:=Y6i (l:=s.data.toList) (p:=q) (by omega) hq8;have hno:=Ylp (l:=s.data.toList) (p:=q) (by omega);have hzo:=(Yye (l:=s.data.toList) (p:=q) (by omega)).2.1;rw[Yag,hsl] at hzo;rw[hq] at cf ⊢;obtain⟨n,hn⟩:∃n,Y6h s.data.toList q=n:=⟨_,rfl⟩;obtain⟨u,hu⟩:∃u,Ya8 s.data.toList (q:Int)=u:=⟨_,rfl⟩;rw[hn] at hzo hzc ⊢;rw[hu] at hno hzc;rw[hsl] at hno hzc;rw[hq] at hgf
  have c2:=fun(x:World)=>Y6k x s (q:Int) (by omega);rw[hu] at c2;have HE:=Lib.hid e1;have HN:=Lib.hid hzc;clear e1 e2 e3 hsl hn hu hq h0
  go_enter Tryz.func129,Tryz.ntmps129
  go_wp2_with fail
  refine cf.mono ?_;rintro e w1 ⟨rfl,hr1,hg1⟩;have h1:=h.reads hg1 hr1;clear cf k0;have KK:=fun(x y:World) (hx:Below w1.heap.size w1 x) (hy:Below x.heap.size x y)=>(hx.trans (hy.mono hx.size):Below w1.heap.size w1 y);have K0:=Lib.hid (fun(x:World) (hx:Below w1.heap.size w1 x)=>(h1.below hx).cell (o:=0) rfl)
  have CT:=Lib.hid (fun(x:World) (hx:Below w1.heap.size w1 x)=>(Ydg x rb s q (h1.below hx).rd).mono fun e y (z:e=.returned (.string s)∧x=y)=>(⟨z.1,z.2▸hx⟩:e=.returned (.string s)∧Below w1.heap.size w1 y))
  have CA:=Lib.hid (fun(x:World) (hx:Below w1.heap.size w1 x)=>(Yb7 x rb s q (h1.below hx).rd).mono fun e y (z:e=.returned (.int .i64 (q:Int))∧x=y)=>(⟨z.1,z.2▸hx⟩:e=.returned (.int .i64 (q:Int))∧Below w1.heap.size w1 y));have CZ:=Lib.hid (fun(x:World) (hx:Below w1.heap.size w1 x)=>(c2 x).mono fun e y z=>(⟨z.1,KK x y hx z.2⟩:e=.returned (.int .i64 (u:Int))∧Below w1.heap.size w1 y))
  have CL:=Lib.hid (fun(x:World) (hx:Below w1.heap.size w1 x)=>(Yhz x rb s q (h1.below hx).rd).mono fun e y z=>(⟨by rw[z.1,show (8*(s.size:Int)-(q:Int))=((8*s.size-q:Nat):Int) by omega],KK x y hx z.2⟩:e=.returned (.int .i64 ((8*s.size-q:Nat):Int))∧Below w1.heap.size w1 y))
  have CC:=Lib.hid (fun(x:World) (hx:Below w1.heap.size w1 x)=>(Y3y u (8*s.size-q) x (by omega)).mono fun e y z=>(⟨by rw[z.1,←hzc],z.2▸hx⟩:e=.returned (.int .i64 (n:Int))∧Below w1.heap.size w1 y));have hb0:=Below.refl w1.heap.size w1;have HH:=Lib.hid h1;have HG:=Lib.hid hg1;clear KK c2 hr1 h hzc h1 hg1;generalize 8*s.size-q=left at *
  go_wp2
  refine Ya0 (S:=fun x=>Below w1.heap.size w1 x) 18 (by kernel_rfl) (by kernel_rfl) hb0.drew ?_;simp only[List.take_succ_cons,List.take_zero,List.drop_succ_cons,List.drop_zero]
  iterate 3 (refine Yaf (by kernel_rfl) (fun x _=>by go_simp;try with_reducible rfl) ?_;simp only[Yaa])
  refine Ya7 54 _ ⟨G,0,none⟩ (.pointer (some ⟨rb,0,none⟩)) (by kernel_rfl) rfl rfl (fun x hx=>by have c0:=K0.out x hx;go_simp) ?_;simp only[Yaa];refine Ya9 (by kernel_rfl) CT.out (fun _=>by kernel_rfl) ?_;simp only[Yaa]
  iterate 3 (refine Yaf (by kernel_rfl) (fun x _=>by go_simp;try with_reducible rfl) ?_;simp only[Yaa])
  refine Ya7 54 _ ⟨G,0,none⟩ (.pointer (some ⟨rb,0,none⟩)) (by kernel_rfl) rfl rfl (fun x hx=>by have c0:=K0.out x hx;go_simp) ?_;simp only[Yaa];refine Ya9 (by kernel_rfl) CA.out (fun _=>by kernel_rfl) ?_;simp only[Yaa];refine Ya9 (by kernel_rfl) CZ.out (fun _=>by kernel_rfl) ?_;simp only[Yaa]
  iterate 3 (refine Yaf (by kernel_rfl) (fun x _=>by go_simp;try with_reducible rfl) ?_;simp only[Yaa])
  refine Ya7 54 _ ⟨G,0,none⟩ (.pointer (some ⟨rb,0,none⟩)) (by kernel_rfl) rfl rfl (fun x hx=>by have c0:=K0.out x hx;go_simp) ?_;simp only[Yaa];refine Ya9 (by kernel_rfl) CL.out (fun _=>by kernel_rfl) ?_;simp only[Yaa];refine Ya9 (by kernel_rfl) CC.out (fun _=>by kernel_rfl) ?_;simp only[Yaa];refine Yaf (by kernel_rfl) (fun x _=>by go_simp;try with_reducible rfl) ?_;simp only[Yaa]
  refine Ych fun x hx=>?_
  go_wp2
  have w8:IntKind.i64.wrap (8*(n:Int))=((8*n:Nat):Int):=by rw[Yif (by omega)];omega
  have wq:IntKind.i64.wrap ((q:Int)+((8*n:Nat):Int))=((q+8*n:Nat):Int):=by rw[Yif (by omega)];omega
  have hzo':=hzo;obtain⟨n8,hn8⟩:∃n8,8*n=n8:=⟨_,rfl⟩;rw[hn8] at w8 wq hzo';have HN8:=Lib.hid hn8;clear hn8 hzo;have hbd:=hx.drew;have hhd:=HH.out.below hbd;have kd:=hhd.cell (o:=0) rfl;refine wp_region_held_drew (S:=fun x=>x.cell? ⟨G,0,none⟩=some (.pointer (some ⟨rb,0,none⟩))) (by kernel_rfl) kd (fun hH=>?_);refine Yah 0 (some 35) hH ?_
  try simp only[Yaa]
  refine Yah 1 (some 36) hH ?_
  try simp only[Yaa]
  refine Yah 2 (some 37) hH ?_
  try simp only[Yaa]
  refine Yah 3 (some 38) hH ?_
  try simp only[Yaa]
  refine Yco 4 (some 39) (v:=.pointer (some ⟨rb,0,none⟩)) rfl rfl hH (by kernel_rfl) (fun x hx=>by have c0:=(show x.cell? ⟨G,0,none⟩=some (.pointer (some ⟨rb,0,none⟩)) from hx);go_simp) ?_
  try simp only[Yaa]
  refine Yah 5 (some 40) hH ?_
  try simp only[Yaa]
  refine Yah 6 (some 41) hH ?_
  try simp only[Yaa]
  refine Yah 7 (some 42) hH ?_
  try simp only[Yaa]
  refine Yco 8 (some 43) (v:=.pointer (some ⟨rb,0,none⟩)) rfl rfl hH (by kernel_rfl) (fun x hx=>by have c0:=(show x.cell? ⟨G,0,none⟩=some (.pointer (some ⟨rb,0,none⟩)) from hx);go_simp) ?_
  try simp only[Yaa]
  refine Yah 10 (some 45) hH ?_
  try simp only[Yaa]
  refine Yah 11 (some 46) hH ?_
  try simp only[Yaa]
  refine wpAnyH_ready (rs:=[9]) (by kernel_rfl) (by simp) ?_;refine AllReadyH.cons rfl (fun K hK=>?_) AllReadyH.nil
  go_simp
  go_wp2_with fail
  refine(Yb7 _ _ _ _ hhd.rd).mono ?_;rintro e u ⟨rfl,rfl⟩;refine hK.out _ _ (kd) (fun hH2=>?_);clear hK K hH;have hH:=hH2;clear hH2
  try simp only[Yaa]
  refine Yah 12 (some 47) hH ?_
  try simp only[Yaa]
  refine wpAnyH_ready (rs:=[13]) (by kernel_rfl) (by simp) ?_;refine AllReadyH.cons rfl (fun K hK=>?_) AllReadyH.nil
  go_simp
  go_wp2_with fail
  refine(Yb2 _ _ _ _ _ hhd.rd (by omega) (by omega)).mono ?_;rintro e w3 ⟨rfl,hr3,hg3⟩;have k3:=Ycq.ptr (hhd.reads hg3 hr3);refine hK.out _ _ (k3) (fun hH2=>?_);clear hK K hH;have hH:=hH2;clear hH2
  try simp only[Yaa]
  refine Yah 14 (some 2) hH ?_
  try simp only[Yaa]
  refine Yah 15 (some 3) hH ?_
  try simp only[Yaa]
  refine wpAnyH_done (by kernel_rfl) ?_ _;rw[show ((q:Int)+(n8:Int)).toNat=q+n8 by omega] at hr3
  go_wp2
  go_ret2
  rw[HE.out];exact⟨n,rfl,Yac (Yac HG.out (Yak hbd _)) hg3,⟨_,hr3⟩,fun _=>⟨rfl,by rw[HN8.out];exact hr3⟩⟩
end
theorem Ycq.put {w z:World}{G rb p A:Nat}{s:ByteArray}{k:Int}{inter:Bool}{vv:Value}{vs:List (Int×Int)}{first:Int}(h:Ycq w G rb s p k inter vv vs first)(hg:w.grownBy z (some A))(hA:G≠A∧rb≠A∧∀j,vv.ownBlock=some j→j≠A):Ycq z G rb s p k inter vv vs first:=
 h.keptL (M:=[some A]) (Yae.one hg fun j _ e=>by rw[e];exact List.mem_singleton.2 rfl) (fun hm=>by have e:=List.mem_singleton.1 hm;injection e with e;omega) (fun hm=>by have e:=List.mem_singleton.1 hm;injection e with e;omega)
  fun j hj hm=>by have e:=List.mem_singleton.1 hm;injection e with e;have:=hA.2.2 j hj;omega
theorem Qjg {G rb A:Nat}{vv:Value}(h:G<A∧rb<A∧∀j,vv.ownBlock=some j→j<A):G≠A∧rb≠A∧∀j,vv.ownBlock=some j→j≠A:=⟨by omega,by omega,fun j hj=>by have:=h.2.2 j hj;omega⟩
set_option maxHeartbeats 1000000 in
theorem Yyu (rb:Nat)(hd:Shd)(a b:Value)(z:Int)(w:World):Calls Tryz.prog 127 #[.pointer (some ⟨rb,0,none⟩),.agg (Ya5 hd a b z).toArray] w fun e w'=>
  e=.returned (.pointer (some ⟨w.heap.size+1,0,none⟩))∧w'.heap[w.heap.size+1]? =some (.cells (Qid rb hd.fmt hd.inter (.slice none 0 0) 0).toArray 157 (0,0))∧Below w.heap.size w w':=by
 obtain⟨A,hA⟩:∃A,w.heap.size=A:=⟨_,rfl⟩;obtain⟨Z,hZ⟩:∃Z,(Ya5 hd a b z).toArray=Z:=⟨_,rfl⟩;obtain⟨wA,hwA⟩:∃wA,w.alloc (.cells Z 39 (0,0))=wA:=⟨_,rfl⟩;have hhA:wA.heap[A]? =some (.cells (Ya5 hd a b z).toArray 39 (0,0)):=by rw[hZ,←hwA,←hA];exact heap_alloc_new w _
 have hbA:Below w.heap.size w wA:=by rw[←hwA];exact(Below.refl _ w).alloc (Nat.le_refl _) _
 have hsA:wA.heap.size=A+1:=by rw[←hwA,←hA];simp
 have k2:wA.cell? ⟨A,2,none⟩=some (.int .i64 hd.fmt):=Yab hhA rfl;have k3:wA.cell? ⟨A,3,none⟩=some (.bool hd.inter):=Yab hhA rfl;have c1:=fun w=>Yim hd.fmt w;have c2:=fun w=>Yfn hd.fmt w;obtain⟨R,hR⟩:∃R,(Qid rb hd.fmt hd.inter (.slice none 0 0) 0).toArray=R:=⟨_,rfl⟩
 have hR2:#[.pointer (some ⟨rb,0,none⟩),.int .i64 hd.fmt,.int .i64 (Yhx hd.fmt),.int .i64 (Yjv hd.fmt),.int .i64 (Yd0 hd.fmt),.bool hd.inter,.slice none 0 0,.int .i64 0]=R:=hR;obtain⟨w9,hw9⟩:∃w9,wA.alloc (.cells R 157 (0,0))=w9:=⟨_,rfl⟩;have hh9:w9.heap[A+1]? =some (.cells R 157 (0,0)):=by rw[←hw9,←hsA];exact heap_alloc_new wA _
 have hb9:Below w.heap.size w w9:=by rw[←hw9];exact hbA.alloc hbA.size _
 have HWA:=Lib.hid hwA;have HA:=Lib.hid hA;have HR2:=Lib.hid hR2;have HW9:=Lib.hid hw9;have HSA:=Lib.hid hsA;rw[hZ,hR,hA];rw[hA] at hb9;generalize hd.fmt=k at *;generalize hd.inter=inter at *;generalize Yhx k=f1 at *;generalize Yjv k=f2 at *;generalize Yd0 k=f3 at *;clear hwA hA hhA hbA hsA hw9 hZ hR hR2
 go_enter Tryz.func127,Tryz.ntmps127
 go_wp2_with (rw[HWA.out,HA.out])
 refine(c1 wA).mono ?_;rintro e u ⟨rfl,rfl⟩
 go_wp2_with fail
 refine(c2 wA).mono ?_;rintro e u ⟨rfl,rfl⟩
 go_wp2_with (with_reducible refine wpList_buildTo rfl 157 _ rfl (some 29) rfl #[.pointer (some ⟨rb,0,none⟩),.int .i64 k,.int .i64 f1,.int .i64 f2,.int .i64 f3,.bool inter,.slice none 0 0,.int .i64 0] (by kernel_rfl) ?_;rw[HR2.out])
 rw[HW9.out,HSA.out]
 go_ret
 exact⟨rfl,hh9,hb9⟩
def Yu5 (s:ByteArray)(G rb p:Nat)(k:Int)(inter:Bool)(vv:Value)(vs:List (Int×Int))(first:Int)(i:Nat)(w:World)(e:Ending)(w':World):Prop:=
 ∃(b:Bool) (id qu:Int) (z:Nat) (fs f:Int),Yi2 s.data.toList k i p first=(b,id,qu,z,fs,f)∧e=.returned (.tuple #[.agg [Value.bool b,.int .i64 id,.int .i64 qu,.slice none 0 0].toArray,.int .i64 f])∧
  Ycq w' G rb s z k inter vv vs fs∧Yae [some rb,some G] w w'
set_option maxHeartbeats 2000000 in
theorem Yzm {w:World}{G rb p:Nat}{s:ByteArray}{k:Int}{inter:Bool}{vv:Value}{vs:List (Int×Int)}{first:Int}(i:Nat)(h:Ycq w G rb s p k inter vv vs first)(hs:s.size≤1073741824)(hi:i≤1000):
  Calls Tryz.prog 157 #[.pointer (some ⟨G,0,none⟩),.int .i64 (i:Int)] w (Yu5 s G rb p k inter vv vs first i w):=by
 have hzr:=Ylw;obtain⟨Y,hY⟩:∃Y:Array Value,[Value.bool false,.int .i64 0,.int .i64 0,.slice none 0 0].toArray=Y:=⟨_,rfl⟩;rw[hY] at hzr;obtain⟨A,hA⟩:∃A,w.heap.size=A:=⟨_,rfl⟩;obtain⟨wA,hwA⟩:∃wA,w.alloc (.cells Y 46 (0,0))=wA:=⟨_,rfl⟩;have hhA:wA.heap[A]? =some (.cells Y 46 (0,0)):=by rw[←hwA,←hA];exact heap_alloc_new w _
 have hbA:Below w.heap.size w wA:=by rw[←hwA];exact(Below.refl _ w).alloc (Nat.le_refl _) _
 have hsA:wA.heap.size=A+1:=by rw[←hwA,←hA];simp
 have hAl:G<A∧rb<A∧∀j,vv.ownBlock=some j→j<A:=by rw[←hA];exact h.lt
 have hGA:=hAl.1;have hrA:=hAl.2.1;have hRA:=h.below hbA;have HSR:(Tryz.prog.info? 46).map (·.size)=some Y.size:=by rw[←hY];kernel_rfl
 have HOY:Y.all (·.oneCell')=true:=by rw[←hY];simp[Value.oneCell']
 have gA:Yae [some rb,some G] w wA:=Yae.below hbA;have HWA:=Lib.hid hwA;have HA:=Lib.hid hA;have HY:=Lib.hid hY;have NOT:Hid (Y6m s.data.toList i p=false→∀w2 w',Below (A+1) wA w2→w2.grownBy w' (some A)→Yu5 s G rb p k inter vv vs first i w (.returned (.tuple #[.agg Y,.int .i64 0])) w'):=Lib.hid fun hn w2 w' hb2 hg=>by
  have hb2':Below wA.heap.size wA w2:=by rw[hsA];exact hb2
  have e1:Yi2 s.data.toList k i p first=(false,0,0,p,first,0):=by unfold Yi2;rw[if_neg (by rw[hn];decide)]
  refine⟨false,0,0,p,first,0,e1,by rw[hY],(hRA.below hb2').put hg (Qjg hAl),?_⟩;refine(gA.trans (Yae.below (L:=[]) hb2') (by simp)).trans (M:=[some A]) (Yae.one hg fun j _ e=>by rw[e];exact List.mem_singleton.2 rfl) fun j hj hm=>?_;have e:=List.mem_singleton.1 hm;injection e with e;omega
 by_cases hi0:i=0
 ·have d0:((i:Int)==0)=true:=by simp[hi0]
  have N:=Lib.hid (NOT.out (by unfold Y6m;rw[hi0];rfl) wA);have hb0:Below (A+1) wA wA:=Below.refl _ _;clear hi0 hi NOT hwA hA hY hRA gA hsA hbA hAl
  go_enter Tryz.func157,Tryz.ntmps157
  go_wp2_with (first|(with_reducible refine Yaj rfl 46 _ _ rfl A Y Y rfl rfl 46 hhA HSR rfl HOY ?_;intro wz hhz hgz)|(rw[HWA.out,HA.out]))
  refine bodyPost_ret (Yam rfl _ _ A 46 _ (0,0) _ rfl hhz Tryz.underlying46 rfl HSR) rfl ?_;exact N.out wz hb0 hgz
 have d0:((i:Int)==0)=false:=by simp[hi0]
 have ca:=Yyt hRA hs;rw[hsA] at ca;have hhd:Y6m s.data.toList i p=((Ya6 s.data.toList p).2&&((Ya6 s.data.toList p).1 != 0&&(Ya6 s.data.toList p).1 != 31)):=by unfold Y6m;rw[decide_eq_true (by omega:0<i),Bool.true_and]
 rw[←hhd] at ca;clear hhd;cases hh:Y6m s.data.toList i p with
 |false=>
  rw[hh] at ca;have N:=Lib.hid (NOT.out hh);clear hi0 hi NOT hwA hA hY hRA gA hsA hbA hh
  go_enter Tryz.func157,Tryz.ntmps157
  go_wp2_with fail
  rw[HWA.out,HA.out];refine ca.mono ?_;rintro e w2 ⟨rfl,hb2⟩;have hh2:=(hb2.block A (by omega)).trans hhA
  go_wp2_with (with_reducible refine Yaj rfl 46 _ _ rfl A Y Y rfl rfl 46 hh2 HSR rfl HOY ?_;intro wz hhz hgz)
  refine bodyPost_ret (Yam rfl _ _ A 46 _ (0,0) _ rfl hhz Tryz.underlying46 rfl HSR) rfl ?_;exact N.out w2 wz hb2 hgz
 |true=>
  rw[hh] at ca;have e1:Yi2 s.data.toList k i p first=(true,(hdk s.data.toList p i).1,(hdk s.data.toList p i).2.1,(hdk s.data.toList p i).2.2.1,(i:Int)*Yjv k,(hdk s.data.toList p i).2.2.2):=by unfold Yi2;rw[if_pos (by rw[hh])]
  have ct:=fun x (hx:Yba x rb s p)=>Y4e x rb s p (i:Int) hx (by omega);unfold Qgv at ct;obtain⟨⟨id,qu,z,f⟩,hk⟩:∃r,hdk s.data.toList p (i:Int)=r:=⟨_,rfl⟩;rw[hk] at ct e1;dsimp only at ct e1;obtain⟨B0,B1,B2,B3,B4⟩:=Ykg k;have wm:IntKind.i64.wrap ((i:Int)*Yjv k)=(i:Int)*Yjv k:=by
   have h1:0≤(i:Int)*Yjv k:=Int.mul_nonneg (by omega) B2;have h2:(i:Int)*Yjv k≤1000*100:=Int.mul_le_mul (by omega) B3 B2 (by omega);exact Yif (by omega)
  obtain⟨fs,hfs⟩:∃fs,(i:Int)*Yjv k=fs:=⟨_,rfl⟩;have HM:=Lib.hid hfs;rw[hfs] at wm e1;have E1:=Lib.hid e1;obtain⟨Yh,hYh⟩:∃Z:Array Value,#[.bool true,.int .i64 id,.int .i64 qu,.slice none 0 0]=Z:=⟨_,rfl⟩;have HSY:(Tryz.prog.info? 46).map (·.size)=some Yh.size:=by rw[←hYh];kernel_rfl
  have HYY:Y.size=Yh.size:=by rw[←hY,←hYh];rfl
  have HOH:Yh.all (·.oneCell')=true:=by rw[←hYh];simp[Value.oneCell']
  have HYh:=Lib.hid hYh;have GA:=Lib.hid gA;obtain⟨fl,hfl⟩:∃fl,Yjv k=fl:=⟨_,rfl⟩;have wm2:IntKind.i64.wrap ((i:Int)*fl)=fs:=by rw[←hfl,hfs];exact wm
  have HFL:=Lib.hid hfl;clear hi0 hi NOT hwA hA hY hbA hh hk e1 hYh gA B0 B1 B2 B3 B4 hfs wm hfl
  go_enter Tryz.func157,Tryz.ntmps157
  go_wp2_with fail
  rw[HWA.out,HA.out];refine ca.mono ?_;rintro e w2 ⟨rfl,hb2⟩;have hR2:=hRA.below (by rw[hsA];exact hb2);have hh2:=(hb2.block A (by omega)).trans hhA;have hs2:=hb2.size;have g2:=Lib.hid (GA.out.trans (Yae.below (L:=[]) (by rw[hsA];exact hb2)) (by simp));have k0:=hR2.cell (o:=0) rfl;have ct2:=ct w2 hR2.rd;clear ca hb2 hhA hRA ct
  go_wp2_with fail
  refine ct2.mono ?_;rintro e w3 ⟨rfl,hr3,hg3⟩;have hR3:=hR2.reads hg3 hr3;have hh3:=(hg3.block A (by omega) (by simp;omega)).trans hh2;have k3:=hR3.cell (o:=3) rfl;rw[HFL.out] at k3;have k7:=hR3.cell (o:=7) rfl;have f7:=Yai (o:=7) hR3.blk
  have g3:=Lib.hid (g2.out.trans (M:=[some rb]) (L:=[some rb,some G]) (Yae.one hg3 fun j _ e=>by rw[e];exact List.mem_singleton.2 rfl) fun j _ hm=>by rw[List.mem_singleton.1 hm];exact List.mem_cons_self ..);have hs3:=hg3.size;clear ct2 hr3 hg3 hR2 hh2 k0;have hR4:=Lib.hid (hR3.lines (first':=fs))
  have hh4:(w3.setCell ⟨G,7,none⟩ (.int .i64 fs)).heap[A]? =some (.cells Y 46 (0,0)):=by rw[Below.heap_setCell _ _ _ _ (show A≠G by omega)];exact hh3
  have g4:=Lib.hid (g3.out.trans (M:=[some G]) (z:=w3.setCell ⟨G,7,none⟩ (.int .i64 fs)) (Yae.set _ (List.mem_singleton.2 rfl)) fun j _ hm=>by rw[List.mem_singleton.1 hm];exact List.mem_cons_of_mem _ (List.mem_singleton.2 rfl));have hs4:(w3.setCell ⟨G,7,none⟩ (.int .i64 fs)).heap.size=w3.heap.size:=by simp
  clear hR3
  go_wp2_with (first|(with_reducible refine wpList_buildTo rfl 46 _ rfl (some 38) rfl #[.bool true,.int .i64 id,.int .i64 qu,.slice none 0 0] (by kernel_rfl) ?_;rw[HYh.out])|(with_reducible refine Yaj rfl 46 _ _ rfl A Yh Y rfl rfl 46 hh4 HSY HYY HOH ?_;intro wz hhz hgz))
  refine bodyPost_ret (Yam rfl _ _ A 46 _ (0,0) _ rfl hhz Tryz.underlying46 rfl HSY) rfl ?_;refine⟨true,id,qu,z,fs,f,E1.out,by rw[←HYh.out];rfl,hR4.out.put hgz (Qjg hAl),?_⟩;refine g4.out.trans (M:=[some A]) (Yae.one hgz fun j _ e=>by rw[e];exact List.mem_singleton.2 rfl) fun j hj hm=>?_;have e:=List.mem_singleton.1 hm;injection e with e;have:=HA.out;omega
theorem Qee {inter:Bool}{c:Cel}(h:Ybp inter c=true):(-32≤c.mx∧c.mx≤31)∧-32≤c.my∧c.my≤31:=by
 unfold Ybp at h;rw[Bool.and_eq_true] at h;have h:=h.2;by_cases hs:c.skip=true
 ·rw[if_pos hs,Bool.and_eq_true] at h;have h:=h.2;unfold Yp7 at h;simp only[Bool.and_eq_true,beq_iff_eq] at h;obtain⟨⟨-,h1,h2⟩,-⟩:=h;rw[h1,h2]
  decide
 ·rw[if_neg hs] at h;simp only[Bool.and_eq_true] at h;have h:=h.2.1;unfold Ym4 at h;by_cases hk:Yas c.kind=true
  ·rw[if_pos hk] at h;simp only[Bool.and_eq_true,beq_iff_eq] at h;rw[h.1,h.2]
   decide
  ·rw[if_neg hk] at h;simp only[Bool.and_eq_true,beq_iff_eq] at h;exact⟨Yk4.1 h.1,Yk4.1 h.2⟩
theorem Y24 {n:Int}(h1:-32≤n)(h2:n≤31):(Lit.int .i64 n).wf=true:=by
 unfold Lit.wf;simp only[Bool.and_eq_true,decide_eq_true_eq];exact⟨Int.le_trans (by decide) h1,Int.le_trans h2 (by decide)⟩
section
variable {P:Program}
theorem Ymz {w:World}{o:Oper}{a:Act}{K:Act→World→Prop}{Q:Exit→Act→World→Prop}{s x:Operand}{t e:TypeId}{cap B:Nat}{i:TypeInfo}{z v:Value}{n:Nat}{xs:List Value}{y0 y1:Int}
  (ho:o.op=.call {callee:=.builtin .append,args:=#[s,x],argTypes:=#[t,t]})
  (ht:P.underlying t=some (.slice e))(hi:P.info? e=some i)(hz:i.zero=some z)(hzs:z.cells.size=2)(hsize:i.size=2)(hby:i.bytes=16)
  (hs:a.eval s=v)(hown:w.ownsRow 0 e 2 v n xs)(hx:a.eval x=.slice (some ⟨B,0,none⟩) 1 cap)(c0:w.cell? ⟨B,0,none⟩=some (.int .i64 y0))(c1:w.cell? ⟨B,1,none⟩=some (.int .i64 y1))(hn:n≤1048576)
  (h:∀(q:Option Addr) (cap':Nat) w',w'.ownsRow 0 e 2 (.slice q (n+1) cap') (n+1) (xs++[.int .i64 y0,.int .i64 y1])→w.grownBy w' v.ownBlock→(∀k,(Value.slice q (n+1) cap').ownBlock=some k→v.ownBlock=some k∨w.heap.size≤k)→K (a.put o.dst (.slice q (n+1) cap')) w'):o.wp P a w K Q:=by
 have hnews:∀(j:Nat) u,([.int .i64 y0,.int .i64 y1]:List Value)[j]? =some u→w.cell? ((⟨B,0,none⟩:Addr).add j)=some u:=fun j u hj=>by
  rw[Addr.add_mid,Nat.zero_add]
  match j,hj with
  |0,hj=>cases hj;exact c0
  |1,hj=>cases hj;exact c1
 have hv1:∀u∈([.int .i64 y0,.int .i64 y1]:List Value),u.oneCell'=true:=by intro u hu;simp only[List.mem_cons,List.not_mem_nil,or_false] at hu;rcases hu with rfl|rfl <;> rfl
 obtain⟨v',w',hr,h2,h3,-⟩:=run_append_own (P:=P) w 0 t o.type e i z 2 16 ht hi hz hsize hby hzs (by decide) v n xs hown ⟨B,0,none⟩ 1 cap _ rfl hnews hv1 (by unfold maxLen;omega) (by omega) (Nat.zero_le _);have h4:=Yhn ht hi hz hsize hby hzs (by decide) hown rfl hnews hv1 (by unfold maxLen;omega) (by omega) hr;have e4:=(Yey h2).1;rw[e4] at h2 h4;unfold Oper.wp execOp
 simp only[ho,resolve,invoke,builtin,Sem.run_bind,Sem.run_pure,Result.andThen_ok,List.map_toArray,List.map_cons,List.map_nil,hs,hx,hr];have:=h _ _ w' h2 h3 h4;rw[←e4] at this;exact this
end
section
variable {w x:World}{L:List (Option Nat)}
theorem Ye2.from {B:Nat}{p:Option Addr}{l:List Ev}(h:Ye2 w p l)(hf:Yfi B p)(hL:∀j,some j∈L→j<B):Ysr L w p l:=by
 refine⟨h,?_⟩;rcases h with h|⟨b,o,e,-,-⟩
 ·exact .inl (by first|exact h|exact List.eq_nil_of_length_eq_zero h)
 ·refine .inr ⟨b,o,e,fun hm=>?_⟩;have h1:=hf _ e;have h2:=hL b hm;simp only at h1;omega
theorem Ysr.below {p:Option Addr}{l:List Ev}(h:Ysr L w p l)(hb:Below w.heap.size w x):Ysr L x p l:=h.kept (Yak hb none) fun k hk=>by cases hk
end
section
variable {N:Nat}{w:World}{G rb p:Nat}{s:ByteArray}{k:Int}{inter:Bool}{vv:Value}{vs:List (Int×Int)}{first:Int}
set_option maxRecDepth 100000 in
set_option maxHeartbeats 8000000 in
theorem Yy2 (h:Ycq w G rb s p k inter vv vs first)(ht:Ybh N w)(hN:N≤rb)(hn:vs.length≤1048575):
  Calls Tryz.prog 158 #[.pointer (some ⟨G,0,none⟩)] w (Y6s s G rb p k inter vv vs first w):=by
 have hp:=h.rd.2.1;obtain⟨Y,HYS,hzv⟩:=Yf8;obtain⟨vp,vcap,hvv,hVA⟩:=Y23 rfl h.vec;subst hvv;obtain⟨A,hA⟩:∃A,w.heap.size=A:=⟨_,rfl⟩;obtain⟨wA,hwA⟩:∃wA,w.alloc (.cells Y 77 (0,0))=wA:=⟨_,rfl⟩;have hhA:wA.heap[A]? =some (.cells Y 77 (0,0)):=by rw[←hwA,←hA];exact heap_alloc_new w _
 have hbA:Below w.heap.size w wA:=by rw[←hwA];exact(Below.refl _ w).alloc (Nat.le_refl _) _
 have hsA:wA.heap.size=A+1:=by rw[←hwA,←hA];simp
 have hAl:G<A∧rb<A∧∀j,(Value.slice vp vs.length vcap).ownBlock=some j→j<A:=by rw[←hA];exact h.lt
 have hGA:=hAl.1;have hrA:=hAl.2.1;have hRA:=h.below hbA;have htA:=ht.below (hbA.mono (by omega:N≤w.heap.size));have hVX:=hVA.mono hbA;obtain⟨⟨mx0,my0⟩,hfo⟩:∃r,Yd3 vs (Yd0 k) first=r:=⟨_,rfl⟩
 obtain⟨⟨c,q,f⟩,hct⟩:∃r,ctk inter (Yad s.data.toList) mx0 my0 p=r:=⟨_,rfl⟩;have hfa:Yd0 k≤100:=by have:=(Yje k).1;have:=(Ykg k).2.2.2.2;omega
 have CO:=Lib.hid (fun(x:World) (hx:Below wA.heap.size wA x)=>(Yrj (fun i=>vs.getD i (0,0)) vp vs.length vcap (Yd0 k) first x (hVX.mono hx) (by unfold maxLen;omega) (by omega)).mono fun e y (z:Ysx _ x e y)=>
  (⟨by rw[z.1,show Qi5 (fun i=>vs.getD i (0,0)) vs.length (Yd0 k) first=(mx0,my0) from hfo];rfl,z.2⟩:e=.returned (.agg #[.int .i64 mx0,.int .i64 my0])∧Below x.heap.size x y))
 have CT:=Lib.hid (fun(x:World) (hx:Below wA.heap.size wA x)=>(Y3z inter mx0 my0 (htA.below (hx.mono (by omega))) hN (hRA.below hx).rd).mono fun e y (z:Yqz inter s rb mx0 my0 p x e y)=>
  (by
   obtain⟨c',q',f',sl,h1,h2,h3,h4,h5⟩:=z;rw[hct] at h1;injection h1 with e1 h1;injection h1 with e2 e3;subst e1 e2 e3;exact⟨sl,h2,h3,h4,h5⟩:∃sl,e=.returned (.tuple #[.agg (Ybd c sl).toArray,.int .i64 f])∧(∀i,i<6→Ymu y x.heap.size (sl i) (c.ev i))∧Yba y rb s q∧x.grownBy y (some rb)))
 have SB:=Lib.hid (fun(x:World) (hx:Below wA.heap.size wA x)=>(hRA.below hx).blk);have SL:=Lib.hid (fun(x:World) (hx:Yae [some rb] wA x)=>(hx.block G (by omega) (fun hm=>by have e:=List.mem_singleton.1 hm;injection e with e;exact h.ne.1 e)).trans hRA.blk);have HRA:=Lib.hid hRA;have HAL:=Lib.hid hAl;have HNE:=Lib.hid h.ne;have HOWN:=Lib.hid hRA.vec
 have HCT:Hid (ctk inter (Yad s.data.toList) (Yd3 vs (Yd0 k) first).1 (Yd3 vs (Yd0 k) first).2 p=(c,q,f)):=Lib.hid (by rw[hfo];exact hct);have HM:=Lib.hid (fun(e:f=0)=>(by
  rw[e] at hct;exact Qee (Y1g (Yds _) (by rw[Yag];exact hp) hct).2:(-32≤c.mx∧c.mx≤31)∧-32≤c.my∧c.my≤31))
 have HEL:=Lib.hid (fun i=>(by have:=Y72 inter (Yad s.data.toList) mx0 my0 p i;rw[hct] at this;exact this:(c.ev i).length≤65));have HWA:=Lib.hid hwA;have HA:=Lib.hid hA;have HBA:=Lib.hid hbA;clear h ht hVA hVX hRA htA hct hfo hfa hwA hA hbA hAl hp
 go_enter Tryz.func158,Tryz.ntmps158
 go_upto_region 1 with fail
 rw[HWA.out,HA.out]
 go_cut [4,5] (fun u fv wx=>∃(C:Nat) (sl:Nat→Value),u=.pointer (some ⟨C,0,none⟩)∧fv=.int .i64 f∧wx.heap[C]? =some (.cells (Ybd c sl).toArray 77 (0,0))∧wA.heap.size≤C∧Yae [some rb] wA wx∧Yba wx rb s q∧∀i,i<6→∃P cap,sl i=.slice P (c.ev i).length cap∧Ysr [some C] wx P (c.ev i)∧Yfi wA.heap.size P)
 case first=>
  have hk0:Below wA.heap.size wA wA.drew:=(Below.refl _ wA).drew;refine wp_region_held_drew (S:=fun x=>x.heap[G]? =some (.cells (Qid rb k inter (.slice vp vs.length vcap) first).toArray 157 (0,0))) (by kernel_rfl) (SB.out _ hk0) (fun hH=>?_);refine Yah 0 (some 7) hH ?_
  try simp only[Yaa]
  refine Yah 1 (some 8) hH ?_
  try simp only[Yaa]
  refine Yah 2 (some 9) hH ?_
  try simp only[Yaa]
  refine Yco 3 (some 10) (v:=.pointer (some ⟨rb,0,none⟩)) rfl rfl hH (by kernel_rfl) (fun x hx=>by have c0:=Yab (o:=0) hx rfl;go_simp) ?_
  try simp only[Yaa]
  refine Yah 4 (some 11) hH ?_
  try simp only[Yaa]
  refine Yah 5 (some 12) hH ?_
  try simp only[Yaa]
  refine Yah 6 (some 13) hH ?_
  try simp only[Yaa]
  refine Yco 7 (some 14) (v:=.bool inter) rfl rfl hH (by kernel_rfl) (fun x hx=>by have c0:=Yab (o:=5) hx rfl;go_simp) ?_
  try simp only[Yaa]
  refine Yah 8 (some 15) hH ?_
  try simp only[Yaa]
  refine Yah 9 (some 16) hH ?_
  try simp only[Yaa]
  refine Yah 10 (some 17) hH ?_
  try simp only[Yaa]
  refine Yco 11 (some 18) (v:=.slice vp vs.length vcap) rfl rfl hH (by kernel_rfl) (fun x hx=>by have c0:=Yab (o:=6) hx rfl;go_simp) ?_
  try simp only[Yaa]
  refine Yah 12 (some 19) hH ?_
  try simp only[Yaa]
  refine Yah 13 (some 20) hH ?_
  try simp only[Yaa]
  refine Yah 14 (some 21) hH ?_
  try simp only[Yaa]
  refine Yco 15 (some 22) (v:=.int .i64 (Yd0 k)) rfl rfl hH (by kernel_rfl) (fun x hx=>by have c0:=Yab (o:=4) hx rfl;go_simp) ?_
  try simp only[Yaa]
  refine Yah 16 (some 23) hH ?_
  try simp only[Yaa]
  refine Yah 17 (some 24) hH ?_
  try simp only[Yaa]
  refine Yah 18 (some 25) hH ?_
  try simp only[Yaa]
  refine Yco 19 (some 26) (v:=.int .i64 first) rfl rfl hH (by kernel_rfl) (fun x hx=>by have c0:=Yab (o:=7) hx rfl;go_simp) ?_
  try simp only[Yaa]
  generalize wA.drew=v0 at hH hk0 ⊢;refine wpAnyH_ready (rs:=[20,25]) (by kernel_rfl) (by simp) ?_;refine AllReadyH.cons rfl (fun K hK=>?_) (AllReadyH.cons rfl (fun K hK=>?_) AllReadyH.nil)
  ·go_simp
   go_wp2_with fail
   refine(CO.out _ hk0).mono ?_;rintro e v1 ⟨rfl,hb⟩;have hk1:Below wA.heap.size wA v1:=hk0.trans (hb.mono hk0.size);clear hb;refine hK.out _ _ (SB.out _ hk1) (fun hH2=>?_);clear hK K hH hH2;have hH:=(SB.out _ hk1)
   try simp only[Yaa]
   refine wpAnyH_ready (rs:=[21,25]) (by kernel_rfl) (by simp) ?_;refine AllReadyH.cons rfl (fun K hK=>?_) (AllReadyH.cons rfl (fun K hK=>?_) AllReadyH.nil)
   ·go_simp
    go_wp2_with fail
    refine(CT.out _ hk1).mono ?_;rintro e v2 ⟨sl,rfl,hev0,hr2,hg0⟩;have hg2:Yae [some rb] wA v2:=(Yae.below (L:=[some rb]) hk1).trans (Yae.one (L:=[some rb]) hg0 fun j _ e=>by rw[e];exact List.mem_singleton.2 rfl) fun j _ h=>h;have hev:∀i,i<6→∃P cap,sl i=.slice P (c.ev i).length cap∧Ye2 v2 P (c.ev i)∧Yfi wA.heap.size P:=fun i hi=>by
     obtain⟨P,cap,h1,h2,h3⟩:=hev0 i hi;exact⟨P,cap,h1,h2,h3.mono hk1.size⟩
    clear hev0;clear hg0;refine hK.out _ _ (SL.out _ hg2) (fun hH2=>?_);clear hK K hH hH2;have hH:=(SL.out _ hg2)
    try simp only[Yaa]
    refine Yah 22 (some 6) hH ?_
    try simp only[Yaa]
    refine Yah 23 (some 29) hH ?_
    try simp only[Yaa]
    refine Yah 24 (some 30) hH ?_
    try simp only[Yaa]
    refine wpAnyH_ready (rs:=[25]) (by kernel_rfl) (by simp) ?_;refine AllReadyH.cons rfl (fun K hK=>?_) AllReadyH.nil
    go_simp
    obtain⟨C,hC⟩:∃C,v2.heap.size=C:=⟨_,rfl⟩;obtain⟨v3,hn3⟩:∃v,v2.alloc (.cells Y 77 (0,0))=v:=⟨_,rfl⟩;have gC:v3.heap[C]? =some (.cells Y 77 (0,0)):=by rw[←hn3,←hC];exact heap_alloc_new v2 _
    have hCn:wA.heap.size≤C:=by rw[←hC];exact hg2.size
    have hbn:Below v2.heap.size v2 v3:=by rw[←hn3];exact(Below.refl _ v2).alloc (Nat.le_refl _) _
    have hg3:Yae [some rb] wA v3:=hg2.trans (Yae.below (L:=[]) hbn) (by simp);have hr3:=hr2.below hbn;have hevF:∀i,i<6→∃P cap,sl i=.slice P (c.ev i).length cap∧Ysr [some C] v3 P (c.ev i)∧Yfi wA.heap.size P:=fun i hi=>by
     obtain⟨P,cap,h1,h2,h3⟩:=hev i hi;refine⟨P,cap,h1,⟨h2.below hbn,?_⟩,h3⟩;rcases h2 with h2|⟨b,o,h2,h4,-⟩
     ·exact .inl h2
     ·exact .inr ⟨b,o,h2,fun hm=>by have e:=List.mem_singleton.1 hm;injection e with e;omega⟩
    clear hev hbn;rw[hn3,hC];clear hn3 hC;refine hK.out _ _ (SL.out _ hg3) (fun hH2=>?_);clear hK K hH hH2;have hH:=(SL.out _ hg3)
    try simp only[Yaa]
    refine wpAnyH_ready (rs:=[26]) (by kernel_rfl) (by simp) ?_;refine AllReadyH.cons rfl (fun K hK=>?_) AllReadyH.nil;refine(if_pos (by kernel_rfl)).mpr ?_;have HSL:(Tryz.prog.info? 77).map (·.size)=some (Ybd c sl).toArray.size:=by rw[show (Ybd c sl).toArray.size=18 from rfl];kernel_rfl
    have HYL:Y.size=(Ybd c sl).toArray.size:=by rw[HYS];rfl
    have hc1:(Ybd c sl).toArray.all (·.oneCell')=true:=Yj7 _ _ fun i hi=>by obtain⟨P,cap,h1,-,-⟩:=hevF i hi;rw[h1];rfl
    refine wp_store_row 77 _ _ rfl C (Ybd c sl).toArray (by kernel_rfl) (by kernel_rfl) 77 Y gC HSL HYL hc1 ?_;obtain⟨vS,hvS⟩:∃vS,v3.setRow C (Ybd c sl).toArray=vS:=⟨_,rfl⟩;have eS:vS.heap[C]? =some (.cells (Ybd c sl).toArray 77 (0,0)):=by rw[←hvS];exact setRow_heap _ _ _ _ _ _ gC
    have hgS:v3.grownBy vS (some C):=by rw[←hvS];exact⟨rfl,rfl,rfl,by simp,fun k _ hk=>setRow_other _ _ _ _ (by intro e;exact hk (by rw[e]))⟩
    have hgSL:Yae [some rb] wA vS:=hg3.trans (Yae.one (L:=[some C]) hgS fun j _ e=>by rw[e];exact List.mem_singleton.2 rfl) fun j hj h=>by have e:=List.mem_singleton.1 h;injection e with e;omega
    have hrS:Yba vS rb s q:=hr3.grown hgS (by omega);rw[hvS];clear hvS;refine hK.out _ _ (SL.out _ hgSL) (fun hH2=>?_);clear hK K hH hH2;have hH:=(SL.out _ hgSL)
    try simp only[Act.put,List.setIfInBounds_toArray]
    refine Yah 27 (some 5) hH ?_
    try simp only[Act.put]
    refine wpAnyH_done (by kernel_rfl) ?_ _
    go_wp2
    go_meet
    case rel=>
     refine⟨C,sl,rfl,rfl,eS,hCn,hgSL,hrS,fun i hi=>?_⟩;obtain⟨P,cap,h1,h2,h3⟩:=hevF i hi;exact⟨P,cap,h1,(h2.kept hgS fun k hk=>by injection hk with hk;rw[hk];exact List.mem_singleton.2 rfl),h3⟩
   ·go_simp
    obtain⟨C,hC⟩:∃C,v1.heap.size=C:=⟨_,rfl⟩;obtain⟨v2,hn2⟩:∃v,v1.alloc (.cells Y 77 (0,0))=v:=⟨_,rfl⟩;have gC:v2.heap[C]? =some (.cells Y 77 (0,0)):=by rw[←hn2,←hC];exact heap_alloc_new v1 _
    have hCn:wA.heap.size≤C:=by rw[←hC];exact hk1.size
    have hk2:Below wA.heap.size wA v2:=by rw[←hn2];exact hk1.alloc hk1.size _
    rw[hn2,hC];clear hn2 hC;refine hK.out _ _ (SB.out _ hk2) (fun hH2=>?_);clear hK K hH hH2;have hH:=(SB.out _ hk2)
    try simp only[Yaa]
    refine wpAnyH_ready (rs:=[21]) (by kernel_rfl) (by simp) ?_;refine AllReadyH.cons rfl (fun K hK=>?_) AllReadyH.nil
    go_simp
    go_wp2_with fail
    refine(CT.out _ hk2).mono ?_;rintro e v3 ⟨sl,rfl,hev0,hr3,hg0⟩;have hg3:Yae [some rb] wA v3:=(Yae.below (L:=[some rb]) hk2).trans (Yae.one (L:=[some rb]) hg0 fun j _ e=>by rw[e];exact List.mem_singleton.2 rfl) fun j _ h=>h;have ltC:=(Array.getElem?_eq_some_iff.1 gC).1;have gC:=(hg0.block C ltC (by simp;omega)).trans gC
    have hevF:∀i,i<6→∃P cap,sl i=.slice P (c.ev i).length cap∧Ysr [some C] v3 P (c.ev i)∧Yfi wA.heap.size P:=fun i hi=>by
     obtain⟨P,cap,h1,h2,h3⟩:=hev0 i hi;refine⟨P,cap,h1,⟨h2,?_⟩,h3.mono hk2.size⟩;rcases h2 with h2|⟨b,o,h2,h4,-⟩
     ·exact .inl h2
     ·exact .inr ⟨b,o,h2,fun hm=>by have e:=List.mem_singleton.1 hm;injection e with e;have h5:=h3 _ h2;simp only at h5;omega⟩
    clear hev0 ltC;clear hg0;refine hK.out _ _ (SL.out _ hg3) (fun hH2=>?_);clear hK K hH hH2;have hH:=(SL.out _ hg3)
    try simp only[Yaa]
    refine Yah 22 (some 6) hH ?_
    try simp only[Yaa]
    refine Yah 23 (some 29) hH ?_
    try simp only[Yaa]
    refine Yah 24 (some 30) hH ?_
    try simp only[Yaa]
    refine wpAnyH_ready (rs:=[26]) (by kernel_rfl) (by simp) ?_;refine AllReadyH.cons rfl (fun K hK=>?_) AllReadyH.nil;refine(if_pos (by kernel_rfl)).mpr ?_;have HSL:(Tryz.prog.info? 77).map (·.size)=some (Ybd c sl).toArray.size:=by rw[show (Ybd c sl).toArray.size=18 from rfl];kernel_rfl
    have HYL:Y.size=(Ybd c sl).toArray.size:=by rw[HYS];rfl
    have hc1:(Ybd c sl).toArray.all (·.oneCell')=true:=Yj7 _ _ fun i hi=>by obtain⟨P,cap,h1,-,-⟩:=hevF i hi;rw[h1];rfl
    refine wp_store_row 77 _ _ rfl C (Ybd c sl).toArray (by kernel_rfl) (by kernel_rfl) 77 Y gC HSL HYL hc1 ?_;obtain⟨vS,hvS⟩:∃vS,v3.setRow C (Ybd c sl).toArray=vS:=⟨_,rfl⟩;have eS:vS.heap[C]? =some (.cells (Ybd c sl).toArray 77 (0,0)):=by rw[←hvS];exact setRow_heap _ _ _ _ _ _ gC
    have hgS:v3.grownBy vS (some C):=by rw[←hvS];exact⟨rfl,rfl,rfl,by simp,fun k _ hk=>setRow_other _ _ _ _ (by intro e;exact hk (by rw[e]))⟩
    have hgSL:Yae [some rb] wA vS:=hg3.trans (Yae.one (L:=[some C]) hgS fun j _ e=>by rw[e];exact List.mem_singleton.2 rfl) fun j hj h=>by have e:=List.mem_singleton.1 h;injection e with e;omega
    have hrS:Yba vS rb s q:=hr3.grown hgS (by omega);rw[hvS];clear hvS;refine hK.out _ _ (SL.out _ hgSL) (fun hH2=>?_);clear hK K hH hH2;have hH:=(SL.out _ hgSL)
    try simp only[Act.put,List.setIfInBounds_toArray]
    refine Yah 27 (some 5) hH ?_
    try simp only[Act.put]
    refine wpAnyH_done (by kernel_rfl) ?_ _
    go_wp2
    go_meet
    case rel=>
     refine⟨C,sl,rfl,rfl,eS,hCn,hgSL,hrS,fun i hi=>?_⟩;obtain⟨P,cap,h1,h2,h3⟩:=hevF i hi;exact⟨P,cap,h1,(h2.kept hgS fun k hk=>by injection hk with hk;rw[hk];exact List.mem_singleton.2 rfl),h3⟩
  ·go_simp
   obtain⟨C,hC⟩:∃C,v0.heap.size=C:=⟨_,rfl⟩;obtain⟨v1,hn1⟩:∃v,v0.alloc (.cells Y 77 (0,0))=v:=⟨_,rfl⟩;have gC:v1.heap[C]? =some (.cells Y 77 (0,0)):=by rw[←hn1,←hC];exact heap_alloc_new v0 _
   have hCn:wA.heap.size≤C:=by rw[←hC];exact hk0.size
   have hk1:Below wA.heap.size wA v1:=by rw[←hn1];exact hk0.alloc hk0.size _
   rw[hn1,hC];clear hn1 hC;refine hK.out _ _ (SB.out _ hk1) (fun hH2=>?_);clear hK K hH hH2;have hH:=(SB.out _ hk1)
   try simp only[Yaa]
   refine wpAnyH_ready (rs:=[20]) (by kernel_rfl) (by simp) ?_;refine AllReadyH.cons rfl (fun K hK=>?_) AllReadyH.nil
   go_simp
   go_wp2_with fail
   refine(CO.out _ hk1).mono ?_;rintro e v2 ⟨rfl,hb⟩;have hk2:Below wA.heap.size wA v2:=hk1.trans (hb.mono hk1.size);have gC:=(hb.block C (Array.getElem?_eq_some_iff.1 gC).1).trans gC;clear hb;refine hK.out _ _ (SB.out _ hk2) (fun hH2=>?_);clear hK K hH hH2;have hH:=(SB.out _ hk2)
   try simp only[Yaa]
   refine wpAnyH_ready (rs:=[21]) (by kernel_rfl) (by simp) ?_;refine AllReadyH.cons rfl (fun K hK=>?_) AllReadyH.nil
   go_simp
   go_wp2_with fail
   refine(CT.out _ hk2).mono ?_;rintro e v3 ⟨sl,rfl,hev0,hr3,hg0⟩;have hg3:Yae [some rb] wA v3:=(Yae.below (L:=[some rb]) hk2).trans (Yae.one (L:=[some rb]) hg0 fun j _ e=>by rw[e];exact List.mem_singleton.2 rfl) fun j _ h=>h;have ltC:=(Array.getElem?_eq_some_iff.1 gC).1;have gC:=(hg0.block C ltC (by simp;omega)).trans gC
   have hevF:∀i,i<6→∃P cap,sl i=.slice P (c.ev i).length cap∧Ysr [some C] v3 P (c.ev i)∧Yfi wA.heap.size P:=fun i hi=>by
    obtain⟨P,cap,h1,h2,h3⟩:=hev0 i hi;refine⟨P,cap,h1,⟨h2,?_⟩,h3.mono hk2.size⟩;rcases h2 with h2|⟨b,o,h2,h4,-⟩
    ·exact .inl h2
    ·exact .inr ⟨b,o,h2,fun hm=>by have e:=List.mem_singleton.1 hm;injection e with e;have h5:=h3 _ h2;simp only at h5;omega⟩
   clear hev0 ltC;clear hg0;refine hK.out _ _ (SL.out _ hg3) (fun hH2=>?_);clear hK K hH hH2;have hH:=(SL.out _ hg3)
   try simp only[Yaa]
   refine Yah 22 (some 6) hH ?_
   try simp only[Yaa]
   refine Yah 23 (some 29) hH ?_
   try simp only[Yaa]
   refine Yah 24 (some 30) hH ?_
   try simp only[Yaa]
   refine wpAnyH_ready (rs:=[26]) (by kernel_rfl) (by simp) ?_;refine AllReadyH.cons rfl (fun K hK=>?_) AllReadyH.nil;refine(if_pos (by kernel_rfl)).mpr ?_;have HSL:(Tryz.prog.info? 77).map (·.size)=some (Ybd c sl).toArray.size:=by rw[show (Ybd c sl).toArray.size=18 from rfl];kernel_rfl
   have HYL:Y.size=(Ybd c sl).toArray.size:=by rw[HYS];rfl
   have hc1:(Ybd c sl).toArray.all (·.oneCell')=true:=Yj7 _ _ fun i hi=>by obtain⟨P,cap,h1,-,-⟩:=hevF i hi;rw[h1];rfl
   refine wp_store_row 77 _ _ rfl C (Ybd c sl).toArray (by kernel_rfl) (by kernel_rfl) 77 Y gC HSL HYL hc1 ?_;obtain⟨vS,hvS⟩:∃vS,v3.setRow C (Ybd c sl).toArray=vS:=⟨_,rfl⟩;have eS:vS.heap[C]? =some (.cells (Ybd c sl).toArray 77 (0,0)):=by rw[←hvS];exact setRow_heap _ _ _ _ _ _ gC
   have hgS:v3.grownBy vS (some C):=by rw[←hvS];exact⟨rfl,rfl,rfl,by simp,fun k _ hk=>setRow_other _ _ _ _ (by intro e;exact hk (by rw[e]))⟩
   have hgSL:Yae [some rb] wA vS:=hg3.trans (Yae.one (L:=[some C]) hgS fun j _ e=>by rw[e];exact List.mem_singleton.2 rfl) fun j hj h=>by have e:=List.mem_singleton.1 h;injection e with e;omega
   have hrS:Yba vS rb s q:=hr3.grown hgS (by omega);rw[hvS];clear hvS;refine hK.out _ _ (SL.out _ hgSL) (fun hH2=>?_);clear hK K hH hH2;have hH:=(SL.out _ hgSL)
   try simp only[Act.put,List.setIfInBounds_toArray]
   refine Yah 27 (some 5) hH ?_
   try simp only[Act.put]
   refine wpAnyH_done (by kernel_rfl) ?_ _
   go_wp2
   go_meet
   case rel=>
    refine⟨C,sl,rfl,rfl,eS,hCn,hgSL,hrS,fun i hi=>?_⟩;obtain⟨P,cap,h1,h2,h3⟩:=hevF i hi;exact⟨P,cap,h1,(h2.kept hgS fun k hk=>by injection hk with hk;rw[hk];exact List.mem_singleton.2 rfl),h3⟩
 case rest=>
  clear CO CT SB SL;obtain⟨C,sl,rfl,rfl,hC,hCn,hgx,hrx,hev⟩:=hcut;obtain⟨wk,rfl⟩:∃x,x=wc:=⟨_,rfl⟩;have hone:∀i,i<6→(sl i).oneCell'=true:=fun i hi=>by obtain⟨P,cap,h1,-,-⟩:=hev i hi;rw[h1];rfl
  obtain⟨Z,hZ⟩:∃Z,(Ybd c sl).toArray=Z:=⟨_,rfl⟩;have HSZ:(Tryz.prog.info? 77).map (·.size)=some Z.size:=by rw[←hZ,show (Ybd c sl).toArray.size=18 from rfl];kernel_rfl
  have HYZ:Y.size=Z.size:=by rw[HYS,←hZ];rfl
  have HOZ:Z.all (·.oneCell')=true:=hZ▸Yj7 _ _ hone;have hCZ:wk.heap[C]? =some (.cells Z 77 (0,0)):=by rw[←hZ];exact hC
  have hAk:=(hgx.block A (by omega) (fun hm=>by have e:=List.mem_singleton.1 hm;injection e with e;omega)).trans hhA;have HZ:=Lib.hid hZ;have HEV:=Lib.hid hev;have HONE:=Lib.hid hone;have hzk:=hgx.size;have hCk:C<wk.heap.size:=(Array.getElem?_eq_some_iff.1 hC).1;have hRk:Ycq wk G rb s q k inter (.slice vp vs.length vcap) vs first:={
   blk:=(hgx.block G (by omega) (fun hm=>by have e:=List.mem_singleton.1 hm;injection e with e;exact HNE.out.1 e)).trans HRA.out.blk
   rd:=hrx
   vec:=Yex HRA.out.vec hgx fun j hj hm=>by have e:=List.mem_singleton.1 hm;injection e with e;exact(HNE.out.2 j hj).2 e
   ne:=HNE.out}
  have GK:Hid (Yae (Yqb rb G (.slice vp vs.length vcap)) w wk):=Lib.hid ((Yae.below HBA.out).trans hgx fun j _ hm=>by rw[List.mem_singleton.1 hm];exact List.mem_cons_self ..);have ck:=Yab (o:=2) hC rfl;clear hZ hev hone hgx hrx hhA;by_cases hf:f=0
  case neg=>
   have tf:(f != 0)=true:=by rw[bne_iff_ne];exact hf
   have HF:=Lib.hid hf;clear hf ck
   go_wp2_with (first|(with_reducible refine wpList_load_row rfl 77 _ rfl C rfl 77 Z (0,0) _ hCZ Tryz.underlying77 rfl HSZ ?_)|(with_reducible refine Yaj rfl 77 _ _ rfl A Z Y rfl rfl 77 hAk HSZ HYZ HOZ ?_;intro wz hhz hgz))
   refine bodyPost_ret (Yam rfl _ _ A 77 _ (0,0) _ rfl hhz Tryz.underlying77 rfl HSZ) rfl ?_;refine⟨c,q,f,f,sl,HCT.out,by rw[if_pos HF.out],by rw[HZ.out];rfl,HONE.out,?_,⟨q,hRk.rd.grown hgz (by omega)⟩,fun e=>absurd e HF.out⟩
   exact GK.out.trans (Yae.one (L:=[some A]) hgz fun j _ e=>by rw[e];exact List.mem_singleton.2 rfl) fun j hj hm=>by have e:=List.mem_singleton.1 hm;injection e with e;have:=HA.out;omega
  have tf:(f != 0)=false:=by rw[hf];rfl
  have hm:=HM.out hf;have HF:=Lib.hid hf;have hr2:wk.rangeAt C 4 [.int .i64 c.mx,.int .i64 c.my]:=fun j v hj=>by
   match j,hj with
   |0,hj=>injection hj with hj;subst hj;exact Yab (o:=4) hC rfl
   |1,hj=>injection hj with hj;subst hj;exact Yab (o:=5) hC rfl
  have KK:=fun(x y:World) (hx:Below wk.heap.size wk x) (hy:Below x.heap.size x y)=>(hx.trans (hy.mono hx.size):Below wk.heap.size wk y);have HR2:=Lib.hid (fun(x:World) (hx:Below wk.heap.size wk x)=>((fun j v hj=>(World.cell?_of_block (a:=⟨C,4+j,none⟩) (hx.block C hCk)).trans (hr2 j v hj)):x.rangeAt C 4 [.int .i64 c.mx,.int .i64 c.my]))
  have HC0:=Lib.hid (fun(x:World) (hx:Below wk.heap.size wk x)=>((hx.block C hCk).trans hCZ));have K1:=Lib.hid (fun(x:World) (hx:Below wk.heap.size wk x)=>(hRk.below hx).cell (o:=1) rfl);have K6:=Lib.hid (fun(x:World) (hx:Below wk.heap.size wk x)=>(hRk.below hx).cell (o:=6) rfl)
  have CP:=Lib.hid (fun(x:World) (hx:Below wk.heap.size wk x)=>(by rw[←HZ.out];exact(Yzt c sl x).mono fun e y z=>⟨z.1,KK x y hx z.2⟩:Calls Tryz.prog 179 #[.agg Z] x fun e y=>e=.returned (.bool (!Yas c.kind))∧Below wk.heap.size wk y))
  have CM:=Lib.hid (fun(x:World) (hx:Below wk.heap.size wk x)=>((Y1y k (vs.length:Int) c.mx c.my x).mono fun e y z=>⟨z.1,KK x y hx z.2⟩:Calls Tryz.prog 84 #[.int .i64 k,.int .i64 (vs.length:Int),.agg #[.int .i64 c.mx,.int .i64 c.my]] x fun e y=>e=.returned (.bool (Y9c k (vs.length:Int) c.mx c.my))∧Below wk.heap.size wk y));have hb0:=Below.refl wk.heap.size wk
  have hvm:Ycm k vs.length c=(Yas c.kind || Y9c k (vs.length:Int) c.mx c.my):=rfl;obtain⟨vmb,hvmb⟩:∃b,Ycm k vs.length c=b:=⟨_,rfl⟩;rw[hvmb] at hvm;have HVM:=Lib.hid hvmb;have HRK:=Lib.hid hRk;clear hf KK hr2 hRk hvmb
  go_upto_region 4 with fail
  go_cut [51] (fun v wx=>v=.bool (!vmb)∧Below wk.heap.size wk wx)
  case first=>
   cases hik:Yas c.kind with
   |true=>
    rw[hik] at hvm CP;have HV:Hid (vmb=true):=Lib.hid (by rw[hvm];rfl);clear hik hvm;refine Ya0 (S:=fun x=>Below wk.heap.size wk x) 17 (by kernel_rfl) (by kernel_rfl) hb0.drew ?_;simp only[List.take_succ_cons,List.take_zero,List.drop_succ_cons,List.drop_zero];refine Yev 77 _ C 77 Z (0,0) _ (by kernel_rfl) rfl rfl (fun x hx=>HC0.out x hx) Tryz.underlying77 rfl HSZ ?_;simp only[Yaa]
    refine Ya9 (by kernel_rfl) CP.out (fun _=>by kernel_rfl) ?_;simp only[Yaa];refine Yaf (by kernel_rfl) (fun x _=>by go_simp;try with_reducible rfl) ?_;simp only[Yaa]
    iterate 13 (refine Yfb (by kernel_rfl) ?_;simp only[Yaa])
    refine Yaf (by kernel_rfl) (fun x _=>by go_simp;try with_reducible rfl) ?_;simp only[Yaa];refine Ych fun x hx=>?_
    go_wp2
    go_meet
    case rel=>exact⟨(by rw[HV.out];first|done|rfl),hx⟩
   |false=>
    rw[hik] at hvm CP;have HV:=Lib.hid (hvm.trans (Bool.false_or _));clear hik hvm;generalize Y9c k (vs.length:Int) c.mx c.my=mv at *;refine Ya0 (S:=fun x=>Below wk.heap.size wk x) 17 (by kernel_rfl) (by kernel_rfl) hb0.drew ?_;simp only[List.take_succ_cons,List.take_zero,List.drop_succ_cons,List.drop_zero]
    refine Yev 77 _ C 77 Z (0,0) _ (by kernel_rfl) rfl rfl (fun x hx=>HC0.out x hx) Tryz.underlying77 rfl HSZ ?_;simp only[Yaa];refine Ya9 (by kernel_rfl) CP.out (fun _=>by kernel_rfl) ?_;simp only[Yaa]
    iterate 4 (refine Yaf (by kernel_rfl) (fun x _=>by go_simp;try with_reducible rfl) ?_;simp only[Yaa])
    refine Ya7 3 _ ⟨G,1,none⟩ (.int .i64 k) (by kernel_rfl) rfl rfl (fun x hx=>by have c0:=K1.out x hx;go_simp) ?_;simp only[Yaa]
    iterate 3 (refine Yaf (by kernel_rfl) (fun x _=>by go_simp;try with_reducible rfl) ?_;simp only[Yaa])
    refine Ya7 98 _ ⟨G,6,none⟩ (.slice vp vs.length vcap) (by kernel_rfl) rfl rfl (fun x hx=>by have c0:=K6.out x hx;go_simp) ?_;simp only[Yaa]
    iterate 2 (refine Yaf (by kernel_rfl) (fun x _=>by go_simp;try with_reducible rfl) ?_;simp only[Yaa])
    refine Qc4 73 _ C 4 [.int .i64 c.mx,.int .i64 c.my] _ (by kernel_rfl) rfl rfl (fun x hx=>HR2.out x hx) Tryz.underlying73 rfl (by kernel_rfl) ?_;simp only[Yaa];refine Ya9 (by kernel_rfl) CM.out (fun _=>by kernel_rfl) ?_;simp only[Yaa]
    iterate 2 (refine Yaf (by kernel_rfl) (fun x _=>by go_simp;try with_reducible rfl) ?_;simp only[Yaa])
    refine Ych fun x hx=>?_
    go_wp2
    go_meet
    case rel=>exact⟨(by rw[HV.out];first|done|rfl),hx⟩
  case rest=>
   obtain⟨rfl,hbx⟩:=hcut;clear hb0 CP CM K1 K6 hvm;have hCx:=HC0.out _ hbx;have hAx:=(hbx.block A (by omega)).trans hAk;have hRx:=HRK.out.below hbx;have hr2x:=HR2.out _ hbx;have GX:Hid (Yae (Yqb rb G (.slice vp vs.length vcap)) w wc):=Lib.hid (GK.out.trans (Yae.below (L:=[]) hbx) (by simp));have HBX:=Lib.hid hbx;have hzx:=hbx.size;cases vmb with
   |false=>
    clear HC0 HR2 hbx
    go_wp2_with (first|(with_reducible refine wpList_load_row rfl 77 _ rfl C rfl 77 Z (0,0) _ hCx Tryz.underlying77 rfl HSZ ?_)|(with_reducible refine Yaj rfl 77 _ _ rfl A Z Y rfl rfl 77 hAx HSZ HYZ HOZ ?_;intro wz hhz hgz))
    refine bodyPost_ret (Yam rfl _ _ A 77 _ (0,0) _ rfl hhz Tryz.underlying77 rfl HSZ) rfl ?_;refine⟨c,q,f,8,sl,HCT.out,by rw[if_neg (fun h=>h HF.out),if_pos HVM.out],by rw[HZ.out];rfl,HONE.out,?_,⟨q,hRx.rd.grown hgz (by omega)⟩,fun e=>by cases e⟩
    exact GX.out.trans (Yae.one (L:=[some A]) hgz fun j _ e=>by rw[e];exact List.mem_singleton.2 rfl) fun j hj hm=>by have e:=List.mem_singleton.1 hm;injection e with e;have:=HA.out;omega
   |true=>
    clear HC0 HR2 hbx;have hl:=hRx.lt;have hCl:wA.heap.size≤C∧A+1≤C:=by omega
    have k6:=hRx.cell (o:=6) rfl;obtain⟨ti,j0,j1,j2,j3⟩:=Y1r;have hb0:Below wc.heap.size wc wc.drew:=(Below.refl _ wc).drew;have k6d:=(hRx.below hb0).cell (o:=6) rfl;have hr2d:wc.drew.rangeAt C 4 [.int .i64 c.mx,.int .i64 c.my]:=hr2x
    go_wp2
    refine wp_region_any (by kernel_rfl) ?_;change wpAny _ _ _ _ _ _ _ (World.drew _);refine Ybk 0 (some 53) (v:=?_) rfl rfl (by kernel_rfl) (by kernel_rfl) (by kernel_rfl) (fun _ _ _ h=>h) (Or.inl ⟨by kernel_rfl,?_⟩) ?_
    rotate_left
    ·(intro x;go_simp;try with_reducible rfl)
    rotate_right
    try simp only[Yaa]
    refine Ybk 1 (some 54) (v:=?_) rfl rfl (by kernel_rfl) (by kernel_rfl) (by kernel_rfl) (fun _ _ _ h=>h) (Or.inl ⟨by kernel_rfl,?_⟩) ?_
    rotate_left
    ·(intro x;go_simp;try with_reducible rfl)
    rotate_right
    try simp only[Yaa]
    refine Ybk 2 (some 55) (v:=?_) rfl rfl (by kernel_rfl) (by kernel_rfl) (by kernel_rfl) (fun _ _ _ h=>h) (Or.inl ⟨by kernel_rfl,?_⟩) ?_
    rotate_left
    ·(intro x;go_simp;try with_reducible rfl)
    rotate_right
    try simp only[Yaa]
    refine Ybk 3 (some 56) (v:=?_) rfl rfl (by kernel_rfl) (by kernel_rfl) (by kernel_rfl) (fun _ _ _ h=>h) (Or.inl ⟨by kernel_rfl,?_⟩) ?_
    rotate_left
    ·(intro x;go_simp;try with_reducible rfl)
    rotate_right
    try simp only[Yaa]
    refine Ybk 5 (some 58) (v:=?_) rfl rfl (by kernel_rfl) (by kernel_rfl) (by kernel_rfl) (fun _ _ _ h=>h) (Or.inl ⟨by kernel_rfl,?_⟩) ?_
    rotate_left
    ·(intro x;go_simp;try with_reducible rfl)
    rotate_right
    try simp only[Yaa]
    refine Y03 (S:=fun x=>x.cell? ⟨G,6,none⟩=some (.slice vp vs.length vcap)) 4 6 7 (some 57) (v:=.slice vp vs.length vcap) rfl rfl rfl rfl (by kernel_rfl) (by kernel_rfl) (by kernel_rfl) (fun _ _ _ h=>h) (by kernel_rfl) (by kernel_rfl) (by kernel_rfl) (by kernel_rfl) (by kernel_rfl) (by decide) (by decide) k6d (Or.inl ⟨by kernel_rfl,?_⟩) ?_
    ·(intro x hx;have c0:=(show x.cell? ⟨G,6,none⟩=some (.slice vp vs.length vcap) from hx);go_simp)
    try simp only[Yaa]
    refine wpOp_step rfl (fun K hK=>?_);have HK:=Lib.hid hK;clear hK;refine(if_pos (by kernel_rfl)).mpr ?_;refine wp_load_mid 73 _ rfl C 4 rfl [.int .i64 c.mx,.int .i64 c.my] _ hr2d Tryz.underlying73 rfl (by kernel_rfl) ?_;refine HK.out _ _ ⟨k6d,?_⟩;clear HK K
    try simp only[Act.put,List.setIfInBounds_toArray]
    refine wpOp_step rfl (fun K hK=>?_);have HK:=Lib.hid hK;clear hK
    go_simp
    obtain⟨wP,hwP⟩:∃wP,(wc.alloc (.cells #[.int .i64 c.mx,.int .i64 c.my] 73 (0,0))).drew=wP:=⟨_,rfl⟩;have hbP:Below wc.heap.size wc wP:=by rw[←hwP];exact((Below.refl _ wc).alloc (Nat.le_refl _) _).drew
    have hPP:wP.heap[wc.heap.size]? =some (.cells ([Value.int .i64 c.mx,.int .i64 c.my]:List Value).toArray 73 (0,0)):=by rw[←hwP];exact heap_alloc_new wc _
    have hRP:=hRx.below hbP;have HP0:=Yab (o:=0) hPP rfl;have HP1:=Yab (o:=1) hPP rfl;have hzP:=hbP.size;rw[hwP];refine HK.out _ _ ⟨hRP.cell (o:=6) rfl,?_⟩;clear HK K hwP k6d hr2d hb0 k6;refine wpAny_ready (rs:=[8]) (by kernel_rfl) (by simp) ?_;refine AllReady.cons rfl (fun K hK=>?_) AllReady.nil;refine(if_pos (by kernel_rfl)).mpr ?_
    refine Ymz (v:=.slice vp vs.length vcap) rfl Tryz.underlying98 j0 j1 rfl j2 j3 rfl hRP.vec rfl HP0 HP1 (by omega) ?_;intro q8 cap8 w8 ho8 hg8 hw8;refine hK _ _ ?_;clear hK K HP0 HP1 hPP j0 j1 j2 j3;have hR9:=hRP.vecs (v:=(c.mx,c.my)) hg8 ho8 hw8;have hz8:=hg8.size
    have hG8:w8.heap[G]? =some (.cells (Qid rb k inter (.slice vp vs.length vcap) first).toArray 157 (0,0)):=(hg8.block G (by omega) fun e=>(hRP.ne.2 G e.symm).1 rfl).trans hRP.blk;have k6:=Yab (o:=6) hG8 rfl;have f6:=Yai (o:=6) hG8;have hvl:=HAL.out.2.2
    have hC8:w8.heap[C]? =some (.cells Z 77 (0,0)):=(hg8.block C (by omega) fun e=>by have:=hvl C e.symm;omega).trans ((hbP.block C (by omega)).trans hCx);have hA8:w8.heap[A]? =some (.cells Y 77 (0,0)):=(hg8.block A (by omega) fun e=>by have:=hvl A e.symm;omega).trans ((hbP.block A (by omega)).trans hAx)
    have hC9:(w8.setCell ⟨G,6,none⟩ (.slice q8 (vs.length+1) cap8)).heap[C]? =some (.cells Z 77 (0,0)):=by rw[Below.heap_setCell _ _ _ _ (show C≠G by omega)];exact hC8
    have hA9:(w8.setCell ⟨G,6,none⟩ (.slice q8 (vs.length+1) cap8)).heap[A]? =some (.cells Y 77 (0,0)):=by rw[Below.heap_setCell _ _ _ _ (show A≠G by omega)];exact hA8
    have g9:=Yae.set (w:=w8) (p:=⟨G,6,none⟩) (L:=[some G]) (.slice q8 (vs.length+1) cap8) (List.mem_singleton.2 rfl);clear hG8 hC8 hA8;refine Ybk 9 (some 62) (v:=?_) rfl rfl (by kernel_rfl) (by kernel_rfl) (by kernel_rfl) (fun _ _ _ h=>h) (Or.inl ⟨by kernel_rfl,?_⟩) ?_
    rotate_left
    ·(intro x;go_simp;try with_reducible rfl)
    rotate_right
    try simp only[Act.put,List.setIfInBounds_toArray]
    refine Ybk 10 (some 63) (v:=?_) rfl rfl (by kernel_rfl) (by kernel_rfl) (by kernel_rfl) (fun _ _ _ h=>h) (Or.inl ⟨by kernel_rfl,?_⟩) ?_
    rotate_left
    ·(intro x;go_simp;try with_reducible rfl)
    rotate_right
    try simp only[Act.put]
    refine wpAny_ready (rs:=[11]) (by kernel_rfl) (by simp) ?_;refine AllReady.cons rfl (fun K hK=>?_) AllReady.nil
    go_simp
    generalize w8.setCell ⟨G,6,none⟩ (.slice q8 (vs.length+1) cap8)=w9 at *;refine hK _ _ ?_;clear hK K k6 f6;refine wpAny_done (by kernel_rfl) ?_ _
    go_wp2_with (first|(with_reducible refine wpList_load_row rfl 77 _ rfl C rfl 77 Z (0,0) _ hC9 Tryz.underlying77 rfl HSZ ?_)|(with_reducible refine Yaj rfl 77 _ _ rfl A Z Y rfl rfl 77 hA9 HSZ HYZ HOZ ?_;intro wz hhz hgz))
    refine bodyPost_ret (Yam rfl _ _ A 77 _ (0,0) _ rfl hhz Tryz.underlying77 rfl HSZ) rfl ?_;have hAe:=HA.out;have gM:Yae [(Value.slice vp vs.length vcap).ownBlock,some G,some A] wc wz:=by
     have g1:Yae [(Value.slice vp vs.length vcap).ownBlock,some G,some A] wc wP:=Yae.below hbP;have g2:=g1.trans (M:=[(Value.slice vp vs.length vcap).ownBlock]) (Yae.one hg8 fun j _ e=>by rw[e];exact List.mem_singleton.2 rfl) fun j _ hm=>by rw[List.mem_singleton.1 hm];exact List.mem_cons_self ..
     have g3:=g2.trans g9 fun j _ hm=>by rw[List.mem_singleton.1 hm];exact List.mem_cons_of_mem _ (List.mem_cons_self ..)
     exact g3.trans (M:=[some A]) (Yae.one hgz fun j _ e=>by rw[e];exact List.mem_singleton.2 rfl) fun j _ hm=>by rw[List.mem_singleton.1 hm];exact List.mem_cons_of_mem _ (List.mem_cons_of_mem _ (List.mem_cons_self ..))
    have hMl:∀j,some j∈[(Value.slice vp vs.length vcap).ownBlock,some G,some A]→j<A+1:=fun j hm=>by
     rcases List.mem_cons.1 hm with e|hm
     ·have:=hvl j e.symm;omega
     ·rcases List.mem_cons.1 hm with e|hm
      ·injection e with e;omega
      ·have e:=List.mem_singleton.1 hm;injection e with e;omega
    refine⟨c,q,f,0,sl,HCT.out,by rw[if_neg (fun h=>h HF.out),if_neg (by rw[HVM.out];decide)],by rw[HZ.out];rfl,HONE.out,?_,⟨q,hR9.rd.grown hgz (by omega)⟩,fun _=>⟨.slice q8 (vs.length+1) cap8,hR9.put hgz ⟨by omega,by omega,fun j hj=>?_⟩,fun j hj=>?_,fun L hL=>?_⟩⟩
    ·refine GX.out.trans gM fun j hj hm=>?_;rcases List.mem_cons.1 hm with e|hm
     ·rw[e];exact List.mem_cons_of_mem _ (List.mem_cons_of_mem _ (List.mem_cons_self ..))
     ·rcases List.mem_cons.1 hm with e|hm
      ·rw[e];exact List.mem_cons_of_mem _ (List.mem_cons_self ..)
      ·have e:=List.mem_singleton.1 hm;injection e with e;omega
    ·rcases hw8 j hj with h2|h2
     ·have:=hvl j h2;omega
     ·omega
    ·rcases hw8 j hj with h2|h2
     ·exact .inl h2
     ·exact .inr (by omega)
    ·obtain⟨pf,cf,hpc⟩:=Qeu HEV.out;have hbx:=HBX.out;refine⟨pf,cf,Qc8 fun i hi=>(hpc i hi).1,⟨Y24 hm.1.1 hm.1.2,Y24 hm.2.1 hm.2.2⟩,fun i hi=>⟨by have:=HEL.out i;unfold maxLen;omega,?_⟩⟩;obtain⟨-,h2,h3⟩:=hpc i hi;obtain⟨h4,h5⟩:=h2.1.from (L:=[(Value.slice vp vs.length vcap).ownBlock,some G,some A]) h3 fun j hm=>by have:=hMl j hm;omega
     have h6:=(Ysr.below ⟨h4,h5⟩ hbx).keptL gM fun j h=>h;refine⟨h6.1,?_⟩;rcases h4 with h4|⟨b,o,e,hlt,-⟩
     ·exact .inl (by first|exact h4|exact List.eq_nil_of_length_eq_zero h4)
     ·refine .inr ⟨b,o,e,fun hm=>?_⟩;have h7:=h3 _ e;simp only at h7;rcases List.mem_cons.1 hm with e2|e2
      ·rcases hw8 b e2.symm with h8|h8
       ·have:=hvl b h8;omega
       ·omega
      ·have:=hL b e2;omega
end
section
variable {N:Nat}{w:World}{G rb p:Nat}{s:ByteArray}{k:Int}{inter:Bool}{vv:Value}{vs:List (Int×Int)}{first:Int}
set_option maxRecDepth 100000 in
set_option maxHeartbeats 8000000 in
theorem Y48 (i:Nat)(h:Ycq w G rb s p k inter vv vs first)(ht:Ybh N w)(hN:N≤rb)(hNG:N≤G)(hNv:∀j,vv.ownBlock=some j→N≤j)(hn:vs.length≤1000000)(hs:s.size≤1073741824)(hi:i≤1000):
  Calls Tryz.prog 128 #[.pointer (some ⟨G,0,none⟩),.int .i64 (i:Int)] w (Y29 s G rb p k inter vv vs first i w):=by
 have hzr:=Ylw;obtain⟨Y,hY⟩:∃Y:Array Value,[Value.bool false,.int .i64 0,.int .i64 0,.slice none 0 0].toArray=Y:=⟨_,rfl⟩;rw[hY] at hzr;obtain⟨Yc,HYC,hzc⟩:=Yf8;obtain⟨A,hA⟩:∃A,w.heap.size=A:=⟨_,rfl⟩;obtain⟨wA,hwA⟩:∃wA,w.alloc (.cells Y 46 (0,0))=wA:=⟨_,rfl⟩;have hhA:wA.heap[A]? =some (.cells Y 46 (0,0)):=by rw[←hwA,←hA];exact heap_alloc_new w _
 have hbA:Below w.heap.size w wA:=by rw[←hwA];exact(Below.refl _ w).alloc (Nat.le_refl _) _
 have hsA:wA.heap.size=A+1:=by rw[←hwA,←hA];simp
 have hlt:=h.lt;have ch:=Yzm i (h.below hbA) hs hi;have HTB:Hid (∀x,Yae (Yqb rb G vv) w x→Ybh N x):=Lib.hid fun x hx=>ht.below (hx.under (by omega) fun j hj=>by
  rcases Ydf.1 hj with e|e|e
  ·omega
  ·omega
  ·exact hNv j e)
 have HYS:Y.size=4:=by rw[←hY];rfl
 have HWA:=Lib.hid hwA;have HA:=Lib.hid hA;have HLT:=Lib.hid hlt;have HBA:=Lib.hid hbA;have hlA:G<A∧rb<A:=⟨by omega,by omega⟩;clear hwA hA h ht hNv hlt hbA hNG hi hY
 go_enter Tryz.func128,Tryz.ntmps128
 go_wp2_with fail
 rw[HWA.out,HA.out];refine ch.mono ?_;rintro e w1 ⟨b,id,qu,z,fs,f,hrh,rfl,hR1,hg1⟩;have hA1:=(hg1.block A (by omega) (fun hm=>by
  rcases List.mem_cons.1 hm with e|e
  ·injection e with e;omega
  ·have e:=List.mem_singleton.1 e;injection e with e;omega)).trans hhA
 have hz1:=hg1.size;obtain⟨X,hX⟩:∃X,w1.heap.size=X:=⟨_,rfl⟩;obtain⟨Z,hZ⟩:∃Z,[Value.bool b,.int .i64 id,.int .i64 qu,.slice none 0 0].toArray=Z:=⟨_,rfl⟩;have hZ2:#[Value.bool b,.int .i64 id,.int .i64 qu,.slice none 0 0]=Z:=hZ;rw[hZ2];obtain⟨w2,hw2⟩:∃w2,w1.alloc (.cells Z 46 (0,0))=w2:=⟨_,rfl⟩;have hb2:Below w1.heap.size w1 w2:=by rw[←hw2];exact(Below.refl _ w1).alloc (Nat.le_refl _) _
 have hX2:w2.heap[X]? =some (.cells Z 46 (0,0)):=by rw[←hw2,←hX];exact heap_alloc_new w1 _
 have hs2:w2.heap.size=X+1:=by rw[←hw2,←hX];simp
 have hA2:=(hb2.block A (by omega)).trans hA1;have HSZ:(Tryz.prog.info? 46).map (·.size)=some Z.size:=by rw[←hZ];kernel_rfl
 have HYZ:Y.size=Z.size:=by rw[HYS,←hZ];rfl
 have HOZ:Z.all (·.oneCell')=true:=by rw[←hZ];simp[Value.oneCell']
 have G2:Hid (Yae (Yqb rb G vv) w w2):=Lib.hid (((Yae.below HBA.out).trans hg1 fun j _ hm=>by
  rcases List.mem_cons.1 hm with e|e
  ·rw[e];exact List.mem_cons_self ..
  ·rw[List.mem_singleton.1 e];exact List.mem_cons_of_mem _ (List.mem_cons_self ..)).trans (Yae.below (L:=[]) hb2) (by simp))
 have hR2:=hR1.below hb2;obtain⟨⟨Ec,Eq,Eh⟩,hE⟩:∃E,Ydj ctk s.data.toList inter k fs (Yf6 k).toNat z vs=E:=⟨_,rfl⟩;have HX:=Lib.hid hX;have HZ:=Lib.hid hZ;have HW2:=Lib.hid hw2;have HRH:=Lib.hid hrh;have HE:=Lib.hid hE;clear hX hZ hZ2 hw2 hrh hE hg1 hR1 hA1 hhA ch;by_cases hf:f=0
 case neg=>
  have tf:(f != 0)=true:=by rw[bne_iff_ne];exact hf
  have HF:=Lib.hid hf;clear hf
  go_wp2_with (first|(with_reducible refine Yao rfl 46 _ _ rfl Z Y 46 rfl rfl HSZ HYZ HOZ ?_;rw[HW2.out,HX.out])|(with_reducible refine wpList_load_row rfl 46 _ rfl X rfl 46 Z (0,0) _ hX2 Tryz.underlying46 rfl HSZ ?_)|(with_reducible refine Yaj rfl 46 _ _ rfl A Z Y rfl rfl 46 hA2 HSZ HYZ HOZ ?_;intro wz hhz hgz))
  refine bodyPost_ret (Yam rfl _ _ A 46 _ (0,0) _ rfl hhz Tryz.underlying46 rfl HSZ) rfl ?_;refine⟨b,id,qu,z,fs,f,Ec,Eq,Eh,f,HRH.out,HE.out,by rw[if_pos HF.out],_,by rw[HZ.out];rfl,⟨rfl,fun u hu=>?_⟩,?_,⟨_,hR2.rd.grown hgz (by omega)⟩,fun e=>absurd e HF.out⟩
  ·simp only[List.mem_cons,List.not_mem_nil,or_false] at hu;rcases hu with rfl|rfl|rfl|rfl <;> rfl
  ·exact G2.out.trans (Yae.one (L:=[some A]) hgz fun j _ e=>by rw[e];exact List.mem_singleton.2 rfl) fun j hj hm=>by have e:=List.mem_singleton.1 hm;injection e with e;have:=HA.out;omega
 subst hf;have tf:((0:Int) != 0)=false:=rfl;have hro2:Yyn w w2 G rb A X s z k inter vv vv (.slice none 0 0) vs fs Y b id qu []:={
  rdr:=hR2
  res:=hA2
  row:=by rw[HZ.out];exact hX2
  cel:=Yhk.nil _ _
  ord:=by have:=HA.out;have:=HX.out;omega
  low:=HLT.out
  own:=fun j hj=>⟨.inl hj,by have:=HLT.out.2.2 j hj;have:=HA.out;have:=HX.out;omega⟩
  cown:=fun j hj=>by cases hj
  grown:=G2.out}
 have k3:=Lib.hid (fun(x:World) (hx:Below w2.heap.size w2 x)=>(hR2.below hx).cell (o:=3) rfl);have k4:=Lib.hid (fun(x:World) (hx:Below w2.heap.size w2 x)=>(hR2.below hx).cell (o:=4) rfl);obtain⟨M,hM⟩:∃M:Nat,(Yf6 k).toNat=M:=⟨_,rfl⟩;have hMn:Yf6 k=(M:Int)∧M≤10000:=by have:=Yh8 k;have:=(Y1l k).1;omega
 have wm:IntKind.i64.wrap (Yjv k*Yd0 k)=(M:Int):=by
  rw[show Yjv k*Yd0 k=Yf6 k from Int.mul_comm _ _,hMn.1];exact Yif (by omega)
 have hM4:=hMn.2;have T0:Hid (Ycu (Ec,Eq,Eh) [] (Ydj ctk s.data.toList inter k fs M z vs)):=Lib.hid (by rw[←hM,HE.out];exact Ycu.start _);have hb0:Below w2.heap.size w2 w2:=Below.refl _ _;clear hM hMn hR2 hX2 hA2 hs2 hb2;generalize Yjv k=fl at *;generalize Yd0 k=fa at *
 go_upto_region 4 with (with_reducible refine Yao rfl 46 _ _ rfl Z Y 46 rfl rfl HSZ HYZ HOZ ?_;rw[HW2.out,HX.out])
 refine Ya0 (S:=fun x=>Below w2.heap.size w2 x) 10 (by kernel_rfl) (by kernel_rfl) hb0.drew ?_;simp only[List.take_succ_cons,List.take_zero,List.drop_succ_cons,List.drop_zero]
 iterate 3 (refine Yaf (by kernel_rfl) (fun x _=>by go_simp;try with_reducible rfl) ?_;simp only[Yaa])
 refine Ya7 3 _ ⟨G,3,none⟩ (.int .i64 fl) (by kernel_rfl) rfl rfl (fun x hx=>by have c0:=k3.out x hx;go_simp) ?_;simp only[Yaa]
 iterate 3 (refine Yaf (by kernel_rfl) (fun x _=>by go_simp;try with_reducible rfl) ?_;simp only[Yaa])
 refine Ya7 3 _ ⟨G,4,none⟩ (.int .i64 fa) (by kernel_rfl) rfl rfl (fun x hx=>by have c0:=k4.out x hx;go_simp) ?_;simp only[Yaa]
 iterate 2 (refine Yaf (by kernel_rfl) (fun x _=>by go_simp;try with_reducible rfl) ?_;simp only[Yaa])
 refine Ych fun w3 hb3=>?_;have hro3:=hro2.below hb3;clear hro2 hb3 hb0 k3 k4 HW2 HX G2 wm
 go_wp2
 go_loopw [29] (fun t wx=>∃(j q2:Nat) (cs:List Cel) (vv2 cv:Value) (vz:List (Int×Int)),t=.int .i64 (j:Int)∧j≤M∧Yyn w wx G rb A X s q2 k inter vv vv2 cv vz fs Y b id qu cs∧Hid (cs.length=j)∧Hid (vz=vs++Ydl cs)∧Hid (Ycu (Ec,Eq,Eh) cs (Ydj ctk s.data.toList inter k fs (M-j) q2 vz))) (fun t _=>M-(intOf t).toNat)
 case atStart=>exact⟨0,z,[],vv,_,vs,rfl,Nat.zero_le _,hro3,Lib.hid rfl,Lib.hid (by simp[Ydl]),T0⟩
 case round=>
  clear hro3 T0;obtain⟨j,q2,cs,vv2,cv,vz,rfl,hj,hro,hcl,hvz,hT⟩:=hrel;have HSQ:Hid ((Tryz.prog.info? 46).map (·.size)=some ([Value.bool b,.int .i64 id,.int .i64 qu,cv]:List Value).toArray.size):=Lib.hid (by kernel_rfl);have hcv1:cv.oneCell'=true:=(Yey hro.cel.choose_spec.2).2.2;obtain⟨Z2,hZ2⟩:∃Z2,([Value.bool b,.int .i64 id,.int .i64 qu,cv]:List Value).toArray=Z2:=⟨_,rfl⟩
  have HSZ:(Tryz.prog.info? 46).map (·.size)=some Z2.size:=by rw[←hZ2];exact HSQ.out
  have HYZ:Y.size=Z2.size:=by rw[HYS,←hZ2];rfl
  have hone4:∀u∈([Value.bool b,.int .i64 id,.int .i64 qu,cv]:List Value),u.oneCell'=true:=by
   intro u hu;simp only[List.mem_cons,List.not_mem_nil,or_false] at hu;rcases hu with rfl|rfl|rfl|rfl
   ·rfl
   ·rfl
   ·rfl
   ·exact hcv1
  have HOZ:Z2.all (·.oneCell')=true:=by
   rw[←hZ2,Array.all_eq_true_iff_forall_mem];exact fun v hv=>hone4 v (by simpa using hv)
  have HZ2:=Lib.hid hZ2;have HON:=Lib.hid hone4;clear hZ2 hone4 hcv1 HSQ;by_cases hlt:j<M
  ·have t1:decide ((j:Int)<(M:Int))=true:=by simp;omega
   have hvl:vz.length≤1048575:=by rw[hvz.out,List.length_append];unfold Ydl;rw[List.length_map,hcl.out];omega
   have cc:=Yy2 hro.rdr (HTB.out _ hro.grown) hN hvl
   go_wp2_with fail
   refine cc.mono ?_;rintro e w4 ⟨c,q3,f3,g,sl,hct,hg,rfl,hone,hgr,⟨q',hrd⟩,hok⟩;clear cc;obtain⟨C,hC⟩:∃C,w4.heap.size=C:=⟨_,rfl⟩;obtain⟨Zc,hZc⟩:∃Zc,(Ybd c sl).toArray=Zc:=⟨_,rfl⟩;rw[hZc];obtain⟨w5,hw5⟩:∃w5,w4.alloc (.cells Zc 77 (0,0))=w5:=⟨_,rfl⟩;have hb5:Below w4.heap.size w4 w5:=by rw[←hw5];exact(Below.refl _ w4).alloc (Nat.le_refl _) _
   have hC5:w5.heap[C]? =some (.cells Zc 77 (0,0)):=by rw[←hw5,←hC];exact heap_alloc_new w4 _
   have HSC:(Tryz.prog.info? 77).map (·.size)=some Zc.size:=by rw[←hZc,show (Ybd c sl).toArray.size=18 from rfl];kernel_rfl
   have HYCZ:Yc.size=Zc.size:=by rw[HYC,←hZc];rfl
   have HOC:Zc.all (·.oneCell')=true:=hZc▸Yj7 _ _ hone;have HC:=Lib.hid hC;have HZC:=Lib.hid hZc;have HW5:=Lib.hid hw5;have hb:=hro.bad hgr;have hz4:=hgr.size;have ho:=hro.ord;clear hC hZc hw5 hone;by_cases hg0:g=0
   case neg=>
    have tg:(g != 0)=true:=by rw[bne_iff_ne];exact hg0
    obtain⟨hb1,hb2,hb3⟩:=hb;have hA5:=(hb5.block A (by omega)).trans hb1;have hX5:=(hb5.block X (by omega)).trans hb2;rw[HZ2.out] at hX5;have EH:Hid (Eh=g):=Lib.hid (by
     have h1:=hT.out;rw[show M-j=(M-j-1)+1 by omega] at h1;by_cases hf3:f3=0
     ·rw[if_neg (fun h=>h hf3)] at hg;by_cases hv:Ycm k vz.length c=false
      ·rw[if_pos hv] at hg;rw[hg];exact Y7q h1 (by rw[hct,hf3]) hv
      ·rw[if_neg hv] at hg;exact absurd hg hg0
     ·rw[if_pos hf3] at hg;rw[hg];exact Y7p h1 hct hf3)
    have G5:=Lib.hid (hb3.trans (Yae.below (L:=[]) hb5) (by simp));have hr5:=hrd.below hb5;have HG0:=Lib.hid hg0;have hz5:=hb5.size;clear hg0 hg hok hro hT hcl hvz hct hb1 hb2 hb3 hrd hgr hvl
    go_wp2_with (first|(with_reducible refine Yao rfl 77 _ _ rfl Zc Yc 77 rfl rfl HSC HYCZ HOC ?_;rw[HW5.out,HC.out])|(with_reducible refine wpList_load_row rfl 46 _ rfl X rfl 46 Z2 (0,0) _ hX5 Tryz.underlying46 rfl HSZ ?_)|(with_reducible refine Yaj rfl 46 _ _ rfl A Z2 Y rfl rfl 46 hA5 HSZ HYZ HOZ ?_;intro wz hhz hgz))
    refine bodyPost_ret (Yam rfl _ _ A 46 _ (0,0) _ rfl hhz Tryz.underlying46 rfl HSZ) rfl ?_;refine⟨b,id,qu,z,fs,0,Ec,Eq,Eh,g,HRH.out,HE.out,by rw[if_neg (fun h=>h rfl),EH.out],_,by rw[HZ2.out];rfl,⟨rfl,HON.out⟩,?_,⟨_,hr5.grown hgz (by omega)⟩,fun e=>absurd e HG0.out⟩
    exact G5.out.trans (Yae.one (L:=[some A]) hgz fun j _ e=>by rw[e];exact List.mem_singleton.2 rfl) fun j hj hm=>by have e:=List.mem_singleton.1 hm;injection e with e;have:=HA.out;omega
   have tg:(g != 0)=false:=by rw[hg0];rfl
   have hf3:f3=0:=by
    by_cases h1:f3=0
    ·exact h1
    ·rw[if_pos h1] at hg;exact absurd (hg.symm.trans hg0) h1
   have hvm:Ycm k vz.length c=true:=by
    rw[if_neg (fun h=>h hf3)] at hg;cases hv:Ycm k vz.length c with
    |true=>rfl
    |false=>rw[if_pos hv,hg0] at hg;cases hg
   obtain⟨vv3,hR4,hw3,hcF⟩:=hok hg0;have hT5:Hid (Ycu (Ec,Eq,Eh) (cs++[c]) (Ydj ctk s.data.toList inter k fs (M-(j+1)) q3 (vz++[(c.mx,c.my)]))):=Lib.hid (by
    have h1:=hT.out;rw[show M-j=(M-(j+1))+1 by omega] at h1;exact Y3s h1 (by rw[hct,hf3]) hvm)
   have hro4:=hro.cell hR4 hgr hw3;have hro5:=hro4.below hb5;have hcl4:Yk8 (Y2a A X w.heap.size vv3 cv) w4 c (Ybd c sl):=hcF (some A::some X::cv.ownBlock::Yu3 w.heap.size) fun j hm=>by
    have hws:=hro.grown.size;rcases List.mem_cons.1 hm with e|hm
    ·injection e with e;omega
    ·rcases List.mem_cons.1 hm with e|hm
     ·injection e with e;omega
     ·rcases List.mem_cons.1 hm with e|hm
      ·exact Ydx.lt hro.cel j e.symm
      ·have:=Yfe.1 hm;omega
   have hcl5:Yk8 (Y2a A X w.heap.size vv3 cv) w5 c (Ybd c sl):=hcl4.kept (Yak hb5 none) fun j hj=>by cases hj
   obtain⟨wQ,hwQ⟩:∃wQ,w5.alloc (.cells (Ybd c sl).toArray 77 (0,0))=wQ:=⟨_,rfl⟩;obtain⟨Q,hQ⟩:∃Q,w5.heap.size=Q:=⟨_,rfl⟩;have hbQ:Below w5.heap.size w5 wQ:=by rw[←hwQ];exact(Below.refl _ w5).alloc (Nat.le_refl _) _
   have hQQ:wQ.heap[Q]? =some (.cells (Ybd c sl).toArray 77 (0,0)):=by rw[←hwQ,←hQ];exact heap_alloc_new w5 _
   have hroQ:=hro5.below hbQ;have hcelQ:Yk8 (Y2a A X w.heap.size vv3 cv) wQ c (Ybd c sl):=hcl5.kept (Yak hbQ none) fun j hj=>by cases hj
   have h1c:=(Yk8.shape hcelQ).2;have h18:=(Yk8.shape hcelQ).1;have hcD:∀(j:Nat) u,(Ybd c sl)[j]? =some u→wQ.cell? ⟨Q,j,none⟩=some u:=fun j u hu=>Yab hQQ hu;have hX5:=hro5.row;have c30:=Yab (o:=3) hX5 rfl;obtain⟨ri,rz,j0,j1,j2,j3,j4⟩:=Qc6;have hcn:cs.length≤10000:=by have:=hcl.out;omega
   have hC6:w5.heap[C]? =some (.cells (Ybd c sl).toArray 77 (0,0)):=by rw[HZC.out];exact hC5
   have HSL:(Tryz.prog.info? 77).map (·.size)=some (Ybd c sl).toArray.size:=by rw[HZC.out];exact HSC
   have HWQ:=Lib.hid hwQ;have HQ:=Lib.hid hQ;have HCD:=Lib.hid hcD;have HRQ:=Lib.hid hroQ;have HR4:=Lib.hid hR4.rd;clear hwQ hQ hcD hbQ hQQ hro hro4 hro5 hcl4 hcl5 hcF hok hgr hrd hb hg hct hT hg0 hf3 hvm hw3 hR4 hX5 hvl
   go_wp2_with (first|(with_reducible refine Yao rfl 77 _ _ rfl Zc Yc 77 rfl rfl HSC HYCZ HOC ?_;rw[HW5.out,HC.out])|(with_reducible refine wpList_load_row rfl 77 _ rfl C (by kernel_rfl) 77 (Ybd c sl).toArray (0,0) _ hC6 Tryz.underlying77 rfl HSL ?_)|(with_reducible refine Yqv rfl _ rfl c sl (by kernel_rfl) ?_;rw[HWQ.out,HQ.out])|(at_builtin;refine Yg8 (V:=Yk8 (Y2a A X w.heap.size vv3 cv) wQ) (w:=wQ) (c:=18) (bytes:=240) (base:=0) (v:=cv) (l:=cs) (y:=c) (vs:=Ybd c sl) (K:=Q) (cap:=1) rfl rfl Tryz.underlying44 j0 j1 j2 j3 j4 (by decide) ?d1 ?d2 HRQ.out.cel hcelQ h18 h1c HCD.out ?d3 ?d4 (Nat.zero_le _) ?_;(case d1=>kernel_rfl);(case d2=>kernel_rfl);(case d3=>(unfold maxLen;omega));(case d4=>omega);intro q9 cap9 w9 ho9 hg9 hw9;have hro9:=HRQ.out.app hg9 ho9 hw9;have hR9:=(hg9.block X HRQ.out.ord.2.2 fun e=>(HRQ.out.cown X e.symm).2.2.1 rfl).trans HRQ.out.row;have c6:=Yab (o:=3) hR9 rfl;have c7:=Yai (o:=3) hR9))
   go_roundw
   case rel=>exact⟨j+1,q3,cs++[c],vv3,_,vz++[(c.mx,c.my)],by go_num,by omega,hro9,Lib.hid (by rw[List.length_append,hcl.out];rfl),Lib.hid (by rw[hvz.out];simp[Ydl]),hT5⟩
   case measure=>simp[intOf];omega
  ·have t1:decide ((j:Int)<(M:Int))=false:=by simp;omega
   obtain rfl:M=j:=by omega
   have hE2:Hid (Ec=cs∧Eq=q2∧Eh=0):=Lib.hid (by
    have h1:=hT.out;rw[Nat.sub_self] at h1;have h2:=h1.done;injection h2 with e1 h2;injection h2 with e2 e3;exact⟨e1,e2,e3⟩)
   have hA5:=hro.res;have hX5:=hro.row;rw[HZ2.out] at hX5;have HRO:=Lib.hid hro;have hcn:cs.length≤10000:=by have:=hcl.out;omega
   clear hro hT
   go_wp2_with (first|(with_reducible refine wpList_load_row rfl 46 _ rfl X rfl 46 Z2 (0,0) _ hX5 Tryz.underlying46 rfl HSZ ?_)|(with_reducible refine Yaj rfl 46 _ _ rfl A Z2 Y rfl rfl 46 hA5 HSZ HYZ HOZ ?_;intro wz hhz hgz))
   refine bodyPost_ret (Yam rfl _ _ A 46 _ (0,0) _ rfl hhz Tryz.underlying46 rfl HSZ) rfl ?_;obtain⟨hd1,hd2,hd3,hd4⟩:=HRO.out.done (by unfold maxLen;omega) hgz;obtain⟨rfl,rfl,rfl⟩:=hE2.out;refine⟨b,id,qu,z,fs,0,_,_,0,0,HRH.out,HE.out,rfl,_,by rw[HZ2.out];rfl,⟨rfl,HON.out⟩,hd3,⟨_,hd1.rd⟩,fun _=>⟨vv2,?_,hd2,hd4⟩⟩;rw[←hvz.out];exact hd1
end
theorem Yic (l:List UInt8):Yfa ctk (Yad l):=fun _ _ _ _ _ _ hp h=>Y1g (Yds _) hp h
theorem Yvn {ct:CelT}{l:List UInt8}{inter:Bool}{k first:Int}:∀(n p:Nat) (vs:List (Int×Int)) (cs:List Cel) (q:Nat),Ydj ct l inter k first n p vs=(cs,q,0)→cs.length=n
 |0,p,vs,cs,q,h=>by
  rw[Ydj] at h;injection h with e1 _;subst e1
  rfl
 |n+1,p,vs,cs,q,h=>by
  rw[Ydj] at h;obtain⟨⟨c,z,f⟩,hc⟩:∃r,ct inter (Yad l) (Yd3 vs (Yd0 k) first).1 (Yd3 vs (Yd0 k) first).2 p=r:=⟨_,rfl⟩;rw[hc] at h;simp only at h;by_cases hf:f=0
  case neg=>
   rw[if_pos hf] at h;injection h with _ h;injection h with _ h;exact absurd h hf
  rw[if_neg (fun x=>x hf)] at h;cases hv:Ycm k vs.length c with
  |false=>rw[hv,if_pos rfl] at h;cases h
  |true=>
   rw[hv,if_neg (by decide)] at h;obtain⟨⟨cs',y,g⟩,hr⟩:∃r,Ydj ct l inter k first n z (vs++[(c.mx,c.my)])=r:=⟨_,rfl⟩
   rw[hr] at h;simp only at h;by_cases hg:g=0
   case neg=>
    rw[if_pos hg] at h;injection h with _ h;injection h with _ h;exact absurd h hg
   rw[if_neg (fun x=>x hg)] at h;subst hg;injection h with e1 h;subst e1;rw[List.length_cons,Yvn n z _ cs' y hr]
def Y00 (s:ByteArray)(rb p:Nat)(w:World)(e:Ending)(w':World):Prop:=
 ∃vs:List Value,e=.returned (.tuple #[.agg vs.toArray,.int .i64 (wtk ctk s.data.toList p).2.2])∧(vs.length=8∧∀u∈vs,u.oneCell'=true)∧w.grownBy w' (some rb)∧(∃q,Yba w' rb s q)∧
  ((wtk ctk s.data.toList p).2.2=0→(∀(z:World) (M:List (Option Nat)),(∀j,some j∈M→j<w.heap.size)→Yae M w' z→ShV z (wtk ctk s.data.toList p).1 vs)∧Yba w' rb s (wtk ctk s.data.toList p).2.1)
theorem Y5p:∃Y:Array Value,Y.size=8∧∀w,(zeroValue 39).run Tryz.prog w=.ok (.agg Y) w:=⟨#[.int .i64 0,.int .i64 0,.int .i64 0,.bool false,.int .i64 0,.slice none 0 0,.slice none 0 0,.int .i64 0],rfl,Yfv (by kernel_rfl)⟩
theorem Ylx {hd:Shd}{a:Option Addr}{n ca:Nat}{rv:Value}{z:Int}(h:rv.oneCell'=true):∀u∈Ya5 hd (.slice a n ca) rv z,u.oneCell'=true:=by
 intro u hu;simp only[Ya5,List.mem_cons,List.not_mem_nil,or_false] at hu;rcases hu with rfl|rfl|rfl|rfl|rfl|rfl|rfl|rfl
 all_goals first|rfl|exact h
theorem Yii {vs:List Value}(h:∀u∈vs,u.oneCell'=true):vs.toArray.all (·.oneCell')=true:=by
 rw[Array.all_eq_true_iff_forall_mem];exact fun v hv=>h v (by simpa using hv)
section
variable {N:Nat}{w:World}{rb p:Nat}{s:ByteArray}
set_option maxRecDepth 100000 in
set_option maxHeartbeats 8000000 in
theorem Y56 (hr:Yba w rb s p)(ht:Ybh N w)(hN:N≤rb)(hs:s.size≤1073741824):
  Calls Tryz.prog 93 #[.pointer (some ⟨rb,0,none⟩)] w (Y00 s rb p w):=by
 obtain⟨Y,HYS,hzv⟩:=Y5p;have hzr:=Ylw;obtain⟨Yr,hYr⟩:∃Z:Array Value,[Value.bool false,.int .i64 0,.int .i64 0,.slice none 0 0].toArray=Z:=⟨_,rfl⟩;have HYR:Yr.size=4:=by rw[←hYr];rfl
 rw[hYr] at hzr;obtain⟨A,hA⟩:∃A,w.heap.size=A:=⟨_,rfl⟩;obtain⟨wA,hwA⟩:∃wA,w.alloc (.cells Y 39 (0,0))=wA:=⟨_,rfl⟩;have hhA:wA.heap[A]? =some (.cells Y 39 (0,0)):=by rw[←hwA,←hA];exact heap_alloc_new w _
 have hbA:Below w.heap.size w wA:=by rw[←hwA];exact(Below.refl _ w).alloc (Nat.le_refl _) _
 have hsA:wA.heap.size=A+1:=by rw[←hwA,←hA];simp
 have hrlt:rb<A:=by rw[←hA];exact hr.lt
 have c24:=Qfj wA rb s p (hr.below hbA) (by omega);have HTB:Hid (∀x,Yae [some rb] w x→Ybh N x):=Lib.hid fun x hx=>ht.below (hx.under (by omega) fun j hj=>by
  have e:=List.mem_singleton.1 hj;injection e with e;omega)
 unfold Qf7 at c24;obtain⟨⟨hd,z0,f⟩,hk⟩:∃r,shk s.data.toList p=r:=⟨_,rfl⟩;rw[hk] at c24;dsimp only at c24;have HK:=Lib.hid hk;have HWA:=Lib.hid hwA;have HA:=Lib.hid hA;have HBA:=Lib.hid hbA;clear hwA hA hbA hr ht hk hYr
 go_enter Tryz.func93,Tryz.ntmps93
 go_wp2_with fail
 rw[HWA.out,HA.out];refine c24.mono ?_;rintro e w1 ⟨a,ca,rfl,hsup,hfa,hr1,hg1⟩;clear c24;obtain⟨X,hX⟩:∃X,w1.heap.size=X:=⟨_,rfl⟩;obtain⟨zs,hzl⟩:∃zs,Ya5 hd (.slice a hd.supp.length ca) (.slice none 0 0) 0=zs:=⟨_,rfl⟩;obtain⟨w2,hw2⟩:∃w2,w1.alloc (.cells zs.toArray 39 (0,0))=w2:=⟨_,rfl⟩;have hb2:Below w1.heap.size w1 w2:=by rw[←hw2];exact(Below.refl _ w1).alloc (Nat.le_refl _) _
 have hs2:w2.heap.size=X+1:=by rw[←hw2,←hX];simp
 have hX2:w2.heap[X]? =some (.cells zs.toArray 39 (0,0)):=by rw[←hw2,←hX];exact heap_alloc_new w1 _
 have hz1:=hg1.size;have hA2:=(hb2.block A (by omega)).trans ((hg1.block A (by omega) (by simp;omega)).trans hhA);have hr2:=hr1.below hb2;have G2:Hid (Yae [some rb] w w2):=Lib.hid (((Yae.below HBA.out).trans (Yae.one (L:=[some rb]) hg1 fun j _ e=>by rw[e];exact List.mem_singleton.2 rfl) fun j _ hm=>hm).trans (Yae.below (L:=[]) hb2) (by simp))
 have HSX:(Tryz.prog.info? 39).map (·.size)=some zs.toArray.size:=by rw[show zs.toArray.size=8 by rw[←hzl];rfl];kernel_rfl
 have HYX:Y.size=zs.toArray.size:=by rw[HYS,←hzl];rfl
 have hon:∀u∈zs,u.oneCell'=true:=by rw[←hzl];exact Ylx rfl
 have HOX:=Yii hon;have hl8:zs.length=8:=by rw[←hzl];rfl
 have HON:=Lib.hid hon;have HX:=Lib.hid hX;have HW2:=Lib.hid hw2;have HZL:=Lib.hid hzl;rw[hzl];clear hw2 hzl hX hhA hon;by_cases hf:f=0
 case neg=>
  have tf:(f != 0)=true:=by rw[bne_iff_ne];exact hf
  have FA:=Lib.hid (Qf5 (ct:=ctk) HK.out hf);have HF:=Lib.hid hf;clear hf
  go_wp2_with (first|(with_reducible refine Yao rfl 39 _ _ rfl zs.toArray Y 39 rfl rfl HSX HYX HOX ?_;rw[HW2.out,HX.out])|(with_reducible refine wpList_load_row rfl 39 _ rfl X rfl 39 zs.toArray (0,0) _ hX2 Tryz.underlying39 rfl HSX ?_)|(with_reducible refine Yaj rfl 39 _ _ rfl A zs.toArray Y rfl rfl 39 hA2 HSX HYX HOX ?_;intro wz hhz hgz))
  refine bodyPost_ret (Yam rfl _ _ A 39 _ (0,0) _ rfl hhz Tryz.underlying39 rfl HSX) rfl ?_;refine⟨zs,by rw[FA.out];rfl,⟨hl8,HON.out⟩,?_,⟨_,hr2.grown hgz (by omega)⟩,fun e=>absurd (by rw[FA.out] at e;exact e) HF.out⟩
  exact(G2.out.trans (Yae.one (L:=[some A]) hgz fun j _ e=>by rw[e];exact List.mem_singleton.2 rfl) fun j hj hm=>by have e:=List.mem_singleton.1 hm;injection e with e;have:=HA.out;omega).lone fun j _ hm=>by have e:=List.mem_singleton.1 hm;injection e with e
 subst hf;have tf:((0:Int) != 0)=false:=rfl;have cb:=Yyu rb hd (.slice a hd.supp.length ca) (.slice none 0 0) 0 w2;rw[HZL.out] at cb
 go_wp2_with (first|(with_reducible refine Yao rfl 39 _ _ rfl zs.toArray Y 39 rfl rfl HSX HYX HOX ?_;rw[HW2.out,HX.out])|(with_reducible refine wpList_load_row rfl 39 _ rfl X rfl 39 zs.toArray (0,0) _ hX2 Tryz.underlying39 rfl HSX ?_))
 refine cb.mono ?_;rintro e w3 ⟨rfl,hG3,hb3⟩;obtain⟨G,hG⟩:∃G,w2.heap.size+1=G:=⟨_,rfl⟩;rw[hG] at hG3 ⊢;have hGs:G<w3.heap.size:=(Array.getElem?_eq_some_iff.1 hG3).1;have hfa2:∀x,a=some x→A<x.block:=fun x hx=>by have:=hfa x hx;rw[hsA] at this;exact this
 have hzX:=HX.out;have hs3:=hb3.size;have hta:Yva w w3 G rb A X s z0 hd a ca (.slice none 0 0) (.slice none 0 0) [] 0 Y []:={
  rdr:={
   blk:=hG3
   rd:=hr2.below hb3
   vec:=World.ownsRow_nil ..
   ne:=⟨by have:=HA.out;omega,fun j hj=>by cases hj⟩}
  res:=(hb3.block A (by omega)).trans hA2
  sht:=by rw[HZL.out];exact(hb3.block X (by omega)).trans hX2
  row:=Yj0.nil _ _
  sup:=(hsup.below hb2).below hb3
  supn:=by
   rcases hsup with h|⟨b,o,e,hlt,_⟩
   ·exact .inl (List.eq_nil_of_length_eq_zero h)
   ·refine .inr fun x hx=>?_;rw[e] at hx;injection hx with hx;have h1:=hfa2 _ e;subst hx;refine⟨by simp only;omega,fun hm=>?_⟩;have hAe:=HA.out;rcases Ybl.1 hm with e|e|e|e|e|e
    ·cases e
    ·simp only at h1 e;omega
    ·simp only at e;omega
    ·simp only at e;omega
    ·cases e
    ·simp only at h1 e;omega
  ord:=by have:=HA.out;have:=HX.out;omega
  low:=by have:=HA.out;omega
  own:=fun j hj=>by cases hj
  rown:=fun j hj=>by cases hj
  grown:=G2.out.trans (Yae.below (L:=[]) hb3) (by simp)}
 obtain⟨nr,hnr⟩:∃n:Nat,(Yhx hd.fmt).toNat=n:=⟨_,rfl⟩;obtain⟨B0,B1,-,-,-⟩:=Ykg hd.fmt;have hRn:Yhx hd.fmt=(nr:Int):=by omega
 have k2:=hta.rdr.cell (o:=2) rfl;rw[hRn] at k2;obtain⟨⟨Ec,Eq,Eh⟩,hE⟩:∃E,Yir ctk s.data.toList hd.inter hd.fmt nr 0 z0 [] 0=E:=⟨_,rfl⟩;have T0:Hid (Ycu (Ec,Eq,Eh) [] (Yir ctk s.data.toList hd.inter hd.fmt nr 0 z0 [] 0)):=Lib.hid (by rw[hE];exact Ycu.start _);have HE:Hid (Yir ctk s.data.toList hd.inter hd.fmt (Yhx hd.fmt).toNat 0 z0 [] 0=(Ec,Eq,Eh)):=Lib.hid (by rw[hnr];exact hE)
 have hn100:nr≤100:=by omega
 have hl1:=(Yd2.1 (Y2j HK.out).2.1).2.2.1;have hAlow:=HA.out;clear cb hr1 hr2 hg1 hb2 hb3 hs2 hX2 hA2 hfa hfa2 hsup hz1 hzX hs3 hG3 hGs hG HSX HYX HOX hl8 HON HZL HW2 HX hnr B0 B1 hRn hE G2
 go_wp2
 go_loopw [26] (fun t wx=>∃(i q:Nat) (rs:List RowP) (rv vv:Value) (vs:List (Int×Int)) (fs:Int),t=.int .i64 (i:Int)∧i≤nr∧Yva w wx G rb A X s q hd a ca vv rv vs fs Y rs∧Hid (rs.length=i)∧Hid (vs.length≤i*10000)∧Hid (Ycu (Ec,Eq,Eh) rs (Yir ctk s.data.toList hd.inter hd.fmt (nr-i) i q vs fs))) (fun t _=>nr-(intOf t).toNat)
 case atStart=>exact⟨0,z0,[],_,_,[],0,rfl,Nat.zero_le _,hta,Lib.hid rfl,Lib.hid (Nat.zero_le _),T0⟩
 case round=>
  clear hta T0 k2;obtain⟨i,q,rs,rv,vv,vs,fs,rfl,hi,hta,hrl,hvl,hT⟩:=hrel;have hrv1:rv.oneCell'=true:=(Yey hta.row.choose_spec.2).2.2;have hon:∀(z:Int),∀u∈Ya5 hd (.slice a hd.supp.length ca) rv z,u.oneCell'=true:=fun z=>Ylx hrv1;obtain⟨zs,hzl⟩:∃zs,Ya5 hd (.slice a hd.supp.length ca) rv 0=zs:=⟨_,rfl⟩
  have HSX:(Tryz.prog.info? 39).map (·.size)=some zs.toArray.size:=by rw[show zs.toArray.size=8 by rw[←hzl];rfl];kernel_rfl
  have HYX:Y.size=zs.toArray.size:=by rw[HYS,←hzl];rfl
  have HOX:zs.toArray.all (·.oneCell')=true:=by rw[←hzl];exact Yii (hon 0)
  have HON:=Lib.hid hon;have HZL:=Lib.hid hzl;clear hzl hon hrv1;by_cases hlt:i<nr
  ·have t1:decide ((i:Int)<(nr:Int))=true:=by simp;omega
   have ho:=hta.ord;have hvl6:vs.length≤1000000:=by
    have:=hvl.out;have:i*10000≤1000000:=by omega
    omega
   have cc:=Y48 i hta.rdr (HTB.out _ hta.grown) hN (by omega) (fun j hj=>by have:=(hta.own j hj).1;omega) hvl6 hs (by omega)
   go_wp2_with fail
   refine cc.mono ?_;rintro e w4 ⟨b,id,qu,z,fs2,f,cs,q2,h,g,hrh,hce,hg,rwv,rfl,⟨hrl4,hone4⟩,hgr,⟨q',hrd⟩,hok⟩;clear cc;obtain⟨D,hD⟩:∃D,w4.heap.size=D:=⟨_,rfl⟩;obtain⟨Zr,hZr⟩:∃Zr,rwv.toArray=Zr:=⟨_,rfl⟩;rw[hZr];obtain⟨w5,hw5⟩:∃w5,w4.alloc (.cells Zr 46 (0,0))=w5:=⟨_,rfl⟩;have hb5:Below w4.heap.size w4 w5:=by rw[←hw5];exact(Below.refl _ w4).alloc (Nat.le_refl _) _
   have hD5:w5.heap[D]? =some (.cells Zr 46 (0,0)):=by rw[←hw5,←hD];exact heap_alloc_new w4 _
   have hZ4:Zr.size=4:=by rw[←hZr];simpa using hrl4
   have HSR:(Tryz.prog.info? 46).map (·.size)=some Zr.size:=by rw[hZ4];kernel_rfl
   have HYRZ:Yr.size=Zr.size:=by rw[HYR,hZ4]
   have HOR:Zr.all (·.oneCell')=true:=by rw[←hZr];exact Yii hone4
   have HD:=Lib.hid hD;have HW5:=Lib.hid hw5;have hb:=hta.bad hgr;have hz4:=hgr.size;clear hD hw5 hone4;by_cases hg0:g=0
   case neg=>
    have tg:(g != 0)=true:=by rw[bne_iff_ne];exact hg0
    obtain⟨hb1,hb2,hb3⟩:=hb;have hA5:=(hb5.block A (by omega)).trans hb1;have hX5:=(hb5.block X (by omega)).trans hb2;rw[HZL.out] at hX5;have FA:Hid (wtk ctk s.data.toList p=(Qa0,p,g)):=Lib.hid (Qf6 HK.out (by
     rw[HE.out];have h1:=hT.out;rw[show nr-i=(nr-i-1)+1 by omega] at h1;by_cases hf:f=0
     ·rw[if_neg (fun x=>x hf)] at hg;subst hf hg;exact Qap h1 hrh hce hg0
     ·rw[if_pos hf] at hg;subst hg;exact Qaq h1 hrh hf) hg0)
    have G5:=Lib.hid (hb3.trans (Yae.below (L:=[]) hb5) (by simp));have hr5:=hrd.below hb5;have HG0:=Lib.hid hg0;have hz5:=hb5.size;clear hg0 hg hok hta hT hrl hvl hrh hce hb1 hb2 hb3 hrd hgr hvl6 hZr hZ4 hrl4
    go_wp2_with (first|(with_reducible refine Yao rfl 46 _ _ rfl Zr Yr 46 rfl rfl HSR HYRZ HOR ?_;rw[HW5.out,HD.out])|(with_reducible refine wpList_load_row rfl 39 _ rfl X rfl 39 zs.toArray (0,0) _ hX5 Tryz.underlying39 rfl HSX ?_)|(with_reducible refine Yaj rfl 39 _ _ rfl A zs.toArray Y rfl rfl 39 hA5 HSX HYX HOX ?_;intro wz hhz hgz))
    refine bodyPost_ret (Yam rfl _ _ A 39 _ (0,0) _ rfl hhz Tryz.underlying39 rfl HSX) rfl ?_;refine⟨zs,by rw[FA.out];rfl,⟨by rw[←HZL.out];rfl,by rw[←HZL.out];exact HON.out 0⟩,?_,⟨_,hr5.grown hgz (by omega)⟩,fun e=>absurd (by rw[FA.out] at e;exact e) HG0.out⟩
    exact(G5.out.trans (Yae.one (L:=[some A]) hgz fun j _ e=>by rw[e];exact List.mem_singleton.2 rfl) fun j hj hm=>by have e:=List.mem_singleton.1 hm;injection e with e;omega).lone fun j _ hm=>by have e:=List.mem_singleton.1 hm;injection e with e
   have tg:(g != 0)=false:=by rw[hg0];rfl
   have hf0:f=0:=by
    by_cases h1:f=0
    ·exact h1
    ·rw[if_pos h1] at hg;exact absurd (hg.symm.trans hg0) h1
   have hh0:h=0:=by
    rw[if_neg (fun x=>x hf0)] at hg;exact hg.symm.trans hg0
   subst hf0 hh0;obtain⟨vv2,hR4,hw3,hF⟩:=hok hg0;obtain⟨sl,hrwv,-⟩:=hF [] (fun j hj=>by cases hj);subst hrwv;have hclen:=Yvn _ _ _ _ _ hce;have hT5:Hid (Ycu (Ec,Eq,Eh) (rs++[⟨b,id,qu,cs⟩]) (Yir ctk s.data.toList hd.inter hd.fmt (nr-(i+1)) (i+1) q2 (vs++Ydl cs) fs2)):=Lib.hid (by
    have h1:=hT.out;rw[show nr-i=(nr-(i+1))+1 by omega] at h1;exact Qar h1 hrh hce)
   have hta4:=hta.call hR4 hgr hw3;have hta5:=hta4.below hb5;have hws:=hta.grown.size;have hrow4:=hF (some A::some X::some G::rv.ownBlock::Yu3 w.heap.size) fun j hm=>by
    rcases List.mem_cons.1 hm with e|hm
    ·injection e with e;omega
    ·rcases List.mem_cons.1 hm with e|hm
     ·injection e with e;omega
     ·rcases List.mem_cons.1 hm with e|hm
      ·injection e with e;omega
      ·rcases List.mem_cons.1 hm with e|hm
       ·exact Ydx.lt hta.row j e.symm
       ·have:=Yfe.1 hm;omega
   have hrow5:Yl6 (Yyj A X G w.heap.size vv2 rv) w5 ⟨b,id,qu,cs⟩ [.bool b,.int .i64 id,.int .i64 qu,sl]:=Yl6.kept hrow4 (Yak hb5 none) fun j hj=>by cases hj
   obtain⟨wQ,hwQ⟩:∃wQ,w5.alloc (.cells #[.bool b,.int .i64 id,.int .i64 qu,sl] 46 (0,0))=wQ:=⟨_,rfl⟩;obtain⟨Q,hQ⟩:∃Q,w5.heap.size=Q:=⟨_,rfl⟩;have hbQ:Below w5.heap.size w5 wQ:=by rw[←hwQ];exact(Below.refl _ w5).alloc (Nat.le_refl _) _
   have hQQ:wQ.heap[Q]? =some (.cells ([Value.bool b,.int .i64 id,.int .i64 qu,sl]:List Value).toArray 46 (0,0)):=by rw[←hwQ,←hQ];exact heap_alloc_new w5 _
   have htaQ:=hta5.below hbQ;have hrowQ:Yl6 (Yyj A X G w.heap.size vv2 rv) wQ ⟨b,id,qu,cs⟩ [.bool b,.int .i64 id,.int .i64 qu,sl]:=hrow5.kept (Yak hbQ none) fun j hj=>by cases hj
   have h1c:=(Yl6.shape hrowQ).2;have hcD:∀(j:Nat) u,([Value.bool b,.int .i64 id,.int .i64 qu,sl]:List Value)[j]? =some u→wQ.cell? ⟨Q,j,none⟩=some u:=fun j u hu=>Yab hQQ hu;have c60:=Yab (o:=6) hta5.sht rfl;have hD6:w5.heap[D]? =some (.cells ([Value.bool b,.int .i64 id,.int .i64 qu,sl]:List Value).toArray 46 (0,0)):=by rw[hZr];exact hD5
   have HSL:(Tryz.prog.info? 46).map (·.size)=some ([Value.bool b,.int .i64 id,.int .i64 qu,sl]:List Value).toArray.size:=by kernel_rfl
   obtain⟨ri,rz,j0,j1,j2,j3,j4⟩:=Qe7;have hrln:rs.length≤100:=by have:=hrl.out;omega
   have hvl7:(vs++Ydl cs).length≤(i+1)*10000:=by
    rw[List.length_append];unfold Ydl;rw[List.length_map,hclen];have:=hvl.out;have:=Yh8 hd.fmt;omega
   have HWQ:=Lib.hid hwQ;have HQ:=Lib.hid hQ;have HCD:=Lib.hid hcD;have HTQ:=Lib.hid htaQ;have HV7:=Lib.hid hvl7;clear hwQ hQ hcD hbQ hQQ hta hta4 hta5 hrow4 hrow5 hF hok hgr hrd hb hg hrh hce hT hg0 hw3 hR4 hvl6 hvl hclen htaQ hvl7 hZ4 hrl4
   go_wp2_with (first|(with_reducible refine Yao rfl 46 _ _ rfl Zr Yr 46 rfl rfl HSR HYRZ HOR ?_;rw[HW5.out,HD.out])|(with_reducible refine wpList_load_row rfl 46 _ rfl D rfl 46 ([Value.bool b,.int .i64 id,.int .i64 qu,sl]:List Value).toArray (0,0) _ hD6 Tryz.underlying46 rfl HSL ?_)|(with_reducible refine Yuy rfl _ rfl (.bool b) (.int .i64 id) (.int .i64 qu) sl rfl ?_;rw[HWQ.out,HQ.out])|(at_builtin;refine Yg8 (V:=Yl6 (Yyj A X G w.heap.size vv2 rv) wQ) (w:=wQ) (c:=4) (bytes:=48) (base:=0) (v:=rv) (l:=rs) (y:=⟨b,id,qu,cs⟩) (vs:=[Value.bool b,.int .i64 id,.int .i64 qu,sl]) (K:=Q) (cap:=1) rfl rfl Tryz.underlying37 j0 j1 j2 j3 j4 (by decide) ?d1 ?d2 HTQ.out.row hrowQ rfl h1c HCD.out ?d3 ?d4 (Nat.zero_le _) ?_;(case d1=>kernel_rfl);(case d2=>kernel_rfl);(case d3=>(unfold maxLen;omega));(case d4=>omega);intro q9 cap9 w9 ho9 hg9 hw9;have hta9:=HTQ.out.app hg9 ho9 hw9;have hX9:=(hg9.block X (by have:=HTQ.out.ord;omega) fun e=>(HTQ.out.rown X e.symm).2.2.1 rfl).trans HTQ.out.sht;have c6:=Yab (o:=6) hX9 rfl;have c7:=Yai (o:=6) hX9))
   go_roundw
   case rel=>exact⟨i+1,q2,rs++[⟨b,id,qu,cs⟩],_,vv2,_,fs2,by go_num,by omega,hta9,Lib.hid (by rw[List.length_append,hrl.out];rfl),HV7,hT5⟩
   case measure=>simp[intOf];omega
  ·have t1:decide ((i:Int)<(nr:Int))=false:=by simp;omega
   obtain rfl:nr=i:=by omega
   have HRW:Hid (Yir ctk s.data.toList hd.inter hd.fmt (Yhx hd.fmt).toNat 0 z0 [] 0=(rs,q,0)):=Lib.hid (by
    have h1:=hT.out;rw[Nat.sub_self] at h1;rw[HE.out];exact h1.done)
   have cz:=Yyg hta.rdr hs;have ho:=hta.ord;have hrw:=hta.low;have HTA:=Lib.hid hta;clear hT HE hvl
   go_wp2_with fail
   refine cz.mono ?_;rintro e w4 ⟨n,rfl,hg4,⟨q',hrd⟩,hz⟩;have hX4:=(hg4.block X (by omega) (by simp;omega)).trans hta.sht;have hA4:=(hg4.block A (by omega) (by simp;omega)).trans hta.res;have c7:=Yab (o:=7) hX4 rfl;have f7:=Yai (o:=7) hX4;obtain⟨zs7,hz7⟩:∃zs,Ya5 hd (.slice a hd.supp.length ca) rv (n:Int)=zs:=⟨_,rfl⟩
   have hX7:(w4.setCell ⟨X,7,none⟩ (.int .i64 (n:Int))).heap[X]? =some (.cells zs7.toArray 39 (0,0)):=by rw[←hz7];exact Yau (o:=7) _ hX4
   have hA7:(w4.setCell ⟨X,7,none⟩ (.int .i64 (n:Int))).heap[A]? =some (.cells Y 39 (0,0)):=by rw[Below.heap_setCell _ _ _ _ (show A≠X by omega)];exact hA4
   have hr7:∀y,Yba w4 rb s y→Yba (w4.setCell ⟨X,7,none⟩ (.int .i64 (n:Int))) rb s y:=fun y h=>⟨by rw[Below.heap_setCell _ _ _ _ (show rb≠X by omega)];exact h.1,h.2⟩;have hs7:=Yae.set (w:=w4) (p:=⟨X,7,none⟩) (L:=[some X]) (.int .i64 (n:Int)) (List.mem_singleton.2 rfl);have HSX7:(Tryz.prog.info? 39).map (·.size)=some zs7.toArray.size:=by rw[show zs7.toArray.size=8 by rw[←hz7];rfl];kernel_rfl
   have HYX7:Y.size=zs7.toArray.size:=by rw[HYS,←hz7];rfl
   have HOX7:zs7.toArray.all (·.oneCell')=true:=by rw[←hz7];exact Yii (HON.out n)
   have HZ7:=Lib.hid hz7;have HG4:=Lib.hid hg4;have HS7:=Lib.hid hs7;have HR7:=Lib.hid hr7;have HZZ:=Lib.hid hz;have HRD:=Lib.hid hrd;obtain⟨fE,hfE⟩:∃fE,Qjv s.data.toList q=fE:=⟨_,rfl⟩;rw[hfE];have HFE:=Lib.hid hfE;clear hX4 hA4 hz7 hg4 hs7 hr7 hz hrd hta cz hfE
   go_upto_region 14 with fail
   generalize w4.setCell ⟨X,7,none⟩ (.int .i64 (n:Int))=w7 at *;clear c7 f7
   go_wp2_with (first|(with_reducible refine wpList_load_row rfl 39 _ rfl X rfl 39 zs7.toArray (0,0) _ hX7 Tryz.underlying39 rfl HSX7 ?_)|(with_reducible refine Yaj rfl 39 _ _ rfl A zs7.toArray Y rfl rfl 39 hA7 HSX7 HYX7 HOX7 ?_;intro wz hhz hgz))
   refine bodyPost_ret (Yam rfl _ _ A 39 _ (0,0) _ rfl hhz Tryz.underlying39 rfl HSX7) rfl ?_;have hgl:Yae [some rb,some X,some A] wr wz:=by
    have g1:Yae [some rb,some X,some A] wr w4:=Yae.one HG4.out fun j _ e=>by rw[e];exact List.mem_cons_self ..
    have g2:=g1.trans HS7.out fun j _ hm=>by rw[List.mem_singleton.1 hm];exact List.mem_cons_of_mem _ (List.mem_cons_self ..)
    exact g2.trans (Yae.one (L:=[some A]) hgz fun j _ e=>by rw[e];exact List.mem_singleton.2 rfl) fun j _ hm=>by rw[List.mem_singleton.1 hm];exact List.mem_cons_of_mem _ (List.mem_cons_of_mem _ (List.mem_cons_self ..))
   have hgw:=HTA.out.done hgl;have hsv:∀(z:World) (M:List (Option Nat)),(∀j,some j∈M→j<w.heap.size)→Yae M wz z→ShV z ⟨hd,rs,(n:Int)⟩ zs7:=fun z M hM hz=>by
    refine HTA.out.lies (S:=⟨hd,rs,(n:Int)⟩) (M:=some X::some A::some rb::M) ((hgl.mono fun j _ hm=>?_).trans hz fun j _ hm=>?_) (fun j hm=>?_) ⟨rfl,rfl⟩ HZ7.out.symm (by unfold maxLen;omega) (by have:=hrl.out;unfold maxLen;omega)
    ·simp only[List.mem_cons,List.not_mem_nil,or_false] at hm ⊢;rcases hm with e|e|e
     ·exact .inr (.inr (.inl e))
     ·exact .inl e
     ·exact .inr (.inl e)
    ·exact List.mem_cons_of_mem _ (List.mem_cons_of_mem _ (List.mem_cons_of_mem _ hm))
    ·simp only[List.mem_cons,Option.some.injEq] at hm;rcases hm with e|e|e|e
     ·exact .inl e
     ·exact .inr (.inl e)
     ·exact .inr (.inr (by omega))
     ·exact .inr (.inr (hM j e))
   have hon7:zs7.length=8∧∀u∈zs7,u.oneCell'=true:=⟨by rw[←HZ7.out];rfl,by rw[←HZ7.out];exact HON.out n⟩;have hrz:∀y,Yba w4 rb s y→Yba wz rb s y:=fun y h=>(HR7.out y h).grown hgz (by omega);by_cases h0:Ya3 s.data.toList q (gap q)=0
   ·have hfe0:fE=0:=by rw[←HFE.out];exact if_pos h0
    obtain⟨hzn,hzr⟩:=HZZ.out (if_pos h0);have FA:=Qju (ct:=ctk) HK.out HRW.out h0;rw[←hzn] at FA;refine⟨zs7,by rw[FA,hfe0];rfl,hon7,hgw,⟨_,hrz _ HRD.out⟩,fun _=>?_⟩;rw[FA];exact⟨hsv,hrz _ hzr⟩
   ·have hfe0:fE=5:=by rw[←HFE.out];exact if_neg h0
    have FA:=Qf4 (ct:=ctk) HK.out HRW.out h0;exact⟨zs7,by rw[FA,hfe0];rfl,hon7,hgw,⟨_,hrz _ HRD.out⟩,fun e=>by rw[FA] at e;cases e⟩
end
def zeroS:List Value:=Ya5 Yt9 (.slice none 0 0) (.slice none 0 0) 0
theorem Y6j (w:World):ShV w Qa0 zeroS:=⟨none,none,0,0,rfl,Nat.zero_le _,Nat.zero_le _,Ydw.nil _ _,.inl rfl⟩
theorem Qix {ct:CelT}{l:List UInt8}{p:Nat}(h:(wtk ct l p).2.2≠0):wtk ct l p=(Qa0,p,(wtk ct l p).2.2):=by
 unfold wtk at h ⊢;obtain⟨⟨hd,q,f⟩,hk⟩:∃r,shk l p=r:=⟨_,rfl⟩;rw[hk] at h ⊢;simp only at h ⊢;by_cases hf:f=0
 ·rw[if_neg (fun x=>x hf)] at h ⊢;obtain⟨⟨rs,z,g⟩,hr⟩:∃r,Yir ct l hd.inter hd.fmt (Yhx hd.fmt).toNat 0 q [] 0=r:=⟨_,rfl⟩;rw[hr] at h ⊢;simp only at h ⊢;by_cases hg:g=0
  ·rw[if_neg (fun x=>x hg)] at h ⊢;by_cases h0:Ya3 l z (gap z)=0
   ·rw[if_neg (fun x=>x h0)] at h;exact absurd rfl h
   ·rw[if_pos h0]
  ·rw[if_pos hg]
 ·rw[if_pos hf]
def Ysv (s:ByteArray)(rb p:Nat)(w:World)(e:Ending)(w':World):Prop:=
 ∃vs:List Value,e=.returned (.tuple #[.agg vs.toArray,.int .i64 (wtk ctk s.data.toList p).2.2])∧(∀(x:World) (L:List (Option Nat)),(∀j,some j∈L→j<w.heap.size)→Yae L w' x→ShV x (wtk ctk s.data.toList p).1 vs)∧Yba w' rb s (wtk ctk s.data.toList p).2.1∧w.grownBy w' (some rb)
theorem Y26:∀w,(zeroValue 39).run Tryz.prog w=.ok (.agg zeroS.toArray) w:=Yfv (by kernel_rfl)
set_option maxRecDepth 100000 in
set_option maxHeartbeats 2000000 in
theorem Qa1 {N:Nat}{w:World}{rb p:Nat}{s:ByteArray}(hr:Yba w rb s p)(ht:Ybh N w)(hN:N≤rb)(hs:s.size≤1073741824):
  Calls Tryz.prog 61 #[.pointer (some ⟨rb,0,none⟩)] w (Ysv s rb p w):=by
 have hp:=hr.2.1;obtain⟨Y,hY⟩:∃Y,zeroS.toArray=Y:=⟨_,rfl⟩;have hzv:=Y26;rw[hY] at hzv;have HYS:Y.size=8:=by rw[←hY];rfl
 have HSY:(Tryz.prog.info? 39).map (·.size)=some Y.size:=by rw[HYS];kernel_rfl
 have HOY:Y.all (·.oneCell')=true:=by rw[←hY];exact Yii (Ylx rfl)
 obtain⟨A,hA⟩:∃A,w.heap.size=A:=⟨_,rfl⟩;obtain⟨wA,hwA⟩:∃wA,w.alloc (.cells Y 39 (0,0))=wA:=⟨_,rfl⟩;have hhA:wA.heap[A]? =some (.cells Y 39 (0,0)):=by rw[←hwA,←hA];exact heap_alloc_new w _
 have hbA:Below w.heap.size w wA:=by rw[←hwA];exact(Below.refl _ w).alloc (Nat.le_refl _) _
 have hsA:wA.heap.size=A+1:=by rw[←hwA,←hA];simp
 have hrlt:rb<A:=by rw[←hA];exact hr.lt
 have hrA:=hr.below hbA;have ct:=Y56 hrA (ht.below (hbA.mono (by omega))) hN hs;have hbad:=Qix (ct:=ctk) (l:=s.data.toList) (p:=p);unfold Y00 at ct;unfold Ysv;obtain⟨⟨S,q,f⟩,hk⟩:∃r,wtk ctk s.data.toList p=r:=⟨_,rfl⟩;rw[hk] at ct hbad ⊢;dsimp only at ct hbad ⊢;have HWA:=Lib.hid hwA;have HA:=Lib.hid hA;have HBA:=Lib.hid hbA;have HY:=Lib.hid hY;have HBAD:=Lib.hid hbad
 clear hwA hA hbA hr ht hk hY hbad
 go_enter Tryz.func61,Tryz.ntmps61
 go_wp2_with fail
 rw[HWA.out,HA.out];refine(Yb7 _ _ _ _ hrA).mono ?_;rintro e u ⟨rfl,rfl⟩
 go_wp2_with fail
 refine ct.mono ?_;rintro e w1 ⟨vs,rfl,⟨hl8,hon⟩,hg1,⟨q',hr1⟩,hok⟩;clear ct;obtain⟨Z,hZ⟩:∃Z,vs.toArray=Z:=⟨_,rfl⟩;rw[hZ];have hZ8:Z.size=8:=by rw[←hZ];simpa using hl8
 have HSZ:(Tryz.prog.info? 39).map (·.size)=some Z.size:=by rw[hZ8];kernel_rfl
 have HYZ:Y.size=Z.size:=by rw[HYS,hZ8]
 have HOZ:Z.all (·.oneCell')=true:=by rw[←hZ];exact Yii hon
 obtain⟨X,hX⟩:∃X,w1.heap.size=X:=⟨_,rfl⟩;obtain⟨w2,hw2⟩:∃w2,w1.alloc (.cells Z 39 (0,0))=w2:=⟨_,rfl⟩;have hb2:Below w1.heap.size w1 w2:=by rw[←hw2];exact(Below.refl _ w1).alloc (Nat.le_refl _) _
 have hX2:w2.heap[X]? =some (.cells Z 39 (0,0)):=by rw[←hw2,←hX];exact heap_alloc_new w1 _
 have hz1:=hg1.size;have hA2:=(hb2.block A (by omega)).trans ((hg1.block A (by omega) (by simp;omega)).trans hhA);have hr2:=hr1.below hb2;have G2:Hid (Yae [some rb] w w2):=Lib.hid (((Yae.below HBA.out).trans (Yae.one (L:=[some rb]) hg1 fun j _ e=>by rw[e];exact List.mem_singleton.2 rfl) fun j _ hm=>hm).trans (Yae.below (L:=[]) hb2) (by simp));have HX:=Lib.hid hX;have HZ:=Lib.hid hZ
 have HW2:=Lib.hid hw2;clear hX hZ hw2 hZ8 hl8 hon hhA hrA hr1 hg1;by_cases hf:f=0
 ·have tf:(f != 0)=false:=by rw[hf];rfl
  obtain⟨hsv,hrq⟩:=hok hf;have hrq2:=hrq.below hb2;have HF:=Lib.hid hf;have HB2:=Lib.hid hb2;have HSV:=Lib.hid hsv;clear hok hf hb2 hsv hrq
  go_wp2_with (first|(with_reducible refine Yao rfl 39 _ _ rfl Z Y 39 rfl rfl HSZ HYZ HOZ ?_;rw[HW2.out,HX.out])|(with_reducible refine wpList_load_row rfl 39 _ rfl X rfl 39 Z (0,0) _ hX2 Tryz.underlying39 rfl HSZ ?_)|(with_reducible refine Yaj rfl 39 _ _ rfl A Z Y rfl rfl 39 hA2 HSZ HYZ HOZ ?_;intro wz hhz hgz))
  refine bodyPost_ret (Yam rfl _ _ A 39 _ (0,0) _ rfl hhz Tryz.underlying39 rfl HSZ) rfl ?_;have gA:Yae [some A] w2 wz:=Yae.one hgz fun j _ e=>by rw[e];exact List.mem_singleton.2 rfl
  refine⟨vs,by rw[HF.out,HZ.out];rfl,(fun x L hL hx=>HSV.out x (some A::L) (fun j hm=>by
   rcases List.mem_cons.1 hm with e|hm
   ·injection e with e;omega
   ·have:=hL j hm;have:=HA.out;omega) (((Yae.below HB2.out).trans gA fun j _ hm=>by rw[List.mem_singleton.1 hm];exact List.mem_cons_self ..).trans hx fun j _ hm=>List.mem_cons_of_mem _ hm)),hrq2.grown hgz (by omega),?_⟩
  exact(G2.out.trans gA fun j hj hm=>by have e:=List.mem_singleton.1 hm;injection e with e;have:=HA.out;omega).lone fun j _ hm=>by have e:=List.mem_singleton.1 hm;injection e with e
 ·have tf:(f != 0)=true:=by rw[bne_iff_ne];exact hf
  have hbad:=HBAD.out hf;have HQ:=Lib.hid hbad;have hz2:=hb2.size;clear hok hf hb2 hbad
  go_wp2_with (with_reducible refine Yao rfl 39 _ _ rfl Z Y 39 rfl rfl HSZ HYZ HOZ ?_;rw[HW2.out,HX.out])
  refine(Yb2 _ _ _ _ (p:Int) hr2 (by omega) (by omega)).mono ?_;rintro e w3 ⟨rfl,hr3,hg3⟩;rw[Int.toNat_natCast] at hr3;have hA3:=(hg3.block A (by omega) (by simp;omega)).trans hA2;have hz3:=hg3.size;clear hX2 hA2 hr2
  go_wp2_with (with_reducible refine Yaj rfl 39 _ _ rfl A Y Y rfl rfl 39 hA3 HSY rfl HOY ?_;intro wz hhz hgz)
  refine bodyPost_ret (Yam rfl _ _ A 39 _ (0,0) _ rfl hhz Tryz.underlying39 rfl HSY) rfl ?_;have hq:=HQ.out;injection hq with e1 e2;injection e2 with e2 _;subst e1 e2;refine⟨zeroS,by rw[HY.out];rfl,fun x _ _ _=>Y6j x,hr3.grown hgz (by omega),?_⟩
  refine((G2.out.trans (Yae.one (L:=[some rb]) hg3 fun j _ e=>by rw[e];exact List.mem_singleton.2 rfl) fun j _ hm=>hm).trans (Yae.one (L:=[some A]) hgz fun j _ e=>by rw[e];exact List.mem_singleton.2 rfl) fun j hj hm=>?_).lone fun j _ hm=>by have e:=List.mem_singleton.1 hm;injection e with e
  have e:=List.mem_singleton.1 hm;injection e with e;have:=HA.out;omega
def Yyp (s:ByteArray)(rb p:Nat)(done:List ShP)(w:World)(e:Ending)(w':World):Prop:=
 ∃vs:List Value,e=.returned (.tuple #[.agg vs.toArray,.int .i64 (Yp1 (wtk ctk s.data.toList p).2.2 done.length (Ydk (Ydb done) (wtk ctk s.data.toList p).1))])∧ShK (Yu3 w.heap.size) w' (wtk ctk s.data.toList p).1 vs∧Yba w' rb s (wtk ctk s.data.toList p).2.1∧w.grownBy w' (some rb)
set_option maxRecDepth 100000 in
set_option maxHeartbeats 2000000 in
theorem Y0p {N:Nat}{w:World}{rb p:Nat}{s:ByteArray}{done:List ShP}{q:Option Addr}{cap:Nat}(hr:Yba w rb s p)(ht:Ybh N w)(hN:N≤rb)(hs:s.size≤1073741824)(hd:∀x,w.grownBy x (some rb)→Yk9 x q done)(hl:done.length≤64):
  Calls Tryz.prog 32 #[.pointer (some ⟨rb,0,none⟩),.slice q done.length cap] w (Yyp s rb p done w):=by
 obtain⟨Y,hY⟩:∃Y,zeroS.toArray=Y:=⟨_,rfl⟩;have hzv:=Y26;rw[hY] at hzv;have HYS:Y.size=8:=by rw[←hY];rfl
 obtain⟨A,hA⟩:∃A,w.heap.size=A:=⟨_,rfl⟩;obtain⟨wA,hwA⟩:∃wA,w.alloc (.cells Y 39 (0,0))=wA:=⟨_,rfl⟩;have hhA:wA.heap[A]? =some (.cells Y 39 (0,0)):=by rw[←hwA,←hA];exact heap_alloc_new w _
 have hbA:Below w.heap.size w wA:=by rw[←hwA];exact(Below.refl _ w).alloc (Nat.le_refl _) _
 have hsA:wA.heap.size=A+1:=by rw[←hwA,←hA];simp
 have hrlt:rb<A:=by rw[←hA];exact hr.lt
 have ct:=Qa1 (hr.below hbA) (ht.below (hbA.mono (by omega))) hN hs;unfold Ysv at ct;unfold Yyp;obtain⟨⟨S,q2,f⟩,hk⟩:∃r,wtk ctk s.data.toList p=r:=⟨_,rfl⟩;rw[hk] at ct ⊢;dsimp only at ct ⊢;obtain⟨R,hR⟩:∃R,Yp1 f done.length (Ydk (Ydb done) S)=R:=⟨_,rfl⟩;rw[hR];have HR:=Lib.hid hR;have HWA:=Lib.hid hwA;have HA:=Lib.hid hA;have HBA:=Lib.hid hbA;have HD:=Lib.hid hd;clear hwA hA hr ht hk hY hd hbA hR
 go_enter Tryz.func32,Tryz.ntmps32
 go_wp2_with fail
 rw[HWA.out,HA.out];refine ct.mono ?_;rintro e w1 ⟨vs,rfl,hkeep,hr1,hg1⟩;clear ct;have hv1:=hkeep w1 [] (by simp) (Yae.refl _ _);have hvl:=hv1.shape.1;have HOZ:=hv1.ones;obtain⟨X,hX⟩:∃X,w1.heap.size=X:=⟨_,rfl⟩;obtain⟨w2,hw2⟩:∃w2,w1.alloc (.cells vs.toArray 39 (0,0))=w2:=⟨_,rfl⟩;have hb2:Below w1.heap.size w1 w2:=by rw[←hw2];exact(Below.refl _ w1).alloc (Nat.le_refl _) _
 have hs2:w2.heap.size=X+1:=by rw[←hw2,←hX];simp
 have hX2:w2.heap[X]? =some (.cells vs.toArray 39 (0,0)):=by rw[←hw2,←hX];exact heap_alloc_new w1 _
 have hz1:=hg1.size;have hA2:=(hb2.block A (by omega)).trans ((hg1.block A (by omega) (by simp;omega)).trans hhA);have hr2:=hr1.below hb2;have hv2:=ShV.below hb2 _ _ hv1;have G2:Yae [some rb] w w2:=((Yae.below HBA.out).trans (Yae.one (L:=[some rb]) hg1 fun j _ e=>by rw[e];exact List.mem_singleton.2 rfl) fun j _ hm=>hm).trans (Yae.below (L:=[]) hb2) (by simp)
 have LN:=Lib.hid (fun(z:World) (hz:Below w2.heap.size w2 z)=>((G2.trans (Yae.below (L:=[]) hz) (by simp)).lone fun j _ hm=>(by have e:=List.mem_singleton.1 hm;injection e with e):w.grownBy z (some rb)));have FIN:=Lib.hid (fun(z wz:World) (hz:Below w2.heap.size w2 z) (hgz:z.grownBy wz (some A))=>(by
  have gA:Yae [some A] z wz:=Yae.one hgz fun j _ e=>by rw[e];exact List.mem_singleton.2 rfl
  have hbz:Below w1.heap.size w1 z:=hb2.trans (hz.mono hb2.size);refine⟨ShK.low fun x L hL hx=>hkeep x (some A::L) (fun j hm=>?_) (((Yae.below (L:=some A::L) hbz).trans gA fun j _ hm=>by rw[List.mem_singleton.1 hm];exact List.mem_cons_self ..).trans hx fun j _ hm=>List.mem_cons_of_mem _ hm),(hr2.below hz).grown hgz (by simp;omega),?_⟩
  ·rcases List.mem_cons.1 hm with e|e
   ·injection e with e;omega
   ·have:=hL j e;have:=HA.out;omega
  ·exact((G2.trans (Yae.below (L:=[]) hz) (by simp)).trans gA fun j hj hm=>(by have e:=List.mem_singleton.1 hm;injection e with e;have:=HA.out;omega)).lone fun j _ hm=>(by have e:=List.mem_singleton.1 hm;injection e with e):ShK (Yu3 w.heap.size) wz S vs∧Yba wz rb s q2∧w.grownBy wz (some rb)))
 have HSZ:(Tryz.prog.info? 39).map (·.size)=some vs.toArray.size:=by rw[show vs.toArray.size=8 from hvl];kernel_rfl
 have HYZ:Y.size=vs.toArray.size:=by rw[HYS];exact hvl.symm
 have HX:=Lib.hid hX;have HW2:=Lib.hid hw2;have h22:Below w2.heap.size w2 w2:=Below.refl _ _;clear hX hw2 hkeep hr1 hg1 hv1 hb2 G2 hr2 hhA hvl hs;by_cases hf:f=0
 case neg=>
  have tf:(f != 0)=true:=by rw[bne_iff_ne];exact hf
  have HC:=Lib.hid (show R=f by rw[←HR.out];exact if_pos hf);clear hf
  go_wp2_with (first|(with_reducible refine Yao rfl 39 _ _ rfl vs.toArray Y 39 rfl rfl HSZ HYZ HOZ ?_;rw[HW2.out,HX.out])|(with_reducible refine wpList_load_row rfl 39 _ rfl X rfl 39 vs.toArray (0,0) _ hX2 Tryz.underlying39 rfl HSZ ?_)|(with_reducible refine Yaj rfl 39 _ _ rfl A vs.toArray Y rfl rfl 39 hA2 HSZ HYZ HOZ ?_;intro wz hhz hgz))
  refine bodyPost_ret (Yam rfl _ _ A 39 _ (0,0) _ rfl hhz Tryz.underlying39 rfl HSZ) rfl ?_;exact⟨vs,by rw[HC.out];rfl,FIN.out _ _ h22 hgz⟩
 subst hf;have tf:((0:Int) != 0)=false:=rfl;by_cases h64:done.length=64
 ·have HC:=Lib.hid (show R=13 by rw[←HR.out];unfold Yp1;rw[if_neg (by decide),if_pos (by omega)]);rw[h64];clear h64 hl HD LN
  go_wp2_with (first|(with_reducible refine Yao rfl 39 _ _ rfl vs.toArray Y 39 rfl rfl HSZ HYZ HOZ ?_;rw[HW2.out,HX.out])|(with_reducible refine wpList_load_row rfl 39 _ rfl X rfl 39 vs.toArray (0,0) _ hX2 Tryz.underlying39 rfl HSZ ?_)|(with_reducible refine Yaj rfl 39 _ _ rfl A vs.toArray Y rfl rfl 39 hA2 HSZ HYZ HOZ ?_;intro wz hhz hgz))
  refine bodyPost_ret (Yam rfl _ _ A 39 _ (0,0) _ rfl hhz Tryz.underlying39 rfl HSZ) rfl ?_;exact⟨vs,by rw[HC.out];rfl,FIN.out _ _ h22 hgz⟩
 have cf:=Yr3 (w:=w2) q cap done hv2 (HD.out _ (LN.out _ h22)) (by unfold maxLen;omega);have HCF:=Lib.hid (show Ydk (Ydb done) S=false→R=11 from fun h=>by rw[←HR.out];unfold Yp1;rw[if_neg (by decide),if_neg (by omega),if_pos h]);have HCT:=Lib.hid (show Ydk (Ydb done) S=true→R=0 from fun h=>by rw[←HR.out];unfold Yp1;rw[if_neg (by decide),if_neg (by omega),if_neg (by rw[h];decide)])
 generalize Ydk (Ydb done) S=fo at *;generalize done.length=n at *;have t64:((n:Int)==64)=false:=by rw[beq_eq_false_iff_ne];omega
 clear h64 hl HD LN hv2
 go_wp2_with (first|(with_reducible refine Yao rfl 39 _ _ rfl vs.toArray Y 39 rfl rfl HSZ HYZ HOZ ?_;rw[HW2.out,HX.out])|(with_reducible refine wpList_load_row rfl 39 _ rfl X rfl 39 vs.toArray (0,0) _ hX2 Tryz.underlying39 rfl HSZ ?_))
 refine cf.mono ?_;rintro e w3 ⟨rfl,hb3⟩;have hA3:=(hb3.block A (by have:=HX.out;omega)).trans hA2;have hX3:=(hb3.block X (by omega)).trans hX2;clear cf hA2 hX2 h22 hs2;cases fo with
 |false=>
  have HC:=Lib.hid (HCF.out rfl);clear HCF HCT
  go_wp2_with (first|(with_reducible refine wpList_load_row rfl 39 _ rfl X rfl 39 vs.toArray (0,0) _ hX3 Tryz.underlying39 rfl HSZ ?_)|(with_reducible refine Yaj rfl 39 _ _ rfl A vs.toArray Y rfl rfl 39 hA3 HSZ HYZ HOZ ?_;intro wz hhz hgz))
  refine bodyPost_ret (Yam rfl _ _ A 39 _ (0,0) _ rfl hhz Tryz.underlying39 rfl HSZ) rfl ?_;exact⟨vs,by rw[HC.out];rfl,FIN.out _ _ hb3 hgz⟩
 |true=>
  have HC:=Lib.hid (HCT.out rfl);clear HCF HCT
  go_wp2_with (first|(with_reducible refine wpList_load_row rfl 39 _ rfl X rfl 39 vs.toArray (0,0) _ hX3 Tryz.underlying39 rfl HSZ ?_)|(with_reducible refine Yaj rfl 39 _ _ rfl A vs.toArray Y rfl rfl 39 hA3 HSZ HYZ HOZ ?_;intro wz hhz hgz))
  refine bodyPost_ret (Yam rfl _ _ A 39 _ (0,0) _ rfl hhz Tryz.underlying39 rfl HSZ) rfl ?_;exact⟨vs,by rw[HC.out];rfl,FIN.out _ _ hb3 hgz⟩
structure Yyo (w0 w:World) (A n:Nat) (v:Value) (done:List ShP):Prop where
 ord:w0.heap.size=A∧A+2≤n∧n≤w.heap.size
 low:Below A w0 w
 res:w.heap[A]? =some (.cells [.slice none 0 0,.bool false].toArray 24 (0,0))
 loc:w.heap[A+1]? =some (.cells [v,.bool false].toArray 24 (0,0))
 own:Y0z n w v done
section
variable {w0 w z:World}{A n:Nat}{v:Value}{done:List ShP}
theorem Yyo.turn {row:Option Nat}(h:Yyo w0 w A n v done)(hg:w.grownBy z row)(hr:∀k,row=some k→A+2≤k∧k<n):Yyo w0 z A n v done:=by
 obtain⟨⟨o1,o2,o3⟩,h2,h3,h4,h5⟩:=h;refine⟨⟨o1,o2,Nat.le_trans o3 hg.size⟩,h2.grown hg (by omega) (fun j hj=>by have:=hr j hj;omega),(hg.block A (by omega) (fun e=>by have:=hr A e.symm;omega)).trans h3,(hg.block (A+1) (by omega) (fun e=>by have:=hr _ e.symm;omega)).trans h4,?_⟩
 exact h5.kept (M:=[row]) (Yae.one hg fun k _ e=>by rw[e];exact List.mem_singleton.2 rfl) fun j _ hm=>(hr j (List.mem_singleton.1 hm).symm).2
theorem Yyo.below (h:Yyo w0 w A n v done)(hb:Below w.heap.size w z):Yyo w0 z A n v done:=h.turn (Yak hb none) fun k e=>by cases e
theorem Yyo.app {v':Value}{S:ShP}(h:Yyo w0 w A n v done)(ho:Ydx 8 39 (ShK (v.ownBlock::Yu3 n) w) z n v' (done++[S]))(hg:w.grownBy z v.ownBlock)(hw:∀k,v'.ownBlock=some k→v.ownBlock=some k∨w.heap.size≤k):
  Yyo w0 (z.setCell ⟨A+1,0,none⟩ v') A n v' (done++[S])∧Yae [v.ownBlock,some (A+1)] w (z.setCell ⟨A+1,0,none⟩ v'):=by
 obtain⟨⟨o1,o2,o3⟩,h2,h3,h4,h5⟩:=h;have hne:∀k,k<n→some k≠v.ownBlock:=fun k hk e=>by have:=Ydx.fresh h5 k e.symm;omega
 have hX:=(hg.block (A+1) (by omega) (hne _ (by omega))).trans h4;have hs:=Yae.set (w:=z) (p:=⟨A+1,0,none⟩) (L:=[some (A+1)]) v' (List.mem_singleton.2 rfl);refine⟨⟨⟨o1,o2,Nat.le_trans o3 (Nat.le_trans hg.size hs.size)⟩,?_,?_,Yau (o:=0) v' hX,?_⟩,?_⟩
 ·have h7:Below A w0 z:=h2.grown hg (by omega) (fun j hj=>by have:=Ydx.fresh h5 j hj;omega);exact h7.trans (hs.under (by have:=hg.size;omega) fun k hk=>by have e:=List.mem_singleton.1 hk;injection e with e;omega)
 ·rw[Below.heap_setCell _ _ _ _ (show A≠A+1 by omega)];exact(hg.block A (by omega) (hne A (by omega))).trans h3
 ·exact(Y0z.app ho hg hw).kept hs fun j _ hm=>by have e:=List.mem_singleton.1 hm;injection e with e;omega
 ·exact(Yae.one (L:=[v.ownBlock,some (A+1)]) hg fun k _ e=>by rw[e];exact List.mem_cons_self ..).trans hs fun j _ hm=>List.mem_cons_of_mem _ hm
theorem Yyo.fin (h:Yyo w0 w A n v done)(F:Bool)(hg:Yae [some A,some (A+1)] w z)(hl:done.length≤64):Qf9 z ⟨done,F⟩ [v,.bool F]∧Below w0.heap.size w0 z:=by
 obtain⟨⟨o1,o2,o3⟩,h2,h3,h4,h5⟩:=h;have hm:∀j,some j∈[some A,some (A+1)]→A≤j∧j<n:=fun j hj=>by
  rcases List.mem_cons.1 hj with e|e
  ·injection e with e;omega
  ·have e:=List.mem_singleton.1 e;injection e with e;omega
 exact⟨(h5.kept hg fun j _ hj=>(hm j hj).2).strV (by unfold maxLen;omega) F,by rw[o1];exact h2.trans (hg.under (by omega) fun k hk=>(hm k hk).1)⟩
theorem Yyo.bad (h:Yyo w0 w A n v done)(hg:w.grownBy z (some A)):Below w0.heap.size w0 z:=by
 rw[h.ord.1];exact h.low.grown hg (by have:=h.ord;omega) fun j hj=>by injection hj with hj;omega
end
theorem Yk3 {w:World}{ops:Array Oper}{rest:List Oper}{o:Oper}{a:Act}{Q:Exit→Act→World→Prop}(hgd:o.guard=none)(x:Operand)(ho:o.op=.buildSlice 22 1 #[(0,x)])(vs:List Value)(hl:vs.length=8)
  (hx:a.eval x=.agg vs.toArray)(h:wpList Tryz.prog ops Q rest (a.put o.dst (.slice (some ⟨w.heap.size,0,none⟩) 1 1)) (w.alloc (.cells vs.toArray 39 (0,0)))):wpList Tryz.prog ops Q (o::rest) a w:=by
 match vs,hl with
 |[u0,u1,u2,u3,u4,u5,u6,u7],_=>
  have hf:(match Tryz.prog.info? 39 with
   |some ie=>(match ie.zero with
    |some z=>if ie.size=8 then Instr.fill (fun i=>some (i*ie.size,ie.size)) ((Array.range (1*ie.size)).map (z.cells[· % z.cells.size]!)) [(0,.agg #[u0,u1,u2,u3,u4,u5,u6,u7])] else none
    |none=>none)
   |none=>none)=some #[u0,u1,u2,u3,u4,u5,u6,u7]:=by kernel_rfl
  cases hi:Tryz.prog.info? 39 with
  |none=>rw[hi] at hf;cases hf
  |some ie=>
   rw[hi] at hf;cases hz:ie.zero with
   |none=>simp only[hz] at hf;cases hf
   |some z=>
    simp only[hz] at hf;by_cases h8:ie.size=8
    ·rw[if_pos h8] at hf;exact wpList_buildSlice hgd _ _ 1 _ ho _ ie z Tryz.underlying22 hi hz (by rw[h8];decide) (by rw[h8];decide) (by simpa [hx] using hf) h
    ·rw[if_neg h8] at hf;cases hf
def Qj8:Option Value→Nat
 |some (.slice _ n _)=>n
 |_=>0
def Ysu (l:List UInt8)(w:World)(e:Ending)(w':World):Prop:=
 ∃vs:List Value,e=.returned (.tuple #[.agg vs.toArray,.int .i64 ((Ybj ctk l).2.1:Int),.int .i64 (Ybj ctk l).2.2])∧Qf9 w' (Ybj ctk l).1 vs∧Below w.heap.size w w'
theorem Qbe (w:World):Qf9 w Ynj [.slice none 0 0,.bool false]:=⟨none,0,rfl,Nat.zero_le _,Nat.zero_le _,.inl rfl⟩
theorem Yiu:∀w,(zeroValue 24).run Tryz.prog w=.ok (.agg #[.slice none 0 0,.bool false]) w:=Yfv (by kernel_rfl)
set_option maxRecDepth 100000 in
set_option maxHeartbeats 4000000 in
theorem Yls {w:World}{s:ByteArray}(ht:Ybh w.heap.size w)(hs:s.size≤140737488355328):Calls Tryz.prog 14 #[.string s] w (Ysu s.data.toList w):=by
 obtain⟨A,hA⟩:∃A,w.heap.size=A:=⟨_,rfl⟩;have hzp:=Yiu;have hz0:=Qbe;obtain⟨wA,hwA⟩:∃wA,w.alloc (.cells #[.slice none 0 0,.bool false] 24 (0,0))=wA:=⟨_,rfl⟩;have hhA:wA.heap[A]? =some (.cells [.slice none 0 0,.bool false].toArray 24 (0,0)):=by rw[←hwA,←hA];exact heap_alloc_new w _
 have hbA:Below w.heap.size w wA:=by rw[←hwA];exact(Below.refl _ w).alloc (Nat.le_refl _) _
 have hsA:wA.heap.size=A+1:=by rw[←hwA,←hA];simp
 unfold Ysu;have hsl:s.data.toList.length=s.size:=rfl;by_cases hbig:262144<s.size
 ·have hE:Ybj ctk s.data.toList=(Ynj,0,13):=by unfold Ybj;exact if_pos (by omega)
  rw[hE];have t0:decide (262144<(s.size:Int))=true:=by simp;omega
  have t1:decide (262144<s.size)=true:=by simp;omega
  have HWA:=Lib.hid hwA;have HA:=Lib.hid hA;have HBA:=Lib.hid hbA;clear hwA hbig hE hs hsl ht hA hbA hsA
  go_enter Tryz.func14,Tryz.ntmps14
  go_wp2
  go_step3
  go_wp2
  rw[Exit.noGoto_ret];exact bodyPost_ret (Ye0 rfl _ _ w.heap.size 24 _ (0,0) _ rfl (heap_alloc_new w _) Tryz.underlying24 rfl (by kernel_rfl)) rfl ⟨_,rfl,hz0 _,(Below.refl _ w).alloc (Nat.le_refl _) _⟩
 have hshort:s.size≤262144:=by omega
 have t0:decide (262144<(s.size:Int))=false:=by simp;omega
 have t1:decide (262144<s.size)=false:=by simp;omega
 obtain⟨E,hE⟩:∃E,Ybj ctk s.data.toList=E:=⟨_,rfl⟩;rw[hE];have hE0:Ykw ctk s.data.toList 65 0 []=E:=by rw[←hE];unfold Ybj;rw[if_neg (by omega)]
 obtain⟨wX,hwX⟩:∃wX,wA.alloc (.cells #[.slice none 0 0,.bool false] 24 (0,0))=wX:=⟨_,rfl⟩;have hhX:wX.heap[A+1]? =some (.cells [.slice none 0 0,.bool false].toArray 24 (0,0)):=by rw[←hwX,←hsA];exact heap_alloc_new wA _
 have hbX:Below wA.heap.size wA wX:=by rw[←hwX];exact(Below.refl _ wA).alloc (Nat.le_refl _) _
 obtain⟨rb,hrb⟩:∃rb,wX.heap.size=rb:=⟨_,rfl⟩;have hsX:rb=A+2:=by rw[←hrb,←hwX];simp;omega
 obtain⟨wR,hwR⟩:∃wR,wX.alloc (Yqq s 0)=wR:=⟨_,rfl⟩;have hbR:Below wX.heap.size wX wR:=by rw[←hwR];exact(Below.refl _ wX).alloc (Nat.le_refl _) _
 have hsR:wR.heap.size=rb+1:=by rw[←hwR,←hrb];simp
 obtain⟨n,hn⟩:∃n,rb+1=n:=⟨_,rfl⟩;have hr0:Yba wR rb s 0:=by rw[←hwR];exact Yba.fresh hrb hs
 have hlow:Below A w wR:=hA▸(hbA.trans ((hbX.trans (hbR.mono hbX.size)).mono hbA.size));have hpa0:Yyo w wR A n (.slice none 0 0) []:=⟨⟨hA,by omega,by omega⟩,hlow,(hbR.block A (by omega)).trans ((hbX.block A (by omega)).trans hhA),(hbR.block (A+1) (by omega)).trans hhX,Y0z.nil n wR⟩;have T0:Hid (Ykw ctk s.data.toList (65-([]:List ShP).length) 0 []=E):=Lib.hid hE0
 have HT:=Lib.hid (fun(x:World) (hx:Below A w x)=>(ht.below (hA.symm▸hx):Ybh w.heap.size x));have HWA:=Lib.hid hwA;have HA:=Lib.hid hA;have HWX:=Lib.hid hwX;have HRB:=Lib.hid hrb;have HWR:=Lib.hid hwR;have HO:=Lib.hid (show rb=A+2∧n=A+3 by omega);have HSL:=Lib.hid hsl;have HZ0:=Lib.hid hz0;obtain⟨Y,HYS,hzv⟩:=Yud
 have HSB:(Tryz.prog.info? 24).map (·.size)=some (#[.slice none 0 0,.bool false]:Array Value).size:=by kernel_rfl
 have HOB:(#[.slice none 0 0,.bool false]:Array Value).all (·.oneCell')=true:=by simp[Value.oneCell']
 clear hwA hA hwX hrb hwR hE hE0 hhA hbA hsA hhX hbX hsX hbR hsR hn hlow ht hsl hz0 hbig hs
 go_enter Tryz.func14,Tryz.ntmps14
 go_wp2
 go_step3
 go_wp2_with fail
 rw[HWA.out,HA.out,HWX.out];refine(Ygh _ _).mono ?_;rintro e u ⟨rfl,rfl⟩;rw[HWR.out,HRB.out]
 go_wp2
 go_step3
 go_wp2
 clear t0 t1
 go_loopw [7] (fun z wr=>∃(p:Nat) (v:Value) (done:List ShP),Yyo w wr A n v done∧Yba wr rb s p∧done.length≤64∧p≤8*s.size∧p%8=0∧Hid (Ykw ctk s.data.toList (65-done.length) p done=E)) (fun _ wr=>65-Qj8 (wr.cell? ⟨A+1,0,none⟩))
 case atStart=>exact⟨0,_,[],hpa0,hr0,Nat.zero_le _,Nat.zero_le _,rfl,T0⟩
 case round=>
  clear hpa0 hr0 T0;obtain⟨p,v,done,hpa,hr,hdl,hpm,hp8,hT⟩:=hrel;have e1:=hpa.own.ins.1;obtain⟨q,cap,hv⟩:∃q cap,v=.slice q done.length cap:=⟨_,_,e1⟩;subst hv;obtain⟨a,ha⟩:∃a,p / 8=a:=⟨_,rfl⟩;have dv:(p:Int).tdiv 8=(a:Int):=by rw[Int.tdiv_eq_ediv_of_nonneg (by omega)];omega
  have wa:IntKind.i64.wrap (a:Int)=(a:Int):=Yif (by omega);have k0:=Yab (o:=0) hpa.loc rfl;have KW:=Lib.hid k0;obtain⟨Z,hZ⟩:∃Z,[Value.slice q done.length cap,.bool false].toArray=Z:=⟨_,rfl⟩;have hloc:=hpa.loc;have hres:=hpa.res;rw[hZ] at hloc;have HSZ:(Tryz.prog.info? 24).map (·.size)=some Z.size:=by rw[←hZ];kernel_rfl
  have HBZ:(#[.slice none 0 0,.bool false]:Array Value).size=Z.size:=by rw[←hZ];rfl
  have HOZ:Z.all (·.oneCell')=true:=by rw[←hZ];simp[Value.oneCell']
  have HZ:=Lib.hid hZ;have HA8:=Lib.hid (show p=8*a by omega);have HP8:=Lib.hid hp8;have hord:=hpa.ord;clear e1 ha hZ hp8
  go_wp2_with fail
  refine(Yb7 _ _ _ _ hr).mono ?_;rintro e u ⟨rfl,rfl⟩;have cl:=Yhz wr rb s p hr;by_cases hq:done.length≠0∧p=8*s.size
  case pos=>
   obtain⟨h0,hpe⟩:=hq;have t0:((done.length:Int)==0)=false:=by rw[beq_eq_false_iff_ne];omega
   rw[show 8*(s.size:Int)-(p:Int)=0 by omega] at cl;have HE:Hid (E=(⟨done,false⟩,0,0)):=Lib.hid (by
    rw[←hT.out,show 65-done.length=(64-done.length)+1 by omega];exact Qbc _ (by rw[HSL.out];exact hpe) h0)
   clear h0 hpe hT
   go_wp2_with fail
   refine cl.mono ?_;rintro e w3 ⟨rfl,hb3⟩;have hX3:=(hb3.block (A+1) (by omega)).trans hloc;have hA3:=(hb3.block A (by omega)).trans hres;clear cl k0 hloc hres
   go_wp2_with (first|(with_reducible refine wpList_load_row rfl 24 _ rfl (A+1) rfl 24 Z (0,0) _ hX3 Tryz.underlying24 rfl HSZ ?_)|(with_reducible refine Yaj rfl 24 _ _ rfl A Z _ rfl rfl 24 hA3 HSZ HBZ HOZ ?_;intro wz hhz hgz))
   rw[Exit.noGoto_ret];refine bodyPost_ret (Ye0 rfl _ _ A 24 _ (0,0) _ rfl hhz Tryz.underlying24 rfl HSZ) rfl ?_;have hf:=(hpa.below hb3).fin false (Yae.one (L:=[some A,some (A+1)]) hgz fun j _ e=>by rw[e];exact List.mem_cons_self ..) hdl;rw[HE.out];exact⟨_,by rw[HZ.out];rfl,hf⟩
  obtain⟨L,hL⟩:∃L,8*(s.size:Int)-(p:Int)=L:=⟨_,rfl⟩;rw[hL] at cl;by_cases hm:done.length≠0∧Yv4 s.data.toList p=true
  case pos=>
   obtain⟨h0,hat⟩:=hm;have t0:((done.length:Int)==0)=false:=by rw[beq_eq_false_iff_ne];omega
   have tL:(L==0)=false:=by rw[beq_eq_false_iff_ne];intro h;exact hq ⟨h0,by omega⟩
   have hmk:=Yv5.1 hat;have hpe:p≠8*s.data.toList.length:=fun e=>hq ⟨h0,by rw[HSL.out] at e;exact e⟩;have hEm:=Yps (ct:=ctk) (l:=s.data.toList) (p:=p) (done:=done) (64-done.length) hpe ⟨by omega,hmk⟩;rw[show (64-done.length)+1=65-done.length by omega,hT.out] at hEm;have hal:a≤s.size:=by have:=HA8.out;omega
   have HAL:=Lib.hid hal;have hiff:=Y36 (l:=s.data.toList) (a:=a) (by rw[HSL.out];exact hal) (by rw[←HA8.out];exact hmk);rw[←HA8.out] at hiff;obtain⟨X,hX⟩:∃X,s.extract a s.size=X:=⟨_,rfl⟩;have hXl:X.data.toList=s.data.toList.drop a:=by
    rw[←hX,ByteArray.data_extract,Array.toList_extract];exact List.take_of_length_le (by rw[List.length_drop];exact Nat.le_refl _)
   obtain⟨P,hP⟩:∃P:ByteArray,⟨Qi2.toArray⟩=P:=⟨_,rfl⟩;have hXP:X=P↔8*s.data.toList.length=p+24∧Ya3 s.data.toList (p+22) 2=0:=by
    rw[←hiff,←hXl,Qi9,←hP]
   have CE:=Lib.hid (fun(x:World) (hx:Below wr.heap.size wr x)=>(by
    have h:=Yzi x;rw[hP] at h;exact h.mono fun e y h=>⟨h.1,hx.trans (h.2.mono hx.size)⟩:Calls Tryz.prog 31 #[] x fun e y=>e=.returned (.string P)∧Below wr.heap.size wr y))
   have HX:=Lib.hid hX;have cat:=fun(x:World) (hx:Yba x rb s p)=>Yq4 hx (by omega);rw[hat] at cat;have HCA:=Lib.hid cat;clear hat hmk hpe hal hiff hX hXl hP h0 hL hq hT
   go_wp2_with fail
   refine cl.mono ?_;rintro e w3 ⟨rfl,hb3⟩;have c3:=HCA.out _ (hr.below hb3);clear cl
   go_wp2_with fail
   refine c3.mono ?_;rintro e w4 ⟨rfl,hb34⟩;have hb4:Below wr.heap.size wr w4:=hb3.trans (hb34.mono hb3.size);clear c3 hb34 hb3 k0 HCA
   go_wp2
   refine Ya0 (S:=fun x=>Below wr.heap.size wr x) 5 (by kernel_rfl) (by kernel_rfl) hb4.drew ?_;simp only[List.take_succ_cons,List.take_zero,List.drop_succ_cons,List.drop_zero]
   iterate 2 (refine Yaf (by kernel_rfl) (fun x _=>by go_simp;try with_reducible rfl) ?_;simp only[Yaa])
   refine Yaf (v:=.string X) (by kernel_rfl) (fun x _=>by go_simp;rw[if_pos HAL.out,HX.out]) ?_;simp only[Yaa];refine Ya9 (by kernel_rfl) CE.out (fun _=>by kernel_rfl) ?_;simp only[Yaa];by_cases hb:X=P
   ·have HE:Hid (E=(⟨done,true⟩,0,0)):=Lib.hid (by rw[hEm,if_pos (hXP.1 hb)]);subst hb;refine Yaf (v:=.bool false) (by kernel_rfl) (fun x _=>by go_simp) ?_;simp only[Yaa];refine Ych fun x hx=>?_;have hX5:=(hx.block (A+1) (by omega)).trans hloc;have hA5:=(hx.block A (by omega)).trans hres;rw[←HZ.out] at hX5;have k1:=Yab (o:=1) hX5 rfl;have f1:=Yai (o:=1) hX5;have hX6:=Yau (o:=1) (.bool true) hX5
    have hA6:(x.setCell ⟨A+1,1,none⟩ (.bool true)).heap[A]? =_:=(Below.heap_setCell _ _ _ _ (show A≠A+1 by omega)).trans hA5;have hs6:=Yae.set (w:=x) (p:=⟨A+1,1,none⟩) (L:=[some A,some (A+1)]) (.bool true) (List.mem_cons_of_mem _ (List.mem_singleton.2 rfl));obtain⟨Z1,hZ1⟩:∃Z1,([Value.slice q done.length cap,.bool false].set 1 (.bool true)).toArray=Z1:=⟨_,rfl⟩;rw[hZ1] at hX6
    have HSZ1:(Tryz.prog.info? 24).map (·.size)=some Z1.size:=by rw[←hZ1];kernel_rfl
    have HBZ1:(#[.slice none 0 0,.bool false]:Array Value).size=Z1.size:=by rw[←hZ1];rfl
    have HOZ1:Z1.all (·.oneCell')=true:=by rw[←hZ1];simp[Value.oneCell']
    have HZ1:=Lib.hid hZ1;have HS6:=Lib.hid hs6;clear hX5 hA5 hloc hres hZ1 hs6 hEm hXP hb4 CE
    go_wp2_with (first|(with_reducible refine wpList_load_row rfl 24 _ rfl (A+1) rfl 24 Z1 (0,0) _ hX6 Tryz.underlying24 rfl HSZ1 ?_)|(with_reducible refine Yaj rfl 24 _ _ rfl A Z1 _ rfl rfl 24 hA6 HSZ1 HBZ1 HOZ1 ?_;intro wz hhz hgz))
    rw[Exit.noGoto_ret];refine bodyPost_ret (Ye0 rfl _ _ A 24 _ (0,0) _ rfl hhz Tryz.underlying24 rfl HSZ1) rfl ?_;have hf:=(hpa.below hx).fin true (HS6.out.trans (Yae.one (L:=[some A,some (A+1)]) hgz fun j _ e=>by rw[e];exact List.mem_cons_self ..) fun j _ h=>h) hdl;rw[HE.out];exact⟨_,by rw[←HZ1.out];rfl,hf⟩
   ·have HE:Hid (E=(Ynj,a,5)):=Lib.hid (by rw[hEm,if_neg (fun h=>hb (hXP.2 h)),show p / 8=a by have:=HA8.out;omega]);have tb:=Qin hb;refine Yaf (v:=.bool true) (by kernel_rfl) (fun x _=>by go_simp;try (rw[tb];rfl)) ?_;simp only[Yaa];refine Ych fun x hx=>?_;have hA5:=(hx.block A (by omega)).trans hres;clear hloc hres hEm hXP hb4 CE hb
    go_wp2_with (with_reducible refine Yaj rfl 24 _ _ rfl A _ _ rfl rfl 24 hA5 HSB rfl HOB ?_;intro wz hhz hgz)
    rw[Exit.noGoto_ret];refine bodyPost_ret (Ye0 rfl _ _ A 24 _ (0,0) _ rfl hhz Tryz.underlying24 rfl HSB) rfl ?_;rw[HE.out];exact⟨_,rfl,HZ0.out _,(hpa.below hx).bad hgz⟩
  have hrem:done.length≠0→p≠8*s.data.toList.length∧¬ ((Yaz s.data.toList p).2=0∧(Yaz s.data.toList p).1=31):=fun h0=>⟨fun e=>hq ⟨h0,by rw[HSL.out] at e;exact e⟩,fun e=>hm ⟨h0,Yv5.2 e⟩⟩;obtain⟨⟨S,q2,f⟩,hk⟩:∃r,wtk ctk s.data.toList p=r:=⟨_,rfl⟩;have hEt:=Qbd (64-done.length) hrem hk;rw[show (64-done.length)+1=65-done.length by omega,hT.out] at hEt;have HEN:=Lib.hid hEt;have HK:=Lib.hid hk
  clear hrem hEt hk hT;by_cases h0:done.length=0
  case' pos=>
   have t0:((done.length:Int)==0)=true:=by rw[h0];rfl
   have hpa4:=hpa;have hr4:=hr;clear h0 hq hm hL cl hr
   go_wp2_with fail
  case' neg=>
   have t0:((done.length:Int)==0)=false:=by rw[beq_eq_false_iff_ne];omega
   have tL:(L==0)=false:=by rw[beq_eq_false_iff_ne];intro h;exact hq ⟨h0,by omega⟩
   have cat:=fun(x:World) (hx:Yba x rb s p)=>Yq4 hx (by omega);rw[show Yv4 s.data.toList p=false by cases h:Yv4 s.data.toList p with|false=>rfl|true=>exact absurd ⟨h0,h⟩ hm] at cat;have HCA:=Lib.hid cat;clear h0 hq hm hL cat
   go_wp2_with fail
   refine cl.mono ?_;rintro e w3 ⟨rfl,hb3⟩;have c3:=HCA.out _ (hr.below hb3);clear cl HCA k0
   go_wp2_with fail
   refine c3.mono ?_;rintro e w4 ⟨rfl,hb34⟩;have hb4:Below wr.heap.size wr w4:=hb3.trans (hb34.mono hb3.size);have hpa4:=hpa.below hb4;have hr4:=hr.below hb4;have k0:=Yab (o:=0) hpa4.loc rfl;clear c3 hb34 hb3 hb4 hr
   go_wp2_with fail
  all_goals
   have ct:=Y0p (q:=q) (cap:=cap) hr4 (HT.out _ hpa4.low) (by have:=HO.out;have:=HA.out;omega) (by omega) (fun x hx=>((hpa4.turn hx (fun k e=>by injection e with e;have:=HO.out;omega)).own.ins).2.2.2) hdl;unfold Yyp at ct;rw[HK.out] at ct;dsimp only at ct;have hfew:=Qbm (f:=f) (n:=done.length) (fo:=Ydk (Ydb done) S);generalize Yp1 f done.length (Ydk (Ydb done) S)=c at *;have HFEW:=Lib.hid hfew
   clear hfew;refine ct.mono ?_;rintro e w5 ⟨us,rfl,hK5,hr5,hg5⟩;have hpa5:=hpa4.turn hg5 (fun k e=>by injection e with e;have:=HO.out;omega);have hK:ShK ((Value.slice q done.length cap).ownBlock::Yu3 n) w5 S us:=ShK.own hpa4.own (Nat.le_refl _) hpa4.ord.2.2 hK5;obtain⟨D,hD⟩:∃D,w5.heap.size=D:=⟨_,rfl⟩;obtain⟨w6,hw6⟩:∃w6,w5.alloc (.cells us.toArray 39 (0,0))=w6:=⟨_,rfl⟩
   have hb6:Below w5.heap.size w5 w6:=by rw[←hw6];exact(Below.refl _ w5).alloc (Nat.le_refl _) _
   have hD6:w6.heap[D]? =some (.cells us.toArray 39 (0,0)):=by rw[←hw6,←hD];exact heap_alloc_new w5 _
   have hpa6:=hpa5.below hb6;have hl8:=hK.shape.1;have h1c:=hK.shape.2;have HOU:=hK.shV.ones;have HSU:(Tryz.prog.info? 39).map (·.size)=some us.toArray.size:=by rw[show us.toArray.size=8 from hl8];kernel_rfl
   have HYU:Y.size=us.toArray.size:=by rw[HYS];exact hl8.symm
   have HW6:=Lib.hid hw6;have HD:=Lib.hid hD;by_cases hc:c=0
   case neg=>
    have tc:(c != 0)=true:=by rw[bne_iff_ne];exact hc
    have HE:Hid (E=(Ynj,a,c)):=Lib.hid (by rw[HEN.out,if_pos hc,show p / 8=a by have:=HA8.out;omega]);have hA6:=hpa6.res;clear hc hD6 hK hr5 ct hw6 hD HEN
    go_wp2_with (first|(with_reducible refine Yao rfl 39 _ _ rfl us.toArray Y 39 rfl rfl HSU HYU HOU ?_;rw[HW6.out,HD.out])|(with_reducible refine Yaj rfl 24 _ _ rfl A _ _ rfl rfl 24 hA6 HSB rfl HOB ?_;intro wz hhz hgz))
    rw[Exit.noGoto_ret];refine bodyPost_ret (Ye0 rfl _ _ A 24 _ (0,0) _ rfl hhz Tryz.underlying24 rfl HSB) rfl ?_;rw[HE.out];exact⟨_,rfl,HZ0.out _,hpa6.bad hgz⟩
   subst hc;have tc:((0:Int) != 0)=false:=rfl;obtain⟨hf0,hd64,-⟩:=HFEW.out rfl;have hk:=HK.out;rw[hf0] at hk;have hq8:=Yyd hk;have hqm:=(Ynm (Yic s.data.toList) hk).2.2.2.2.2.2.1;rw[Yag,HSL.out] at hqm;have HEX:Hid (Ykw ctk s.data.toList (65-(done++[S]).length) q2 (done++[S])=E):=Lib.hid (by
    rw[HEN.out,if_neg (by decide),List.length_append,show 65-(done.length + [S].length)=64-done.length by simp])
   have hr6:=hr5.below hb6;obtain⟨Q,hQ⟩:∃Q,w6.heap.size=Q:=⟨_,rfl⟩;obtain⟨wQ,hwQ⟩:∃wQ,w6.alloc (.cells us.toArray 39 (0,0))=wQ:=⟨_,rfl⟩;have hbQ:Below w6.heap.size w6 wQ:=by rw[←hwQ];exact(Below.refl _ w6).alloc (Nat.le_refl _) _
   have hQQ:wQ.heap[Q]? =some (.cells us.toArray 39 (0,0)):=by rw[←hwQ,←hQ];exact heap_alloc_new w6 _
   have hpaQ:=hpa6.below hbQ;have hrQ:=hr6.below hbQ;have hKQ:=(hK.below hb6).below hbQ;have hcQ:∀(j:Nat) u,us[j]? =some u→wQ.cell? ⟨Q,j,none⟩=some u:=fun j u hu=>Yab hQQ hu;have k6:=Yab (o:=0) hpa6.loc rfl;obtain⟨ri,rz,j0,j1,j2,j3,j4⟩:=Y5q;have HPQ:=Lib.hid hpaQ;have HRQ:=Lib.hid hrQ;have HQ:=Lib.hid hQ;have HWQ:=Lib.hid hwQ;have HCQ:=Lib.hid hcQ;have HQ8:=Lib.hid hq8;have HQM:=Lib.hid hqm
   have HDL:=Lib.hid hd64;clear hf0 hk hq8 hqm hr5 hr6 hb6 hQ hwQ hbQ hQQ hpaQ hrQ hcQ ct hw6 hD HEN HK hK hpa6 hpa5 hpa4 hpa hg5 hr4 hK5 hloc hres hd64 k0
   go_wp2_with (first|(with_reducible refine Yao rfl 39 _ _ rfl us.toArray Y 39 rfl rfl HSU HYU HOU ?_;rw[HW6.out,HD.out])|(with_reducible refine wpList_load_row rfl 39 _ rfl D rfl 39 us.toArray (0,0) _ hD6 Tryz.underlying39 rfl HSU ?_)|(with_reducible refine Yk3 rfl _ rfl us hl8 rfl ?_;rw[HWQ.out,HQ.out])|(at_builtin;refine Yg8 (V:=ShK ((Value.slice q done.length cap).ownBlock::Yu3 n) wQ) (w:=wQ) (c:=8) (bytes:=96) (base:=n) (v:=.slice q done.length cap) (l:=done) (y:=S) (vs:=us) (K:=Q) (cap:=1) rfl rfl Tryz.underlying22 j0 j1 j2 j3 j4 (by decide) ?d1 ?d2 HPQ.out.own hKQ hl8 h1c HCQ.out ?d3 ?d4 HPQ.out.ord.2.2 ?_;(case d1=>kernel_rfl);(case d2=>kernel_rfl);(case d3=>(unfold maxLen;omega));(case d4=>omega);intro q9 cap9 w9 ho9 hg9 hw9;have hX9:=(hg9.block (A+1) (by have:=HPQ.out.ord;omega) fun e=>by have:=Ydx.fresh HPQ.out.own _ e.symm;have:=HPQ.out.ord;omega).trans HPQ.out.loc;have c9:=Yab (o:=0) hX9 rfl;have f9:=Yai (o:=0) hX9))
   obtain⟨hpaZ,hgl⟩:=HPQ.out.app ho9 hg9 hw9;have hrZ:Yba _ rb s q2:=⟨(hgl.block rb HRQ.out.lt (fun hm=>by
    rcases List.mem_cons.1 hm with e|e
    ·have:=Ydx.fresh HPQ.out.own _ e.symm;have:=HO.out;omega
    ·have e:=List.mem_singleton.1 e;injection e with e;have:=HO.out;omega)).trans HRQ.out.1,HRQ.out.2⟩
   have kZ:=Yab (o:=0) hpaZ.loc rfl
   go_roundw
   case rel=>exact⟨q2,.slice q9 (done.length+1) cap9,done++[S],hpaZ,hrZ,by rw[List.length_append];have:=HDL.out;simp;omega,HQM.out,HQ8.out,HEX⟩
   case measure=>
    rw[KW.out,kZ];show 65-(done.length+1)<65-done.length;have:=HDL.out;omega
theorem Y4x {l:List ShP}{i:Nat}(hi:i<l.length):Yd4 [] (l.take (i+1))=Yu4 (Yd4 [] (l.take i)) l[i]:=by rw[List.take_succ_eq_append_getElem hi,Y40]
theorem Y4y {l:List ShP}{F:Bool}(i:Nat)(h:2097152<(Yd4 [] (l.take i)).length):2097152<(Ybi l F).length:=by
 have h1:=Y4z (l.take i) (l.drop i) F;rw[List.take_append_drop] at h1;omega
theorem Qe5 (l:List ShP)(F:Bool):(if F then Qej (Yd4 [] l) else Yd4 [] l)=Ybi l F:=by
 cases F with
 |false=>exact Yo4 l
 |true=>exact Y9o l
set_option maxRecDepth 100000 in
set_option maxHeartbeats 2000000 in
theorem Ysn {u w:World}{T:StrP}{vs:List Value}(hT:Ynp u T vs)(ht:Ybh u.heap.size u)(hu:Below u.heap.size u w):
  Calls Tryz.prog 16 #[.agg vs.toArray] w fun e w'=>e=.returned (.tuple #[.string ⟨(Qgt T).1.toArray⟩,.int .i64 (Qgt T).2])∧Below w.heap.size w w':=by
 have cch:=fun(x:World) (hx:Below u.heap.size u x)=>Ymm hT ht hx;have hbad:=Qfo (T:=T);have hlong:=Qbf (T:=T);have hok:=Y0m (T:=T);have hall:=Ysa (T:=T);obtain⟨⟨q,cap,rfl,hcap,hlm,hin⟩,hsm⟩:=hT;obtain⟨l,F⟩:=T;dsimp only at *;unfold maxLen at hlm;obtain⟨D,hD⟩:∃D,w.heap.size=D:=⟨_,rfl⟩;obtain⟨A,hA⟩:∃A,[Value.slice q l.length cap,.bool F].toArray=A:=⟨_,rfl⟩
 obtain⟨w1,hw1⟩:∃w1,w.alloc (.cells A 24 (0,0))=w1:=⟨_,rfl⟩;have hb1:Below w.heap.size w w1:=by rw[←hw1];exact(Below.refl _ w).alloc (Nat.le_refl _) _
 have hs1:w1.heap.size=D+1:=by rw[←hw1,←hD];simp
 have hhD:w1.heap[D]? =some (.cells A 24 (0,0)):=by rw[←hw1,←hD];exact heap_alloc_new w _
 have CL:Hid (∀x,Below (D+1) w1 x→x.heap[D]? =some (.cells A 24 (0,0))∧x.cell? ⟨D,0,none⟩=some (.slice q l.length cap)∧x.cell? ⟨D,1,none⟩=some (.bool F)∧Below w.heap.size w x∧Below u.heap.size u x):=Lib.hid fun x hx=>by
  have h1:=(hx.block D (by omega)).trans hhD;have h2:=h1;rw[←hA] at h2;exact⟨h1,Yab (o:=0) h2 rfl,Yab (o:=1) h2 rfl,hb1.trans (hx.mono (by omega)),hu.trans ((hb1.trans (hx.mono (by omega))).mono hu.size)⟩
 have HSA:(Tryz.prog.info? 24).map (·.size)=some A.size:=by rw[←hA];kernel_rfl
 have hS0:Below (D+1) w1 w1:=Below.refl _ _;have c1:=cch w1 (CL.out _ hS0).2.2.2.2;rw[hA] at c1 ⊢;obtain⟨er,her⟩:∃er,Yek ⟨l,F⟩=er:=⟨_,rfl⟩;rw[her] at c1 hbad hlong hok hall;obtain⟨RW,hRW⟩:∃RW,Qgt ⟨l,F⟩=RW:=⟨_,rfl⟩;rw[hRW] at hbad hlong hok ⊢;have HW1:=Lib.hid hw1;have HD:=Lib.hid hD;have HS1:=Lib.hid hs1;have HBAD:=Lib.hid hbad;have HLONG:=Lib.hid hlong;have HOK:=Lib.hid hok
 have HALL:=Lib.hid hall;have HIN:=Lib.hid hin;have HT:=Lib.hid ht;have HSM:=Lib.hid hsm;have HUS:=Lib.hid hu.size;clear hw1 hD hb1 hs1 hbad hlong hok hall hin ht hsm her hRW hA cch hu
 go_enter Tryz.func16,Tryz.ntmps16
 go_wp2_with (rw[HW1.out,HD.out];with_reducible refine wpList_load_row rfl 24 _ rfl D rfl 24 A (0,0) _ hhD Tryz.underlying24 rfl HSA ?_)
 refine c1.mono ?_;rintro e w2 ⟨rfl,hb2⟩;have hb12:Below (D+1) w1 w2:=hb2.mono (by have:=HS1.out;omega);clear c1 hhD hS0;by_cases he:er=0
 case neg=>
  have tn:(er != 0)=true:=by rw[bne_iff_ne];exact he
  have N:=Lib.hid (HBAD.out he);have hE:=(CL.out _ hb12).2.2.2.1;clear he hb2
  go_wp2
  go_ret2
  exact⟨by rw[N.out];rfl,hE⟩
 subst he;have tn:((0:Int) != 0)=false:=rfl;obtain⟨⟨hn0,hn64⟩,hE0⟩:=HALL.out (by trivial);have hshs:=Lib.hid (Yjt hE0);obtain⟨b,hb⟩:∃b,w2.heap.size=b:=⟨_,rfl⟩;obtain⟨w3,hw3⟩:∃w3,w2.alloc Yi0=w3:=⟨_,rfl⟩;have hwr3:Ycj w3 (b+1) b []:=by rw[←hw3];exact Ycj.fresh hb (Nat.lt_succ_self _)
 have hb23:Below w2.heap.size w2 w3:=by rw[←hw3];exact(Below.refl _ w2).alloc (Nat.le_refl _) _
 have hs3:w3.heap.size=b+1:=by rw[←hw3,←hb];simp
 have hDb:D+1≤b:=by have h1:=hb12.size;have h2:=HS1.out;omega
 have hub:u.heap.size≤b:=by have:=(CL.out _ hb12).2.2.2.2.size;omega
 have hb13:Below (D+1) w1 w3:=hb12.trans (hb23.mono (by omega));have k0:=(CL.out _ hb13).2.1;obtain⟨n,hn⟩:∃n,l.length=n:=⟨_,rfl⟩;have HN:=Lib.hid hn;rw[hn] at CL k0 hn0 hn64;have HW3:=Lib.hid hw3;have HB:=Lib.hid hb;obtain⟨Y,HYS,hzv⟩:=Yud;clear hw3 hb hb23 hn hb2 hb12 HALL HBAD hE0 hlm hcap
 go_wp2_with fail
 refine(Yne _).mono ?_;rintro e x ⟨rfl,rfl⟩;rw[HW3.out,HB.out]
 go_wp2
 clear k0 tn
 go_loopw [17] (fun z wr=>∃i:Nat,i≤n∧z=.int .i64 (i:Int)∧Ycj wr (b+1) b (Yd4 [] (l.take i))∧(Yd4 [] (l.take i)).length≤2097152∧b+1≤wr.heap.size∧Below (D+1) w1 wr) (fun z _=>n-(intOf z).toNat)
 case atStart=>exact⟨0,Nat.zero_le _,rfl,hwr3,Nat.zero_le _,by omega,hb13⟩
 case round=>
  clear hwr3 hb13 hs3;obtain⟨i,hi,rfl,hwr,hlen,hz,hb⟩:=hrel;by_cases hlt:i<n
  ·have t0:decide ((i:Int)<(n:Int))=true:=by simp;omega
   have t1:decide (i<n)=true:=by simpa using hlt
   have hil:i<l.length:=by rw[HN.out];exact hlt
   obtain⟨-,-,-,-,hur⟩:=CL.out _ hb;obtain⟨b1,o1,rfl,hb1,hcb1⟩:=Ydz.each HIN.out (by omega);obtain⟨xs,hVx,hxc⟩:=hcb1 i hil;have hxl:=hVx.shape.1;have hxo:=hVx.ones;have hxn:=HSM.out l[i] (List.getElem_mem hil);have hsh:=hshs.out l[i] (List.getElem_mem hil);obtain⟨C,hC⟩:∃C,wr.heap.size=C:=⟨_,rfl⟩;obtain⟨wC,hwC⟩:∃wC,wr.alloc (.cells xs.toArray 39 (0,0))=wC:=⟨_,rfl⟩
   have hsC:wC.heap.size=C+1:=by rw[←hwC,←hC];simp
   have hbC:Below wr.heap.size wr wC:=by rw[←hwC];exact(Below.refl _ wr).alloc (Nat.le_refl _) _
   have hrgA:wr.rangeAt b1 (o1+i*8) xs:=fun k v hk=>hxc wr hur k v hk;have hhC:wC.heap[C]? =some (.cells xs.toArray 39 (0,0)):=by rw[←hwC,←hC];exact heap_alloc_new wr _
   have hbwC:=hb.trans (hbC.mono (by have:=hb.size;have:=HS1.out;omega));have HSX:(Tryz.prog.info? 39).map (·.size)=some xs.toArray.size:=by rw[show xs.toArray.size=8 from hxl];kernel_rfl
   have HYX:Y.size=xs.toArray.size:=by rw[HYS];exact hxl.symm
   have c2:=Qfg (u:=u) (w:=wC) (B:=b+1) (b:=b) (S:=l[i]) (vs:=xs) ⟨hVx,hxn⟩ HT.out (CL.out _ hbwC).2.2.2.2 hub (by omega) (hwr.below hbC) (by omega) hsh;rw[←Y4x hil] at c2;obtain⟨R1,hR1⟩:∃R1,Yd4 [] (l.take (i+1))=R1:=⟨_,rfl⟩;rw[hR1] at c2;have HOV:=Lib.hid (fun(h:2097152<R1.length)=>(HLONG.out (by trivial) (Y4y (F:=F) (i+1) (by rw[hR1];exact h)):RW=([],13)));have HR1:=Lib.hid hR1
   have HWC:=Lib.hid hwC;have HC:=Lib.hid hC;clear hwC hC hxc hVx hxn hsh hur hb1 hcb1 hwr hlen hR1 hbC
   go_wp2_with (first|(with_reducible refine Yjc rfl _ rfl b1 (o1+i*8) rfl xs hrgA hxl ?_)|(with_reducible refine Yao rfl 39 _ _ rfl xs.toArray Y 39 rfl rfl HSX HYX hxo ?_;rw[HWC.out,HC.out])|(with_reducible refine wpList_load_row rfl 39 _ rfl C rfl 39 xs.toArray (0,0) _ hhC Tryz.underlying39 rfl HSX ?_))
   refine c2.mono ?_;rintro e w4 ⟨rfl,hwr4,hg4⟩;have hb4:Below (D+1) w1 w4:=hbwC.grown hg4 (by have:=hbwC.size;have:=HS1.out;omega) (fun j hj=>by injection hj with hj;omega);have hz4:b+1≤w4.heap.size:=by have:=hg4.size;have:=HC.out;omega
   clear c2 hg4 hhC hrgA hbwC hsC hz hb
   go_wp2_with fail
   refine(Y1w _ _ _ _ hwr4).mono ?_;rintro e x ⟨rfl,rfl⟩;by_cases hov:2097152<R1.length
   ·have t3:decide (2097152<(R1.length:Int))=true:=by simp;omega
    have t4:decide (2097152<R1.length)=true:=by simpa using hov
    have N:=Lib.hid (HOV.out hov);have hE:=(CL.out _ hb4).2.2.2.1;clear hov HOV
    go_wp2
    go_ret2
    exact⟨by rw[N.out];rfl,hE⟩
   ·have t3:decide (2097152<(R1.length:Int))=false:=by simp;omega
    have t4:decide (2097152<R1.length)=false:=by simpa using hov
    have hl4:(Yd4 [] (l.take (i+1))).length≤2097152:=by rw[HR1.out];omega
    have hw4:Ycj w4 (b+1) b (Yd4 [] (l.take (i+1))):=by rw[HR1.out];exact hwr4
    have HL4:=Lib.hid hl4;clear hov HOV hwr4 hl4
    go_wp2
    go_roundw
    case rel=>exact⟨i+1,by omega,by go_num,hw4,HL4.out,hz4,hb4⟩
    case measure=>simp[intOf];omega
  ·obtain rfl:i=n:=by omega
   have t0:decide ((i:Int)<(i:Int))=false:=by simp
   have t1:decide (i<i)=false:=by simp
   have htl:l.take i=l:=List.take_of_length_le (by have:=HN.out;omega);rw[htl] at hwr hlen;obtain⟨-,-,k1,hE,-⟩:=CL.out _ hb;have hends:=Qe5 l F;obtain⟨R,hR⟩:∃R,Ybi l F=R:=⟨_,rfl⟩;have hlong:=HLONG.out (by trivial);have hok:=HOK.out (by trivial);rw[hR] at hends hlong hok;have hRl:R.length≤3000000:=by
    rw[←hends];have:=Yz3 (Yd4 [] l);cases F <;> simp <;> omega
   have HLO:=Lib.hid hlong;have HO:=Lib.hid hok;have HEN:=Lib.hid hends;have HRL:=Lib.hid hRl;clear hlong hok hR htl hends hRl;cases F
   case' false=>
    have hw5:Ycj wr (b+1) b R:=by
     have h:Yd4 [] l=R:=HEN.out;rw[←h];exact hwr
    have hE5:=hE;clear hwr HEN
    go_wp2_with fail
   case' true=>
    have hw0:Qej (Yd4 [] l)=R:=HEN.out;have c3:=Ypf hwr (by omega) hz;rw[hw0] at c3;clear hwr HEN hw0
    go_wp2_with fail
    refine c3.mono ?_;rintro e w5 ⟨rfl,hw5,hg5⟩;have hE5:Below w.heap.size w w5:=hE.grown hg5 hE.size (fun j hj=>by injection hj with hj;have:=HD.out;omega);clear c3 hg5
    go_wp2_with fail
   all_goals
    refine(Y1w _ _ _ _ hw5).mono ?_;rintro e x ⟨rfl,rfl⟩;by_cases hov:2097152<R.length
    ·have t3:decide (2097152<(R.length:Int))=true:=by simp;omega
     have t4:decide (2097152<R.length)=true:=by simpa using hov
     have N:=Lib.hid (HLO.out hov);clear hov HLO HO
     go_wp2
     go_ret2
     exact⟨by rw[N.out];rfl,hE5⟩
    ·have t3:decide (2097152<(R.length:Int))=false:=by simp;omega
     have t4:decide (2097152<R.length)=false:=by simpa using hov
     have N:=Lib.hid (HO.out (by omega));clear hov HLO HO
     go_wp2_with fail
     refine(Yxy _ _ _ _ hw5 (by have:=HRL.out;omega)).mono ?_;rintro e w6 ⟨rfl,hb6⟩
     go_wp2
     go_ret2
     exact⟨by rw[N.out];rfl,hE5.trans (hb6.mono hE5.size)⟩
theorem Y0l (ct:CelT):Ybj ct []=(Ynj,0,2):=by
 unfold Ybj;rw[if_neg (by decide)];exact Ykx 64 rfl
def Yyi:StrP:=⟨[exS1],true⟩
theorem Qhq:Yek Yyi=0∧(Ybi Yyi.sheets Yyi.fin).length≤2097152:=by decide +kernel
set_option maxRecDepth 100000 in
set_option maxHeartbeats 2000000 in
theorem Y7b (w:World):Calls Tryz.prog 19 #[] w fun e w'=>∃vs:List Value,e=.returned (.agg vs.toArray)∧Ynp w' Yyi vs∧Below w.heap.size w w':=by
 obtain⟨N,hN⟩:∃N,w.heap.size=N:=⟨_,rfl⟩;obtain⟨Y,HYS,hzv⟩:=Yf8;obtain⟨Yr,HYRS,hzr⟩:=Ypk;have hzp:=Yiu;obtain⟨A,hA⟩:∃A,(Ybd exSA nilS).toArray=A:=⟨_,rfl⟩;obtain⟨Z,hZ⟩:∃Z:Array Value,#[.slice none 0 0,.bool false]=Z:=⟨_,rfl⟩;obtain⟨wz,hwz,hsz,hhz,hbz⟩:=Yge w (.cells Z 24 (0,0));obtain⟨w0,hw0,hs0,hh0,hb0⟩:=Yge wz (.cells A 77 (0,0))
 obtain⟨w1,hw1,hs1,hh1,hb1⟩:=Yge w0 (.cells (Ybd exSA nilS++Ybd exSA nilS).toArray 77 (0,0));rw[hN] at hsz hhz hbz;rw[hsz] at hs0 hh0 hb0;rw[hs0] at hs1 hh1 hb1;have hs0:w0.heap.size=N+2:=hs0;have hs1:w1.heap.size=N+3:=hs1;obtain⟨w2,hw2,hs2,hh2,hb2⟩:=Yge w1 (.cells #[.bool false,.int .i64 0,.int .i64 0,.slice (some ⟨N+2,0,none⟩) 2 2] 46 (0,0))
 obtain⟨w3,hw3,hs3,hh3,hb3⟩:=Yge w2 (.cells #[.bool false,.int .i64 0,.int .i64 0,.slice (some ⟨N+2,0,none⟩) 2 2,.bool false,.int .i64 0,.int .i64 0,.slice (some ⟨N+2,0,none⟩) 2 2] 46 (0,0));obtain⟨zs,hzs⟩:∃zs:List Value,[.int .i64 0,.int .i64 0,.int .i64 6,.bool false,.int .i64 5,.slice none 0 0,.slice (some ⟨N+4,0,none⟩) 2 2,.int .i64 0]=zs:=⟨_,rfl⟩
 obtain⟨w4,hw4,hs4,hh4,hb4⟩:=Yge w3 (.cells zs.toArray 39 (0,0));rw[hs1] at hs2 hh2 hb2;rw[hs2] at hs3 hh3 hb3;rw[hs3] at hs4 hh4 hb4;have hs2:w2.heap.size=N+4:=hs2;have hs3:w3.heap.size=N+5:=hs3;have hs4:w4.heap.size=N+6:=hs4;have b34:Below (N+5) w3 w4:=hb4;have b24:Below (N+4) w2 w4:=hb3.trans (b34.mono (by omega));have b14:Below (N+3) w1 w4:=hb2.trans (b24.mono (by omega))
 have b04:Below (N+2) w0 w4:=hb1.trans (b14.mono (by omega));have bz4:Below (N+1) wz w4:=hb0.trans (b04.mono (by omega));have bw4:Below N w w4:=hbz.trans (bz4.mono (by omega));have hN4:=(bz4.block N (by omega)).trans hhz;have hmA:(Lit.int .i64 exSA.mx).wf=true∧(Lit.int .i64 exSA.my).wf=true:=by decide
 have FIN:=Lib.hid (fun(x:World) (hx:w4.grownBy x (some N))=>(by
  have blk:∀k,k<N+6→k≠N→x.heap[k]? =w4.heap[k]?:=fun k hk hn=>hx.block k (by omega) (fun e=>by injection e with e;exact hn e);have hC:Yjy x (some ⟨N+2,0,none⟩) [exSA,exSA]:=Qfs hmA hmA (fun _ _=>rfl) (fun _ _=>rfl) ((blk (N+2) (by omega) (by omega)).trans ((b14.block (N+2) (by omega)).trans hh1))
  have hRw:Yg9 x (some ⟨N+4,0,none⟩) exS1.rows:=Qft ((blk (N+4) (by omega) (by omega)).trans ((b34.block (N+4) (by omega)).trans hh3)) rfl rfl hC hC;have h5:x.heap[N+5]? =some (.cells zs.toArray 39 (0,0)):=(blk (N+5) (by omega) (by omega)).trans hh4;have hV:ShV x exS1 zs:=⟨none,some ⟨N+4,0,none⟩,0,2,hzs.symm,Nat.zero_le _,(by decide),Ydw.nil _ _,hRw⟩
  refine⟨⟨⟨some ⟨N+5,0,none⟩,1,rfl,Nat.le_refl _,(by decide),.inr ⟨N+5,0,rfl,by have:=hx.size;omega,fun i hi=>?_⟩⟩,fun S hS=>?_⟩,bw4.grown hx (by omega) (fun j hj=>by injection hj with hj;omega)⟩
  ·obtain rfl:i=0:=by simpa [Yyi] using hi
   exact⟨zs,hV,fun j v hj=>by have h:=Yab (o:=j) h5 hj;simpa using h⟩
  ·obtain rfl:S=exS1:=by simpa [Yyi] using hS
   refine⟨by decide,fun c hc k _=>?_⟩;have:c=exSA:=by simpa [Ygv,exS1] using hc
   subst this;exact Nat.zero_le _:Ynp x Yyi [.slice (some ⟨N+5,0,none⟩) 1 1,.bool true]∧Below N w x))
 have HSA:(Tryz.prog.info? 77).map (·.size)=some A.size:=by rw[←hA];exact Yhr _ _
 have HYA:Y.size=A.size:=by rw[HYS,←hA];rfl
 have HOA:A.all (·.oneCell')=true:=by rw[←hA];exact Ykq (Yz1 w exSA hmA fun _ _=>rfl)
 have HSR:(Tryz.prog.info? 46).map (·.size)=some (#[.bool false,.int .i64 0,.int .i64 0,.slice (some ⟨N+2,0,none⟩) 2 2]:Array Value).size:=by kernel_rfl
 have HYR:Yr.size=(#[.bool false,.int .i64 0,.int .i64 0,.slice (some ⟨N+2,0,none⟩) 2 2]:Array Value).size:=by rw[HYRS];rfl
 have HOR:(#[.bool false,.int .i64 0,.int .i64 0,.slice (some ⟨N+2,0,none⟩) 2 2]:Array Value).all (·.oneCell')=true:=by simp[Value.oneCell']
 have HSB:(Tryz.prog.info? 24).map (·.size)=some (#[.slice (some ⟨N+5,0,none⟩) 1 1,.bool true]:Array Value).size:=by kernel_rfl
 have HYB:Z.size=(#[.slice (some ⟨N+5,0,none⟩) 1 1,.bool true]:Array Value).size:=by rw[←hZ];rfl
 have HOB:(#[.slice (some ⟨N+5,0,none⟩) 1 1,.bool true]:Array Value).all (·.oneCell')=true:=by simp[Value.oneCell']
 have hzl:zs.length=8:=by rw[←hzs];rfl
 rw[hZ] at hzp;have HA:=Lib.hid hA;have HN:=Lib.hid hN;have HZS:Hid ((#[.int .i64 0,.int .i64 0,.int .i64 6,.bool false,.int .i64 5,.slice none 0 0,.slice (some ⟨N+4,0,none⟩) 2 2,.int .i64 0]:Array Value)=zs.toArray):=Lib.hid (by rw[←hzs]);have HWZ:=Lib.hid hwz;have HW0:=Lib.hid hw0;have HW1:=Lib.hid hw1;have HW2:=Lib.hid hw2;have HW3:=Lib.hid hw3;have HW4:=Lib.hid hw4;have S0:=Lib.hid hsz
 have S1:=Lib.hid hs1;have S3:=Lib.hid hs3;clear hA hN hzs hwz hw0 hw1 hw2 hw3 hw4 hh1 hh3 hh4 hb0 hb1 hb2 hb3 hb4 b34 b24 b14 b04 bz4 bw4 hmA hhz hbz hZ hs2 hs4 hsz hs3
 go_enter Tryz.func19,Tryz.ntmps19
 go_wp2_with (first
  |(with_reducible refine wpList_buildTo rfl 77 _ rfl (some 4) rfl (Ybd exSA nilS).toArray (by kernel_rfl) ?_;rw[HA.out,HWZ.out])
  |(with_reducible refine Yao rfl 77 _ _ rfl A Y 77 rfl rfl HSA HYA HOA ?_;rw[HW0.out,S0.out,HN.out])
  |(with_reducible refine wpList_load_row rfl 77 _ rfl (N+1) rfl 77 A (0,0) _ hh0 Tryz.underlying77 rfl HSA ?_)
  |(with_reducible refine Yp4 rfl _ _ rfl exSA exSA nilS nilS (N+2) hs0 7 rfl ?d1 ?d2 ?_;(case d1=>(rw[HA.out];kernel_rfl));(case d2=>(rw[HA.out];kernel_rfl));rw[HW1.out])
  |(with_reducible refine wpList_buildTo rfl 46 _ rfl (some 8) rfl #[.bool false,.int .i64 0,.int .i64 0,.slice (some ⟨N+2,0,none⟩) 2 2] (by kernel_rfl) ?_)
  |(with_reducible refine Yp6 rfl 46 _ _ rfl #[.bool false,.int .i64 0,.int .i64 0,.slice (some ⟨N+2,0,none⟩) 2 2] Yr 46 (N+3) S1.out rfl rfl HSR HYR HOR ?_;rw[HW2.out])
  |(with_reducible refine wpList_load_row rfl 46 _ rfl (N+3) rfl 46 #[.bool false,.int .i64 0,.int .i64 0,.slice (some ⟨N+2,0,none⟩) 2 2] (0,0) _ hh2 Tryz.underlying46 rfl HSR ?_)
  |(with_reducible refine wpList_buildTo rfl 39 _ rfl (some 12) rfl #[.int .i64 0,.int .i64 0,.int .i64 6,.bool false,.int .i64 5,.slice none 0 0,.slice (some ⟨N+4,0,none⟩) 2 2,.int .i64 0] (by kernel_rfl) ?_;rw[HZS.out,HW3.out])
  |(with_reducible refine Yk3 rfl _ rfl zs hzl rfl ?_;rw[HW4.out,S3.out])
  |(with_reducible refine wpList_buildTo rfl 24 _ rfl (some 14) rfl #[.slice (some ⟨N+5,0,none⟩) 1 1,.bool true] (by kernel_rfl) ?_)
  |(with_reducible refine Yaj rfl 24 _ _ rfl N (#[.slice (some ⟨N+5,0,none⟩) 1 1,.bool true]) Z rfl rfl 24 hN4 HSB HYB HOB ?_;intro wq hhq hgq))
 have hfin:=FIN.out _ hgq;exact bodyPost_ret (results_cell_row rfl _ _ N 24 _ (0,0) _ rfl hhq Tryz.underlying24 rfl HSB) rfl ⟨_,rfl,hfin.1,by rw[HN.out];exact hfin.2⟩
set_option maxRecDepth 100000 in
set_option maxHeartbeats 2000000 in
theorem Qh3 (w:World)(ht:Ybh w.heap.size w):Calls Tryz.prog 9 #[] w fun e w'=>e=.returned (.bool true)∧Below w.heap.size w w':=by
 have hzp:=Yiu;have HT:=Lib.hid (fun(x:World) (hx:Below w.heap.size w x)=>(by
  have h:=ht.below hx;exact Ybh.here h.pats h.mvd h.steps h.tcoef:Ybh x.heap.size x))
 have c1:=Yls (s:=⟨#[]⟩) (HT.out w (Below.refl _ _)) (by decide);unfold Ysu at c1;rw[show ((⟨#[]⟩:ByteArray).data.toList)=[] from rfl,show Ybj ctk []=(Ynj,0,2) from Y0l ctk] at c1;obtain⟨h0,hlen⟩:=Qhq;have hW:=Y0m h0 hlen;have htl:=Yup Yyi.sheets Yyi.fin;obtain⟨T',hT',hB'⟩:=Yui (l:=Ygg (Ybi Yyi.sheets Yyi.fin)) (Qcq _) h0 (by omega) Yxz;obtain⟨hn1,hf1⟩:=Y0j hB'
 obtain⟨P,hP⟩:∃P:ByteArray,⟨(Ygg (Ybi Yyi.sheets Yyi.fin)).toArray⟩=P:=⟨_,rfl⟩;have hPl:P.data.toList=Ygg (Ybi Yyi.sheets Yyi.fin):=by rw[←hP]
 have hPs:P.size≤140737488355328:=by rw[←hP,Qa3];omega
 have CW:=Lib.hid (fun(x:World) (hx:Below w.heap.size w x) (vs:List Value) (hv:Ynp x Yyi vs)=>(by
  have h:=Ysn hv (HT.out x hx) (Below.refl _ x);rw[hW] at h;dsimp only at h;rw[hP] at h;exact h:Calls Tryz.prog 16 #[.agg vs.toArray] x fun e y=>e=.returned (.tuple #[.string P,.int .i64 0])∧Below x.heap.size x y))
 have CP:=Lib.hid (fun(x:World) (hx:Below w.heap.size w x)=>(by
  have h:=Yls (s:=P) (HT.out x hx) hPs;unfold Ysu at h;rw[hPl,hT'] at h;refine h.mono fun e y h=>?_;obtain⟨vs,he,⟨q,cap,hvs,-⟩,hb⟩:=h;rw[hn1,hf1] at hvs;exact⟨q,cap,by rw[he,hvs];rfl,hb⟩:Calls Tryz.prog 14 #[.string P] x fun e y=>∃(q:Option Addr) (cap:Nat),e=.returned (.tuple #[.agg #[.slice q 1 cap,.bool true],.int .i64 0,.int .i64 0])∧Below x.heap.size x y))
 have KK:=Lib.hid (fun(x y:World) (hx:Below w.heap.size w x) (hy:Below x.heap.size x y)=>(hx.trans (hy.mono hx.size):Below w.heap.size w y));clear ht hW htl hT' hB' hn1 hf1 hP hPl hPs h0 hlen HT
 go_enter Tryz.func9,Tryz.ntmps9
 go_wp2_with fail
 refine c1.mono ?_;rintro e w1 ⟨vs,rfl,⟨q,cap,rfl,-⟩,hb1⟩;clear c1;have hb2:=KK.out _ _ hb1 ((Below.refl _ w1).alloc (Nat.le_refl _) (.cells #[.slice q 0 cap,.bool false] 24 (0,0)))
 go_wp2_with fail
 refine(Y7b _).mono ?_;rintro e w3 ⟨us,rfl,hin,hb3⟩;have hb13:=KK.out _ _ hb2 hb3;clear hb2 hb3;have c2:=CW.out _ hb13 us hin
 go_wp2_with fail
 refine c2.mono ?_;rintro e w4 ⟨rfl,hb4⟩;have hb14:=KK.out _ _ hb13 hb4;clear c2 hb13 hb4 hin
 go_wp2_with fail
 refine(CP.out _ hb14).mono ?_;rintro e w5 ⟨q5,cap5,rfl,hb5⟩;have hE:=KK.out _ _ (KK.out _ _ hb14 hb5) ((Below.refl _ w5).alloc (Nat.le_refl _) (.cells #[.slice q5 1 cap5,.bool true] 24 (0,0)))
 go_wp2
 go_ret
 exact⟨rfl,hE⟩
theorem Y6b (l:List UInt8):∀S∈(Ybj ctk l).1.sheets,Qf8 S:=by
 intro S hS;by_cases h:(Ybj ctk l).2.2=0
 ·obtain⟨⟨T,a,f⟩,hk⟩:∃r,Ybj ctk l=r:=⟨_,rfl⟩;have few:=Y0k Qhr l S hS;rw[hk] at h hS;subst h;obtain⟨-,-,h0,-⟩:=Ymp (Yic l) hk;have h1:=Yjt (Ysa h0).2 S hS;exact⟨by have:=(Yng h1).2.2.1.2;omega,fun c hc k _=>by have:=few c hc k;omega⟩
 ·rw[(Ypt (Yic l) h).1] at hS;cases hS
theorem Qer {w:World}{s:ByteArray}(ht:Ybh w.heap.size w)(hs:s.size≤140737488355328):Calls Tryz.prog 14 #[.string s] w fun e w'=>
  ∃(q:Option Addr) (cap:Nat),e=.returned (.tuple #[.agg #[.slice q (Ybj ctk s.data.toList).1.sheets.length cap,.bool (Ybj ctk s.data.toList).1.fin],.int .i64 ((Ybj ctk s.data.toList).2.1:Int),.int .i64 (Ybj ctk s.data.toList).2.2])∧
   Ynp w' (Ybj ctk s.data.toList).1 [.slice q (Ybj ctk s.data.toList).1.sheets.length cap,.bool (Ybj ctk s.data.toList).1.fin]∧Below w.heap.size w w':=
 (Yls ht hs).mono fun _ _ ⟨vs,h1,h2,h3⟩=>by
  have h2':=h2;obtain⟨q,cap,rfl,-⟩:=h2;exact⟨q,cap,h1,⟨h2',Y6b _⟩,h3⟩
set_option maxRecDepth 100000 in
set_option maxHeartbeats 1000000 in
theorem Ypw (s:ByteArray)(w:World)(_hss:s.size≤maxLen)(hz:s.size≤140737488355328)(ht:Ybh w.heap.size w):
  Calls Tryz.prog 7 #[.string s] w fun e w'=>e=.returned (.bool true)∧Below w.heap.size w w':=by
 have hzp:=Yiu;have HTH:=Lib.hid (fun(x:World) (hx:Below w.heap.size w x)=>(by
  have h:=ht.below hx;exact Ybh.here h.pats h.mvd h.steps h.tcoef:Ybh x.heap.size x))
 have KK:=Lib.hid (fun(x y:World) (hx:Below w.heap.size w x) (hy:Below x.heap.size x y)=>(hx.trans (hy.mono hx.size):Below w.heap.size w y));have CLV:=Lib.hid (fun(x:World) (hx:Below w.heap.size w x)=>Qh3 x (HTH.out x hx));have h0:Below w.heap.size w w:=Below.refl _ _;clear ht;by_cases hbig:6000<s.size
 ·have t0:decide (6000<(s.size:Int))=true:=by simp;omega
  have t2:decide (6000<s.size)=true:=by simpa using hbig
  clear hbig hz _hss
  go_enter Tryz.func7,Tryz.ntmps7
  go_wp2_with fail
  refine(CLV.out _ h0).mono ?_;rintro e w2 ⟨rfl,hb2⟩
  go_wp2
  go_ret
  exact⟨rfl,hb2⟩
 have t0:decide (6000<(s.size:Int))=false:=by simp;omega
 have t2:decide (6000<s.size)=false:=by simpa using hbig
 have hsl:s.data.toList.length=s.size:=rfl;have c1:=Qer (HTH.out w h0) hz;have hbad:=Ypt (Yic s.data.toList);have honce:=fun T a h=>Ymp (T:=T) (a:=a) (Yic s.data.toList) h;obtain⟨⟨T,a,f⟩,hk⟩:∃r,Ybj ctk s.data.toList=r:=⟨_,rfl⟩;rw[hk] at c1 hbad;dsimp only at c1 hbad;obtain⟨k,hkl⟩:∃k,T.sheets.length=k:=⟨_,rfl⟩;obtain⟨F,hF⟩:∃F,T.fin=F:=⟨_,rfl⟩;rw[hkl,hF] at c1;have HKL:=Lib.hid hkl
 have HF:=Lib.hid hF;have HSZ:∀q cap,(Tryz.prog.info? 24).map (·.size)=some (#[.slice q k cap,.bool F]:Array Value).size:=fun q cap=>by kernel_rfl
 by_cases hf:f=0
 case neg=>
  have tf:(f != 0)=true:=by rw[bne_iff_ne];exact hf
  obtain⟨hT,hal⟩:=hbad hf;have hk0:k=0:=by rw[←hkl,hT];rfl
  subst hk0;have ta:decide ((0:Int)≤(a:Int))=true:=by simp
  have tb:decide ((a:Int)≤(s.size:Int))=true:=by simp;omega
  have tb':decide (a≤s.size)=true:=by simp;omega
  clear hbad honce hk hf hT hal hkl hF hbig hz _hss hsl
  go_enter Tryz.func7,Tryz.ntmps7
  go_wp2_with fail
  refine c1.mono ?_;rintro e w1 ⟨q,cap,rfl,-,hb1⟩;have hb2:=KK.out _ _ hb1 ((Below.refl _ w1).alloc (Nat.le_refl _) (.cells #[.slice q 0 cap,.bool F] 24 (0,0)));clear c1 hb1
  go_wp2_with fail
  refine(CLV.out _ hb2).mono ?_;rintro e w6 ⟨rfl,hb6⟩;have hE:=KK.out _ _ hb2 hb6
  go_wp2
  go_ret
  exact⟨rfl,hE⟩
 subst hf;have tf:((0:Int) != 0)=false:=rfl;obtain⟨-,-,hE0,hrow⟩:=honce T a hk;have htx:=Qbo hrow;have hlen:(Ybi T.sheets T.fin).length≤2097152:=by rw[←hrow,Yag];omega
 have hW:=Y0m hE0 hlen;rw[←htx] at hW;have hss':(⟨s.data.toList.toArray⟩:ByteArray)=s:=by simp
 have CW:=Lib.hid (fun(x:World) (hx:Below w.heap.size w x) (vs:List Value) (hv:Ynp x T vs)=>(by
  have h:=Ysn hv (HTH.out x hx) (Below.refl _ x);rw[hW] at h;dsimp only at h;rw[hss'] at h;exact h:Calls Tryz.prog 16 #[.agg vs.toArray] x fun e y=>e=.returned (.tuple #[.string s,.int .i64 0])∧Below x.heap.size x y))
 have CC:=Lib.hid (fun(u x:World) (hu:Below w.heap.size w u) (hx:Below u.heap.size u x) (vs:List Value) (hv:Ynp u T vs)=>(by
  have h:=Ymm hv (HTH.out u hu) hx;rw[hE0] at h;exact h:Calls Tryz.prog 10 #[.agg vs.toArray] x fun e y=>e=.returned (.int .i64 0)∧Below x.heap.size x y))
 clear hbad honce hk hkl hF hbig hz _hss hsl hE0 hrow htx hlen hW hss'
 go_enter Tryz.func7,Tryz.ntmps7
 go_wp2_with fail
 refine c1.mono ?_;rintro e w1 ⟨q,cap,rfl,hin,hb1⟩;obtain⟨X,hX⟩:∃X,w1.heap.size=X:=⟨_,rfl⟩;obtain⟨w2,hw2⟩:∃w2,w1.alloc (.cells #[.slice q k cap,.bool F] 24 (0,0))=w2:=⟨_,rfl⟩;have hb12:Below w1.heap.size w1 w2:=by rw[←hw2];exact(Below.refl _ w1).alloc (Nat.le_refl _) _
 have hX2:w2.heap[X]? =some (.cells #[.slice q k cap,.bool F] 24 (0,0)):=by rw[←hw2,←hX];exact heap_alloc_new w1 _
 have hs2:w2.heap.size=X+1:=by rw[←hw2,←hX];simp
 have hin2:=hin.below hb12;have hb2:=KK.out _ _ hb1 hb12;have cw:=CW.out w2 hb2 _ hin2;have hsz:=HSZ q cap;have HX:=Lib.hid hX;have HW2:=Lib.hid hw2;clear hX hw2 hb12 hb1 c1 hin CW HSZ
 go_wp2_with (rw[HW2.out,HX.out];with_reducible refine wpList_load_row rfl 24 _ rfl X rfl 24 _ (0,0) _ hX2 Tryz.underlying24 rfl hsz ?_)
 refine cw.mono ?_;rintro e w3 ⟨rfl,hb23⟩;have hb3:=KK.out _ _ hb2 hb23;have hX3:=(hb23.block X (by omega)).trans hX2;have cc:=CC.out w2 w3 hb2 hb23 _ hin2;clear cw hX2 hb2 hb23 hin2 CC
 go_wp2_with (with_reducible refine wpList_load_row rfl 24 _ rfl X rfl 24 _ (0,0) _ hX3 Tryz.underlying24 rfl hsz ?_)
 refine cc.mono ?_;rintro e w4 ⟨rfl,hb34⟩;have hb4:=KK.out _ _ hb3 hb34;clear cc hX3 hb3 hb34
 go_wp2_with fail
 refine(CLV.out _ hb4).mono ?_;rintro e w6 ⟨rfl,hb6⟩;have hE:=KK.out _ _ hb4 hb6
 go_wp2
 go_ret
 exact⟨rfl,hE⟩
end Go.Proofs.YtjjmalchelniiaaGreatDoor